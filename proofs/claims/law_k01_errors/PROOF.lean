import PyProof.Rows.All
import Wide.All
import OpenK.AllK
import Wide.FinOn
import PyProof.EqAt
import PyProof.EqKinds
import PyProof.TupleCall
import HandS.ForMost
import HandS.ForExc
import HandS.IsInst
import HandS.Deep
import HandS.TupAny
import HandS.TupLe
import HandS.Wide
import HandS.TryMany
import HandS.Zip
import PyProof.P3In
import KE.KExcSuper
import HandS.ExcField
import HandS.TupMul
import HandS.Style
import HandS.ExcValue
import KE.KExcIs
import HandS.EndBits
import PySem.Challenge.RW_sureticks_k01_errors
set_option Elab.async false
set_option linter.all false
set_option maxRecDepth 100000
set_option maxHeartbeats 4000000
/-! The data layer: values as trees, mutable things as numbered cells; readings by plain functions of slots and cells. -/
namespace DL
open PySem PySem.Spec L2

/-- a value: data that never changes, or the cell of a number -/
inductive D where
  | p (d : PyData)
  | o (i : Nat)
  | s (ns : List Int)
/-- what a cell holds -/
inductive Cell where
  | lst (l : List D)
  | scr (l : List D)
  | dK (kvs : List (Key × D))
  | dT (kvs : List (List Key × D))
  | ins (c : Str) (fs : List (Str × D))
  | exn (c a : Str) (d : PyData)
abbrev Store := List Cell
/-- an exception: the name of its class, its attributes -/
structure Exn where
  cls : Str
  fs : List (Str × D)
inductive R (α : Type) where
  | ok (a : α) (S : Store)
  | exc (x : Exn) (S : Store)
  | bad
abbrev M (α : Type) := Store → R α
def M.pure {α : Type} (a : α) : M α := fun S => .ok a S
def M.bad {α : Type} : M α := fun _ => .bad
def M.bind {α β : Type} (m : M α) (k : α → M β) : M β := fun S => match m S with
  | .ok a S' => k a S'
  | .exc x S' => .exc x S'
  | .bad => .bad
def R.map {α β : Type} (f : α → β) : R α → R β
  | .ok a S => .ok (f a) S
  | .exc x S => .exc x S
  | .bad => .bad

/-- the module's names and the written part -/
structure Gm where
  mg : Str → Option Value
  K : PySem.W.Frag
abbrev _root_.L2.Cx.gm (X : Cx) : Gm := ⟨X.mg, X.K⟩
/-! ### data in a heap -/
mutual
inductive RepP (Z : Hp) : V → PyData → Prop
  | non : RepP Z .non .none
  | bl (b : Bool) : RepP Z (.bl b) (.bool b)
  | int (i : Int) : RepP Z (.int i) (.int i)
  | str (x : Str) : RepP Z (.str x) (.str x)
  | lst {a : Addr} {xs : List V} {ds : List PyData} : Z a = some (.lst xs) → RepPs Z xs ds → RepP Z (.ref a) (.list ds)
  | tup {a : Addr} {xs : List V} {ds : List PyData} : Z a = some (.tup xs) → RepPs Z xs ds → RepP Z (.ref a) (.tuple ds)
inductive RepPs (Z : Hp) : List V → List PyData → Prop
  | nil : RepPs Z [] []
  | cons {v : V} {vs : List V} {d : PyData} {ds : List PyData} : RepP Z v d → RepPs Z vs ds → RepPs Z (v :: vs) (d :: ds)
end
mutual
theorem RepP.mono {Z Z' : Hp} (s : Same Z Z') : ∀ (d : PyData) (v : V), RepP Z v d → RepP Z' v d
  | .none, _, h => by cases h; exact .non
  | .bool b, _, h => by cases h; exact .bl b
  | .int i, _, h => by cases h; exact .int i
  | .str x, _, h => by cases h; exact .str x
  | .list ds, _, h => by
    cases h with
    | lst h1 h2 => exact .lst (s _ _ h1) (RepPs.mono s ds _ h2)
  | .tuple ds, _, h => by
    cases h with
    | tup h1 h2 => exact .tup (s _ _ h1) (RepPs.mono s ds _ h2)
  | .dict _, _, h => by cases h
theorem RepPs.mono {Z Z' : Hp} (s : Same Z Z') : ∀ (ds : List PyData) (vs : List V), RepPs Z vs ds → RepPs Z' vs ds
  | [], _, h => by cases h; exact .nil
  | d :: ds, _, h => by
    cases h with
    | cons h1 h2 => exact .cons (RepP.mono s d _ h1) (RepPs.mono s ds _ h2)
end
mutual
theorem RepP.dp {K : PySem.W.Frag} {Z : Hp} : ∀ (d : PyData) (v : V), RepP Z v d → Dp K Z v d
  | .none, _, h => by cases h; exact .non
  | .bool b, _, h => by cases h; exact .bl b
  | .int i, _, h => by cases h; exact .int i
  | .str x, _, h => by cases h; exact .str x
  | .list ds, _, h => by
    cases h with
    | lst h1 h2 => exact .lst (SqL.of h1) (RepPs.dp ds _ h2)
  | .tuple ds, _, h => by
    cases h with
    | tup h1 h2 => exact .tup (SqT.of h1) (RepPs.dp ds _ h2)
  | .dict _, _, h => by cases h
theorem RepPs.dp {K : PySem.W.Frag} {Z : Hp} : ∀ (ds : List PyData) (vs : List V), RepPs Z vs ds → DpAll K Z vs ds
  | [], _, h => by cases h; exact .nil
  | d :: ds, _, h => by
    cases h with
    | cons h1 h2 => exact .cons (RepP.dp d _ h1) (RepPs.dp ds _ h2)
end
section
variable {Z Z' : Hp} {vs ws : List V} {ds es : List PyData} {v : V} {d : PyData}
theorem RepPs.length (h : RepPs Z vs ds) : vs.length = ds.length := by
  induction ds generalizing vs with
  | nil => cases h; rfl
  | cons d ds ih => cases h with | cons h1 h2 => simp [ih h2]
theorem RepPs.append (h : RepPs Z vs ds) (g : RepPs Z ws es) : RepPs Z (vs ++ ws) (ds ++ es) := by
  induction ds generalizing vs with
  | nil => cases h; exact g
  | cons d ds ih => cases h with | cons h1 h2 => exact .cons h1 (ih h2)
theorem RepPs.get (h : RepPs Z vs ds) : ∀ {i : Nat} {d : PyData}, ds[i]? = some d → ∃ v, vs[i]? = some v ∧ RepP Z v d := by
  induction ds generalizing vs with
  | nil => intro i d e; simp at e
  | cons d ds ih =>
    intro i e he
    cases h with
    | cons h1 h2 =>
      cases i with
      | zero => simp at he; subst he; exact ⟨_, rfl, h1⟩
      | succ i => simpa using ih h2 (by simpa using he)
theorem RepPs.get' (h : RepPs Z vs ds) : ∀ {i : Nat} {v : V}, vs[i]? = some v → ∃ d, ds[i]? = some d ∧ RepP Z v d := by
  induction ds generalizing vs with
  | nil => cases h; intro i d e; simp at e
  | cons d ds ih =>
    cases h with
    | cons h1 h2 =>
      intro i v he
      cases i with
      | zero => simp at he; subst he; exact ⟨_, rfl, h1⟩
      | succ i => simpa using ih h2 (by simpa using he)
theorem RepPs.take (h : RepPs Z vs ds) (n : Nat) : RepPs Z (vs.take n) (ds.take n) := by
  induction ds generalizing vs n with
  | nil => cases h; cases n <;> exact .nil
  | cons d ds ih =>
    cases h with
    | cons h1 h2 =>
      cases n with
      | zero => exact .nil
      | succ n => exact .cons h1 (ih h2 n)
theorem RepPs.drop (h : RepPs Z vs ds) (n : Nat) : RepPs Z (vs.drop n) (ds.drop n) := by
  induction ds generalizing vs n with
  | nil => cases h; cases n <;> exact .nil
  | cons d ds ih =>
    cases h with
    | cons h1 h2 =>
      cases n with
      | zero => exact .cons h1 h2
      | succ n => exact ih h2 n
theorem RepPs.of (n : vs.length = ds.length) (h : ∀ (i : Nat) (v : V) (d : PyData), vs[i]? = some v → ds[i]? = some d → RepP Z v d) : RepPs Z vs ds := by
  induction ds generalizing vs with
  | nil => cases vs with | nil => exact .nil | cons _ _ => simp at n
  | cons d ds ih =>
    cases vs with
    | nil => simp at n
    | cons v vs => exact .cons (h 0 v d rfl rfl) (ih (by simpa using n) fun i v' d' a b => h (i + 1) v' d' (by simpa using a) (by simpa using b))
theorem RepPs.reverse (h : RepPs Z vs ds) : RepPs Z vs.reverse ds.reverse := by
  have e := h.length
  refine .of (by simp [e]) fun i v d a b => ?_
  have hi : i < ds.length := by
    have := (List.getElem?_eq_some_iff.mp b).1
    simpa using this
  rw [List.getElem?_reverse (by omega)] at a
  rw [List.getElem?_reverse (by omega)] at b
  rw [e] at a
  obtain ⟨v', hv, r⟩ := h.get b
  rw [a] at hv
  cases hv
  exact r
theorem RepPs.ints : ∀ {ns : List Int} {vs : List V}, RepPs Z vs (ns.map PyData.int) → vs = ns.map V.int
  | [], _, h => by cases h; rfl
  | n :: ns, _, h => by
    cases h with
    | cons h1 h2 =>
      cases h1
      rw [RepPs.ints h2]
      rfl
theorem RepPs.of_ints : ∀ {ns : List Int}, RepPs Z (ns.map V.int) (ns.map PyData.int)
  | [] => .nil
  | _ :: _ => .cons (.int _) RepPs.of_ints
theorem RepPs.bls : ∀ {ns : List Bool} {vs : List V}, RepPs Z vs (ns.map PyData.bool) → vs = ns.map V.bl
  | [], _, h => by cases h; rfl
  | n :: ns, _, h => by
    cases h with
    | cons h1 h2 =>
      cases h1
      rw [RepPs.bls h2]
      rfl
end

/-! ### cells in a heap -/
/-- the heap in parts: B what others keep, Z the data, m where the cells stand -/
structure Wd where
  K : PySem.W.Frag
  B : Hp
  Z : Hp
  m : List Addr
def RepV (w : Wd) (v : V) : D → Prop
  | .p d => RepP w.Z v d
  | .o i => ∃ a, w.m[i]? = some a ∧ v = .ref a
  | .s ns => ∃ a, v = .ref a ∧ SqL w.K w.Z a (ns.map V.int)
abbrev RepVs (w : Wd) : List V → List D → Prop := Paired (RepV w)
def RepF {κ : Type} (w : Wd) : List (κ × V) → List (κ × D) → Prop := Paired fun p q => p.1 = q.1 ∧ RepV w p.2 q.2
def RepC (mg : Gm) (w : Wd) : HO → Cell → Prop
  | .lst xs, .lst ds => RepVs w xs ds
  | .frz _ (.lst xs), .scr ds => RepVs w xs ds
  | .dK kvs, .dK es => RepF w kvs es
  | .dT kvs, .dT es => RepF w kvs es
  | .ins C _ fs, .ins c gs => mg.mg c = some (.ref C) ∧ RepF w fs gs
  | .frz oe (.ext _), .exn c a d => ∃ C dx v vs, mg.mg c = some (.ref C) ∧ oe.cls = .ref C ∧ oe.dict = some dx ∧ oe.data = .fields vs ∧ w.Z dx = some (.xd [(a, v)]) ∧ RepP w.Z v d
  | _, _ => False
structure Grow (w w' : Wd) : Prop where
  k : w'.K = w.K
  b : w'.B = w.B
  z : Same w.Z w'.Z
  m : ∃ t, w'.m = w.m ++ t
theorem Grow.refl (w : Wd) : Grow w w := ⟨rfl, rfl, Same.refl _, [], by simp⟩
theorem Grow.trans {w w1 w2 : Wd} (a : Grow w w1) (b : Grow w1 w2) : Grow w w2 := by
  obtain ⟨t, e⟩ := a.m
  obtain ⟨u, f⟩ := b.m
  exact ⟨b.k.trans a.k, b.b.trans a.b, a.z.trans b.z, t ++ u, by rw [f, e]; simp⟩
theorem Grow.at {w w' : Wd} (g : Grow w w') {i : Nat} {a : Addr} (h : w.m[i]? = some a) : w'.m[i]? = some a := by
  obtain ⟨t, e⟩ := g.m
  rw [e, List.getElem?_append_left (List.getElem?_eq_some_iff.mp h).1]
  exact h
theorem RepV.grow {w w' : Wd} (g : Grow w w') {v : V} : ∀ {d : D}, RepV w v d → RepV w' v d
  | .p d, h => RepP.mono g.z d v h
  | .o i, ⟨a, h1, h2⟩ => ⟨a, g.at h1, h2⟩
  | .s ns, ⟨a, h1, h2⟩ => ⟨a, h1, by rw [g.k]; exact g.z.seq h2⟩
theorem RepVs.grow {w w' : Wd} (g : Grow w w') {vs : List V} {ds : List D} (h : RepVs w vs ds) : RepVs w' vs ds := Paired.mapP h fun _ _ r => r.grow g
theorem RepF.grow {κ : Type} {w w' : Wd} (g : Grow w w') {vs : List (κ × V)} {ds : List (κ × D)} (h : RepF w vs ds) : RepF w' vs ds := Paired.mapP h fun _ _ r => ⟨r.1, r.2.grow g⟩
theorem RepC.grow {mg : Gm} {w w' : Wd} (g : Grow w w') {o : HO} {c : Cell} (h : RepC mg w o c) : RepC mg w' o c := by
  unfold RepC at h ⊢
  split <;> simp_all
  · exact RepVs.grow g h
  · exact RepVs.grow g h
  · exact RepF.grow g h
  · exact RepF.grow g h
  · exact RepF.grow g h.2
  · obtain ⟨C, h1, h2, dx, h3, h4, v, h5, h6⟩ := h
    exact ⟨C, h1, h2, dx, h3, h4, v, g.z _ _ h5, RepP.mono g.z _ _ h6⟩
structure Rep (mg : Gm) (w : Wd) (H : Hp) (S : Store) : Prop where
  kk : w.K = mg.K
  bg : Same w.B H
  same : Same w.Z H
  bz : ∀ a o, w.B a = some o → w.Z a = none ∧ a ∉ w.m
  len : w.m.length = S.length
  nd : w.m.Nodup
  cell : ∀ (i : Nat) (a : Addr) (c : Cell), w.m[i]? = some a → S[i]? = some c → w.Z a = none ∧ ∃ o, H a = some o ∧ RepC mg w o c
/-- what slots hold -/
abbrev Sl := List (Option D)
structure RepE (w : Wd) (σ : L2.St) (ρ : Sl) : Prop where
  len : σ.length = ρ.length
  at_ : ∀ (i : Nat) (d : D), ρ[i]? = some (some d) → ∃ v, σ[i]? = some (some v) ∧ RepV w v d
theorem RepE.grow {w w' : Wd} {σ : L2.St} {ρ : Sl} (g : Grow w w') (h : RepE w σ ρ) : RepE w' σ ρ :=
  ⟨h.len, fun i d e => let ⟨v, h1, h2⟩ := h.at_ i d e; ⟨v, h1, h2.grow g⟩⟩
theorem RepE.set {w : Wd} {σ : L2.St} {ρ : Sl} (h : RepE w σ ρ) (i : Nat) {v : V} {d : D} (r : RepV w v d) : RepE w (σ.set i (some v)) (ρ.set i (some d)) := by
  refine ⟨by simp [h.len], fun j e he => ?_⟩
  by_cases hj : i = j
  · subst hj
    by_cases hl : i < ρ.length
    · rw [List.getElem?_set_self hl] at he
      cases he
      exact ⟨v, by rw [List.getElem?_set_self (by rw [h.len]; exact hl)], r⟩
    · rw [List.getElem?_eq_none (by simpa using hl)] at he
      cases he
  · rw [List.getElem?_set_ne hj] at he
    rw [List.getElem?_set_ne hj]
    exact h.at_ j e he
theorem RepE.drop {w : Wd} {σ : L2.St} {ρ : Sl} (h : RepE w σ ρ) (i : Nat) (v : Option V) : RepE w (σ.set i v) (ρ.set i none) := by
  refine ⟨by simp [h.len], fun j e he => ?_⟩
  by_cases hj : i = j
  · subst hj
    by_cases hl : i < ρ.length
    · rw [List.getElem?_set_self hl] at he
      cases he
    · rw [List.getElem?_eq_none (by simpa using hl)] at he
      cases he
  · rw [List.getElem?_set_ne hj] at he
    rw [List.getElem?_set_ne hj]
    exact h.at_ j e he
/-- an exception's class and own dict -/
def RepX (mg : Gm) (w : Wd) (cls : Value) (dx : Addr) (x : Exn) : Prop :=
  ∃ C fs, mg.mg x.cls = some (.ref C) ∧ cls = .ref C ∧ w.Z dx = some (.xd fs) ∧ RepF w fs x.fs
theorem RepX.grow {mg : Gm} {w w' : Wd} (g : Grow w w') {cls : Value} {dx : Addr} {x : Exn} (h : RepX mg w cls dx x) : RepX mg w' cls dx x :=
  let ⟨C, fs, h1, h2, h3, h4⟩ := h
  ⟨C, fs, h1, h2, g.z _ _ h3, h4.grow g⟩

/-! ### changing the heap -/
abbrev Wd.addZ (w : Wd) (p : Addr) (o : HO) : Wd := { w with Z := upd w.Z p o }
abbrev Wd.addM (w : Wd) (p : Addr) : Wd := { w with m := w.m ++ [p] }
section
variable {mg : Gm} {w : Wd} {H : Hp} {S : Store}
theorem Rep.notIn (h : Rep mg w H S) {p : Addr} (hp : H p = none) : p ∉ w.m := fun hm => by
  obtain ⟨i, hi⟩ := List.getElem?_of_mem hm
  have hl : i < S.length := by rw [← h.len]; exact (List.getElem?_eq_some_iff.mp hi).1
  obtain ⟨_, u, hu, _⟩ := h.cell i p S[i] hi (List.getElem?_eq_getElem hl)
  rw [hp] at hu; cases hu
/-- what stands at p (known to nobody) becomes data -/
theorem Rep.freeze (h : Rep mg w H S) {p : Addr} {o : HO} (hp : H p = some o) (hb : w.B p = none) (hz : w.Z p = none) (hm : p ∉ w.m) : Grow w (w.addZ p o) ∧ Rep mg (w.addZ p o) H S := by
  have g : Grow w (w.addZ p o) := ⟨rfl, rfl, fun b u e => by show upd w.Z p o b = _; rw [upd_ne (ne_of_none e hz)]; exact e, [], by simp⟩
  refine ⟨g, h.kk, h.bg, fun b u e => ?_, fun a u e => ⟨?_, (h.bz a u e).2⟩, h.len, h.nd, fun i a c h1 h2 => ?_⟩
  · have e : upd w.Z p o b = some u := e
    by_cases hb : b = p
    · subst hb; rw [upd_same] at e; cases e; exact hp
    · rw [upd_ne hb] at e; exact h.same b u e
  · show upd w.Z p o a = none
    rw [upd_ne (ne_of_none e hb)]; exact (h.bz a u e).1
  · obtain ⟨za, u, hu, r⟩ := h.cell i a c h1 h2
    have ne : a ≠ p := fun e => hm (e ▸ List.mem_of_getElem? h1)
    exact ⟨by show upd w.Z p o a = none; rw [upd_ne ne]; exact za, u, hu, r.grow g⟩
/-- .. something new at p, known to nobody yet -/
theorem Rep.lay (h : Rep mg w H S) {p : Addr} (o : HO) (hp : H p = none) : Rep mg w (upd H p o) S ∧ w.B p = none ∧ w.Z p = none ∧ p ∉ w.m := by
  refine ⟨⟨h.kk, fun b u e => ?_, fun b u e => ?_, h.bz, h.len, h.nd, fun i a c h1 h2 => ?_⟩, h.bg.free hp, h.same.free hp, h.notIn hp⟩
  · have e' := h.bg b u e
    rw [upd_ne (ne_of_none e' hp)]; exact e'
  · have e' := h.same b u e
    rw [upd_ne (ne_of_none e' hp)]; exact e'
  · obtain ⟨za, u, hu, r⟩ := h.cell i a c h1 h2
    exact ⟨za, u, by rw [upd_ne (ne_of_none hu hp)]; exact hu, r⟩
/-- new data at p -/
theorem Rep.newP (h : Rep mg w H S) {p : Addr} (o : HO) (hp : H p = none) : Grow w (w.addZ p o) ∧ Rep mg (w.addZ p o) (upd H p o) S := by
  obtain ⟨h', b, z, m⟩ := h.lay o hp
  exact h'.freeze upd_same b z m
/-- a new cell at p -/
theorem Rep.newC (h : Rep mg w H S) {p : Addr} {o : HO} {c : Cell} (hp : H p = none) (r : RepC mg (w.addM p) o c) : Grow w (w.addM p) ∧ Rep mg (w.addM p) (upd H p o) (S ++ [c]) := by
  have g : Grow w (w.addM p) := ⟨rfl, rfl, Same.refl _, [p], rfl⟩
  have np := h.notIn hp
  refine ⟨g, h.kk, fun b u e => ?_, fun b u e => ?_, fun a u e => ⟨(h.bz a u e).1, fun z => ?_⟩, by simp [h.len], ?_, fun i a c' h1 h2 => ?_⟩
  · have e' := h.bg b u e
    rw [upd_ne (ne_of_none e' hp)]; exact e'
  · have e' := h.same b u e
    rw [upd_ne (ne_of_none e' hp)]; exact e'
  · rcases List.mem_append.mp z with z | z
    · exact (h.bz a u e).2 z
    · have : a = p := by simpa using z
      subst this
      rw [h.bg _ _ e] at hp; cases hp
  · show (w.m ++ [p]).Nodup
    rw [List.nodup_append]
    exact ⟨h.nd, by simp, fun a ha b hb => by
      have : b = p := by simpa using hb
      subst this
      exact fun e => np (e ▸ ha)⟩
  · have h1 : (w.m ++ [p])[i]? = some a := h1
    by_cases hi : i < w.m.length
    · rw [List.getElem?_append_left hi] at h1
      rw [List.getElem?_append_left (by rw [← h.len]; exact hi)] at h2
      obtain ⟨za, u, hu, r'⟩ := h.cell i a c' h1 h2
      exact ⟨za, u, by rw [upd_ne (ne_of_none hu hp)]; exact hu, r'.grow g⟩
    · have hl : i < (w.m ++ [p]).length := (List.getElem?_eq_some_iff.mp h1).1
      have e : i = w.m.length := by simp at hl; omega
      subst e
      simp at h1
      rw [h.len] at h2
      simp at h2
      subst h1 h2
      exact ⟨h.same.free hp, o, upd_same, r⟩
/-- a cell is changed -/
theorem Rep.setC (h : Rep mg w H S) {i : Nat} {a : Addr} {o : HO} {c : Cell} (ha : w.m[i]? = some a) (r : RepC mg w o c) : Rep mg w (upd H a o) (S.set i c) := by
  have hi : i < S.length := by rw [← h.len]; exact (List.getElem?_eq_some_iff.mp ha).1
  obtain ⟨za, _⟩ := h.cell i a S[i] ha (List.getElem?_eq_getElem hi)
  refine ⟨h.kk, fun b u e => ?_, fun b u e => ?_, h.bz, by simp [h.len], h.nd, fun j b c' h1 h2 => ?_⟩
  · have : b ≠ a := fun z => (h.bz b u e).2 (z ▸ List.mem_of_getElem? ha)
    rw [upd_ne this]; exact h.bg b u e
  · rw [upd_ne (ne_of_none e za)]; exact h.same b u e
  · by_cases hj : i = j
    · subst hj
      rw [ha] at h1; cases h1
      rw [List.getElem?_set_self hi] at h2
      cases h2
      exact ⟨za, o, upd_same, r⟩
    · rw [List.getElem?_set_ne hj] at h2
      obtain ⟨zb, u, hu, r'⟩ := h.cell j b c' h1 h2
      have : b ≠ a := fun e => by
        subst e
        have h1' := List.getElem?_eq_some_iff.mp h1
        have h2' := List.getElem?_eq_some_iff.mp ha
        exact hj ((List.getElem_inj h.nd).mp (h2'.2.trans h1'.2.symm))
      exact ⟨zb, u, by rw [upd_ne this]; exact hu, r'⟩
theorem Rep.at_ (h : Rep mg w H S) {i : Nat} {a : Addr} (ha : w.m[i]? = some a) {c : Cell} (hc : S[i]? = some c) : ∃ o, H a = some o ∧ RepC mg w o c := (h.cell i a c ha hc).2
/-- another background: what is known to nobody is kept for another -/
theorem Rep.back (h : Rep mg w H S) {p : Addr} {o : HO} (hp : H p = some o) (hz : w.Z p = none) (hm : p ∉ w.m) : Rep mg { w with B := upd w.B p o } H S := by
  refine ⟨h.kk, fun b u e => ?_, h.same, fun a u e => ?_, h.len, h.nd, fun i a c h1 h2 => ?_⟩
  · have e : upd w.B p o b = some u := e
    by_cases hb : b = p
    · subst hb; rw [upd_same] at e; cases e; exact hp
    · rw [upd_ne hb] at e; exact h.bg b u e
  · have e : upd w.B p o a = some u := e
    by_cases hb : a = p
    · subst hb; exact ⟨hz, hm⟩
    · rw [upd_ne hb] at e; exact h.bz a u e
  · obtain ⟨za, u, hu, r⟩ := h.cell i a c h1 h2
    exact ⟨za, u, hu, by
      unfold RepC at r ⊢
      exact r⟩
end

/-! ### readings -/
section
variable {β : Type} (mg : Gm) (W : WX) (σ : L2.St) (w : Wd)
def PostG (ok : β → Wd → Hp → Prop) : R β → Prop
  | .ok b S' => ∀ w' H', Grow w w' → Rep mg w' H' S' → ok b w' H'
  | .exc x S' => ∀ cls dx w' H', Grow w w' → Rep mg w' H' S' → RepX mg w' cls dx x → W cls (some dx) σ H'
  | .bad => False
abbrev Post (Q : VK) : R D → Prop := PostG mg W σ w fun d w' H' => ∀ v, RepV w' v d → Q v H'
abbrev PostB (Q : Bool → Hp → Prop) : R Bool → Prop := PostG mg W σ w fun b _ H' => Q b H'
abbrev PostL (Q : List V → Hp → Prop) : R (List D) → Prop := PostG mg W σ w fun ds w' H' => ∀ vs, RepVs w' vs ds → Q vs H'
end
inductive RS where
  | nx (ρ : Sl) (S : Store)
  | rt (d : D) (S : Store)
  | bk (ρ : Sl) (S : Store)
  | ct (ρ : Sl) (S : Store)
  | exc (x : Exn) (ρ : Sl) (S : Store)
  | bad
def PostS (mg : Gm) (W : WX) (E : Ends) (w : Wd) : RS → Prop
  | .nx ρ S' => ∀ σ w' H', Grow w w' → Rep mg w' H' S' → RepE w' σ ρ → E.nx σ H'
  | .rt d S' => ∀ v w' H', Grow w w' → Rep mg w' H' S' → RepV w' v d → E.rt v H'
  | .bk ρ S' => ∀ σ w' H', Grow w w' → Rep mg w' H' S' → RepE w' σ ρ → E.bk σ H'
  | .ct ρ S' => ∀ σ w' H', Grow w w' → Rep mg w' H' S' → RepE w' σ ρ → E.ct σ H'
  | .exc x ρ S' => ∀ σ cls dx w' H', Grow w w' → Rep mg w' H' S' → RepE w' σ ρ → RepX mg w' cls dx x → W cls (some dx) σ H'
  | .bad => False
section
variable {mg : Gm} {W : WX} {σ : L2.St} {w w1 : Wd}
theorem PostG.grow {β : Type} {ok : β → Wd → Hp → Prop} (g : Grow w w1) {r : R β} (h : PostG mg W σ w ok r) : PostG mg W σ w1 ok r := by
  cases r with
  | ok d S => exact fun w' H' g' => h w' H' (g.trans g')
  | exc x S => exact fun c dx w' H' g' => h c dx w' H' (g.trans g')
  | bad => exact h
theorem PostS.grow {E : Ends} (g : Grow w w1) {r : RS} (h : PostS mg W E w r) : PostS mg W E w1 r := by
  cases r with
  | nx d S => exact fun v w' H' g' => h v w' H' (g.trans g')
  | rt d S => exact fun v w' H' g' => h v w' H' (g.trans g')
  | bk d S => exact fun v w' H' g' => h v w' H' (g.trans g')
  | ct d S => exact fun v w' H' g' => h v w' H' (g.trans g')
  | exc x ρ S => exact fun s c dx w' H' g' => h s c dx w' H' (g.trans g')
  | bad => exact h
end
abbrev Fe := Sl → M D
abbrev Fb := Sl → M Bool
abbrev Fl := Sl → M (List D)
abbrev Fs := Sl → Store → RS
def tD (mg : Gm) (W : WX) (f : Fe) : TE := fun σ H Q => ∃ w ρ S, Rep mg w H S ∧ RepE w σ ρ ∧ Post mg W σ w Q (f ρ S)
def tDT (mg : Gm) (W : WX) (f : Fb) : TT := fun σ H Q => ∃ w ρ S, Rep mg w H S ∧ RepE w σ ρ ∧ PostB mg W σ w Q (f ρ S)
def tDA (mg : Gm) (W : WX) (f : Fl) : TA := fun σ H Q => ∃ w ρ S, Rep mg w H S ∧ RepE w σ ρ ∧ PostL mg W σ w Q (f ρ S)
def tDS (mg : Gm) (W : WX) (g : Fs) : TS := fun E σ H => ∃ w ρ S, Rep mg w H S ∧ RepE w σ ρ ∧ PostS mg W E w (g ρ S)
abbrev DE (X : Cx) (W : WX) (e : Expr) (f : Fe) : Prop := PE X e (tD X.gm W f)
abbrev DT (X : Cx) (W : WX) (e : Expr) (f : Fb) : Prop := PT X e (tDT X.gm W f)
abbrev DA (X : Cx) (W : WX) (es : List Expr) (f : Fl) : Prop := PA X es (tDA X.gm W f)
abbrev DS (X : Cx) (W : WX) (s : Stmt) (f : Fs) : Prop := PS X s (tDS X.gm W f)
abbrev DSs (X : Cx) (W : WX) (s : List Stmt) (f : Fs) : Prop := PSs X s (tDS X.gm W f)
end DL
namespace L2
open PySem PySem.Spec
section
variable {X : Cx} {e : Expr}
theorem PE.imp {t t' : TE} (h : PE X e t) (q : ∀ σ H Q, t' σ H Q → t σ H Q) : PE X e t' := ⟨fun pins s σ H Q I w => h.run pins s σ H Q I (q σ H Q w)⟩
theorem PT.imp {t t' : TT} (h : PT X e t) (q : ∀ σ H Q, t' σ H Q → t σ H Q) : PT X e t' := ⟨fun pins s σ H Q I w => h.run pins s σ H Q I (q σ H Q w)⟩
theorem PW.imp {t t' : TT} (h : PW X e t) (q : ∀ σ H Q, t' σ H Q → t σ H Q) : PW X e t' := ⟨fun wh pins s σ H Q I w => h.run wh pins s σ H Q I (q σ H Q w)⟩
theorem PA.imp {es : List Expr} {t t' : TA} (h : PA X es t) (q : ∀ σ H Q, t' σ H Q → t σ H Q) : PA X es t' := ⟨fun pos pins s σ H Q I w => h.run pos pins s σ H Q I (q σ H Q w)⟩
theorem PS.imp {st : Stmt} {t t' : TS} (h : PS X st t) (q : ∀ E σ H, t' E σ H → t E σ H) : PS X st t' := ⟨fun pins s σ H E I w => h.run pins s σ H E I (q E σ H w)⟩
theorem PSs.imp {st : List Stmt} {t t' : TS} (h : PSs X st t) (q : ∀ E σ H, t' E σ H → t E σ H) : PSs X st t' := ⟨fun pins s σ H E I w => h.run pins s σ H E I (q E σ H w)⟩
end
end L2
namespace DL
open PySem PySem.Spec L2
/-! ### steps -/
section
variable {mg : Gm} {W : WX} {σ : L2.St} {w : Wd} {H : Hp} {S : Store} {ρ : Sl}
/-- what follows an expression in a statement -/
def bindS {α : Type} (ρ : Sl) (m : R α) (k : α → Store → RS) : RS := match m with
  | .ok a S => k a S
  | .exc x S => .exc x ρ S
  | .bad => .bad
theorem stepE {β : Type} {ok : β → Wd → Hp → Prop} {f : Fe} {k : D → M β} {Q : VK} (R : Rep mg w H S) (E : RepE w σ ρ) (P : PostG mg W σ w ok (M.bind (f ρ) k S))
    (q : ∀ v w1 H1 S1 d, Grow w w1 → Rep mg w1 H1 S1 → RepE w1 σ ρ → RepV w1 v d → PostG mg W σ w1 ok (k d S1) → Q v H1) : tD mg W f σ H Q := by
  refine ⟨w, ρ, S, R, E, ?_⟩
  unfold M.bind at P
  cases h : f ρ S with
  | ok d S' => rw [h] at P; exact fun w' H' g R' v V => q v w' H' S' d g R' (E.grow g) V (P.grow g)
  | exc x S' => rw [h] at P; exact P
  | bad => rw [h] at P; exact P
theorem stepT {β : Type} {ok : β → Wd → Hp → Prop} {f : Fb} {k : Bool → M β} {Q : Bool → Hp → Prop} (R : Rep mg w H S) (E : RepE w σ ρ) (P : PostG mg W σ w ok (M.bind (f ρ) k S))
    (q : ∀ b w1 H1 S1, Grow w w1 → Rep mg w1 H1 S1 → RepE w1 σ ρ → PostG mg W σ w1 ok (k b S1) → Q b H1) : tDT mg W f σ H Q := by
  refine ⟨w, ρ, S, R, E, ?_⟩
  unfold M.bind at P
  cases h : f ρ S with
  | ok d S' => rw [h] at P; exact fun w' H' g R' => q d w' H' S' g R' (E.grow g) (P.grow g)
  | exc x S' => rw [h] at P; exact P
  | bad => rw [h] at P; exact P
theorem stepA {β : Type} {ok : β → Wd → Hp → Prop} {f : Fl} {k : List D → M β} {Q : List V → Hp → Prop} (R : Rep mg w H S) (E : RepE w σ ρ) (P : PostG mg W σ w ok (M.bind (f ρ) k S))
    (q : ∀ vs w1 H1 S1 ds, Grow w w1 → Rep mg w1 H1 S1 → RepE w1 σ ρ → RepVs w1 vs ds → PostG mg W σ w1 ok (k ds S1) → Q vs H1) : tDA mg W f σ H Q := by
  refine ⟨w, ρ, S, R, E, ?_⟩
  unfold M.bind at P
  cases h : f ρ S with
  | ok d S' => rw [h] at P; exact fun w' H' g R' vs V => q vs w' H' S' d g R' (E.grow g) V (P.grow g)
  | exc x S' => rw [h] at P; exact P
  | bad => rw [h] at P; exact P
theorem stepES {En : Ends} {f : Fe} {k : D → Store → RS} {Q : VK} (R : Rep mg w H S) (E : RepE w σ ρ) (P : PostS mg W En w (bindS ρ (f ρ S) k))
    (q : ∀ v w1 H1 S1 d, Grow w w1 → Rep mg w1 H1 S1 → RepE w1 σ ρ → RepV w1 v d → PostS mg W En w1 (k d S1) → Q v H1) : tD mg W f σ H Q := by
  refine ⟨w, ρ, S, R, E, ?_⟩
  unfold bindS at P
  cases h : f ρ S with
  | ok d S' => rw [h] at P; exact fun w' H' g R' v V => q v w' H' S' d g R' (E.grow g) V (P.grow g)
  | exc x S' => rw [h] at P; exact fun c dx w' H' g R' X => P σ c dx w' H' g R' (E.grow g) X
  | bad => rw [h] at P; exact P
theorem stepTS {En : Ends} {f : Fb} {k : Bool → Store → RS} {Q : Bool → Hp → Prop} (R : Rep mg w H S) (E : RepE w σ ρ) (P : PostS mg W En w (bindS ρ (f ρ S) k))
    (q : ∀ b w1 H1 S1, Grow w w1 → Rep mg w1 H1 S1 → RepE w1 σ ρ → PostS mg W En w1 (k b S1) → Q b H1) : tDT mg W f σ H Q := by
  refine ⟨w, ρ, S, R, E, ?_⟩
  unfold bindS at P
  cases h : f ρ S with
  | ok d S' => rw [h] at P; exact fun w' H' g R' => q d w' H' S' g R' (E.grow g) (P.grow g)
  | exc x S' => rw [h] at P; exact fun c dx w' H' g R' X => P σ c dx w' H' g R' (E.grow g) X
  | bad => rw [h] at P; exact P
theorem stepAS {En : Ends} {f : Fl} {k : List D → Store → RS} {Q : List V → Hp → Prop} (R : Rep mg w H S) (E : RepE w σ ρ) (P : PostS mg W En w (bindS ρ (f ρ S) k))
    (q : ∀ vs w1 H1 S1 ds, Grow w w1 → Rep mg w1 H1 S1 → RepE w1 σ ρ → RepVs w1 vs ds → PostS mg W En w1 (k ds S1) → Q vs H1) : tDA mg W f σ H Q := by
  refine ⟨w, ρ, S, R, E, ?_⟩
  unfold bindS at P
  cases h : f ρ S with
  | ok d S' => rw [h] at P; exact fun w' H' g R' vs V => q vs w' H' S' d g R' (E.grow g) V (P.grow g)
  | exc x S' => rw [h] at P; exact fun c dx w' H' g R' X => P σ c dx w' H' g R' (E.grow g) X
  | bad => rw [h] at P; exact P
end
end DL
set_option Elab.async false
set_option linter.all false
set_option maxRecDepth 100000
set_option maxHeartbeats 4000000
namespace DL
open PySem PySem.Spec L2

/-! ### data out of cells -/
def asP : D → Option PyData
  | .p d => some d
  | _ => none
def asPs : List D → Option (List PyData)
  | [] => some []
  | .p d :: r => (asPs r).map (d :: ·)
  | .o _ :: _ => none
  | .s _ :: _ => none
def Cell.lst? : Cell → Option (List D)
  | .lst ds => some ds
  | _ => none
def Cell.seq? : Cell → Option (List D)
  | .lst ds => some ds
  | .scr ds => some ds
  | _ => none
theorem Cell.lst_eq {c : Cell} {ds : List D} (h : c.lst? = some ds) : c = .lst ds := by cases c <;> simp_all [Cell.lst?]
theorem Cell.seq_eq {c : Cell} {ds : List D} (h : c.seq? = some ds) : c = .lst ds ∨ c = .scr ds := by cases c <;> simp_all [Cell.seq?]
/-- a value as data: a list's cell by what it holds -/
def toPy (S : Store) : D → Option PyData
  | .p d => some d
  | .o i => (S[i]?.bind Cell.lst?).bind fun ds => (asPs ds).map .list
  | .s _ => none
theorem asPs_rep {w : Wd} : ∀ {ds : List D} {es : List PyData} {vs : List V}, asPs ds = some es → RepVs w vs ds → RepPs w.Z vs es
  | [], es, vs, h, r => by cases h; cases r; exact .nil
  | .p d :: ds, es, vs, h, r => by
    unfold asPs at h
    cases e : asPs ds with
    | none => rw [e] at h; cases h
    | some fs =>
      rw [e] at h
      cases h
      cases r with
      | cons r1 r2 => exact .cons r1 (asPs_rep e r2)
  | .o i :: ds, es, vs, h, r => by cases h
  | .s i :: ds, es, vs, h, r => by cases h
theorem RepPs.toVs {w : Wd} : ∀ {es : List PyData} {vs : List V}, RepPs w.Z vs es → RepVs w vs (es.map D.p)
  | [], _, h => by cases h; exact .nil
  | d :: es, _, h => by
    cases h with
    | cons h1 h2 => exact .cons h1 (RepPs.toVs h2)
section
variable {mg : Gm} {w : Wd} {H : Hp} {S : Store}
theorem RepP.dpH {K : PySem.W.Frag} (R : Rep mg w H S) {v : V} {d : PyData} (h : RepP w.Z v d) : Dp K H v d := RepP.dp d v (RepP.mono R.same d v h)
theorem RepC.lst_inv {o : HO} {ds : List D} (h : RepC mg w o (.lst ds)) : ∃ xs, o = .lst xs ∧ RepVs w xs ds := by
  cases o with
  | lst xs => exact ⟨xs, rfl, h⟩
  | frz ob u => cases u <;> exact False.elim h
  | _ => exact False.elim h
theorem RepC.scr_inv {o : HO} {ds : List D} (h : RepC mg w o (.scr ds)) : ∃ ob xs, o = .frz ob (.lst xs) ∧ RepVs w xs ds := by
  cases o with
  | frz ob u =>
    cases u with
    | lst xs => exact ⟨ob, xs, rfl, h⟩
    | _ => exact False.elim h
  | _ => exact False.elim h
theorem RepC.dK_inv {o : HO} {ds : List (Key × D)} (h : RepC mg w o (.dK ds)) : ∃ xs, o = .dK xs ∧ RepF w xs ds := by
  cases o with
  | dK xs => exact ⟨xs, rfl, h⟩
  | frz ob u => cases u <;> exact False.elim h
  | _ => exact False.elim h
theorem RepC.dT_inv {o : HO} {ds : List (List Key × D)} (h : RepC mg w o (.dT ds)) : ∃ xs, o = .dT xs ∧ RepF w xs ds := by
  cases o with
  | dT xs => exact ⟨xs, rfl, h⟩
  | frz ob u => cases u <;> exact False.elim h
  | _ => exact False.elim h
theorem RepC.ins_inv {o : HO} {c : Str} {ds : List (Str × D)} (h : RepC mg w o (.ins c ds)) : ∃ C dx xs, o = .ins C dx xs ∧ mg.mg c = some (.ref C) ∧ RepF w xs ds := by
  cases o with
  | ins C dx xs => exact ⟨C, dx, xs, rfl, h⟩
  | frz ob u => cases u <;> exact False.elim h
  | _ => exact False.elim h
theorem toPy_dp {K : PySem.W.Frag} (R : Rep mg w H S) {v : V} {d : D} {e : PyData} (h : RepV w v d) (t : toPy S d = some e) : Dp K H v e := by
  cases d with
  | p d => cases t; exact RepP.dpH R h
  | o i =>
    obtain ⟨a, ha, rfl⟩ := h
    unfold toPy at t
    obtain ⟨ds, h1, h2⟩ := Option.bind_eq_some_iff.mp t
    obtain ⟨c, hS, h3⟩ := Option.bind_eq_some_iff.mp h1
    obtain rfl := Cell.lst_eq h3
    obtain ⟨es, q, rfl⟩ := Option.map_eq_some_iff.mp h2
    obtain ⟨o, ho, r⟩ := R.at_ ha hS
    obtain ⟨xs, rfl, r⟩ := r.lst_inv
    exact .lst (SqL.of ho) (RepPs.dp es xs (RepPs.mono R.same es xs (asPs_rep q r)))
  | s ns => cases t
theorem RepVs.ints (w : Wd) : ∀ ns : List Int, RepVs w (ns.map V.int) (ns.map fun n => D.p (.int n))
  | [] => .nil
  | n :: ns => .cons (.int n) (RepVs.ints w ns)
/-- a value that is a list: its items as they may be read -/
def items (S : Store) : D → Option (List D)
  | .p (.list es) => some (es.map D.p)
  | .o i => S[i]?.bind Cell.seq?
  | .s ns => some (ns.map fun n => D.p (.int n))
  | _ => none
theorem items_sq (R : Rep mg w H S) {v : V} {d : D} {ds : List D} (h : RepV w v d) (t : items S d = some ds) : ∃ a xs, v = .ref a ∧ SqL mg.K H a xs ∧ RepVs w xs ds := by
  cases d with
  | p d =>
    cases d with
    | list es =>
      cases t
      cases h with
      | lst h1 h2 => exact ⟨_, _, rfl, SqL.of (R.same _ _ h1), RepPs.toVs h2⟩
    | _ => cases t
  | o i =>
    obtain ⟨a, ha, rfl⟩ := h
    obtain ⟨c, hS, h3⟩ := Option.bind_eq_some_iff.mp (show S[i]?.bind Cell.seq? = some ds from t)
    obtain ⟨o, ho, r⟩ := R.at_ ha hS
    rcases Cell.seq_eq h3 with rfl | rfl
    · obtain ⟨xs, rfl, r⟩ := r.lst_inv
      exact ⟨a, xs, rfl, SqL.of ho, r⟩
    · obtain ⟨ob, xs, rfl, r⟩ := r.scr_inv
      exact ⟨a, xs, rfl, .inl (.inr ⟨ob, ho⟩), r⟩
  | s ns =>
    cases t
    obtain ⟨a, rfl, h⟩ := h
    refine ⟨a, _, rfl, by rw [R.kk] at h; exact R.same.seq h, ?_⟩
    exact RepVs.ints w ns
end

/-! ### names, constants -/
def eVar (i : Nat) : Fe := fun ρ S => match ρ.getD i none with
  | some d => .ok d S
  | none => .bad
def eC (d : PyData) : Fe := fun _ S => .ok (.p d) S
section
variable {X : Cx} {W : WX} {e a b c : Expr} {f g k : Fe} {pos : Pos}
theorem getD_some {ρ : Sl} {i : Nat} {d : D} (h : ρ.getD i none = some d) : ρ[i]? = some (some d) := by
  rw [List.getD_eq_getElem?_getD] at h
  cases q : ρ[i]? with
  | none => rw [q] at h; cases h
  | some o => rw [q] at h; cases h; rfl
theorem de_var (i : Nat) {x : Str} (hN : X.N[i]? = some x := by rfl) (hv : Vis X.env.scope x := by first | exact Or.inl rfl | exact Or.inr (Or.inl rfl) | exact Or.inr (Or.inr rfl)) (hd : (x == ("__debug__" : Str)) = false := by decide)
    (hcd : (x == ("__classdict__" : Str)) = false := by decide) : DE X W (.Name x pos) (eVar i) := (pe_var (i := i) hN hv hd hcd).imp fun σ H Q ⟨w, ρ, S, R, E, P⟩ => by
  unfold eVar at P
  cases q : ρ.getD i none with
  | none => rw [q] at P; exact P.elim
  | some d =>
    rw [q] at P
    obtain ⟨v, h1, h2⟩ := E.at_ i d (getD_some q)
    exact ⟨v, h1, P w H (Grow.refl w) R v h2⟩
theorem tC_of {v : V} {d : PyData} (r : ∀ Z, RepP Z v d) {σ : L2.St} {H : Hp} {Q : VK} {mg : Gm} (h : tD mg W (eC d) σ H Q) : tC v σ H Q :=
  let ⟨w, _, _, R, _, P⟩ := h
  P w H (Grow.refl w) R v (r w.Z)
theorem de_int {i : Int} {j} : DE X W (.Constant (.int i) j pos) (eC (.int i)) := pe_int.imp fun _ _ _ h => tC_of (fun _ => .int i) h
theorem de_bl {i : Bool} {j} : DE X W (.Constant (.bool i) j pos) (eC (.bool i)) := pe_bl.imp fun _ _ _ h => tC_of (fun _ => .bl i) h
theorem de_non {j} : DE X W (.Constant .none j pos) (eC .none) := pe_non.imp fun _ _ _ h => tC_of (fun _ => .non) h
theorem de_str {x : Str} {j} : DE X W (.Constant (.str x) j pos) (eC (.str x)) := pe_str.imp fun _ _ _ h => tC_of (fun _ => .str x) h
/-- a constant of the module -/
theorem de_glob {x : Str} {i : Int} {t : Tok} (hg : Gl X x) (hm : X.mg x = some (.int i t)) (hd : (x == ("__debug__" : Str)) = false := by decide) : DE X W (.Name x pos) (eC (.int i)) :=
  (pe_glob (v := .int i) hg hm ⟨t, rfl⟩ hd).imp fun _ _ _ h => tC_of (fun _ => .int i) h

theorem de_globE {x : Str} {i : Int} (hg : Gl X x) (hm : ∃ t, X.mg x = some (.int i t)) (hd : (x == ("__debug__" : Str)) = false := by decide) : DE X W (.Name x pos) (eC (.int i)) :=
  let ⟨_, h⟩ := hm
  de_glob hg h hd
/-! ### operators by values -/
def R2ok (X : Cx) (r : R2) (F : D → D → M D) : Prop := ∀ (w : Wd) (H : Hp) (S : Store) (x y : V) (dx dy : D) (W : WX) (σ : L2.St) (Q : VK), Rep X.gm w H S → RepV w x dx → RepV w y dy → Post X.gm W σ w Q (F dx dy S) → r x y H Q
def eBin (F : D → D → M D) (f g : Fe) : Fe := fun ρ => M.bind (f ρ) fun x => M.bind (g ρ) fun y => F x y
theorem tOp_of {r : R2} {F : D → D → M D} (hF : R2ok X r F) {σ : L2.St} {H : Hp} {Q : VK} (h : tD X.gm W (eBin F f g) σ H Q) : tOp r (tD X.gm W f) (tD X.gm W g) σ H Q := by
  obtain ⟨w, ρ, S, R, E, P⟩ := h
  exact stepE R E P fun x w1 H1 S1 dx g1 R1 E1 V1 P1 => stepE R1 E1 P1 fun y w2 H2 S2 dy g2 R2 E2 V2 P2 => hF w2 H2 S2 x y dx dy W σ Q R2 (V1.grow g2) V2 P2
theorem de_bin {op : Operator} {r : R2} {F : D → D → M D} (ho : OpR X (binaryOp op) r) (hF : R2ok X r F) (ha : DE X W a f) (hb : DE X W b g) : DE X W (.BinOp a op b pos) (eBin F f g) :=
  (pe_op ho ha hb).imp fun _ _ _ h => tOp_of hF h
theorem de_cmp {op : CmpOp} {r : R2} {F : D → D → M D} (ho : OpR X (compareOp op) r) (hF : R2ok X r F) (ha : DE X W a f) (hb : DE X W b g) (hm : behindInMarks op b = false) : DE X W (.Compare a [op] [b] pos) (eBin F f g) :=
  (pe_cmpR ho ha hb hm).imp fun _ _ _ h => tOp_of hF h
theorem de_ix {r : R2} {F : D → D → M D} (ho : IxR X r) (hF : R2ok X r F) (ha : DE X W a f) (hb : DE X W b g) (hs : PlainIx b) : DE X W (.Subscript a b pos) (eBin F f g) :=
  (pe_ix ho ha hb hs).imp fun _ _ _ h => tOp_of hF h
/-- what F gives is at once told: the same heap, or a new object -/
theorem Post.here {mg : Gm} {W : WX} {σ : L2.St} {w : Wd} {Q : VK} {H : Hp} {S : Store} {d : D} (R : Rep mg w H S) (P : Post mg W σ w Q (.ok d S)) {v : V} (r : RepV w v d) : Q v H := P w H (Grow.refl w) R v r
theorem Post.newTup {mg : Gm} {W : WX} {σ : L2.St} {w : Wd} {Q : VK} {H : Hp} {S : Store} {ds : List PyData} {xs : List V} (R : Rep mg w H S) (P : Post mg W σ w Q (.ok (.p (.tuple ds)) S)) (r : RepPs w.Z xs ds) {p : Addr} (hp : H p = none) :
    Q (.ref p) (upd H p (.tup xs)) := by
  obtain ⟨g, R'⟩ := R.newP (.tup xs) hp
  exact P _ _ g R' _ (.tup upd_same (RepPs.mono g.z _ _ r))
theorem Post.newLst {mg : Gm} {W : WX} {σ : L2.St} {w : Wd} {Q : VK} {H : Hp} {S : Store} {ds : List PyData} {xs : List V} (R : Rep mg w H S) (P : Post mg W σ w Q (.ok (.p (.list ds)) S)) (r : RepPs w.Z xs ds) {p : Addr} (hp : H p = none) :
    Q (.ref p) (upd H p (.lst xs)) := by
  obtain ⟨g, R'⟩ := R.newP (.lst xs) hp
  exact P _ _ g R' _ (.lst upd_same (RepPs.mono g.z _ _ r))
theorem RepV.cases_p {w : Wd} {v : V} {d : PyData} (h : RepV w v (.p d)) : RepP w.Z v d := h

/-! ### arithmetic -/
def fAdd : D → D → M D
  | .p (.int i), .p (.int j) => M.pure (.p (.int (i + j)))
  | .p (.str i), .p (.str j) => fun S => if i.length + j.length ≤ sizeLine then .ok (.p (.str (i ++ j))) S else .bad
  | .p (.tuple xs), .p (.tuple ys) => fun S => if xs.length + ys.length ≤ sizeLine then .ok (.p (.tuple (xs ++ ys))) S else .bad
  | .p (.list xs), .p (.list ys) => fun S => if xs.length + ys.length ≤ sizeLine then .ok (.p (.list (xs ++ ys))) S else .bad
  | _, _ => M.bad
def rAddD (K : PySem.W.Frag) : R2 := fun x y H Q => (rI0 fun i j => .int (i + j)) x y H Q ∨ (fun x y H Q => ∃ i j, x = .str i ∧ y = .str j ∧ i.length + j.length ≤ sizeLine ∧ Q (.str (i ++ j)) H : R2) x y H Q ∨ rCatA K x y H Q ∨ rCat x y H Q
theorem op_addD : OpR X (binaryOp .Add) (rAddD X.K) := op_add.or (op_add_str.or (op_catA.or op_cat))
theorem ok_add : R2ok X (rAddD X.K) fAdd := by
  intro w H S x y dx dy W σ Q R vx vy P
  unfold fAdd at P
  split at P
  · cases vx.cases_p; cases vy.cases_p
    exact .inl ⟨_, _, rfl, rfl, Post.here R P (.int _)⟩
  · cases vx.cases_p; cases vy.cases_p
    split at P
    · rename_i hl
      exact .inr (.inl ⟨_, _, rfl, rfl, hl, Post.here R P (.str _)⟩)
    · exact P.elim
  · rename_i ds es
    have vx := vx.cases_p
    have vy := vy.cases_p
    cases vx with | tup hx rx =>
    cases vy with | tup hy ry =>
    split at P
    · rename_i hl
      refine .inr (.inr (.inl ⟨_, _, _, _, rfl, rfl, SqT.of (R.same _ _ hx), SqT.of (R.same _ _ hy), by rw [rx.length, ry.length]; exact hl, fun e => ?_, fun _ e => ?_, fun _ _ p hp => Post.newTup R P (rx.append ry) hp⟩))
      · subst e
        cases rx
        exact Post.here R P (.tup hy ry)
      · subst e
        cases ry
        rw [List.append_nil] at P
        exact Post.here R P (.tup hx rx)
    · exact P.elim
  · have vx := vx.cases_p
    have vy := vy.cases_p
    cases vx with | lst hx rx =>
    cases vy with | lst hy ry =>
    split at P
    · rename_i hl
      exact .inr (.inr (.inr ⟨_, _, _, _, rfl, rfl, R.same _ _ hx, R.same _ _ hy, by rw [rx.length, ry.length]; exact hl, fun p hp => Post.newLst R P (rx.append ry) hp⟩))
    · exact P.elim
  · exact P.elim
def fI (C : Int → Int → Prop) [∀ i j, Decidable (C i j)] (g : Int → Int → PyData) : D → D → M D
  | .p (.int i), .p (.int j) => fun S => if C i j then .ok (.p (g i j)) S else .bad
  | _, _ => M.bad
theorem ok_int {C : Int → Int → Prop} [∀ i j, Decidable (C i j)] {gv : Int → Int → V} {g : Int → Int → PyData} (hg : ∀ Z i j, RepP Z (gv i j) (g i j)) : R2ok X (rI C gv) (fI C g) := by
  intro w H S x y dx dy W σ Q R vx vy P
  unfold fI at P
  split at P
  · cases vx.cases_p; cases vy.cases_p
    split at P
    · rename_i hc
      exact ⟨_, _, rfl, rfl, hc, Post.here R P (hg _ _ _)⟩
    · exact P.elim
  · exact P.elim
def fI0 (g : Int → Int → PyData) : D → D → M D
  | .p (.int i), .p (.int j) => M.pure (.p (g i j))
  | _, _ => M.bad
theorem ok_int0 {gv : Int → Int → V} {g : Int → Int → PyData} (hg : ∀ Z i j, RepP Z (gv i j) (g i j)) : R2ok X (rI0 gv) (fI0 g) := by
  intro w H S x y dx dy W σ Q R vx vy P
  unfold fI0 at P
  split at P
  · cases vx.cases_p; cases vy.cases_p
    exact ⟨_, _, rfl, rfl, Post.here R P (hg _ _ _)⟩
  · exact P.elim
instance {i j : Int} : Decidable (CMul i j) := by unfold CMul; infer_instance
instance {i j : Int} : Decidable (CDiv i j) := by unfold CDiv; infer_instance
instance {i j : Int} : Decidable (CDivW i j) := by unfold CDivW; infer_instance
abbrev fDivW := fI CDivW fun i j => .int (i / j)
instance {i j : Int} : Decidable (CPow i j) := by unfold CPow; infer_instance
abbrev fSub := fI0 fun i j => .int (i - j)
abbrev fMul := fI CMul fun i j => .int (i * j)
abbrev fDiv := fI CDiv fun i j => .int (i / j)
abbrev fMod := fI (fun _ j => 0 < j) fun i j => .int (i % j)
abbrev fPow := fI CPow fun i j => .int (i ^ j.toNat)
theorem de_add (ha : DE X W a f) (hb : DE X W b g) : DE X W (.BinOp a .Add b pos) (eBin fAdd f g) := de_bin op_addD ok_add ha hb
theorem de_sub (ha : DE X W a f) (hb : DE X W b g) : DE X W (.BinOp a .Sub b pos) (eBin fSub f g) := de_bin op_sub (ok_int0 fun _ _ _ => .int _) ha hb
theorem de_mul (ha : DE X W a f) (hb : DE X W b g) : DE X W (.BinOp a .Mult b pos) (eBin fMul f g) := de_bin op_mul (ok_int fun _ _ _ => .int _) ha hb
theorem de_fdiv (ha : DE X W a f) (hb : DE X W b g) : DE X W (.BinOp a .FloorDiv b pos) (eBin fDiv f g) := de_bin op_fdiv (ok_int fun _ _ _ => .int _) ha hb
theorem de_fdivW (ha : DE X W a f) (hb : DE X W b g) : DE X W (.BinOp a .FloorDiv b pos) (eBin fDivW f g) := de_bin op_fdivW (ok_int fun _ _ _ => .int _) ha hb
theorem de_mod (ha : DE X W a f) (hb : DE X W b g) : DE X W (.BinOp a .Mod b pos) (eBin fMod f g) := de_bin op_mod (ok_int fun _ _ _ => .int _) ha hb
theorem de_pow (ha : DE X W a f) (hb : DE X W b g) : DE X W (.BinOp a .Pow b pos) (eBin fPow f g) := de_bin op_pow (ok_int fun _ _ _ => .int _) ha hb
def fNeg : D → M D
  | .p (.int i) => M.pure (.p (.int (-i)))
  | _ => M.bad
def eUn (F : D → M D) (f : Fe) : Fe := fun ρ => M.bind (f ρ) F
theorem de_neg (ha : DE X W a f) : DE X W (.UnaryOp .USub a pos) (eUn fNeg f) := (pe_un un_neg ha).imp fun σ H Q ⟨w, ρ, S, R, E, P⟩ =>
  stepE R E P fun x w1 H1 S1 dx g1 R1 E1 V1 P1 => by
    unfold fNeg at P1
    split at P1
    · cases V1.cases_p
      exact ⟨_, rfl, Post.here R1 P1 (.int _)⟩
    · exact P1.elim

/-! ### comparisons -/
abbrev fLt := fI0 fun i j => .bool (decide (i < j))
abbrev fLe := fI0 fun i j => .bool (decide (i ≤ j))
abbrev fGt := fI0 fun i j => .bool (decide (j < i))
abbrev fGe := fI0 fun i j => .bool (decide (j ≤ i))
theorem de_lt (ha : DE X W a f) (hb : DE X W b g) : DE X W (.Compare a [.Lt] [b] pos) (eBin (fI0 fun i j => .bool (decide (i < j))) f g) := de_cmp op_lt (ok_int0 fun _ _ _ => .bl _) ha hb (nomark _)
theorem de_le (ha : DE X W a f) (hb : DE X W b g) : DE X W (.Compare a [.LtE] [b] pos) (eBin (fI0 fun i j => .bool (decide (i ≤ j))) f g) := de_cmp op_le (ok_int0 fun _ _ _ => .bl _) ha hb (nomark _)
theorem de_gt (ha : DE X W a f) (hb : DE X W b g) : DE X W (.Compare a [.Gt] [b] pos) (eBin (fI0 fun i j => .bool (decide (j < i))) f g) := de_cmp op_gt (ok_int0 fun _ _ _ => .bl _) ha hb (nomark _)
theorem de_ge (ha : DE X W a f) (hb : DE X W b g) : DE X W (.Compare a [.GtE] [b] pos) (eBin (fI0 fun i j => .bool (decide (j ≤ i))) f g) := de_cmp op_ge (ok_int0 fun _ _ _ => .bl _) ha hb (nomark _)
/-- a < b <= c, the middle asked once -/
def onB (m n : M D) : D → M D
  | .p (.bool b) => if b = true then m else n
  | _ => M.bad
def eChain (F G : D → D → M D) (f g k : Fe) : Fe := fun ρ => M.bind (f ρ) fun x => M.bind (g ρ) fun y => M.bind (F x y) (onB (M.bind (k ρ) fun z => G y z) (M.pure (.p (.bool false))))
/-- == by values -/
def fEq (neg : Bool) : D → D → M D := fun x y S => match toPy S x, toPy S y with
  | some a, some b => if (SeqAt.shaped a && SeqAt.shaped b) = true then .ok (.p (.bool (if neg then !PyData.eqv a b else PyData.eqv a b))) S else .bad
  | _, _ => .bad
theorem fEq_inv {mg : Gm} {neg : Bool} {w : Wd} {H : Hp} {S : Store} {x y : V} {dx dy : D} {W : WX} {σ : L2.St} {Q : VK} {K : PySem.W.Frag} (R : Rep mg w H S) (vx : RepV w x dx) (vy : RepV w y dy) (P : Post mg W σ w Q (fEq neg dx dy S)) :
    ∃ a b, Dp K H x a ∧ Dp K H y b ∧ SeqAt.shaped a = true ∧ SeqAt.shaped b = true ∧ Q (.bl (if neg then !PyData.eqv a b else PyData.eqv a b)) H := by
  unfold fEq at P
  cases ta : toPy S dx with
  | none => rw [ta] at P; exact P.elim
  | some a =>
    cases tb : toPy S dy with
    | none => rw [ta, tb] at P; exact P.elim
    | some b =>
      rw [ta, tb] at P
      dsimp only at P
      by_cases hs : (SeqAt.shaped a && SeqAt.shaped b) = true
      · rw [if_pos hs] at P
        rw [Bool.and_eq_true] at hs
        exact ⟨a, b, toPy_dp R vx ta, toPy_dp R vy tb, hs.1, hs.2, Post.here R P (.bl _)⟩
      · rw [if_neg hs] at P
        exact P.elim
theorem ok_eq : R2ok X (rEqD X.K) (fEq false) := fun w H S x y dx dy W σ Q R vx vy P => fEq_inv R vx vy P
theorem ok_ne : R2ok X (rNeD X.K) (fEq true) := fun w H S x y dx dy W σ Q R vx vy P => fEq_inv R vx vy P
theorem de_eq (hu : X.A.units + 64 < cLine) (ha : DE X W a f) (hb : DE X W b g) : DE X W (.Compare a [.Eq] [b] pos) (eBin (fEq false) f g) := de_cmp (op_eqD hu) ok_eq ha hb (nomark _)
theorem de_ne (hu : X.A.units + 64 < cLine) (ha : DE X W a f) (hb : DE X W b g) : DE X W (.Compare a [.NotEq] [b] pos) (eBin (fEq true) f g) := de_cmp (op_neD hu) ok_ne ha hb (nomark _)
/-- in, not in -/
def seqPy : PyData → Option (List PyData)
  | .list xs => some xs
  | .tuple xs => some xs
  | _ => none
def fIn (neg : Bool) : D → D → M D := fun x y S => match toPy S x, toPy S y with
  | some a, some b => match seqPy b with
    | some xs => if (SeqAt.shaped a && SeqAt.shaped b) = true then .ok (.p (.bool (if neg then !(xs.any fun z => PyData.eqv z a) else xs.any fun z => PyData.eqv z a))) S else .bad
    | none => .bad
  | _, _ => .bad
def rInA (K : PySem.W.Frag) (neg : Bool) : R2 := fun x y H Q => ∃ d e ds, Dp K H x d ∧ Dp K H y e ∧ seqPy e = some ds ∧ SeqAt.shaped d = true ∧ SeqAt.shaped e = true ∧ Q (.bl (if neg then !(ds.any fun z => PyData.eqv z d) else ds.any fun z => PyData.eqv z d)) H
theorem op_inA (hu : X.A.units + 65 < cLine) : OpR X (compareOp .In) (rInA X.K false) := by
  intro pins s σ H x y v u Q I rx ry h
  obtain ⟨d, e, ds, hd, he, hs, sd, se, q⟩ := h
  obtain ⟨as, r1⟩ := Dp.reads I d x v hd rx
  obtain ⟨bs, r2⟩ := Dp.reads I e y u he ry
  cases e <;> cases hs
  · exact SeqAt.in_list_reads r2 r1 (SeqAt.canLay_of_shaped se) (SeqAt.canLay_of_shaped sd) (PyProof.Rows.room_in_shaped sd hu) ⟨.bl _, H, I, rfl, q⟩
  · exact SeqAt.in_tuple_reads r2 r1 (SeqAt.canLay_of_shaped se) (SeqAt.canLay_of_shaped sd) (PyProof.Rows.room_in_shaped sd hu) ⟨.bl _, H, I, rfl, q⟩
theorem op_notInA (hu : X.A.units + 65 < cLine) : OpR X (compareOp .NotIn) (rInA X.K true) := by
  intro pins s σ H x y v u Q I rx ry h
  obtain ⟨d, e, ds, hd, he, hs, sd, se, q⟩ := h
  obtain ⟨as, r1⟩ := Dp.reads I d x v hd rx
  obtain ⟨bs, r2⟩ := Dp.reads I e y u he ry
  cases e <;> cases hs
  · exact SeqAt.notIn_list_reads r2 r1 (SeqAt.canLay_of_shaped se) (SeqAt.canLay_of_shaped sd) (PyProof.Rows.room_in_shaped sd hu) ⟨.bl _, H, I, rfl, q⟩
  · exact SeqAt.notIn_tuple_reads r2 r1 (SeqAt.canLay_of_shaped se) (SeqAt.canLay_of_shaped sd) (PyProof.Rows.room_in_shaped sd hu) ⟨.bl _, H, I, rfl, q⟩
theorem ok_in {neg : Bool} : R2ok X (rInA X.K neg) (fIn neg) := by
  intro w H S x y dx dy W σ Q R vx vy P
  unfold fIn at P
  cases ta : toPy S dx with
  | none => rw [ta] at P; exact P.elim
  | some a =>
    cases tb : toPy S dy with
    | none => rw [ta, tb] at P; exact P.elim
    | some b =>
      rw [ta, tb] at P
      dsimp only at P
      cases q : seqPy b with
      | none => rw [q] at P; exact P.elim
      | some xs =>
        rw [q] at P
        dsimp only at P
        by_cases hs : (SeqAt.shaped a && SeqAt.shaped b) = true
        · rw [if_pos hs] at P
          rw [Bool.and_eq_true] at hs
          exact ⟨a, b, xs, toPy_dp R vx ta, toPy_dp R vy tb, q, hs.1, hs.2, Post.here R P (.bl _)⟩
        · rw [if_neg hs] at P
          exact P.elim
theorem de_in (hu : X.A.units + 65 < cLine) (ha : DE X W a f) (hb : DE X W b g) (hm : behindInMarks .In b = false := by rfl) : DE X W (.Compare a [.In] [b] pos) (eBin (fIn false) f g) := de_cmp (op_inA hu) ok_in ha hb hm
theorem de_notIn (hu : X.A.units + 65 < cLine) (ha : DE X W a f) (hb : DE X W b g) (hm : behindInMarks .NotIn b = false := by rfl) : DE X W (.Compare a [.NotIn] [b] pos) (eBin (fIn true) f g) := de_cmp (op_notInA hu) ok_in ha hb hm
/-- is None, is True, is False: the right side a constant; anything on the left -/
def isC (c : PyData) : D → Bool
  | .p .none => match c with | .none => true | _ => false
  | .p (.bool b) => match c with | .bool k => b == k | _ => false
  | _ => false
def fIs (neg : Bool) : D → D → M D
  | x, .p .none => M.pure (.p (.bool (if neg then !isC .none x else isC .none x)))
  | .p (.bool b), .p (.bool k) => M.pure (.p (.bool (if neg then !decide (b = k) else decide (b = k))))
  | _, _ => M.bad
def rIsA (neg : Bool) : R2 := fun x y H Q => (y = .non ∧ Q (.bl (if neg then !decide (x = .non) else decide (x = .non))) H) ∨ (∃ a b, x = .bl a ∧ y = .bl b ∧ Q (.bl (if neg then !decide (a = b) else decide (a = b))) H)
theorem op_isA : OpR X (compareOp .Is) (rIsA false) := op_isN.or op_is_bl
theorem op_isNotA : OpR X (compareOp .IsNot) (rIsA true) := op_notN.or op_isnot_bl
theorem ok_is {neg : Bool} : R2ok X (rIsA neg) (fIs neg) := by
  intro w H S x y dx dy W σ Q R vx vy P
  unfold fIs at P
  split at P
  · cases vy.cases_p
    refine .inl ⟨rfl, ?_⟩
    have e : isC .none dx = decide (x = .non) := by
      cases dx with
      | p d =>
        have vx := vx.cases_p
        cases vx <;> simp [isC]
      | o i =>
        obtain ⟨a, _, rfl⟩ := vx
        simp [isC]
      | s ns =>
        obtain ⟨a, rfl, _⟩ := vx
        simp [isC]
    rw [e] at P
    exact Post.here R P (.bl _)
  · cases vx.cases_p; cases vy.cases_p
    exact .inr ⟨_, _, rfl, rfl, Post.here R P (.bl _)⟩
  · exact P.elim
theorem de_is (ha : DE X W a f) (hb : DE X W b g) : DE X W (.Compare a [.Is] [b] pos) (eBin (fIs false) f g) := de_cmp op_isA ok_is ha hb (nomark _)
theorem de_isNot (ha : DE X W a f) (hb : DE X W b g) : DE X W (.Compare a [.IsNot] [b] pos) (eBin (fIs true) f g) := de_cmp op_isNotA ok_is ha hb (nomark _)
end
end DL
set_option Elab.async false
set_option linter.all false
set_option maxRecDepth 100000
set_option maxHeartbeats 4000000
namespace DL
open PySem PySem.Spec L2
section
variable {X : Cx} {W : WX} {e a b c : Expr} {f g k : Fe} {pos : Pos} {es rest : List Expr} {fs : Fl}

/-! ### chains -/
theorem de_chain {op op' : CmpOp} {r r' : R2} {F G : D → D → M D} (ho : OpR X (compareOp op) r) (ho' : OpR X (compareOp op') r') (hF : R2ok X r F) (hG : R2ok X r' G) (ha : DE X W a f) (hb : DE X W b g) (hc : DE X W c k)
    (hm : lastMarks [op, op'] [b, c] = false := by with_unfolding_all rfl) : DE X W (.Compare a [op, op'] [b, c] pos) (eChain F G f g k) := (pe_chain ho ho' ha hb hc hm).imp fun σ H Q ⟨w, ρ, S, R, E, P⟩ => by
  refine stepE R E P fun x w1 H1 S1 dx g1 R1 E1 V1 P1 => stepE R1 E1 P1 fun y w2 H2 S2 dy g2 R2 E2 V2 P2 => ?_
  -- the first comparison
  refine hF w2 H2 S2 x y dx dy W σ _ R2 (V1.grow g2) V2 ?_
  unfold M.bind at P2
  cases q : F dx dy S2 with
  | bad => rw [q] at P2; exact P2
  | exc x S => rw [q] at P2; exact P2
  | ok d S3 =>
    rw [q] at P2
    intro w3 H3 g3 R3 v V3
    cases d with
    | o i => exact P2.elim
    | s ns => exact P2.elim
    | p d =>
      cases d with
      | bool t =>
        cases V3.cases_p
        refine ⟨t, rfl, ?_⟩
        dsimp only [onB] at P2
        cases t with
        | true =>
          rw [if_pos rfl] at P2 ⊢
          exact stepE R3 (E2.grow g3) (P2.grow g3) fun z w4 H4 S4 dz g4 R4 E4 V4 P4 => hG w4 H4 S4 y z dy dz W σ Q R4 (V2.grow (g3.trans g4)) V4 P4
        | false =>
          rw [if_neg Bool.false_ne_true] at P2 ⊢
          exact Post.here R3 (P2.grow g3) (.bl _)
      | _ => exact P2.elim

/-! ### tests -/
def asB : D → M Bool
  | .p (.bool b) => M.pure b
  | _ => M.bad
def eT (f : Fe) : Fb := fun ρ => M.bind (f ρ) asB
theorem tB_of {σ : L2.St} {H : Hp} {Q : Bool → Hp → Prop} (h : tDT X.gm W (eT f) σ H Q) : tD X.gm W f σ H fun x H1 => ∃ c, x = .bl c ∧ Q c H1 := by
  obtain ⟨w, ρ, S, R, E, P⟩ := h
  refine stepE R E P fun x w1 H1 S1 d g1 R1 E1 V1 P1 => ?_
  cases d with
  | o i => exact P1.elim
  | s ns => exact P1.elim
  | p d =>
    cases d with
    | bool t => cases V1.cases_p; exact ⟨t, rfl, P1 w1 H1 (Grow.refl _) R1⟩
    | _ => exact P1.elim
theorem dt_val (h : DE X W e f) (he : ∀ whole, isTrue e X.env whole = (do let v ← whole; standAt e.pos; holding [v] (truthy v)) := by intro _; rfl) : DT X W e (eT f) := (pt_val h he).imp fun _ _ _ h => tB_of h
theorem dt_cmp {op : CmpOp} {r : R2} {F : D → D → M D} (ho : OpR X (compareOp op) r) (hF : R2ok X r F) (ha : DE X W a f) (hb : DE X W b g) (hm : behindInMarks op b = false) : DT X W (.Compare a [op] [b] pos) (eT (eBin F f g)) :=
  (pt_cmpR ho ha hb hm).imp fun σ H Q h => by
    have q := tB_of h
    exact tOp_of hF q
theorem dt_lt (ha : DE X W a f) (hb : DE X W b g) : DT X W (.Compare a [.Lt] [b] pos) (eT (eBin (fI0 fun i j => .bool (decide (i < j))) f g)) := dt_cmp op_lt (ok_int0 fun _ _ _ => .bl _) ha hb (nomark _)
theorem dt_le (ha : DE X W a f) (hb : DE X W b g) : DT X W (.Compare a [.LtE] [b] pos) (eT (eBin (fI0 fun i j => .bool (decide (i ≤ j))) f g)) := dt_cmp op_le (ok_int0 fun _ _ _ => .bl _) ha hb (nomark _)
theorem dt_gt (ha : DE X W a f) (hb : DE X W b g) : DT X W (.Compare a [.Gt] [b] pos) (eT (eBin (fI0 fun i j => .bool (decide (j < i))) f g)) := dt_cmp op_gt (ok_int0 fun _ _ _ => .bl _) ha hb (nomark _)
theorem dt_ge (ha : DE X W a f) (hb : DE X W b g) : DT X W (.Compare a [.GtE] [b] pos) (eT (eBin (fI0 fun i j => .bool (decide (j ≤ i))) f g)) := dt_cmp op_ge (ok_int0 fun _ _ _ => .bl _) ha hb (nomark _)
theorem dt_eq (hu : X.A.units + 64 < cLine) (ha : DE X W a f) (hb : DE X W b g) : DT X W (.Compare a [.Eq] [b] pos) (eT (eBin (fEq false) f g)) := dt_cmp (op_eqD hu) ok_eq ha hb (nomark _)
theorem dt_ne (hu : X.A.units + 64 < cLine) (ha : DE X W a f) (hb : DE X W b g) : DT X W (.Compare a [.NotEq] [b] pos) (eT (eBin (fEq true) f g)) := dt_cmp (op_neD hu) ok_ne ha hb (nomark _)
theorem dt_in (hu : X.A.units + 65 < cLine) (ha : DE X W a f) (hb : DE X W b g) (hm : behindInMarks .In b = false := by rfl) : DT X W (.Compare a [.In] [b] pos) (eT (eBin (fIn false) f g)) := dt_cmp (op_inA hu) ok_in ha hb hm
theorem dt_notIn (hu : X.A.units + 65 < cLine) (ha : DE X W a f) (hb : DE X W b g) (hm : behindInMarks .NotIn b = false := by rfl) : DT X W (.Compare a [.NotIn] [b] pos) (eT (eBin (fIn true) f g)) := dt_cmp (op_notInA hu) ok_in ha hb hm
theorem dt_is (ha : DE X W a f) (hb : DE X W b g) : DT X W (.Compare a [.Is] [b] pos) (eT (eBin (fIs false) f g)) := dt_cmp op_isA ok_is ha hb (nomark _)
theorem dt_isNot (ha : DE X W a f) (hb : DE X W b g) : DT X W (.Compare a [.IsNot] [b] pos) (eT (eBin (fIs true) f g)) := dt_cmp op_isNotA ok_is ha hb (nomark _)
abbrev DW (X : Cx) (W : WX) (e : Expr) (f : Fb) : Prop := PW X e (tDT X.gm W f)
def bAnd (f g : Fb) : Fb := fun ρ => M.bind (f ρ) fun b => if b = true then g ρ else M.pure false
def bOr (f g : Fb) : Fb := fun ρ => M.bind (f ρ) fun b => if b = true then M.pure true else g ρ
def bNot (f : Fb) : Fb := fun ρ => M.bind (f ρ) fun b => M.pure (!b)
theorem PostB.here {mg : Gm} {W : WX} {σ : L2.St} {w : Wd} {Q : Bool → Hp → Prop} {H : Hp} {S : Store} {d : Bool} (R : Rep mg w H S) (P : PostB mg W σ w Q (.ok d S)) : Q d H := P w H (Grow.refl w) R
theorem dw_and1 {fb : Fb} (ha : DT X W a fb) : DW X W (.BoolOp .And [a] pos) fb := pw_and1 ha
theorem dw_or1 {fb : Fb} (ha : DT X W a fb) : DW X W (.BoolOp .Or [a] pos) fb := pw_or1 ha
theorem dw_and {fb gb : Fb} (ha : DT X W a fb) (hb : DW X W (.BoolOp .And (b :: rest) pos) gb) : DW X W (.BoolOp .And (a :: b :: rest) pos) (bAnd fb gb) := (pw_and ha hb).imp fun σ H Q ⟨w, ρ, S, R, E, P⟩ =>
  stepT R E P fun c w1 H1 S1 g1 R1 E1 P1 => by
    cases c with
    | true => rw [if_pos rfl] at P1 ⊢; exact ⟨w1, ρ, S1, R1, E1, P1⟩
    | false => rw [if_neg Bool.false_ne_true] at P1 ⊢; exact PostB.here R1 P1
theorem dw_or {fb gb : Fb} (ha : DT X W a fb) (hb : DW X W (.BoolOp .Or (b :: rest) pos) gb) : DW X W (.BoolOp .Or (a :: b :: rest) pos) (bOr fb gb) := (pw_or ha hb).imp fun σ H Q ⟨w, ρ, S, R, E, P⟩ =>
  stepT R E P fun c w1 H1 S1 g1 R1 E1 P1 => by
    cases c with
    | false => rw [if_neg Bool.false_ne_true] at P1 ⊢; exact ⟨w1, ρ, S1, R1, E1, P1⟩
    | true => rw [if_pos rfl] at P1 ⊢; exact PostB.here R1 P1
theorem DW.dt {fb : Fb} (h : DW X W e fb) : DT X W e fb := PW.pt h
theorem dt_not {fb : Fb} (ha : DT X W a fb) : DT X W (.UnaryOp .Not a pos) (bNot fb) := (pt_not ha).imp fun σ H Q ⟨w, ρ, S, R, E, P⟩ =>
  stepT R E P fun c w1 H1 S1 g1 R1 E1 P1 => PostB.here R1 P1
/-! .. as values -/
def eAnd (f g : Fe) : Fe := fun ρ => M.bind (M.bind (f ρ) asB) fun b => if b = true then g ρ else M.pure (.p (.bool false))
def eOr (f g : Fe) : Fe := fun ρ => M.bind (M.bind (f ρ) asB) fun b => if b = true then M.pure (.p (.bool true)) else g ρ
def eNot (f : Fe) : Fe := fun ρ => M.bind (M.bind (f ρ) asB) fun b => M.pure (.p (.bool (!b)))
/-- an expression that is a bool, then -/
theorem stepB {β : Type} {mg : Gm} {σ : L2.St} {w : Wd} {H : Hp} {S : Store} {ρ : Sl} {ok : β → Wd → Hp → Prop} {k : Bool → M β} {Q : VK} (R : Rep mg w H S) (E : RepE w σ ρ) (P : PostG mg W σ w ok (M.bind (M.bind (f ρ) asB) k S))
    (q : ∀ b w1 H1 S1, Grow w w1 → Rep mg w1 H1 S1 → RepE w1 σ ρ → PostG mg W σ w1 ok (k b S1) → Q (.bl b) H1) : tD mg W f σ H Q := by
  have P' : PostG mg W σ w ok (M.bind (f ρ) (fun d => M.bind (asB d) k) S) := by
    unfold M.bind at P ⊢
    cases h : f ρ S with
    | ok d S' => rw [h] at P; exact P
    | exc x S' => rw [h] at P; exact P
    | bad => rw [h] at P; exact P
  refine stepE R E P' fun v w1 H1 S1 d g1 R1 E1 V1 P1 => ?_
  cases d with
  | o i => exact P1.elim
  | s ns => exact P1.elim
  | p d =>
    cases d with
    | bool t => cases V1.cases_p; exact q t w1 H1 S1 g1 R1 E1 P1
    | _ => exact P1.elim
theorem de_one {op} (h : DE X W a f) : DE X W (.BoolOp op [a] pos) f := pe_one h
theorem de_and (ha : DE X W a f) (hb : DE X W (.BoolOp .And (b :: rest) pos) g) : DE X W (.BoolOp .And (a :: b :: rest) pos) (eAnd f g) := (pe_and ha hb).imp fun σ H Q ⟨w, ρ, S, R, E, P⟩ =>
  stepB R E P fun c w1 H1 S1 g1 R1 E1 P1 => ⟨c, rfl, by
    cases c with
    | true => rw [if_pos rfl] at P1 ⊢; exact ⟨w1, ρ, S1, R1, E1, P1⟩
    | false => rw [if_neg Bool.false_ne_true] at P1 ⊢; exact Post.here R1 P1 (.bl _)⟩
theorem de_or (ha : DE X W a f) (hb : DE X W (.BoolOp .Or (b :: rest) pos) g) : DE X W (.BoolOp .Or (a :: b :: rest) pos) (eOr f g) := (pe_or ha hb).imp fun σ H Q ⟨w, ρ, S, R, E, P⟩ =>
  stepB R E P fun c w1 H1 S1 g1 R1 E1 P1 => ⟨c, rfl, by
    cases c with
    | false => rw [if_neg Bool.false_ne_true] at P1 ⊢; exact ⟨w1, ρ, S1, R1, E1, P1⟩
    | true => rw [if_pos rfl] at P1 ⊢; exact Post.here R1 P1 (.bl _)⟩
theorem de_not (ha : DE X W a f) : DE X W (.UnaryOp .Not a pos) (eNot f) := (pe_not ha).imp fun σ H Q ⟨w, ρ, S, R, E, P⟩ =>
  stepB R E P fun c w1 H1 S1 g1 R1 E1 P1 => ⟨c, rfl, Post.here R1 P1 (.bl _)⟩
def eIf (t : Fb) (f g : Fe) : Fe := fun ρ => M.bind (t ρ) fun b => if b = true then f ρ else g ρ
theorem de_if {t : Fb} (hc : DT X W c t) (ha : DE X W a f) (hb : DE X W b g) : DE X W (.IfExp c a b pos) (eIf t f g) := (pe_ifExp hc ha hb).imp fun σ H Q ⟨w, ρ, S, R, E, P⟩ =>
  stepT R E P fun c w1 H1 S1 g1 R1 E1 P1 => by
    cases c with
    | true => rw [if_pos rfl] at P1 ⊢; exact ⟨w1, ρ, S1, R1, E1, P1⟩
    | false => rw [if_neg Bool.false_ne_true] at P1 ⊢; exact ⟨w1, ρ, S1, R1, E1, P1⟩

/-! ### displays -/
def aNil : Fl := fun _ => M.pure []
def aCons (f : Fe) (g : Fl) : Fl := fun ρ => M.bind (f ρ) fun x => M.bind (g ρ) fun xs => M.pure (x :: xs)
theorem da_nil : DA X W [] aNil := pa_nil.imp fun σ H Q ⟨w, ρ, S, R, E, P⟩ => P w H (Grow.refl w) R [] .nil
theorem da_cons (ha : DE X W e f) (hr : DA X W es fs) (hs : starEach (e :: es) X.env = (false, eval e X.env) :: starEach es X.env := by rfl) : DA X W (e :: es) (aCons f fs) := (pa_cons ha hr hs).imp fun σ H Q ⟨w, ρ, S, R, E, P⟩ =>
  stepE R E P fun v w1 H1 S1 d g1 R1 E1 V1 P1 => stepA R1 E1 P1 fun vs w2 H2 S2 ds g2 R2 E2 V2 P2 => P2 w2 H2 (Grow.refl _) R2 _ (.cons (V1.grow g2) V2)
def kTup (ds : List D) : M D := fun S => match asPs ds with
  | some es => if es.length ≤ sizeLine then .ok (.p (.tuple es)) S else .bad
  | none => .bad
def kLst (ds : List D) : M D := fun S => match asPs ds with
  | some es => if es.length ≤ sizeLine then .ok (.p (.list es)) S else .bad
  | none => .bad
def kCell (ds : List D) : M D := fun S => if ds.length ≤ sizeLine then .ok (.o S.length) (S ++ [.lst ds]) else .bad
def eTup (g : Fl) : Fe := fun ρ => M.bind (g ρ) kTup
def eLst (g : Fl) : Fe := fun ρ => M.bind (g ρ) kLst
/-- a list that will be changed -/
def eCell (g : Fl) : Fe := fun ρ => M.bind (g ρ) kCell
theorem asPs_len {ds : List D} {es : List PyData} (h : asPs ds = some es) : es.length = ds.length := by
  induction ds generalizing es with
  | nil => cases h; rfl
  | cons d ds ih =>
    cases d with
    | o i => cases h
    | s ns => cases h
    | p d =>
      unfold asPs at h
      cases q : asPs ds with
      | none => rw [q] at h; cases h
      | some fs => rw [q] at h; cases h; simp [ih q]
theorem de_tup {x1} (h : DA X W es fs) : DE X W (.Tuple es x1 pos) (eTup fs) := (pe_tup h).imp fun σ H Q ⟨w, ρ, S, R, E, P⟩ =>
  stepA R E P fun vs w1 H1 S1 ds g1 R1 E1 V1 P1 => by
    unfold kTup at P1
    cases q : asPs ds with
    | none => rw [q] at P1; exact P1.elim
    | some ps =>
      rw [q] at P1
      dsimp only at P1
      split at P1
      · rename_i hl
        have r := asPs_rep q V1
        exact ⟨by rw [r.length]; exact hl, fun p hp => Post.newTup R1 P1 r hp⟩
      · exact P1.elim
theorem de_lst (h : DA X W es fs) : DE X W (.List es pos) (eLst fs) := (pe_lst h).imp fun σ H Q ⟨w, ρ, S, R, E, P⟩ =>
  stepA R E P fun vs w1 H1 S1 ds g1 R1 E1 V1 P1 => by
    unfold kLst at P1
    cases q : asPs ds with
    | none => rw [q] at P1; exact P1.elim
    | some ps =>
      rw [q] at P1
      dsimp only at P1
      split at P1
      · rename_i hl
        have r := asPs_rep q V1
        exact ⟨by rw [r.length]; exact hl, fun p hp => Post.newLst R1 P1 r hp⟩
      · exact P1.elim
theorem de_cell (h : DA X W es fs) : DE X W (.List es pos) (eCell fs) := (pe_lst h).imp fun σ H Q ⟨w, ρ, S, R, E, P⟩ =>
  stepA R E P fun vs w1 H1 S1 ds g1 R1 E1 V1 P1 => by
    unfold kCell at P1
    split at P1
    · rename_i hl
      refine ⟨by rw [V1.length]; exact hl, fun p hp => ?_⟩
      obtain ⟨g, R'⟩ := R1.newC (o := .lst vs) (c := .lst ds) hp (RepVs.grow (w := w1) (w' := w1.addM p) ⟨rfl, rfl, Same.refl _, [p], rfl⟩ V1)
      exact P1 _ _ g R' _ ⟨p, by show (w1.m ++ [p])[S1.length]? = some p; rw [← R1.len]; simp, rfl⟩
    · exact P1.elim
end
end DL
set_option Elab.async false
set_option linter.all false
set_option maxRecDepth 100000
set_option maxHeartbeats 4000000
namespace DL
open PySem PySem.Spec L2

theorem RepVs.get {w : Wd} : ∀ {vs : List V} {ds : List D} {i : Nat} {d : D}, RepVs w vs ds → ds[i]? = some d → ∃ v, vs[i]? = some v ∧ RepV w v d
  | _, _, _, _, .nil, e => by simp at e
  | _, _, 0, _, .cons r _, e => by simp at e; subst e; exact ⟨_, rfl, r⟩
  | _, _, i + 1, d, .cons _ t, e => by
    obtain ⟨u, h1, h2⟩ := RepVs.get (i := i) (d := d) t (by simpa using e)
    exact ⟨u, by simpa using h1, h2⟩
theorem RepVs.get' {w : Wd} : ∀ {vs : List V} {ds : List D} {i : Nat} {v : V}, RepVs w vs ds → vs[i]? = some v → ∃ d, ds[i]? = some d ∧ RepV w v d
  | _, _, _, _, .nil, e => by simp at e
  | _, _, 0, _, .cons r _, e => by simp at e; subst e; exact ⟨_, rfl, r⟩
  | _, _, i + 1, d, .cons _ t, e => by
    obtain ⟨u, h1, h2⟩ := RepVs.get' (i := i) (v := d) t (by simpa using e)
    exact ⟨u, by simpa using h1, h2⟩
theorem RepVs.length {w : Wd} {vs : List V} {ds : List D} (h : RepVs w vs ds) : vs.length = ds.length := Paired.length h
theorem RepVs.append {w : Wd} : ∀ {vs us : List V} {ds es : List D}, RepVs w vs ds → RepVs w us es → RepVs w (vs ++ us) (ds ++ es)
  | _, _, _, _, .nil, s => s
  | _, _, _, _, .cons r t, s => .cons r (RepVs.append t s)
theorem RepVs.take {w : Wd} : ∀ {vs : List V} {ds : List D} (n : Nat), RepVs w vs ds → RepVs w (vs.take n) (ds.take n)
  | _, _, 0, _ => .nil
  | _, _, _ + 1, .nil => .nil
  | _, _, n + 1, .cons r t => .cons r (RepVs.take n t)
theorem RepVs.drop {w : Wd} : ∀ {vs : List V} {ds : List D} (n : Nat), RepVs w vs ds → RepVs w (vs.drop n) (ds.drop n)
  | _, _, 0, r => r
  | _, _, _ + 1, .nil => .nil
  | _, _, n + 1, .cons _ t => RepVs.drop n t
theorem RepVs.set {w : Wd} {v : V} {d : D} (r : RepV w v d) : ∀ {vs : List V} {ds : List D} (i : Nat), RepVs w vs ds → RepVs w (vs.set i v) (ds.set i d)
  | _, _, _, .nil => .nil
  | _, _, 0, .cons _ t => .cons r t
  | _, _, i + 1, .cons q t => .cons q (RepVs.set r i t)
theorem RepVs.dropLast {w : Wd} {vs : List V} {ds : List D} (h : RepVs w vs ds) : RepVs w vs.dropLast ds.dropLast := by
  rw [List.dropLast_eq_take, List.dropLast_eq_take, h.length]
  exact h.take _
theorem RepVs.at_ {w : Wd} {vs : List V} {ds : List D} (h : RepVs w vs ds) {i : Int} {d : D} (e : atI ds i = some d) : ∃ v, atI vs i = some v ∧ RepV w v d := by
  unfold atI at e ⊢
  rw [h.length]
  obtain ⟨j, h1, h2⟩ := Option.bind_eq_some_iff.mp e
  obtain ⟨v, h3, h4⟩ := h.get h2
  exact ⟨v, by rw [h1]; exact h3, h4⟩
theorem RepPs.at_ {Z : Hp} {vs : List V} {ds : List PyData} (h : RepPs Z vs ds) {i : Int} {d : PyData} (e : atI ds i = some d) : ∃ v, atI vs i = some v ∧ RepP Z v d := by
  unfold atI at e ⊢
  rw [h.length]
  obtain ⟨j, h1, h2⟩ := Option.bind_eq_some_iff.mp e
  obtain ⟨v, h3, h4⟩ := h.get h2
  exact ⟨v, by rw [h1]; exact h3, h4⟩
def cutL {α : Type} (xs : List α) (lo hi : Option Int) : List α := (xs.drop (HT.sIx xs.length 0 lo)).take (HT.sIx xs.length xs.length hi - HT.sIx xs.length 0 lo)
section
variable {X : Cx} {W : WX} {e a b c : Expr} {f g k : Fe} {pos : Pos} {es rest : List Expr} {fs : Fl}
/-! ### items, slices -/
def ofO {α : Type} (S : Store) : Option α → R α
  | some a => .ok a S
  | none => .bad
def fIx : D → D → M D
  | .p (.tuple ds), .p (.int i) => fun S => ofO S ((atI ds i).map .p)
  | .p (.str z), .p (.int i) => fun S => if z.length ≤ sizeLine then ofO S ((atI z.cps.toList i).map fun c => .p (.str ⟨#[c]⟩)) else .bad
  | x, .p (.int i) => fun S => ofO S ((items S x).bind fun ds => atI ds i)
  | _, _ => M.bad
theorem ok_ix : R2ok X (rIx X.K) fIx := by
  intro w H S x y dx dy W σ Q R vx vy P
  have lst : ∀ (i : Int), Post X.gm W σ w Q (ofO S ((items S dx).bind fun ds => atI ds i)) → rIxL X.K x (.int i) H Q := fun i P => by
    cases q : items S dx with
    | none => rw [q] at P; exact P.elim
    | some ds =>
      rw [q] at P
      dsimp only [Option.bind] at P
      cases q2 : atI ds i with
      | none => rw [q2] at P; exact P.elim
      | some d =>
        rw [q2] at P
        obtain ⟨a, xs, rfl, hs, r⟩ := items_sq R vx q
        obtain ⟨v, h1, h2⟩ := r.at_ q2
        exact ⟨_, _, _, v, rfl, rfl, hs, h1, Post.here R P h2⟩
  cases dy with
  | o j => cases dx with
    | o i => exact P.elim
    | s ns => exact P.elim
    | p d => cases d <;> exact P.elim
  | s j => cases dx with
    | o i => exact P.elim
    | s ns => exact P.elim
    | p d => cases d <;> exact P.elim
  | p d =>
    cases d with
    | int i =>
      cases vy.cases_p
      cases dx with
      | o j => exact .inl (lst i P)
      | s ns => exact .inl (lst i P)
      | p d =>
        cases d with
        | tuple ds =>
          have vx := vx.cases_p
          cases vx with | tup hx rx =>
          replace P : Post X.gm W σ w Q (ofO S ((atI ds i).map .p)) := P
          cases q : atI ds i with
          | none => rw [q] at P; exact P.elim
          | some d =>
            rw [q] at P
            obtain ⟨v, h1, h2⟩ := rx.at_ q
            exact .inr (.inl ⟨_, _, _, v, rfl, rfl, SqT.of (R.same _ _ hx), h1, Post.here R P h2⟩)
        | str z =>
          cases vx.cases_p
          replace P : Post X.gm W σ w Q (if z.length ≤ sizeLine then ofO S ((atI z.cps.toList i).map fun c => .p (.str ⟨#[c]⟩)) else .bad) := P
          by_cases hl : z.length ≤ sizeLine
          · rw [if_pos hl] at P
            cases q : atI z.cps.toList i with
            | none => rw [q] at P; exact P.elim
            | some d =>
              rw [q] at P
              exact .inr (.inr ⟨_, _, d, rfl, rfl, hl, q, Post.here R P (.str _)⟩)
          · rw [if_neg hl] at P
            exact P.elim
        | none => exact .inl (lst i P)
        | bool _ => exact .inl (lst i P)
        | int _ => exact .inl (lst i P)
        | list _ => exact .inl (lst i P)
        | dict _ => exact .inl (lst i P)
    | _ => cases dx with
      | o i => exact P.elim
      | s ns => exact P.elim
      | p d => cases d <;> exact P.elim
theorem de_item (ha : DE X W a f) (hb : DE X W b g) (hs : PlainIx b := by exact fun _ _ => rfl) : DE X W (.Subscript a b pos) (eBin fIx f g) := de_ix ix_seq ok_ix ha hb hs
abbrev Fo := Sl → M (Option Int)
def tDO (mg : Gm) (W : WX) (f : Fo) : TO := fun σ H Q => ∃ w ρ S, Rep mg w H S ∧ RepE w σ ρ ∧ PostG mg W σ w (fun o _ H' => Q o H') (f ρ S)
abbrev DO (X : Cx) (W : WX) (e : Option Expr) (f : Fo) : Prop := PO X e (tDO X.gm W f)
def oNone : Fo := fun _ => M.pure none
def asI : D → M (Option Int)
  | .p (.int i) => M.pure (some i)
  | _ => M.bad
def oSome (f : Fe) : Fo := fun ρ => M.bind (f ρ) asI
theorem do_none : DO X W none oNone := ⟨fun pins s σ H Q I ⟨w, ρ, S, R, E, P⟩ => po_none.run pins s σ H Q I (P w H (Grow.refl w) R)⟩
theorem do_some (h : DE X W e f) : DO X W (some e) (oSome f) := ⟨fun pins s σ H Q I ⟨w, ρ, S, R, E, P⟩ => (po_some h).run pins s σ H Q I (by
  refine stepE R E P fun v w1 H1 S1 d g1 R1 E1 V1 P1 => ?_
  unfold asI at P1
  split at P1
  · cases V1.cases_p
    exact ⟨_, rfl, P1 w1 H1 (Grow.refl _) R1⟩
  · exact P1.elim)⟩
theorem stepO {β : Type} {mg : Gm} {σ : L2.St} {w : Wd} {H : Hp} {S : Store} {ρ : Sl} {ok : β → Wd → Hp → Prop} {f : Fo} {k : Option Int → M β} {Q : Option Int → Hp → Prop} (R : Rep mg w H S) (E : RepE w σ ρ) (P : PostG mg W σ w ok (M.bind (f ρ) k S))
    (q : ∀ b w1 H1 S1, Grow w w1 → Rep mg w1 H1 S1 → RepE w1 σ ρ → PostG mg W σ w1 ok (k b S1) → Q b H1) : tDO mg W f σ H Q := by
  refine ⟨w, ρ, S, R, E, ?_⟩
  unfold M.bind at P
  cases h : f ρ S with
  | ok d S' => rw [h] at P; exact fun w' H' g R' => q d w' H' S' g R' (E.grow g) (P.grow g)
  | exc x S' => rw [h] at P; exact P
  | bad => rw [h] at P; exact P
def fSl (lo hi : Option Int) : D → M D
  | .p (.tuple ds) => M.pure (.p (.tuple (cutL ds lo hi)))
  | .p (.str z) => fun S => if z.length ≤ sizeLine then .ok (.p (.str (cutS z lo hi))) S else .bad
  | x => fun S => ofO S ((items S x).bind fun ds => (asPs (cutL ds lo hi)).map fun es => .p (.list es))
def eSl (f : Fe) (fo go : Fo) : Fe := fun ρ => M.bind (f ρ) fun x => M.bind (fo ρ) fun lo => M.bind (go ρ) fun hi => fSl lo hi x
theorem cut_whole {α : Type} {xs : List α} {lo hi : Option Int} (h : HT.sIx xs.length 0 lo = 0 ∧ HT.sIx xs.length xs.length hi = xs.length) : cutL xs lo hi = xs := by
  unfold cutL
  rw [h.1, h.2]
  simp
theorem RepPs.cut {Z : Hp} {vs : List V} {ds : List PyData} (h : RepPs Z vs ds) (lo hi : Option Int) : RepPs Z (cutV vs lo hi) (cutL ds lo hi) := by
  unfold cutV cutL
  rw [h.length]
  exact (h.drop _).take _
theorem RepVs.cut {w : Wd} {vs : List V} {ds : List D} (h : RepVs w vs ds) (lo hi : Option Int) : RepVs w (cutV vs lo hi) (cutL ds lo hi) := by
  unfold cutV cutL
  rw [h.length]
  exact RepVs.take _ (RepVs.drop _ h)
def rSlD (K : PySem.W.Frag) : V → Option Int → Option Int → Hp → VK → Prop := fun x lo hi H Q => rSlA K x lo hi H Q ∨ (∃ z, x = .str z ∧ z.length ≤ sizeLine ∧ Q (.str (cutS z lo hi)) H) ∨ rSlL K x lo hi H Q
theorem sl_D : SlR X (rSlD X.K) := sl_tupA.or (sl_str.or sl_list)
theorem de_slice {lo hi : Option Expr} {fo go : Fo} {p2 : Pos} (he : DE X W e f) (hl : DO X W lo fo) (hu : DO X W hi go) : DE X W (.Subscript e (.Slice lo hi none p2) pos) (eSl f fo go) := (pe_slice sl_D he hl hu).imp fun σ H Q ⟨w, ρ, S, R, E, P⟩ => by
  refine stepE R E P fun x w1 H1 S1 dx g1 R1 E1 V1 P1 => stepO R1 E1 P1 fun lo w2 H2 S2 g2 R2 E2 P2 => stepO R2 E2 P2 fun hi w3 H3 S3 g3 R3 E3 P3 => ?_
  have V3 := V1.grow (g2.trans g3)
  have lst : Post X.gm W σ w3 Q (ofO S3 ((items S3 dx).bind fun ds => (asPs (cutL ds lo hi)).map fun es => .p (.list es))) → rSlL X.K x lo hi H3 Q := fun P3 => by
    cases q : items S3 dx with
    | none => rw [q] at P3; exact P3.elim
    | some ds =>
      rw [q] at P3
      dsimp only [Option.bind] at P3
      cases q2 : asPs (cutL ds lo hi) with
      | none => rw [q2] at P3; exact P3.elim
      | some es =>
        rw [q2] at P3
        obtain ⟨a, xs, rfl, hs, r⟩ := items_sq R3 V3 q
        exact ⟨a, xs, rfl, hs, fun p hp => Post.newLst R3 P3 (asPs_rep q2 (r.cut lo hi)) hp⟩
  cases dx with
  | o j => exact .inr (.inr (lst P3))
  | s ns => exact .inr (.inr (lst P3))
  | p d =>
    cases d with
    | tuple ds =>
      have V3 := V3.cases_p
      cases V3 with | tup hx rx =>
      refine .inl ⟨_, _, rfl, SqT.of (R3.same _ _ hx), fun hw => ?_, fun _ p hp => Post.newTup R3 P3 (rx.cut lo hi) hp⟩
      rw [rx.length] at hw
      replace P3 : Post X.gm W σ w3 Q (.ok (.p (.tuple (cutL ds lo hi))) S3) := P3
      rw [cut_whole hw] at P3
      exact Post.here R3 P3 (.tup hx rx)
    | str z =>
      cases V3.cases_p
      replace P3 : Post X.gm W σ w3 Q (if z.length ≤ sizeLine then .ok (.p (.str (cutS z lo hi))) S3 else .bad) := P3
      by_cases hl : z.length ≤ sizeLine
      · rw [if_pos hl] at P3
        exact .inr (.inl ⟨_, rfl, hl, Post.here R3 P3 (.str _)⟩)
      · rw [if_neg hl] at P3
        exact P3.elim
    | none => exact .inr (.inr (lst P3))
    | bool _ => exact .inr (.inr (lst P3))
    | int _ => exact .inr (.inr (lst P3))
    | list _ => exact .inr (.inr (lst P3))
    | dict _ => exact .inr (.inr (lst P3))
end
end DL
set_option Elab.async false
set_option linter.all false
set_option maxRecDepth 100000
set_option maxHeartbeats 4000000
namespace DL
open PySem PySem.Spec L2
section
variable {X : Cx} {W : WX} {e a b c : Expr} {f g k : Fe} {pos : Pos} {es rest : List Expr} {fs : Fl}
/-! ### built-in calls -/
def C1ok (X : Cx) (r : List V → Hp → VK → Prop) (F : List D → M D) : Prop := ∀ (w : Wd) (H : Hp) (S : Store) (xs : List V) (ds : List D) (W : WX) (σ : L2.St) (Q : VK), Rep X.gm w H S → RepVs w xs ds → Post X.gm W σ w Q (F ds S) → r xs H Q
def eCB (F : List D → M D) (g : Fl) : Fe := fun ρ => M.bind (g ρ) F
theorem de_callB {id : String} {x : Str} {p : Pos} {r : List V → Hp → VK → Prop} {F : List D → M D} (hc : CallR X (.builtin id) r) (hF : C1ok X r F) (hg : Gl X x) (hm : X.mg x = none) (hv : bootBuiltins x = some (.builtin id)) (ha : DA X W (e :: es) fs)
    (hn : x ≠ "__name__" := by decide) (hdb : (x == ("__debug__" : Str)) = false := by decide) (he : starEach (e :: es) X.env = (false, eval e X.env) :: starEach es X.env := by rfl) (hpl : (backTo pos (starEach es X.env)).any (·.1) = false := by rfl) :
    DE X W (.Call (.Name x p) (e :: es) [] pos) (eCB F fs) := (pe_callB hc hg hm hv ha hn hdb he hpl).imp fun σ H Q ⟨w, ρ, S, R, E, P⟩ =>
  stepA R E P fun vs w1 H1 S1 ds g1 R1 E1 V1 P1 => hF w1 H1 S1 vs ds W σ Q R1 V1 P1
theorem de_callTy {T : String} {x : Str} {p : Pos} {r : List V → Hp → VK → Prop} {F : List D → M D} (hc : CallR X (.type T) r) (hF : C1ok X r F) (hg : Gl X x) (hm : X.mg x = none) (hv : bootBuiltins x = some (.type T)) (ha : DA X W (e :: es) fs)
    (hn : x ≠ "__name__" := by decide) (hdb : (x == ("__debug__" : Str)) = false := by decide) (he : starEach (e :: es) X.env = (false, eval e X.env) :: starEach es X.env := by rfl) (hpl : (backTo pos (starEach es X.env)).any (·.1) = false := by rfl) :
    DE X W (.Call (.Name x p) (e :: es) [] pos) (eCB F fs) := (pe_callTy hc hg hm hv ha hn hdb he hpl).imp fun σ H Q ⟨w, ρ, S, R, E, P⟩ =>
  stepA R E P fun vs w1 H1 S1 ds g1 R1 E1 V1 P1 => hF w1 H1 S1 vs ds W σ Q R1 V1 P1
theorem RepVs.one {w : Wd} {xs : List V} {d : D} (h : RepVs w xs [d]) : ∃ x, xs = [x] ∧ RepV w x d := by
  cases h with | cons h1 h2 => cases h2; exact ⟨_, rfl, h1⟩
theorem RepVs.two {w : Wd} {xs : List V} {d e : D} (h : RepVs w xs [d, e]) : ∃ x y, xs = [x, y] ∧ RepV w x d ∧ RepV w y e := by
  cases h with | cons h1 h2 => cases h2 with | cons h2 h3 => cases h3; exact ⟨_, _, rfl, h1, h2⟩
/-- a one-argument function of values -/
def on1 (F : D → M D) : List D → M D
  | [d] => F d
  | _ => M.bad
theorem ok_on1 {r : List V → Hp → VK → Prop} {F : D → M D} (h : ∀ (w : Wd) (H : Hp) (S : Store) (x : V) (d : D) (W : WX) (σ : L2.St) (Q : VK), Rep X.gm w H S → RepV w x d → Post X.gm W σ w Q (F d S) → r [x] H Q) : C1ok X r (on1 F) := by
  intro w H S xs ds W σ Q R V P
  unfold on1 at P
  split at P
  · obtain ⟨x, rfl, v⟩ := RepVs.one V
    exact h w H S x _ W σ Q R v P
  · exact P.elim
def fLen : D → M D
  | .p (.str z) => fun S => if z.length ≤ sizeLine then .ok (.p (.int z.length)) S else .bad
  | .p (.tuple ds) => M.pure (.p (.int ds.length))
  | x => fun S => ofO S ((items S x).map fun ds => .p (.int ds.length))
theorem ok_len : C1ok X (fun xs H Q => ∃ x n, xs = [x] ∧ LenV X.K x H n ∧ Q (.int n) H) (on1 fLen) := ok_on1 fun w H S x d W σ Q R v P => by
  unfold fLen at P
  split at P
  · cases v.cases_p
    split at P
    · rename_i hl
      exact ⟨_, _, rfl, ⟨hl, rfl⟩, Post.here R P (.int _)⟩
    · exact P.elim
  · have v := v.cases_p
    cases v with | tup hx rx =>
    refine ⟨_, _, rfl, .inr ⟨_, SqT.of (R.same _ _ hx), rfl⟩, ?_⟩
    rw [rx.length]
    exact Post.here R P (.int _)
  · dsimp only at P
    cases q : items S d with
    | none => rw [q] at P; exact P.elim
    | some ds =>
      rw [q] at P
      obtain ⟨a, xs, rfl, hs, r⟩ := items_sq R v q
      refine ⟨_, _, rfl, .inl ⟨xs, hs, rfl⟩, ?_⟩
      rw [r.length]
      exact Post.here R P (.int _)
theorem de_len {p : Pos} (hg : Gl X "len") (hm : X.mg "len" = none) (ha : DE X W e f) (he : starEach [e] X.env = (false, eval e X.env) :: starEach [] X.env := by rfl) (hpl : (backTo pos (starEach [] X.env)).any (·.1) = false := by rfl) :
    DE X W (.Call (.Name "len" p) [e] [] pos) (eCB (on1 fLen) (aCons f aNil)) := de_callB call_len ok_len hg hm PySem.boot_len (da_cons ha da_nil he) (by decide) (by decide) he hpl
def fInt : D → M D
  | .p (.int i) => M.pure (.p (.int i))
  | .p (.bool b) => M.pure (.p (.int (if b then 1 else 0)))
  | _ => M.bad
theorem ok_int1 : C1ok X (fun xs H Q => (∃ i, xs = [.int i] ∧ Q (.int i) H) ∨ ∃ k, xs = [.bl k] ∧ Q (.int (if k then 1 else 0)) H) (on1 fInt) := ok_on1 fun w H S x d W σ Q R v P => by
  unfold fInt at P
  split at P
  · cases v.cases_p; exact .inl ⟨_, rfl, Post.here R P (.int _)⟩
  · cases v.cases_p; exact .inr ⟨_, rfl, Post.here R P (.int _)⟩
  · exact P.elim
theorem de_toInt {p : Pos} (hg : Gl X "int") (hm : X.mg "int" = none) (ha : DE X W e f) (he : starEach [e] X.env = (false, eval e X.env) :: starEach [] X.env := by rfl) (hpl : (backTo pos (starEach [] X.env)).any (·.1) = false := by rfl) :
    DE X W (.Call (.Name "int" p) [e] [] pos) (eCB (on1 fInt) (aCons f aNil)) := de_callTy call_int1 ok_int1 hg hm PyProof.Rows.boot_int (da_cons ha da_nil he) (by decide) (by decide) he hpl
def fAbs : D → M D
  | .p (.int i) => M.pure (.p (.int (if i < 0 then -i else i)))
  | _ => M.bad
theorem ok_abs : C1ok X (fun xs H Q => ∃ i, xs = [.int i] ∧ Q (.int (if i < 0 then -i else i)) H) (on1 fAbs) := ok_on1 fun w H S x d W σ Q R v P => by
  unfold fAbs at P
  split at P
  · cases v.cases_p; exact ⟨_, rfl, Post.here R P (.int _)⟩
  · exact P.elim
theorem de_abs {p : Pos} (hg : Gl X "abs") (hm : X.mg "abs" = none) (ha : DE X W e f) (he : starEach [e] X.env = (false, eval e X.env) :: starEach [] X.env := by rfl) (hpl : (backTo pos (starEach [] X.env)).any (·.1) = false := by rfl) :
    DE X W (.Call (.Name "abs" p) [e] [] pos) (eCB (on1 fAbs) (aCons f aNil)) := de_callB call_abs ok_abs hg hm PyProof.Rows.boot_abs (da_cons ha da_nil he) (by decide) (by decide) he hpl
def fStr : D → M D
  | .p (.int i) => fun S => if i.natAbs.log2 < 1920 then .ok (.p (.str (toString i))) S else .bad
  | _ => M.bad
theorem ok_str : C1ok X (fun xs H Q => ∃ i, xs = [.int i] ∧ i.natAbs.log2 < 1920 ∧ Q (.str (toString i)) H) (on1 fStr) := ok_on1 fun w H S x d W σ Q R v P => by
  unfold fStr at P
  split at P
  · cases v.cases_p
    split at P
    · rename_i hl; exact ⟨_, rfl, hl, Post.here R P (.str _)⟩
    · exact P.elim
  · exact P.elim
theorem de_toStr {p : Pos} (hg : Gl X "str") (hm : X.mg "str" = none) (ha : DE X W e f) (he : starEach [e] X.env = (false, eval e X.env) :: starEach [] X.env := by rfl) (hpl : (backTo pos (starEach [] X.env)).any (·.1) = false := by rfl) :
    DE X W (.Call (.Name "str" p) [e] [] pos) (eCB (on1 fStr) (aCons f aNil)) := de_callTy call_str_int ok_str hg hm PyProof.Rows.boot_str (da_cons ha da_nil he) (by decide) (by decide) he hpl
def fTuple : D → M D
  | .p (.tuple ds) => M.pure (.p (.tuple ds))
  | x => fun S => ofO S ((items S x).bind fun ds => (asPs ds).map fun es => .p (.tuple es))
theorem ok_tuple : C1ok X (fun xs H Q => ∃ p ys, xs = [.ref p] ∧ ((SqL X.K H p ys ∧ ∀ l, H l = none → Q (.ref l) (upd H l (.tup ys))) ∨ (SqT X.K H p ys ∧ Q (.ref p) H))) (on1 fTuple) := ok_on1 fun w H S x d W σ Q R v P => by
  unfold fTuple at P
  split at P
  · have v := v.cases_p
    cases v with | tup hx rx =>
    exact ⟨_, _, rfl, .inr ⟨SqT.of (R.same _ _ hx), Post.here R P (.tup hx rx)⟩⟩
  · dsimp only at P
    cases q : items S d with
    | none => rw [q] at P; exact P.elim
    | some ds =>
      rw [q] at P
      dsimp only [Option.bind] at P
      cases q2 : asPs ds with
      | none => rw [q2] at P; exact P.elim
      | some es =>
        rw [q2] at P
        obtain ⟨a, xs, rfl, hs, r⟩ := items_sq R v q
        exact ⟨a, xs, rfl, .inl ⟨hs, fun p hp => Post.newTup R P (asPs_rep q2 r) hp⟩⟩
theorem de_tuple {p : Pos} (hg : Gl X "tuple") (hm : X.mg "tuple" = none) (ha : DE X W e f) (he : starEach [e] X.env = (false, eval e X.env) :: starEach [] X.env := by rfl) (hpl : (backTo pos (starEach [] X.env)).any (·.1) = false := by rfl) :
    DE X W (.Call (.Name "tuple" p) [e] [] pos) (eCB (on1 fTuple) (aCons f aNil)) := de_callTy call_tuple_of ok_tuple hg hm PyProof.Rows.boot_tuple (da_cons ha da_nil he) (by decide) (by decide) he hpl
def fList : D → M D
  | .p (.tuple ds) => M.pure (.p (.list ds))
  | x => fun S => ofO S ((items S x).bind fun ds => (asPs ds).map fun es => .p (.list es))
theorem ok_list : C1ok X (fun xs H Q => ∃ p ys, xs = [.ref p] ∧ (SqL X.K H p ys ∨ SqT X.K H p ys) ∧ ∀ l, H l = none → Q (.ref l) (upd H l (.lst ys))) (on1 fList) := ok_on1 fun w H S x d W σ Q R v P => by
  unfold fList at P
  split at P
  · have v := v.cases_p
    cases v with | tup hx rx =>
    exact ⟨_, _, rfl, .inr (SqT.of (R.same _ _ hx)), fun p hp => Post.newLst R P rx hp⟩
  · dsimp only at P
    cases q : items S d with
    | none => rw [q] at P; exact P.elim
    | some ds =>
      rw [q] at P
      dsimp only [Option.bind] at P
      cases q2 : asPs ds with
      | none => rw [q2] at P; exact P.elim
      | some es =>
        rw [q2] at P
        obtain ⟨a, xs, rfl, hs, r⟩ := items_sq R v q
        exact ⟨a, xs, rfl, .inl hs, fun p hp => Post.newLst R P (asPs_rep q2 r) hp⟩
theorem de_list {p : Pos} (hg : Gl X "list") (hm : X.mg "list" = none) (ha : DE X W e f) (he : starEach [e] X.env = (false, eval e X.env) :: starEach [] X.env := by rfl) (hpl : (backTo pos (starEach [] X.env)).any (·.1) = false := by rfl) :
    DE X W (.Call (.Name "list" p) [e] [] pos) (eCB (on1 fList) (aCons f aNil)) := de_callTy call_list_of ok_list hg hm PyProof.Rows.boot_list (da_cons ha da_nil he) (by decide) (by decide) he hpl
/-! sums, tests over a list of data -/
def asInts : List D → Option (List Int)
  | [] => some []
  | .p (.int i) :: r => (asInts r).map (i :: ·)
  | _ :: _ => none
def asBools : List D → Option (List Bool)
  | [] => some []
  | .p (.bool i) :: r => (asBools r).map (i :: ·)
  | _ :: _ => none
theorem asInts_rep {w : Wd} : ∀ {ds : List D} {ns : List Int} {vs : List V}, asInts ds = some ns → RepVs w vs ds → vs = ns.map V.int
  | [], ns, vs, h, r => by cases h; cases r; rfl
  | .o _ :: _, _, _, h, _ => by cases h
  | .p d :: ds, ns, vs, h, r => by
    cases d with
    | int i =>
      obtain ⟨ms, q, e⟩ := Option.map_eq_some_iff.mp (show (asInts ds).map (i :: ·) = some ns from h)
      subst e
      cases r with
      | cons r1 r2 =>
        cases r1.cases_p
        rw [asInts_rep q r2]
        rfl
    | _ => cases h
theorem asBools_rep {w : Wd} : ∀ {ds : List D} {ns : List Bool} {vs : List V}, asBools ds = some ns → RepVs w vs ds → vs = ns.map V.bl
  | [], ns, vs, h, r => by cases h; cases r; rfl
  | .o _ :: _, _, _, h, _ => by cases h
  | .p d :: ds, ns, vs, h, r => by
    cases d with
    | bool i =>
      obtain ⟨ms, q, e⟩ := Option.map_eq_some_iff.mp (show (asBools ds).map (i :: ·) = some ns from h)
      subst e
      cases r with
      | cons r1 r2 =>
        cases r1.cases_p
        rw [asBools_rep q r2]
        rfl
    | _ => cases h
def fSum : D → M D := fun x S => ofO S ((items S x).bind fun ds => (asInts ds).map fun ns => .p (.int ns.sum))
def fAll : D → M D := fun x S => ofO S ((items S x).bind fun ds => (asBools ds).map fun ns => .p (.bool (ns.all id)))
def fAny : D → M D := fun x S => ofO S ((items S x).bind fun ds => (asBools ds).map fun ns => .p (.bool (ns.any id)))
theorem ok_sum : C1ok X (rSum X.K) (on1 fSum) := ok_on1 fun w H S x d W σ Q R v P => by
  unfold fSum at P
  cases q : items S d with
  | none => rw [q] at P; exact P.elim
  | some ds =>
    rw [q] at P
    dsimp only [Option.bind] at P
    cases q2 : asInts ds with
    | none => rw [q2] at P; exact P.elim
    | some es =>
      rw [q2] at P
      obtain ⟨a, xs, rfl, hs, r⟩ := items_sq R v q
      rw [asInts_rep q2 r] at hs
      exact ⟨a, es, rfl, hs, Post.here R P (.int _)⟩
theorem ok_all : C1ok X (rAll X.K) (on1 fAll) := ok_on1 fun w H S x d W σ Q R v P => by
  unfold fAll at P
  cases q : items S d with
  | none => rw [q] at P; exact P.elim
  | some ds =>
    rw [q] at P
    dsimp only [Option.bind] at P
    cases q2 : asBools ds with
    | none => rw [q2] at P; exact P.elim
    | some es =>
      rw [q2] at P
      obtain ⟨a, xs, rfl, hs, r⟩ := items_sq R v q
      rw [asBools_rep q2 r] at hs
      exact ⟨a, es, rfl, hs, Post.here R P (.bl _)⟩
theorem ok_any : C1ok X (rAny X.K) (on1 fAny) := ok_on1 fun w H S x d W σ Q R v P => by
  unfold fAny at P
  cases q : items S d with
  | none => rw [q] at P; exact P.elim
  | some ds =>
    rw [q] at P
    dsimp only [Option.bind] at P
    cases q2 : asBools ds with
    | none => rw [q2] at P; exact P.elim
    | some es =>
      rw [q2] at P
      obtain ⟨a, xs, rfl, hs, r⟩ := items_sq R v q
      rw [asBools_rep q2 r] at hs
      exact ⟨a, es, rfl, hs, Post.here R P (.bl _)⟩
theorem de_sum {p : Pos} (hg : Gl X "sum") (hm : X.mg "sum" = none) (hc : X.calm = true) (ha : DE X W e f) (he : starEach [e] X.env = (false, eval e X.env) :: starEach [] X.env := by rfl) (hpl : (backTo pos (starEach [] X.env)).any (·.1) = false := by rfl) :
    DE X W (.Call (.Name "sum" p) [e] [] pos) (eCB (on1 fSum) (aCons f aNil)) := de_callB (cr_sum hc) ok_sum hg hm PyProof.Rows.boot_sum (da_cons ha da_nil he) (by decide) (by decide) he hpl
theorem de_all {p : Pos} (hg : Gl X "all") (hm : X.mg "all" = none) (hc : X.calm = true) (ha : DE X W e f) (he : starEach [e] X.env = (false, eval e X.env) :: starEach [] X.env := by rfl) (hpl : (backTo pos (starEach [] X.env)).any (·.1) = false := by rfl) :
    DE X W (.Call (.Name "all" p) [e] [] pos) (eCB (on1 fAll) (aCons f aNil)) := de_callB (cr_all hc) ok_all hg hm PyProof.Rows.boot_all (da_cons ha da_nil he) (by decide) (by decide) he hpl
theorem de_any {p : Pos} (hg : Gl X "any") (hm : X.mg "any" = none) (hc : X.calm = true) (ha : DE X W e f) (he : starEach [e] X.env = (false, eval e X.env) :: starEach [] X.env := by rfl) (hpl : (backTo pos (starEach [] X.env)).any (·.1) = false := by rfl) :
    DE X W (.Call (.Name "any" p) [e] [] pos) (eCB (on1 fAny) (aCons f aNil)) := de_callB (cr_any hc) ok_any hg hm PyProof.Rows.boot_any (da_cons ha da_nil he) (by decide) (by decide) he hpl
def on2 (F : D → D → M D) : List D → M D
  | [d, e] => F d e
  | _ => M.bad
def fMax := fI0 fun i j => .int (if j > i then j else i)
def fMin := fI0 fun i j => .int (if j < i then j else i)
theorem ok_max2 : C1ok X (fun xs H Q => ∃ i j, xs = [.int i, .int j] ∧ Q (.int (if j > i then j else i)) H) (on2 fMax) := by
  intro w H S xs ds W σ Q R V P
  unfold on2 fMax fI0 at P
  split at P
  · obtain ⟨x, y, rfl, vx, vy⟩ := RepVs.two V
    split at P
    · cases vx.cases_p; cases vy.cases_p
      exact ⟨_, _, rfl, Post.here R P (.int _)⟩
    · exact P.elim
  · exact P.elim
theorem ok_min2 : C1ok X (fun xs H Q => ∃ i j, xs = [.int i, .int j] ∧ Q (.int (if j < i then j else i)) H) (on2 fMin) := by
  intro w H S xs ds W σ Q R V P
  unfold on2 fMin fI0 at P
  split at P
  · obtain ⟨x, y, rfl, vx, vy⟩ := RepVs.two V
    split at P
    · cases vx.cases_p; cases vy.cases_p
      exact ⟨_, _, rfl, Post.here R P (.int _)⟩
    · exact P.elim
  · exact P.elim
theorem de_max2 {p : Pos} (hg : Gl X "max") (hm : X.mg "max" = none) (hc : X.calm = true) (ha : DE X W a f) (hb : DE X W b g) (he : starEach [a, b] X.env = (false, eval a X.env) :: starEach [b] X.env := by rfl) (he' : starEach [b] X.env = (false, eval b X.env) :: starEach [] X.env := by rfl) (hpl : (backTo pos (starEach [b] X.env)).any (·.1) = false := by rfl) :
    DE X W (.Call (.Name "max" p) [a, b] [] pos) (eCB (on2 fMax) (aCons f (aCons g aNil))) := de_callB (call_max2 hc) ok_max2 hg hm PyProof.Rows.boot_max (da_cons ha (da_cons hb da_nil he') he) (by decide) (by decide) he hpl
theorem de_min2 {p : Pos} (hg : Gl X "min") (hm : X.mg "min" = none) (hc : X.calm = true) (ha : DE X W a f) (hb : DE X W b g) (he : starEach [a, b] X.env = (false, eval a X.env) :: starEach [b] X.env := by rfl) (he' : starEach [b] X.env = (false, eval b X.env) :: starEach [] X.env := by rfl) (hpl : (backTo pos (starEach [b] X.env)).any (·.1) = false := by rfl) :
    DE X W (.Call (.Name "min" p) [a, b] [] pos) (eCB (on2 fMin) (aCons f (aCons g aNil))) := de_callB (call_min2 hc) ok_min2 hg hm PyProof.Rows.boot_min (da_cons ha (da_cons hb da_nil he') he) (by decide) (by decide) he hpl

/-! ### isinstance against a built-in class -/
def tyP : PyData → String
  | .none => "NoneType"
  | .bool _ => "bool"
  | .int _ => "int"
  | .str _ => "str"
  | .list _ => "list"
  | .tuple _ => "tuple"
  | .dict _ => "dict"
def Cell.ty? : Cell → Option String
  | .lst _ => some "list"
  | .scr _ => some "list"
  | _ => none
def tyC (S : Store) : D → Option String
  | .p d => some (tyP d)
  | .o i => S[i]?.bind Cell.ty?
  | .s _ => some "list"
def fIsi (T : String) : D → M D := fun x S => ofO S ((tyC S x).bind fun t => (kitB t T).map fun b => .p (.bool b))
theorem tyC_ty {w : Wd} {H : Hp} {S : Store} {x : V} {d : D} {t : String} (R : Rep X.gm w H S) (v : RepV w x d) (h : tyC S d = some t) : TyX X.K H x (.type t) := by
  cases d with
  | s ns =>
    cases h
    obtain ⟨a, rfl, q⟩ := v
    rw [R.kk] at q
    rcases R.same.seq q with (q | ⟨o, q⟩) | ⟨o, its, n, h1, h2, _⟩
    · exact .base (.lst q)
    · exact .base (.frz q)
    · exact .kList h1 h2
  | p d =>
    cases h
    have v := v.cases_p
    cases v with
    | non => exact .base .non
    | bl b => exact .base (.bl b)
    | int i => exact .base (.int i)
    | str s => exact .base (.str s)
    | lst h1 h2 => exact .base (.lst (R.same _ _ h1))
    | tup h1 h2 => exact .base (.tup (R.same _ _ h1))
  | o i =>
    obtain ⟨a, ha, rfl⟩ := v
    obtain ⟨cc, q, h⟩ := Option.bind_eq_some_iff.mp (show S[i]?.bind Cell.ty? = some t from h)
    obtain ⟨o, ho, r⟩ := R.at_ ha q
    cases cc with
    | lst ds =>
      cases h
      obtain ⟨xs, rfl, _⟩ := r.lst_inv
      exact .base (.lst ho)
    | scr ds =>
      cases h
      obtain ⟨ob, xs, rfl, _⟩ := r.scr_inv
      exact .base (.frz ho)
    | _ => cases h
theorem de_isi {T : String} {y : Str} {p p2 : Pos} (hg : Gl X "isinstance") (hm : X.mg "isinstance" = none) (hgT : Gl X y) (hmT : X.mg y = none) (hv : bootBuiltins y = some (.type T)) (ha : DE X W e f)
    (hnT : y ≠ "__name__" := by decide) (hdT : (y == ("__debug__" : Str)) = false := by decide)
    (he : starEach [e, .Name y p2] X.env = (false, eval e X.env) :: starEach [.Name y p2] X.env := by rfl) (he' : starEach [.Name y p2] X.env = (false, eval (.Name y p2) X.env) :: starEach [] X.env := by rfl) (hpl : (backTo pos (starEach [.Name y p2] X.env)).any (·.1) = false := by rfl) :
    DE X W (.Call (.Name "isinstance" p) [e, .Name y p2] [] pos) (eUn (fIsi T) f) :=
  (pe_callB call_isi hg hm PyProof.Rows.boot_isinstance (pa_cons ha (pa_cons (pe_bltn (v := .ty T) hgT hmT hv rfl hnT hdT) pa_nil he') he) (by decide) (by decide) he hpl).imp fun σ H Q ⟨w, ρ, S, R, E, P⟩ => by
    refine stepE R E P fun x w1 H1 S1 d g1 R1 E1 V1 P1 => ?_
    unfold fIsi at P1
    cases q : tyC S1 d with
    | none => rw [q] at P1; exact P1.elim
    | some t =>
      rw [q] at P1
      dsimp only [Option.bind] at P1
      cases q2 : kitB t T with
      | none => rw [q2] at P1; exact P1.elim
      | some b =>
        rw [q2] at P1
        exact ⟨x, .ty T, .type t, .type T, b, rfl, .ty T, tyC_ty R1 V1 q, kit_ty q2, Post.here R1 P1 (.bl _)⟩

/-! ### fields of instances -/
def insAt (S : Store) (i : Nat) : Option (Str × List (Str × D)) := match S[i]? with
  | some (.ins c fs) => some (c, fs)
  | _ => none
def fFld (c : Str) (m : Str) : D → M D
  | .o i => fun S => ofO S ((insAt S i).bind fun p => if p.1 = c then p.2.lookup m else none)
  | _ => M.bad
theorem RepF.look {w : Wd} {m : Str} : ∀ {fs : List (Str × V)} {gs : List (Str × D)}, RepF w fs gs → (∀ d, gs.lookup m = some d → ∃ v, fs.lookup m = some v ∧ RepV w v d) ∧ (gs.lookup m = none → fs.lookup m = none)
  | _, _, .nil => ⟨fun d e => by simp at e, fun _ => rfl⟩
  | (a, x) :: fs, (b, y) :: gs, .cons ⟨h1, h2⟩ t => by
    have h1 : a = b := h1
    subst h1
    obtain ⟨i1, i2⟩ := RepF.look (m := m) t
    constructor
    · intro d e
      rw [List.lookup_cons] at e ⊢
      cases q : m == a with
      | true => rw [q] at e; cases e; exact ⟨x, rfl, h2⟩
      | false => rw [q] at e; exact i1 d e
    · intro e
      rw [List.lookup_cons] at e ⊢
      cases q : m == a with
      | true => rw [q] at e; cases e
      | false => rw [q] at e; exact i2 e
theorem insAt_some {S : Store} {i : Nat} {p : Str × List (Str × D)} (h : insAt S i = some p) : S[i]? = some (.ins p.1 p.2) := by
  unfold insAt at h
  split at h
  · rename_i h'; cases h; exact h'
  · cases h
theorem de_fld {C : Addr} {c m : Str} (hmc : X.mg c = some (.ref C)) (cl : Cls X.K C) (nm : NoAttr X.K C m) (he : DE X W e f) (hb : attributeBase e m X.env (eval e X.env) = eval e X.env := by rfl) : DE X W (.Attribute e m pos) (eUn (fFld c m) f) := (pe_fld he hb).imp fun σ H Q ⟨w, ρ, S, R, E, P⟩ => by
  refine stepE R E P fun x w1 H1 S1 d g1 R1 E1 V1 P1 => ?_
  cases d with
  | s ns => exact P1.elim
  | p d => exact P1.elim
  | o i =>
    replace P1 : Post X.gm W σ w1 Q (ofO S1 ((insAt S1 i).bind fun p => if p.1 = c then p.2.lookup m else none)) := P1
    cases q : insAt S1 i with
    | none => rw [q] at P1; exact P1.elim
    | some pr =>
      rw [q] at P1
      dsimp only [Option.bind] at P1
      by_cases hc : pr.1 = c
      · rw [if_pos hc] at P1
        cases q2 : pr.2.lookup m with
        | none => rw [q2] at P1; exact P1.elim
        | some d =>
          rw [q2] at P1
          obtain ⟨a, ha, rfl⟩ := V1
          obtain ⟨o, ho, r⟩ := R1.at_ ha (insAt_some q)
          obtain ⟨C', dx, xs, rfl, hmg, rf⟩ := r.ins_inv
          have hmg : X.mg pr.1 = some (.ref C') := hmg
          rw [hc, hmc] at hmg
          cases hmg
          obtain ⟨v, h1, h2⟩ := rf.look.1 d q2
          exact ⟨a, C, dx, xs, v, rfl, ho, cl, nm, h1, Post.here R1 P1 h2⟩
      · rw [if_neg hc] at P1
        exact P1.elim
end
end DL
set_option Elab.async false
set_option linter.all false
set_option maxRecDepth 100000
set_option maxHeartbeats 4000000
namespace DL
open PySem PySem.Spec L2
section
variable {X : Cx} {W : WX} {e a b c : Expr} {f g k : Fe} {pos : Pos} {es rest : List Expr} {fs : Fl} {st : Stmt} {sts : List Stmt} {u v : Fs}

/-! ### blocks, small statements -/
def sNil : Fs := fun ρ S => .nx ρ S
def thenS (r : RS) (k : Fs) : RS := match r with
  | .nx ρ S => k ρ S
  | r => r
def sSeq (u v : Fs) : Fs := fun ρ S => thenS (u ρ S) v
theorem dss_nil : DSs X W [] sNil := pss_nil.imp fun E σ H ⟨w, ρ, S, R, e, P⟩ => P σ w H (Grow.refl w) R e
theorem dss_cons (h1 : DS X W st u) (h2 : DSs X W sts v) : DSs X W (st :: sts) (sSeq u v) := (pss_cons h1 h2).imp fun E σ H ⟨w, ρ, S, R, e, P⟩ => by
  refine ⟨w, ρ, S, R, e, ?_⟩
  unfold sSeq thenS at P
  cases h : u ρ S with
  | nx ρ' S' => rw [h] at P; exact fun σ' w' H' g R' e' => ⟨w', ρ', S', R', e', P.grow g⟩
  | rt d S' => rw [h] at P; exact P
  | bk ρ' S' => rw [h] at P; exact P
  | ct ρ' S' => rw [h] at P; exact P
  | exc x ρ' S' => rw [h] at P; exact P
  | bad => rw [h] at P; exact P
theorem dss_one (h1 : DS X W st u) : DSs X W [st] u := pss_one h1
theorem ds_pass : DS X W (.Pass pos) sNil := ps_pass.imp fun E σ H ⟨w, ρ, S, R, e, P⟩ => P σ w H (Grow.refl w) R e
def sBreak : Fs := fun ρ S => .bk ρ S
def sCont : Fs := fun ρ S => .ct ρ S
theorem ds_break : DS X W (.Break pos) sBreak := ps_break.imp fun E σ H ⟨w, ρ, S, R, e, P⟩ => P σ w H (Grow.refl w) R e
theorem ds_continue : DS X W (.Continue pos) sCont := ps_continue.imp fun E σ H ⟨w, ρ, S, R, e, P⟩ => P σ w H (Grow.refl w) R e
theorem ds_doc {x j pos'} : DS X W (.Expr (.Constant (.str x) j pos) pos') sNil := ps_doc.imp fun E σ H ⟨w, ρ, S, R, e, P⟩ => P σ w H (Grow.refl w) R e
def sExpr (f : Fe) : Fs := fun ρ S => bindS ρ (f ρ S) fun _ S1 => .nx ρ S1
theorem ds_expr (he : DE X W e f) (hs : swapsWith e none pos.line X.env = pure false := by rfl) : DS X W (.Expr e pos) (sExpr f) := (ps_expr he hs).imp fun E σ H ⟨w, ρ, S, R, e, P⟩ =>
  stepES R e P fun v w1 H1 S1 d g1 R1 E1 V1 P1 => P1 σ w1 H1 (Grow.refl _) R1 E1
def sRet (f : Fe) : Fs := fun ρ S => bindS ρ (f ρ S) fun d S1 => .rt d S1
theorem ds_ret (he : DE X W e f) : DS X W (.Return (some e) pos) (sRet f) := (ps_ret he).imp fun E σ H ⟨w, ρ, S, R, e, P⟩ =>
  stepES R e P fun v w1 H1 S1 d g1 R1 E1 V1 P1 => P1 v w1 H1 (Grow.refl _) R1 V1
def sRetN : Fs := fun ρ S => .rt (.p .none) S
theorem ds_retN : DS X W (.Return none pos) sRetN := ps_retN.imp fun E σ H ⟨w, ρ, S, R, e, P⟩ => P .non w H (Grow.refl w) R .non
def sIf (t : Fb) (u v : Fs) : Fs := fun ρ S => bindS ρ (t ρ S) fun b S1 => if b = true then u ρ S1 else v ρ S1
theorem ds_if {t : Fb} {xs ys : List Stmt} (hc : DT X W c t) (ha : DSs X W xs u) (hb : DSs X W ys v) : DS X W (.If c xs ys pos) (sIf t u v) := (ps_if hc ha hb).imp fun E σ H ⟨w, ρ, S, R, e, P⟩ =>
  stepTS R e P fun b w1 H1 S1 g1 R1 E1 P1 => by
    cases b with
    | true => rw [if_pos rfl] at P1 ⊢; exact ⟨w1, ρ, S1, R1, E1, P1⟩
    | false => rw [if_neg Bool.false_ne_true] at P1 ⊢; exact ⟨w1, ρ, S1, R1, E1, P1⟩
def sSet (i : Nat) (f : Fe) : Fs := fun ρ S => bindS ρ (f ρ S) fun d S1 => .nx (ρ.set i (some d)) S1
theorem ds_set {i : Nat} {x : Str} {pos' : Pos} (hN : X.N.Nodup) (hi : X.N[i]? = some x) (hx : Loc X.env.scope x) (he : DE X W e f) (hs : swapsWith e (some (.Name x pos')) pos.line X.env = pure false := by rfl) (hf : X.fn x = true ∨ X.env.scope.names.lookup x = some .local := by first | exact .inl rfl | exact .inr rfl | assumption) :
    DS X W (.Assign [.Name x pos'] e pos) (sSet i f) := (ps_set hN hi hx he hs hf).imp fun E σ H ⟨w, ρ, S, R, e, P⟩ =>
  stepES R e P fun v w1 H1 S1 d g1 R1 E1 V1 P1 => P1 _ w1 H1 (Grow.refl _) R1 (E1.set i V1)
/-- a, b = x, y -/
def sPar (i j : Nat) (f g : Fe) : Fs := fun ρ S => bindS ρ (f ρ S) fun d S1 => bindS ρ (g ρ S1) fun e S2 => .nx ((ρ.set i (some d)).set j (some e)) S2
theorem ds_par {i j : Nat} {x y : Str} {px py pt : Pos} {kt k2 pt2} (hc : X.calm = true) (hN : X.N.Nodup) (hi : X.N[i]? = some x) (hj : X.N[j]? = some y) (hij : i ≠ j)
    (hx : X.env.scope.names.lookup x = some .local) (hy : X.env.scope.names.lookup y = some .local) (ha : DE X W a f) (hb : DE X W b g)
    (hw : swappedStores [.Tuple [.Name x px, .Name y py] kt pt] (.Tuple [a, b] k2 pt2) X.env = pure (some [x, y]))
    (hs : swapsWithSole [.Tuple [.Name x px, .Name y py] kt pt] (.Tuple [a, b] k2 pt2) pos.line X.env = pure false := by rfl)
    (he : starEach [a, b] X.env = (false, eval a X.env) :: starEach [b] X.env := by rfl) (he' : starEach [b] X.env = (false, eval b X.env) :: starEach [] X.env := by rfl) :
    DS X W (.Assign [.Tuple [.Name x px, .Name y py] kt pt] (.Tuple [a, b] k2 pt2) pos) (sPar i j f g) :=
  (ps_par hc hN hi hj hij hx hy (pa_cons ha (pa_cons hb pa_nil he') he) hw hs).imp fun E σ H ⟨w, ρ, S, R, e, P⟩ =>
    stepES R e P fun v w1 H1 S1 d g1 R1 E1 V1 P1 => stepES R1 E1 P1 fun v2 w2 H2 S2 d2 g2 R2 E2 V2 P2 => ⟨v, v2, rfl, P2 _ w2 H2 (Grow.refl _) R2 ((E2.set i (V1.grow g2)).set j V2)⟩

/-! ### targets -/
abbrev Tg := D → Sl → Option Sl
abbrev Tgs := List D → Sl → Option Sl
def okO {α : Type} (p : α → Prop) : Option α → Prop
  | some a => p a
  | none => False
def gD (mg : Gm) (t : Tg) : TG := fun v σ H Q => ∃ w ρ S d, Rep mg w H S ∧ RepE w σ ρ ∧ RepV w v d ∧ okO (fun ρ' => ∀ σ', RepE w σ' ρ' → Q σ' H) (t d ρ)
def gDs (mg : Gm) (t : Tgs) : TGs := fun vs σ H Q => ∃ w ρ S ds, Rep mg w H S ∧ RepE w σ ρ ∧ RepVs w vs ds ∧ okO (fun ρ' => ∀ σ', RepE w σ' ρ' → Q σ' H) (t ds ρ)
abbrev DG (X : Cx) (e : Expr) (t : Tg) : Prop := PG X e (gD X.gm t)
theorem PG.imp {t t' : TG} (h : PG X e t) (q : ∀ v σ H Q, t' v σ H Q → t v σ H Q) : PG X e t' := ⟨fun pins s σ H v u Q I r w => h.run pins s σ H v u Q I r (q v σ H Q w)⟩
theorem PGs.imp {t t' : TGs} (h : PGs X es t) (q : ∀ v σ H Q, t' v σ H Q → t v σ H Q) : PGs X es t' := ⟨fun pins s σ H v u Q I r w => h.run pins s σ H v u Q I r (q v σ H Q w)⟩
def tName (i : Nat) : Tg := fun d ρ => some (ρ.set i (some d))
theorem dg_name {i : Nat} {x : Str} (hN : X.N.Nodup) (hi : X.N[i]? = some x) (hx : Loc X.env.scope x) (hf : X.fn x = true ∨ X.env.scope.names.lookup x = some .local := by first | exact .inl rfl | exact .inr rfl | assumption) : DG X (.Name x pos) (tName i) :=
  PG.imp (pg_name hN hi hx hf) fun v σ H Q ⟨w, ρ, S, d, R, E, V, P⟩ => P _ (E.set i V)
def tsNil : Tgs := fun ds ρ => match ds with
  | [] => some ρ
  | _ => none
def tsCons (t : Tg) (r : Tgs) : Tgs := fun ds ρ => match ds with
  | d :: ds => (t d ρ).bind (r ds)
  | [] => none
theorem dgs_nil : PGs X [] (gDs X.gm tsNil) := PGs.imp pgs_nil fun vs σ H Q ⟨w, ρ, S, ds, R, E, V, P⟩ => by
  unfold tsNil at P
  cases ds with
  | nil => cases V; exact ⟨rfl, P σ E⟩
  | cons d ds => exact P.elim
theorem dgs_cons {t : Tg} {r : Tgs} (h1 : DG X e t) (h2 : PGs X es (gDs X.gm r)) (hs : (assignEach (e :: es) X.env).map (·.2) = assign e X.env :: (assignEach es X.env).map (·.2) := by rfl) : PGs X (e :: es) (gDs X.gm (tsCons t r)) :=
  PGs.imp (pgs_cons h1 h2 hs) fun vs σ H Q ⟨w, ρ, S, ds, R, E, V, P⟩ => by
    cases ds with
    | nil => exact P.elim
    | cons y ys =>
      cases V with
      | cons v1 vr =>
        refine ⟨_, _, rfl, w, ρ, S, y, R, E, v1, ?_⟩
        have P : okO (fun ρ' => ∀ σ', RepE w σ' ρ' → Q σ' H) ((t y ρ).bind (r ys)) := P
        cases q : t y ρ with
        | none => rw [q] at P; exact P.elim
        | some ρ1 => rw [q] at P; exact fun σ1 E1 => ⟨w, ρ1, S, ys, R, E1, vr, P⟩
def tTupT (n : Nat) (r : Tgs) : Tg := fun d ρ => match d with
  | .p (.tuple ds) => if ds.length = n then r (ds.map .p) ρ else none
  | _ => none
theorem dg_tup {k : Nat} {r : Tgs} {n : Nat} (hc : X.calm = true) (h : PGs X es (gDs X.gm r))
    (hn : (assignEach es X.env).length = n := by rfl) (hst : (assignEach es X.env).findIdx? (·.1) = none := by rfl) : DG X (.Tuple es k pos) (tTupT n r) := PG.imp (pg_tup hc h hn hst) fun v σ H Q ⟨w, ρ, S, d, R, E, V, P⟩ => by
  unfold tTupT at P
  split at P
  · have V := V.cases_p
    cases V with | tup hx rx =>
    split at P
    · rename_i hl
      exact ⟨_, _, rfl, SqT.of (R.same _ _ hx), by rw [rx.length]; exact hl, w, ρ, S, _, R, E, RepPs.toVs rx, P⟩
    · exact P.elim
  · exact P.elim
def sAsg (f : Fe) (t : Tg) : Fs := fun ρ S => bindS ρ (f ρ S) fun d S1 => match t d ρ with
  | some ρ' => .nx ρ' S1
  | none => .bad
theorem ds_asg {tg : Expr} {t : Tg} (he : DE X W e f) (hg : DG X tg t) (hs : swapsWithSole [tg] e pos.line X.env = pure false := by rfl) (hw : swappedStores [tg] e X.env = pure none := by rfl)
    (h1 : (assignEach [tg] X.env).map (·.2) = [assign tg X.env] := by rfl) : DS X W (.Assign [tg] e pos) (sAsg f t) := (ps_asg he hg hs hw h1).imp fun E σ H ⟨w, ρ, S, R, e, P⟩ =>
  stepES R e P fun v w1 H1 S1 d g1 R1 E1 V1 P1 => by
    refine ⟨w1, ρ, S1, d, R1, E1, V1, ?_⟩
    cases q : t d ρ with
    | none => rw [q] at P1; exact P1.elim
    | some ρ1 => rw [q] at P1; exact fun σ1 E2 => P1 σ1 w1 H1 (Grow.refl _) R1 E2

/-! ### what a loop walks -/
structure GrowD (w w' : Wd) : Prop where
  k : w'.K = w.K
  z : Same w.Z w'.Z
  m : ∃ t, w'.m = w.m ++ t
theorem Grow.d {w w' : Wd} (g : Grow w w') : GrowD w w' := ⟨g.k, g.z, g.m⟩
theorem GrowD.trans {w w1 w2 : Wd} (a : GrowD w w1) (b : GrowD w1 w2) : GrowD w w2 := by
  obtain ⟨t, e⟩ := a.m
  obtain ⟨u, f⟩ := b.m
  exact ⟨b.k.trans a.k, a.z.trans b.z, t ++ u, by rw [f, e]; simp⟩
theorem GrowD.toB {w w' : Wd} (g : GrowD w w') : Grow w { w' with B := w.B } := ⟨g.k, rfl, g.z, g.m⟩
theorem RepV.growD {w w' : Wd} (g : GrowD w w') {v : V} {d : D} (h : RepV w v d) : RepV w' v d := by
  have q := h.grow g.toB
  cases d <;> exact q
theorem RepE.growD {w w' : Wd} {σ : L2.St} {ρ : Sl} (g : GrowD w w') (h : RepE w σ ρ) : RepE w' σ ρ :=
  ⟨h.len, fun i d e => let ⟨v, h1, h2⟩ := h.at_ i d e; ⟨v, h1, h2.growD g⟩⟩
inductive SrcV where
  | seq (x : D)
  | rng (lo : Int) (n : Nat)
  | zip (x y : D)
/-- the items of a list or a tuple -/
def seqItems (S : Store) : D → Option (List D)
  | .p (.tuple ds) => some (ds.map .p)
  | x => items S x
def pairUp : D → D → Option D
  | .p a, .p b => some (.p (.tuple [a, b]))
  | _, _ => none
def zipAt (xs ys : List D) (i : Nat) : Option (Option D) := match xs[i]?, ys[i]? with
  | some a, some b => (pairUp a b).map some
  | _, _ => some none
def SrcV.nxt : SrcV → Nat → Store → Option (Option D)
  | .seq x, i, S => (seqItems S x).map fun ds => ds[i]?
  | .rng lo n, i, _ => some (if i < n then some (.p (.int (lo + i))) else none)
  | .zip x y, i, S => (seqItems S x).bind fun xs => (seqItems S y).bind fun ys => zipAt xs ys i
def SrcV.count : SrcV → Store → Nat
  | .seq x, S => ((seqItems S x).map List.length).getD 0
  | .rng _ n, _ => n
  | .zip x y, S => min (((seqItems S x).map List.length).getD 0) (((seqItems S y).map List.length).getD 0)
structure Src (mg : Gm) (J : It) (sv : SrcV) (w0 : Wd) : Prop where
  go : ∀ (i : Nat) (w : Wd) (H : Hp) (S : Store) (d : D), GrowD w0 w → Rep mg w H S → sv.nxt i S = some (some d) → J.go i H ∧ ∀ x H', J.yld i H x H' → ∃ w', Grow w w' ∧ Rep mg w' H' S ∧ RepV w' x d
  stop : ∀ (i : Nat) (w : Wd) (H : Hp) (S : Store), GrowD w0 w → Rep mg w H S → sv.nxt i S = some none → J.stop i H
abbrev Fsrc := Sl → M SrcV
def tDI (mg : Gm) (W : WX) (f : Fsrc) : TI := fun σ H T => ∃ w ρ S, Rep mg w H S ∧ RepE w σ ρ ∧ PostG mg W σ w (fun sv w' H' => ∀ J, Src mg J sv w' → T J H') (f ρ S)
abbrev DI (X : Cx) (W : WX) (tg iter : Expr) (f : Fsrc) : Prop := PI X tg iter (tDI X.gm W f)
def ofSeq (x : D) : M SrcV := fun S => if (seqItems S x).isSome = true then .ok (.seq x) S else .bad
def srcSeq (f : Fe) : Fsrc := fun ρ => M.bind (f ρ) ofSeq
theorem src_list {mg : Gm} {w0 : Wd} {a : Addr} {d : D} (V : RepV w0 (.ref a) d) (hd : ∀ ds, d ≠ .p (.tuple ds)) : Src mg (Itl mg.K a) (.seq d) w0 := by
  have si : ∀ S, seqItems S d = items S d := fun S => by
    cases d with
    | o i => rfl
    | s ns => rfl
    | p d => cases d with
      | tuple ds => exact absurd rfl (hd ds)
      | _ => rfl
  refine ⟨fun i w H S x g R h => ?_, fun i w H S g R h => ?_⟩
  · obtain ⟨ds, h1, h2⟩ := Option.map_eq_some_iff.mp h
    rw [si] at h1
    obtain ⟨a', xs, e, hs, r⟩ := items_sq R (V.growD g) h1
    cases e
    obtain ⟨v, h3, h4⟩ := r.get h2
    refine ⟨⟨xs, v, hs, h3⟩, fun y H' ⟨e, hy⟩ => ?_⟩
    subst e
    have := hy xs hs
    rw [h3] at this
    cases this
    exact ⟨w, Grow.refl w, R, h4⟩
  · obtain ⟨ds, h1, h2⟩ := Option.map_eq_some_iff.mp h
    rw [si] at h1
    obtain ⟨a', xs, e, hs, r⟩ := items_sq R (V.growD g) h1
    cases e
    exact ⟨xs, hs, by rw [r.length]; exact List.getElem?_eq_none_iff.mp h2⟩
theorem src_tup {K : PySem.W.Frag} {mg : Gm} {w0 : Wd} {a : Addr} {ds : List PyData} (V : RepV w0 (.ref a) (.p (.tuple ds))) : Src mg (Itt K a) (.seq (.p (.tuple ds))) w0 := by
  refine ⟨fun i w H S x g R h => ?_, fun i w H S g R h => ?_⟩
  · have h : some ((ds.map D.p)[i]?) = some (some x) := h
    have V' := (V.growD g).cases_p
    cases V' with | tup hx rx =>
    rename_i xs
    have r := RepPs.toVs (w := w) rx
    obtain ⟨v, h3, h4⟩ := r.get (Option.some.inj h)
    have hs : SqT K H a xs := SqT.of (R.same _ _ hx)
    refine ⟨⟨xs, v, hs, h3⟩, fun y H' ⟨e, hy⟩ => ?_⟩
    subst e
    have := hy xs hs
    rw [h3] at this
    cases this
    exact ⟨w, Grow.refl w, R, h4⟩
  · have h : some ((ds.map D.p)[i]?) = some none := h
    have V' := (V.growD g).cases_p
    cases V' with | tup hx rx =>
    rename_i xs
    have e := List.getElem?_eq_none_iff.mp (Option.some.inj h)
    rw [List.length_map] at e
    exact ⟨xs, SqT.of (R.same _ _ hx), by rw [rx.length]; exact e⟩
theorem src_rng {mg : Gm} {w0 : Wd} {lo : Int} {n : Nat} : Src mg (Itr lo n) (.rng lo n) w0 := by
  refine ⟨fun i w H S x g R h => ?_, fun i w H S g R h => ?_⟩
  · have h := Option.some.inj h
    by_cases hi : i < n
    · rw [if_pos hi] at h
      cases h
      exact ⟨hi, fun y H' ⟨e, hy⟩ => ⟨w, Grow.refl w, by rw [e]; exact R, by rw [hy]; exact .int _⟩⟩
    · rw [if_neg hi] at h; cases h
  · have h := Option.some.inj h
    by_cases hi : i < n
    · rw [if_pos hi] at h; cases h
    · exact Nat.le_of_not_lt hi
theorem di_seq {tg : Expr} (he : DE X W e f) : DI X W tg e (srcSeq f) := ⟨fun pins s σ H T I ⟨w, ρ, S, R, E, P⟩ => by
  unfold srcSeq M.bind at P
  have lst : (∀ d S', f ρ S = .ok d S' → ∀ ds, d ≠ .p (.tuple ds)) → wpAny (model X.prog X.w) X.A (eval e X.env) (fun v s1 => wpAny (model X.prog X.w) X.A (pyIter v) (PIE X pins σ tg T) X.xe s1) X.xe s := fun hn => by
    refine (pi_list he).run pins s σ H T I ⟨w, ρ, S, R, E, ?_⟩
    cases h : f ρ S with
    | bad => rw [h] at P; exact P
    | exc x S' => rw [h] at P; exact P
    | ok d S' =>
      rw [h] at P
      have nt := hn d S' h
      intro w' H' g R' v V
      have P : PostG X.gm W σ w (fun sv w' H' => ∀ J, Src X.gm J sv w' → T J H') (if (seqItems S' d).isSome = true then .ok (.seq d) S' else .bad) := P
      have si : seqItems S' d = items S' d := by
        cases d with
        | o i => rfl
        | s ns => rfl
        | p d => cases d with
          | tuple ds => exact absurd rfl (nt ds)
          | _ => rfl
      cases q : items S' d with
      | none => rw [si, q] at P; exact P.elim
      | some ds =>
        rw [si, q] at P
        obtain ⟨a', xs, rfl, hs, r⟩ := items_sq R' V q
        exact ⟨a', rfl, ⟨xs, hs⟩, P w' H' g R' _ (src_list V nt)⟩
  cases h : f ρ S with
  | bad => rw [h] at P; exact P.elim
  | exc x S' => exact lst fun d S'' q => by rw [h] at q; cases q
  | ok d S' =>
    by_cases ht : ∃ ds, d = .p (.tuple ds)
    · obtain ⟨ds, rfl⟩ := ht
      rw [h] at P
      refine (pi_tup he).run pins s σ H T I ⟨w, ρ, S, R, E, ?_⟩
      rw [h]
      intro w' H' g R' v V
      have V' := V.cases_p
      cases V' with | tup hx rx =>
      exact ⟨_, rfl, ⟨_, SqT.of (R'.same _ _ hx)⟩, P w' H' g R' _ (src_tup V)⟩
    · exact lst fun d' S'' q ds e => by
        rw [h] at q
        cases q
        exact ht ⟨ds, e⟩⟩
def ofRng1 : List D → M SrcV
  | [.p (.int j)] => fun S => if -(2 ^ 62) ≤ j ∧ j < 2 ^ 62 then .ok (.rng 0 j.toNat) S else .bad
  | _ => M.bad
def ofRng2 : List D → M SrcV
  | [.p (.int i), .p (.int j)] => fun S => if -(2 ^ 62) ≤ i ∧ i < 2 ^ 62 ∧ -(2 ^ 62) ≤ j ∧ j < 2 ^ 62 then .ok (.rng i (j - i).toNat) S else .bad
  | _ => M.bad
def srcRng1 (f : Fe) : Fsrc := fun ρ => M.bind (aCons f aNil ρ) ofRng1
def srcRng2 (f g : Fe) : Fsrc := fun ρ => M.bind (aCons f (aCons g aNil) ρ) ofRng2
theorem di_rng1 {tg : Expr} {p : Pos} (hg : Gl X "range") (hm : X.mg "range" = none) (ha : DE X W a f) (hs : starEach [a] X.env = [(false, eval a X.env)] := by rfl) : DI X W tg (.Call (.Name "range" p) [a] [] pos) (srcRng1 f) :=
  ⟨fun pins s σ H T I ⟨w, ρ, S, R, E, P⟩ => (pi_range1 hg hm (da_cons ha da_nil hs) hs).run pins s σ H T I (by
    refine stepA R E P fun vs w1 H1 S1 ds g1 R1 E1 V1 P1 => ?_
    unfold ofRng1 at P1
    split at P1
    · obtain ⟨x, rfl, vx⟩ := RepVs.one V1
      cases vx.cases_p
      split at P1
      · rename_i hl
        exact ⟨_, rfl, hl.1, hl.2, P1 w1 H1 (Grow.refl _) R1 _ src_rng⟩
      · exact P1.elim
    · exact P1.elim)⟩
theorem di_rng2 {tg : Expr} {p : Pos} (hg : Gl X "range") (hm : X.mg "range" = none) (ha : DE X W a f) (hb : DE X W b g) (hs : starEach [a, b] X.env = [(false, eval a X.env), (false, eval b X.env)] := by rfl) (hs2 : starEach [b] X.env = [(false, eval b X.env)] := by rfl) :
    DI X W tg (.Call (.Name "range" p) [a, b] [] pos) (srcRng2 f g) :=
  ⟨fun pins s σ H T I ⟨w, ρ, S, R, E, P⟩ => (pi_range2 hg hm (da_cons ha (da_cons hb da_nil hs2) (by rw [hs, hs2])) hs hs2).run pins s σ H T I (by
    refine stepA R E P fun vs w1 H1 S1 ds g1 R1 E1 V1 P1 => ?_
    unfold ofRng2 at P1
    split at P1
    · obtain ⟨x, y, rfl, vx, vy⟩ := RepVs.two V1
      cases vx.cases_p; cases vy.cases_p
      split at P1
      · rename_i hl
        exact ⟨_, _, rfl, hl, P1 w1 H1 (Grow.refl _) R1 _ src_rng⟩
      · exact P1.elim
    · exact P1.elim)⟩

/-! ### for -/
def loopS (sv : SrcV) (t : Tg) (u : Fs) : Nat → Nat → Fs
  | 0, i => fun ρ S => match sv.nxt i S with
    | some none => .nx ρ S
    | _ => .bad
  | k + 1, i => fun ρ S => match sv.nxt i S with
    | some (some d) => match t d ρ with
      | some ρ1 => match u ρ1 S with
        | .nx ρ' S' => loopS sv t u k (i + 1) ρ' S'
        | .ct ρ' S' => loopS sv t u k (i + 1) ρ' S'
        | .bk ρ' S' => .nx ρ' S'
        | r => r
      | none => .bad
    | _ => .bad
def sFor (fsrc : Fsrc) (t : Tg) (u : Fs) : Fs := fun ρ S => bindS ρ (fsrc ρ S) fun sv S1 => loopS sv t u (sv.count S1) 0 ρ S1
theorem ds_for {tg iter : Expr} {body : List Stmt} {fsrc : Fsrc} {t : Tg} (hp : PassesOwn (model X.prog X.w) X.A X.env X.xe) (hc : X.calm = true) (hi : DI X W tg iter fsrc) (hg : DG X tg t) (hb : DSs X W body u)
    (hs : ∀ x, foldedSetIterable iter X.env x = pure x := by intro _; rfl) : DS X W (.For tg iter body [] pos) (sFor fsrc t u) := (ps_for hp hc hi hg hb hs).imp fun En σ H ⟨w, ρ, S, R, E, P⟩ => by
  refine ⟨w, ρ, S, R, E, ?_⟩
  unfold sFor bindS at P
  cases h : fsrc ρ S with
  | bad => rw [h] at P; exact P
  | exc x S' => rw [h] at P; exact fun c dx w' H' g R' X => P σ c dx w' H' g R' (E.grow g) X
  | ok sv S' =>
    rw [h] at P
    intro w' H' g R' J hJ
    refine ⟨fun i m σ H => ∃ w1 ρ1 S1, GrowD w' w1 ∧ Rep X.gm w1 H S1 ∧ RepE w1 σ ρ1 ∧ PostS X.gm W En w1 (loopS sv t u m i ρ1 S1), ⟨_, w', ρ, S', (Grow.refl w').d, R', E.grow g, P.grow g⟩, ?_⟩
    rintro i m σ1 H1 ⟨w1, ρ1, S1, g1, R1, E1, P1⟩
    cases m with
    | zero =>
      unfold loopS at P1
      cases q : sv.nxt i S1 with
      | none => rw [q] at P1; exact P1.elim
      | some o =>
        rw [q] at P1
        cases o with
        | some d => exact P1.elim
        | none => exact .inl ⟨hJ.stop i w1 H1 S1 g1 R1 q, P1 σ1 w1 H1 (Grow.refl _) R1 E1⟩
    | succ m =>
      unfold loopS at P1
      cases q : sv.nxt i S1 with
      | none => rw [q] at P1; exact P1.elim
      | some o =>
        rw [q] at P1
        cases o with
        | none => exact P1.elim
        | some d =>
          obtain ⟨h1, h2⟩ := hJ.go i w1 H1 S1 d g1 R1 q
          refine .inr ⟨h1, fun σ H => ∃ w1 ρ1 S1, GrowD w' w1 ∧ Rep X.gm w1 H S1 ∧ RepE w1 σ ρ1 ∧ PostS X.gm W En w1 (loopS sv t u m (i + 1) ρ1 S1), fun σ' H' q' => ⟨m, Nat.lt_succ_self m, q'⟩, fun x H2 y => ?_⟩
          obtain ⟨w2, g2, R2, V2⟩ := h2 x H2 y
          refine ⟨w2, ρ1, S1, d, R2, E1.grow g2, V2, ?_⟩
          have P1 : PostS X.gm W En w1 (match t d ρ1 with
            | some ρ1 => match u ρ1 S1 with
              | .nx ρ' S' => loopS sv t u m (i + 1) ρ' S'
              | .ct ρ' S' => loopS sv t u m (i + 1) ρ' S'
              | .bk ρ' S' => .nx ρ' S'
              | r => r
            | none => .bad) := P1
          cases q2 : t d ρ1 with
          | none => rw [q2] at P1; exact P1.elim
          | some ρ2 =>
            rw [q2] at P1
            intro σ2 E2
            refine ⟨w2, ρ2, S1, R2, E2, ?_⟩
            dsimp only at P1
            cases q3 : u ρ2 S1 with
            | bad => rw [q3] at P1; exact P1
            | exc x ρ' S' => rw [q3] at P1; exact P1.grow g2
            | rt d S' => rw [q3] at P1; exact P1.grow g2
            | bk ρ' S' => rw [q3] at P1; exact P1.grow g2
            | nx ρ' S' => rw [q3] at P1; exact fun σ3 w3 H3 g3 R3 E3 => ⟨w3, ρ', S', g1.trans (g2.trans g3).d, R3, E3, P1.grow (g2.trans g3)⟩
            | ct ρ' S' => rw [q3] at P1; exact fun σ3 w3 H3 g3 R3 E3 => ⟨w3, ρ', S', g1.trans (g2.trans g3).d, R3, E3, P1.grow (g2.trans g3)⟩
end
end DL
set_option Elab.async false
set_option linter.all false
set_option maxRecDepth 100000
set_option maxHeartbeats 4000000
namespace DL
open PySem PySem.Spec L2
/-- nothing is let out -/
abbrev Wno : WX := fun _ _ _ _ => False
def bindN {α β : Type} (r : R α) (k : α → Store → R β) : R β := match r with
  | .ok a S => k a S
  | _ => .bad
def R.bind {α β : Type} (r : R α) (k : α → Store → R β) : R β := match r with
  | .ok a S => k a S
  | .exc x S => .exc x S
  | .bad => .bad
theorem M.bind_eq {α β : Type} (m : M α) (k : α → M β) (S : Store) : M.bind m k S = R.bind (m S) k := by
  unfold M.bind R.bind
  cases m S <;> rfl
def wipeD (ρ : Sl) : List Nat → Sl
  | [] => ρ
  | v :: vs => (wipeD ρ vs).set v none
theorem RepE.wipe {w : Wd} {σ : L2.St} {ρ : Sl} (h : RepE w σ ρ) : ∀ vs, RepE w (L2.wipe σ vs) (wipeD ρ vs)
  | [] => h
  | v :: vs => (RepE.wipe h vs).drop v none
def loopC (sv : SrcV) (t : Tg) (tb : Fb) (el : Fe) : Nat → Nat → Sl → List D → Store → R (List D)
  | 0, i, ρ, acc, S => match sv.nxt i S with
    | some none => .ok acc S
    | _ => .bad
  | k + 1, i, ρ, acc, S => match sv.nxt i S with
    | some (some d) => match t d ρ with
      | some ρ1 => bindN (tb ρ1 S) fun b S1 => if b = true then bindN (el ρ1 S1) fun y S2 => if acc.length < sizeLine then loopC sv t tb el k (i + 1) ρ (acc ++ [y]) S2 else .bad
        else loopC sv t tb el k (i + 1) ρ acc S1
      | none => .bad
    | _ => .bad
def kAcc (ds : List D) : M D := fun S => ofO S ((asPs ds).map fun es => .p (.list es))
def eLc (fsrc : Fsrc) (vs : List Nat) (t : Tg) (tb : Fb) (el : Fe) : Fe := fun ρ => M.bind (fsrc ρ) fun sv => M.bind (fun S => loopC sv t tb el (sv.count S) 0 (wipeD ρ vs) [] S) kAcc
/-- a comprehension's target -/
def TgC (mg : Gm) (g : TG) (t : Tg) (vs : List Nat) : Prop := ∀ (w : Wd) (σ0 : L2.St) (ρ : Sl) (x : V) (d : D) (H : Hp) (S : Store) (Q : L2.St → Hp → Prop), Rep mg w H S → RepE w (wipe σ0 vs) ρ → RepV w x d →
  okO (fun ρ' => ∀ σ2, RepE w σ2 ρ' → wipe σ2 vs = wipe σ0 vs → Q σ2 H) (t d ρ) → g x (wipe σ0 vs) H Q
theorem tgc_one {mg : Gm} {i : Nat} : TgC mg (gName i) (tName i) [i] := fun w σ0 ρ x d H S Q R E V P =>
  P _ (E.set i V) (by simp [wipe])
theorem tgc_two {mg : Gm} {K : PySem.W.Frag} {i j : Nat} : TgC mg (gTup K 2 (gCons (gName i) (gCons (gName j) gNil))) (tTupT 2 (tsCons (tName i) (tsCons (tName j) tsNil))) [i, j] := fun w σ0 ρ x d H S Q R E V P => by
  cases d with
  | o i => exact P.elim
  | s ns => exact P.elim
  | p d =>
    cases d with
    | tuple ds =>
      have V := V.cases_p
      cases V with | tup hx rx =>
      match ds, rx, P with
      | [], _, P => exact P.elim
      | [_], _, P => exact P.elim
      | [a, b], .cons r1 (.cons r2 .nil), P =>
        refine ⟨_, _, rfl, SqT.of (R.same _ _ hx), rfl, _, _, rfl, _, _, rfl, rfl, ?_⟩
        refine P _ ((E.set i (show RepV w _ (.p a) from r1)).set j (show RepV w _ (.p b) from r2)) ?_
        simp only [wipe]
        refine List.ext_getElem? fun k => ?_
        simp only [List.getElem?_set, List.length_set]
        by_cases h1 : i = k <;> by_cases h2 : j = k <;> simp [h1, h2]
      | _ :: _ :: _ :: _, _, P => exact P.elim
    | _ => exact P.elim
section
variable {mg : Gm} {w : Wd} {H : Hp} {S : Store}
theorem Rep.unback {p : Addr} {o : HO} {B : Hp} (h : Rep mg w H S) (e : w.B = upd B p o) (hb : B p = none) : Rep mg { w with B := B } H S := by
  refine ⟨h.kk, fun b u q => h.bg b u ?_, h.same, fun a u q => h.bz a u ?_, h.len, h.nd, fun i a c h1 h2 => ?_⟩
  · rw [e, upd_ne (ne_of_none q hb)]; exact q
  · rw [e, upd_ne (ne_of_none q hb)]; exact q
  · obtain ⟨za, u, hu, r⟩ := h.cell i a c h1 h2
    exact ⟨za, u, hu, by unfold RepC at r ⊢; exact r⟩
theorem RepVs.growD {w w' : Wd} (g : GrowD w w') {vs : List V} {ds : List D} (h : RepVs w vs ds) : RepVs w' vs ds := Paired.mapP h fun _ _ r => r.growD g
end
section
variable {X : Cx} {W : WX} {e : Expr} {fsrc : Fsrc} {vs : List Nat} {t : Tg} {tb : Fb} {el : Fe} {g : TG}
theorem tLc_of (hg : TgC X.gm g t vs) {σ : L2.St} {H : Hp} {Q : VK} (h : tD X.gm W (eLc fsrc vs t tb el) σ H Q) : tLc (tDI X.gm W fsrc) g (tDT X.gm Wno tb) (tD X.gm Wno el) vs σ H Q := by
  obtain ⟨w, ρ, S, R, E, P⟩ := h
  refine ⟨w, ρ, S, R, E, ?_⟩
  unfold eLc at P
  rw [M.bind_eq] at P
  cases h : fsrc ρ S with
  | bad => rw [h] at P; exact P
  | exc x S' => rw [h] at P; exact P
  | ok sv S' =>
    rw [h] at P
    intro w' H' g' R' J hJ D0 hD
    have P : Post X.gm W σ w Q (M.bind (fun S => loopC sv t tb el (sv.count S) 0 (wipeD ρ vs) [] S) kAcc S') := P
    rw [M.bind_eq] at P
    have P := P.grow g'
    obtain ⟨R0, b0, z0, m0⟩ := R'.lay (.lst []) hD
    refine ⟨fun i m H => ∃ w1 S1 acc xs, Grow w' w1 ∧ Rep X.gm w1 H S1 ∧ w1.B D0 = none ∧ w1.Z D0 = none ∧ D0 ∉ w1.m ∧ H D0 = some (.lst xs) ∧ RepVs w1 xs acc ∧ Post X.gm W σ w1 Q (DL.R.bind (loopC sv t tb el m i (wipeD ρ vs) acc S1) kAcc),
      ⟨_, w', S', [], [], Grow.refl _, R0, b0, z0, m0, upd_same, .nil, P⟩, ?_⟩
    rintro i m H1 ⟨w1, S1, acc, xs, g1, R1, b1, z1, m1, hd1, r1, P1⟩
    cases m with
    | zero =>
      unfold loopC at P1
      cases q : sv.nxt i S1 with
      | none => rw [q] at P1; exact P1.elim
      | some o =>
        rw [q] at P1
        cases o with
        | some d => exact P1.elim
        | none =>
          refine .inl ⟨hJ.stop i w1 H1 S1 g1.d R1 q, ?_⟩
          have P1 : Post X.gm W σ w1 Q (kAcc acc S1) := P1
          unfold kAcc at P1
          cases q2 : asPs acc with
          | none => rw [q2] at P1; exact P1.elim
          | some es =>
            rw [q2] at P1
            obtain ⟨g2, R2⟩ := R1.freeze hd1 b1 z1 m1
            exact P1 _ _ g2 R2 _ (.lst upd_same (RepPs.mono g2.z _ _ (asPs_rep q2 r1)))
    | succ m =>
      unfold loopC at P1
      cases q : sv.nxt i S1 with
      | none => rw [q] at P1; exact P1.elim
      | some o =>
        rw [q] at P1
        cases o with
        | none => exact P1.elim
        | some d =>
          obtain ⟨h1, h2⟩ := hJ.go i w1 H1 S1 d g1.d R1 q
          refine .inr ⟨h1, _, fun H' q' => ⟨m, Nat.lt_succ_self m, q'⟩, fun x H2 y => ?_⟩
          -- the item has come; the list that grows is kept by the background
          have R1b := R1.back hd1 z1 m1
          obtain ⟨h1', h2'⟩ := hJ.go i _ H1 S1 d (show GrowD w' { w1 with B := upd w1.B D0 (.lst xs) } from ⟨g1.k, g1.z, g1.m⟩) R1b q
          obtain ⟨w2, g2, R2, V2⟩ := h2' x H2 y
          have gE : Grow w w1 := g'.trans g1
          have E2 : RepE w2 (wipe σ vs) (wipeD ρ vs) := (RepE.wipe E vs).growD (gE.d.trans (show GrowD w1 { w1 with B := upd w1.B D0 (.lst xs) } from ⟨rfl, Same.refl _, [], by simp⟩) |>.trans g2.d)
          refine hg w2 σ (wipeD ρ vs) x d H2 S1 _ R2 E2 V2 ?_
          dsimp only at P1
          cases q2 : t d (wipeD ρ vs) with
          | none => rw [q2] at P1; exact P1.elim
          | some ρ2 =>
            rw [q2] at P1
            intro σ2 Eσ hw
            refine ⟨hw, w2, ρ2, S1, R2, Eσ, ?_⟩
            dsimp only at P1
            -- back to a world without the list
            have fin : ∀ {w3 : Wd} {H3 : Hp} {S3 : Store}, Grow w2 w3 → Rep X.gm w3 H3 S3 → H3 D0 = some (.lst xs) ∧ Grow w1 { w3 with B := w1.B } ∧ Rep X.gm { w3 with B := w1.B } H3 S3 ∧ w3.Z D0 = none ∧ D0 ∉ w3.m := fun {w3 H3 S3} g3 R3 => by
              have gg := g2.trans g3
              have eB : w3.B = upd w1.B D0 (.lst xs) := gg.b
              have hB : w3.B D0 = some (.lst xs) := by rw [eB]; exact upd_same
              exact ⟨R3.bg _ _ hB, ⟨gg.k, rfl, gg.z, gg.m⟩, R3.unback eB b1, (R3.bz _ _ hB).1, (R3.bz _ _ hB).2⟩
            cases q3 : tb ρ2 S1 with
            | bad => rw [q3] at P1; exact P1.elim
            | exc x S3 => rw [q3] at P1; exact P1.elim
            | ok b S3 =>
              rw [q3] at P1
              dsimp only [bindN] at P1
              intro w3 H3 g3 R3
              cases b with
              | false =>
                rw [if_neg Bool.false_ne_true] at P1 ⊢
                obtain ⟨hd3, gB, RB, zB, mB⟩ := fin g3 R3
                exact ⟨{ w3 with B := w1.B }, S3, acc, xs, g1.trans gB, RB, b1, zB, mB, hd3, RepVs.grow gB r1, P1.grow gB⟩
              | true =>
                rw [if_pos rfl] at P1 ⊢
                refine ⟨w3, ρ2, S3, R3, Eσ.grow g3, ?_⟩
                cases q4 : el ρ2 S3 with
                | bad => rw [q4] at P1; exact P1.elim
                | exc x S4 => rw [q4] at P1; exact P1.elim
                | ok yd S4 =>
                  rw [q4] at P1
                  dsimp only at P1
                  intro w4 H4 g4 R4 yv V4
                  obtain ⟨hd4, gB, RB, zB, mB⟩ := fin (g3.trans g4) R4
                  by_cases hl : acc.length < sizeLine
                  · rw [if_pos hl] at P1
                    have r4 : RepVs { w4 with B := w1.B } xs acc := RepVs.grow gB r1
                    refine ⟨xs, hd4, by rw [r1.length]; exact hl, { w4 with B := w1.B }, S4, acc ++ [yd], xs ++ [yv], g1.trans gB, ?_, b1, zB, mB, upd_same, r4.append (.cons (V4.growD (show GrowD w4 { w4 with B := w1.B } from ⟨rfl, Same.refl _, [], by simp⟩)) .nil), P1.grow gB⟩
                    -- the list has grown: nobody's
                    refine ⟨RB.kk, fun b u e => ?_, fun b u e => ?_, RB.bz, RB.len, RB.nd, fun i a c h1 h2 => ?_⟩
                    · have : b ≠ D0 := ne_of_none e b1
                      rw [upd_ne this]; exact RB.bg b u e
                    · have : b ≠ D0 := ne_of_none e zB
                      rw [upd_ne this]; exact RB.same b u e
                    · obtain ⟨za, u, hu, r⟩ := RB.cell i a c h1 h2
                      have : a ≠ D0 := fun e => mB (e ▸ List.mem_of_getElem? h1)
                      exact ⟨za, u, by rw [upd_ne this]; exact hu, r⟩
                  · rw [if_neg hl] at P1
                    exact P1.elim
theorem dts_nil {mg : Gm} : PTs X [] (tDT mg W fun _ => M.pure true) := ⟨fun pins s σ H Q I ⟨w, ρ, S, R, E, P⟩ => pts_nil.run pins s σ H Q I (P w H (Grow.refl w) R)⟩
theorem dts_one {c : Expr} (h : PT X c (tDT X.gm W tb)) : PTs X [c] (tDT X.gm W tb) := pts_one h
theorem de_lc {elt tg iter : Expr} {ifs : List Expr} {scope : Scope} {own : List (Str × Nat)} {pos : Pos} (hc : X.calm = true) (hN : X.N.Nodup) (hi : DI X W tg iter fsrc) (ok : BlkOk X.N X.env.scope scope own)
    (hT : TgC X.gm g t (own.map (·.2))) (hg : ∀ (s : Shared) (H : Hp) (C : Addr) (cl : List (Str × Addr)) (fp : List Addr), PG (X.blk s H scope (compEnvC scope cl C X.env) fp) tg g) (ht : ∀ (s : Shared) (H : Hp) (C : Addr) (cl : List (Str × Addr)) (fp : List Addr), PTs (X.blk s H scope (compEnvC scope cl C X.env) fp) ifs (tDT X.gm Wno tb))
    (he : ∀ (s : Shared) (H : Hp) (C : Addr) (cl : List (Str × Addr)) (fp : List Addr), DE (X.blk s H scope (compEnvC scope cl C X.env) fp) Wno elt el) (hs : ∀ x, foldedSetIterable iter X.env x = pure x := by intro _; rfl) :
    DE X W (.ListComp elt [⟨tg, iter, ifs, 0⟩] scope pos) (eLc fsrc (own.map (·.2)) t tb el) := (pe_lc hc hN hi ok hg ht he hs).imp fun σ H Q h => tLc_of hT h
theorem ds_setLc {i : Nat} {y : Str} {py : Pos} {elt tg iter : Expr} {ifs : List Expr} {scope : Scope} {own : List (Str × Nat)} {pos spos : Pos} (hc : X.calm = true) (hN : X.N.Nodup) (hy : X.N[i]? = some y) (hyl : X.env.scope.names.lookup y = some .local)
    (hsw : swapsWith (.ListComp elt [⟨tg, iter, ifs, 0⟩] scope pos) (some (.Name y py)) spos.line X.env = pure true) (hi : DI X W tg iter fsrc) (ok : BlkOk X.N X.env.scope scope own)
    (hT : TgC X.gm g t (own.map (·.2))) (hg : ∀ (s : Shared) (H : Hp) (C : Addr) (cl : List (Str × Addr)) (fp : List Addr), PG (X.blk s H scope (compEnvC scope cl C X.env) fp) tg g) (ht : ∀ (s : Shared) (H : Hp) (C : Addr) (cl : List (Str × Addr)) (fp : List Addr), PTs (X.blk s H scope (compEnvC scope cl C X.env) fp) ifs (tDT X.gm Wno tb))
    (he : ∀ (s : Shared) (H : Hp) (C : Addr) (cl : List (Str × Addr)) (fp : List Addr), DE (X.blk s H scope (compEnvC scope cl C X.env) fp) Wno elt el) (hs : ∀ x, foldedSetIterable iter X.env x = pure x := by intro _; rfl) :
    DS X W (.Assign [.Name y py] (.ListComp elt [⟨tg, iter, ifs, 0⟩] scope pos) spos) (sSet i (eLc fsrc (own.map (·.2)) t tb el)) := (ps_setLc hc hN hy hyl hsw hi ok hg ht he hs).imp fun En σ H ⟨w, ρ, S, R, E, P⟩ => by
  refine tLc_of (W := W) (fsrc := fsrc) (t := t) (tb := tb) (el := el) hT ?_
  exact stepES R E P fun v w1 H1 S1 d g1 R1 E1 V1 P1 => P1 _ w1 H1 (Grow.refl _) R1 (E1.set i V1)
end
end DL
set_option Elab.async false
set_option linter.all false
set_option maxRecDepth 100000
set_option maxHeartbeats 4000000
namespace DL
open PySem PySem.Spec L2

/-! ### what a def is worth -/
/-- F of the arguments, as data, and of the cells -/
def spD (mg : Gm) (F : List D → M D) : Sp := fun vs H Q E => ∃ w ds S, Rep mg w H S ∧ RepVs w vs ds ∧ Post mg (fun c d _ H => E c d H) [] w Q (F ds S)
abbrev WF (E : XK) : WX := fun c d _ H => E c d H
def finR : RS → R D
  | .nx _ S => .ok (.p .none) S
  | .rt d S => .ok d S
  | .exc x _ S => .exc x S
  | _ => .bad
/-- the slots at the start -/
def slots (N : Nat) (ds : List D) : Sl := ds.map some ++ List.replicate (N - ds.length) none
theorem RepE.start {w : Wd} {N : List Str} : ∀ {vs : List V} {ds : List D}, RepVs w vs ds → RepE w (L2.start N vs) (slots N.length ds) := fun {vs ds} r => by
  have e := r.length
  refine ⟨by simp [L2.start, slots, e], fun i d h => ?_⟩
  unfold slots at h
  by_cases hi : i < ds.length
  · rw [List.getElem?_append_left (by simpa using hi), List.getElem?_map] at h
    cases q : ds[i]? with
    | none => rw [q] at h; cases h
    | some d' =>
      rw [q] at h
      cases h
      obtain ⟨v, h1, h2⟩ := RepVs.get r q
      refine ⟨v, ?_, h2⟩
      unfold L2.start
      rw [List.getElem?_append_left (by simpa [e] using hi), List.getElem?_map, h1]
      rfl
  · rw [List.getElem?_append_right (by simpa using hi)] at h
    have := List.mem_of_getElem? h
    rw [List.mem_replicate] at this
    cases this.2
/-- a def whose body's reading is g, worth F -/
theorem fnd_of {P : Program} {w : World} {K : PySem.W.Frag} {mg : Str → Option Value} {base : Heap} {x qual : Str} {st : Stmt} {f : Addr} {fd : FuncData} {N ps : List Str} {k : Nat} {g : Fs} {F : List D → M D}
    (Fn : Fun K x qual st f fd) (S : FnScope N ps (defScope st))
    (hbody : ∀ (cdv : Value) (A : Around) (outer : List Env) (s : Shared) (H : Hp) (E : XK), Room k (A.deeper (PyProof.Rows.envOfC qual (defScope st) s.heap.objs.size f cdv)) →
      DSs (cxOf (L2.CX P w) P w K mg base N qual (defScope st) f cdv A outer s H E) (WF E) (defBody st) g)
    (hF : ∀ ds S, F ds S ≠ .bad → ds.length = ps.length ∧ finR (g (slots N.length ds) S) = F ds S) : FnOk P w K mg base (L2.CX P w) (k + 1) f fd ps (spD ⟨mg, K⟩ F) := by
  refine Fn.okX S (fun vs H Q E ⟨w, ds, S, R, V, P⟩ => ?_) (fun cdv A outer s H vs Q E hr ⟨w', ds, S', R, V, P⟩ => ⟨_, hbody cdv A outer s H E hr, w', slots N.length ds, S', R, RepE.start V, ?_⟩)
  · have nb : F ds S ≠ .bad := fun e => by rw [e] at P; exact P.elim
    rw [V.length, (hF ds S nb).1]
  · have nb : F ds S' ≠ .bad := fun e => by rw [e] at P; exact P.elim
    have e := (hF ds S' nb).2
    rw [← e] at P
    show PostS ⟨mg, K⟩ (WF E) { nx := fun _ H' => Q .non H', rt := Q } w' (g (slots N.length ds) S')
    cases q : g (slots N.length ds) S' with
    | nx ρ S1 => rw [q] at P; exact fun σ w1 H1 g1 R1 _ => P w1 H1 g1 R1 _ .non
    | rt d S1 => rw [q] at P; exact fun v w1 H1 g1 R1 V1 => P w1 H1 g1 R1 v V1
    | exc x ρ S1 => rw [q] at P; exact fun σ c dx w1 H1 g1 R1 _ X1 => P c dx w1 H1 g1 R1 X1
    | bk ρ S1 => rw [q] at P; exact P.elim
    | ct ρ S1 => rw [q] at P; exact P.elim
    | bad => rw [q] at P; exact P.elim
/-- a weaker worth -/
theorem fnd_imp {P : Program} {w : World} {K : PySem.W.Frag} {mg : Str → Option Value} {base : Heap} {CX : CXT} {f : Addr} {fd : FuncData} {ps : List Str} {k : Nat} {G : Gm} {F F' : List D → M D} (h : FnOk P w K mg base CX k f fd ps (spD G F))
    (hF : ∀ ds S, F' ds S ≠ .bad → F ds S = F' ds S) : FnOk P w K mg base CX k f fd ps (spD G F') := h.imp fun vs H Q E ⟨w', ds, S, R, V, P⟩ => ⟨w', ds, S, R, V, by
  have nb : F' ds S ≠ .bad := fun e => by rw [e] at P; exact P.elim
  rw [hF ds S nb]
  exact P⟩

/-! ### calls of defs -/
section
variable {X : Cx} {W : WX} {e a b c o i : Expr} {f g k : Fe} {pos : Pos} {es rest : List Expr} {fs : Fl} {st : Stmt} {sts : List Stmt} {u v : Fs}
theorem de_call {x : Str} {p : Pos} {lv : Nat} {fa : Addr} {fd : FuncData} {ps : List Str} {F : List D → M D} (Fn : FnOk X.prog X.w X.K X.mg X.base (L2.CX X.prog X.w) lv fa fd ps (spD X.gm F)) (hr : Room lv X.A) (hg : Gl X x) (hm : X.mg x = some (.ref fa)) (hk : PySem.W.keepIn X.K (.ref fa) = true)
    (hb : Binds X.K fd ps []) (tk : Takes X W) (ha : DA X W (e :: es) fs) (hdb : (x == ("__debug__" : Str)) = false := by decide) (he : starEach (e :: es) X.env = (false, eval e X.env) :: starEach es X.env := by rfl) (hpl : (backTo pos (starEach es X.env)).any (·.1) = false := by rfl) :
    DE X W (.Call (.Name x p) (e :: es) [] pos) (eCB F fs) := (pe_callS Fn hr hg hm hk hb (fun σ => passAt tk σ) ha hdb he hpl).imp fun σ H Q ⟨w, ρ, S, R, E, P⟩ =>
  stepA R E P fun vs w1 H1 S1 ds g1 R1 E1 V1 P1 => ⟨w1, ds, S1, R1, V1, by
    cases q : F ds S1 with
    | ok d S2 => rw [q] at P1; exact P1
    | exc x S2 => rw [q] at P1; exact P1
    | bad => rw [q] at P1; exact P1⟩

/-! ### a new instance -/
theorem run_makeS {CX : CXT} {C fi : Addr} {fd : FuncData} {ps : List Str} {lv : Nat} {sp : Sp} {E : XK} {pins : List (Addr × Obj)} {σ : L2.St} {H : Hp} {s : Shared} {Q : VK} {us : List Value} {vs : List V} (M : Mk X.K C fi) (F : FnOk X.prog X.w X.K X.mg X.base CX lv fi fd ps sp) (hr : Room (lv + 1) X.A) (hb : Binds X.K fd ps [])
    (hx : ∀ (pins : List (Addr × Obj)) (H : Hp) (s : Shared) (e : Value) (s' : Shared), Inv X pins σ H s → CX X.stack H s E e s' → X.xe e s') (I : Inv X pins σ H s) (r : Vals vs us)
    (h : ∀ x dx, H x = none → H dx = none → dx ≠ x → sp (.ref x :: vs) (upd (upd H dx (.own x)) x (.ins C dx [])) (fun v H2 => v = .non ∧ Q (.ref x) H2) E) :
    wpAny (model X.prog X.w) X.A (PySem.call (.ref C) us) (EP X pins σ Q) X.xe s := by
  have hq := h (s.heap.objs.size + 1) s.heap.objs.size (I.hok.fresh (Nat.le_succ _)) (I.hok.fresh (Nat.le_refl _)) (Nat.ne_of_lt (Nat.lt_succ_self _))
  have I2 := Inv.made (C := C) I
  have r2 : Vals (V.ref (s.heap.objs.size + 1) :: vs) (Value.ref (s.heap.objs.size + 1) :: us) := .cons rfl r
  have hl : (Value.ref (s.heap.objs.size + 1) :: us ++ []).length = ps.length := by
    have e := r2.length
    rw [F.len _ _ _ _ hq] at e
    rw [List.append_nil]
    exact e.symm
  have b := hb _ (Value.ref (s.heap.objs.size + 1) :: us) I2.kIn hl
  rw [List.append_nil] at b
  refine wpAny_call (make_map (f := fi) I.kIn M.makes M.init (beq_iff_eq.mp M.fn) (codeAny_mono (F.run _ X.stack _ _ ⟨Value.ref (s.heap.objs.size + 1) :: us, []⟩ (Value.ref (s.heap.objs.size + 1) :: us) _ _ E (hr.make C us [])
    (I2.env0.make C us []) b r2 hq) fun r s' hq' => ?_))
  cases r with
  | error e => exact hx pins _ _ e s' I2 hq'
  | ok fl =>
    cases fl with
    | ret u =>
      obtain ⟨v, H', I3, rv, ev, q3⟩ := I2.after hq'
      subst ev
      exact ⟨rv, ⟨V.ref (s.heap.objs.size + 1), H', I3, rfl, q3⟩⟩
    | next => exact False.elim hq'
    | brk => exact False.elim hq'
    | cont => exact False.elim hq'
def tMakeS (C : Addr) (sp : Sp) (E : L2.St → XK) (t : TA) : TE := fun σ H Q => t σ H fun vs H1 => ∀ x dx, H1 x = none → H1 dx = none → dx ≠ x →
  sp (.ref x :: vs) (upd (upd H1 dx (.own x)) x (.ins C dx [])) (fun v H2 => v = .non ∧ Q (.ref x) H2) (E σ)
theorem pe_makeS {CX : CXT} {C fi : Addr} {fd : FuncData} {ps : List Str} {lv : Nat} {sp : Sp} {E : L2.St → XK} {x : Str} {p : Pos} {t : TA} (M : Mk X.K C fi) (F : FnOk X.prog X.w X.K X.mg X.base CX lv fi fd ps sp) (hr : Room (lv + 1) X.A) (hg : Gl X x) (hm : X.mg x = some (.ref C)) (hb : Binds X.K fd ps [])
    (hx : ∀ σ, PassesAt CX X σ (E σ))
    (ha : PA X (e :: es) t) (hdb : (x == ("__debug__" : Str)) = false := by decide) (he : starEach (e :: es) X.env = (false, eval e X.env) :: starEach es X.env := by rfl) (hpl : (backTo pos (starEach es X.env)).any (·.1) = false := by rfl) :
    PE X (.Call (.Name x p) (e :: es) [] pos) (tMakeS C sp E t) := by
  refine ⟨fun pins s σ H Q I h => ?_⟩
  refine wpAny_Call_Name_kw (ld_glob I hg hm ?_ hdb)
  refine PySem.W.callWith_K (h₀ := X.base) I.ok.mod.kin M.kp (thn (ha.run pos pins s σ H _ I h) fun us s1 ⟨vs, H1, I1, r, q⟩ => ⟨I1.kIn, ?_⟩) he hpl
  exact run_makeS M F hr hb (hx σ) I1 r q
def kMake (c : Str) (F : List D → M D) : List D → M D := fun ds S => match F (.o S.length :: ds) (S ++ [.ins c []]) with
  | .ok (.p .none) S' => .ok (.o S.length) S'
  | .exc x S' => .exc x S'
  | _ => .bad
theorem de_make {x : Str} {p : Pos} {C fi : Addr} {lv : Nat} {fd : FuncData} {ps : List Str} {F : List D → M D} (M : Mk X.K C fi) (Fn : FnOk X.prog X.w X.K X.mg X.base (L2.CX X.prog X.w) lv fi fd ps (spD X.gm F)) (hr : Room (lv + 1) X.A) (hg : Gl X x) (hm : X.mg x = some (.ref C))
    (hb : Binds X.K fd ps []) (tk : Takes X W) (ha : DA X W (e :: es) fs) (hdb : (x == ("__debug__" : Str)) = false := by decide) (he : starEach (e :: es) X.env = (false, eval e X.env) :: starEach es X.env := by rfl) (hpl : (backTo pos (starEach es X.env)).any (·.1) = false := by rfl) :
    DE X W (.Call (.Name x p) (e :: es) [] pos) (eCB (kMake x F) fs) := (pe_makeS M Fn hr hg hm hb (fun σ => passAt tk σ) ha hdb he hpl).imp fun σ H Q ⟨w, ρ, S, R, E, P⟩ =>
  stepA R E P fun vs w1 H1 S1 ds g1 R1 E1 V1 P1 y dx hy hdx hne => by
    obtain ⟨R2, b2, z2, m2⟩ := R1.lay (.own y) hdx
    have hy2 : (upd H1 dx (.own y)) y = none := by rw [upd_ne (Ne.symm hne)]; exact hy
    obtain ⟨g3, R3⟩ := R2.newC (o := .ins C dx []) (c := .ins x []) hy2 ⟨hm, .nil⟩
    have ey : RepV (w1.addM y) (.ref y) (.o S1.length) := ⟨y, by show (w1.m ++ [y])[S1.length]? = some y; rw [← R1.len]; simp, rfl⟩
    refine ⟨_, .o S1.length :: ds, S1 ++ [.ins x []], R3, .cons ey (RepVs.grow g3 V1), ?_⟩
    have P1 := P1.grow g3
    unfold kMake at P1
    cases q : F (.o S1.length :: ds) (S1 ++ [.ins x []]) with
    | bad => rw [q] at P1; exact P1.elim
    | exc z S4 => rw [q] at P1; exact P1
    | ok d S4 =>
      rw [q] at P1
      intro w4 H4 g4 R4 v4 V4
      cases d with
      | o i => exact P1.elim
      | s ns => exact P1.elim
      | p d =>
        cases d with
        | none =>
          cases V4.cases_p
          exact ⟨rfl, P1 w4 H4 g4 R4 _ (ey.grow g4)⟩
        | _ => exact P1.elim

/-! ### stores -/
/-- self.m = v -/
def putD (m : Str) (v : D) : List (Str × D) → List (Str × D)
  | [] => [(m, v)]
  | (a, x) :: r => if a = m then (a, v) :: r else (a, x) :: putD m v r
theorem RepF.put {w : Wd} {m : Str} {v : V} {d : D} (rv : RepV w v d) : ∀ {fs : List (Str × V)} {gs : List (Str × D)}, RepF w fs gs → RepF w (putF m v fs) (putD m d gs)
  | _, _, .nil => .cons ⟨rfl, rv⟩ .nil
  | (a, x) :: fs, (b, y) :: gs, .cons ⟨h1, h2⟩ t => by
    have h1 : a = b := h1
    subst h1
    unfold putF putD
    by_cases e : a = m
    · rw [if_pos e, if_pos e]; exact .cons ⟨rfl, rv⟩ t
    · rw [if_neg e, if_neg e]; exact .cons ⟨rfl, h2⟩ (RepF.put rv t)
theorem RepF.length {κ : Type} {w : Wd} {fs : List (κ × V)} {gs : List (κ × D)} (h : RepF w fs gs) : fs.length = gs.length := Paired.length h
def putAt (c m : Str) (x v : D) (S : Store) : Option Store := match x with
  | .o i => (insAt S i).bind fun p => if p.1 = c ∧ p.2.length < 1000 then some (S.set i (.ins c (putD m v p.2))) else none
  | _ => none
def nxO (ρ : Sl) : Option Store → RS
  | some S => .nx ρ S
  | none => .bad
def sFld (c m : Str) (fo fv : Fe) : Fs := fun ρ S => bindS ρ (fv ρ S) fun v S1 => bindS ρ (fo ρ S1) fun x S2 => nxO ρ (putAt c m x v S2)
theorem ds_fld {C : Addr} {c m : Str} {value : Expr} {pos' : Pos} {fv : Fe} (hmc : X.mg c = some (.ref C)) (cl : Cls X.K C) (nm : NoAttr X.K C m) (ho : DE X W o f) (hv : DE X W value fv) (hs : swapsWith value (some (.Attribute o m pos')) pos.line X.env = pure false := by rfl) :
    DS X W (.Assign [.Attribute o m pos'] value pos) (sFld c m f fv) := (ps_fld ho hv hs).imp fun En σ H ⟨w, ρ, S, R, E, P⟩ =>
  stepES R E P fun y w1 H1 S1 dv g1 R1 E1 V1 P1 => stepES R1 E1 P1 fun x w2 H2 S2 d g2 R2 E2 V2 P2 => by
    unfold putAt at P2
    cases d with
    | p d => exact P2.elim
    | s ns => exact P2.elim
    | o i =>
      replace P2 : PostS X.gm W En w2 (nxO ρ ((insAt S2 i).bind fun p => if p.1 = c ∧ p.2.length < 1000 then some (S2.set i (.ins c (putD m dv p.2))) else none)) := P2
      cases q : insAt S2 i with
      | none => rw [q] at P2; exact P2.elim
      | some pr =>
        rw [q] at P2
        dsimp only [Option.bind] at P2
        by_cases hc : pr.1 = c ∧ pr.2.length < 1000
        · rw [if_pos hc] at P2
          obtain ⟨a, ha, rfl⟩ := V2
          obtain ⟨oo, ho, r⟩ := R2.at_ ha (insAt_some q)
          obtain ⟨C', dx, xs, rfl, hmg, rf⟩ := r.ins_inv
          have hmg : X.mg pr.1 = some (.ref C') := hmg
          rw [hc.1, hmc] at hmg
          cases hmg
          exact ⟨a, C, dx, xs, rfl, ho, cl, nm, by rw [rf.length]; exact hc.2, P2 σ w2 _ (Grow.refl _) (R2.setC (o := .ins C dx (putF m y xs)) ha ⟨hmc, RepF.put (V1.grow g2) rf⟩) E2⟩
        · rw [if_neg hc] at P2
          exact P2.elim
/-- xs[i] = v of a list's cell -/
def lstAt (S : Store) (i : Nat) : Option (List D) := S[i]?.bind Cell.lst?
theorem lstAt_some {S : Store} {i : Nat} {ds : List D} (h : lstAt S i = some ds) : S[i]? = some (.lst ds) := by
  obtain ⟨c, h1, h2⟩ := Option.bind_eq_some_iff.mp h
  rw [h1, Cell.lst_eq h2]
def setAt (x i v : D) (S : Store) : Option Store := match x, i with
  | .o a, .p (.int k) => (lstAt S a).bind fun ds => (ixN ds.length k).map fun j => S.set a (.lst (ds.set j v))
  | _, _ => none
def sItem (fo fi fv : Fe) : Fs := fun ρ S => bindS ρ (fv ρ S) fun v S1 => bindS ρ (fo ρ S1) fun x S2 => bindS ρ (fi ρ S2) fun i S3 => nxO ρ (setAt x i v S3)
theorem ds_item {value : Expr} {pos' : Pos} {fv : Fe} (ho : DE X W o f) (hi : DE X W i g) (hv : DE X W value fv)
    (ha : ∀ v, assign (.Subscript o i pos') X.env v = (do
      let ov ← holding [v] (eval o X.env)
      let iv ← holding [v, ov] (eval i X.env)
      standAt pos'
      holding [v, ov, iv] (setItem ov iv v)
      release [v, ov, iv] []) := by intro _; rfl)
    (hs : swapsWithSole [.Subscript o i pos'] value pos.line X.env = pure false := by rfl) (hw : swappedStores [.Subscript o i pos'] value X.env = pure none := by rfl)
    (h1 : (assignEach [.Subscript o i pos'] X.env).map (·.2) = [assign (.Subscript o i pos') X.env] := by rfl) :
    DS X W (.Assign [.Subscript o i pos'] value pos) (sItem f g fv) := (ps_asg hv (pg_sub ho hi set_list ha) hs hw h1).imp fun En σ H ⟨w, ρ, S, R, E, P⟩ =>
  stepES R E P fun y w1 H1 S1 dv g1 R1 E1 V1 P1 => stepES R1 E1 P1 fun x w2 H2 S2 d g2 R2 E2 V2 P2 => stepES R2 E2 P2 fun z w3 H3 S3 di g3 R3 E3 V3 P3 => by
    unfold setAt at P3
    split at P3
    · rename_i a k
      cases V3.cases_p
      obtain ⟨ad, ha, rfl⟩ := V2.grow g3
      cases q : lstAt S3 a with
      | none => rw [q] at P3; exact P3.elim
      | some ds =>
        rw [q] at P3
        dsimp only [Option.bind] at P3
        cases q2 : ixN ds.length k with
        | none => rw [q2] at P3; exact P3.elim
        | some j =>
          rw [q2] at P3
          obtain ⟨oo, ho, r⟩ := R3.at_ ha (lstAt_some q)
          obtain ⟨xs, rfl, r⟩ := r.lst_inv
          exact ⟨ad, xs, k, j, rfl, rfl, ho, by rw [r.length]; exact q2, P3 σ w3 _ (Grow.refl _) (R3.setC (o := .lst (xs.set j y)) ha (RepVs.set (V1.grow (g2.trans g3)) j r)) E3⟩
    · exact P3.elim

/-! ### methods of lists -/
def kIsL : D → M D := fun x S => match x with
  | .o i => if (lstAt S i).isSome = true then .ok x S else .bad
  | _ => .bad
def kApp (x y : D) : M D := fun S => match x with
  | .o i => ofO S (lstAt S i) |> fun r => match r with
    | .ok ds S => if ds.length < sizeLine then .ok (.p .none) (S.set i (.lst (ds ++ [y]))) else .bad
    | _ => .bad
  | _ => .bad
def kPop (x : D) : M D := fun S => match x with
  | .o i => match lstAt S i with
    | some ds => match ds[ds.length - 1]? with
      | some y => .ok y (S.set i (.lst ds.dropLast))
      | none => .bad
    | none => .bad
  | _ => .bad
def eApp (f g : Fe) : Fe := fun ρ => M.bind (f ρ) fun x => M.bind (kIsL x) fun _ => M.bind (g ρ) fun y => kApp x y
def ePop (f : Fe) : Fe := fun ρ => M.bind (f ρ) kPop
theorem mtr_of {id : String} {r : V → List V → Hp → VK → Prop} (h : MtM X id r) : MtR X id r := h
theorem de_app {apos cpos : Pos} (ho : DE X W o f) (ha : DE X W e g)
    (hbase : attributeBase o "append" X.env (eval o X.env) = eval o X.env := by rfl)
    (hfew : ((backTo cpos (starEach [e] X.env)).all (fun x => !x.1) && (backToKw cpos (keywordEach [] X.env)).all (fun x => x.1.isSome)
      && decide (([e] : List Expr).length + ([] : List Keyword).length + (if ([] : List Keyword).isEmpty then 0 else 1) < 30)) = true := by rfl)
    (hline : (apos.endLine == cpos.line) = true := by rfl) (hs : starEach [e] X.env = (false, eval e X.env) :: starEach [] X.env := by rfl) (hplain : (backTo cpos (starEach [] X.env)).any (·.1) = false := by rfl) :
    DE X W (.Call (.Attribute o "append" apos) [e] [] cpos) (eApp f g) :=
  (pe_bm PySem.F.plainAttrs_list PySem.F.slot_list_append PySem.F.type_list_append mt_append ho (pa_cons ha pa_nil hs) hbase hfew hline hs hplain).imp fun σ H Q ⟨w, ρ, S, R, E, P⟩ => by
    refine stepE R E P fun x w1 H1 S1 d g1 R1 E1 V1 P1 => ?_
    have P1 : Post X.gm W σ w1 Q (M.bind (kIsL d) (fun _ => M.bind (g ρ) fun y => kApp d y) S1) := P1
    cases d with
    | p d => exact P1.elim
    | s ns => exact P1.elim
    | o i =>
      rw [M.bind_eq] at P1
      unfold kIsL at P1
      dsimp only at P1
      cases q : lstAt S1 i with
      | none => rw [q] at P1; exact P1.elim
      | some ds =>
        rw [q] at P1
        obtain ⟨a, ha, rfl⟩ := id V1
        obtain ⟨oo, ho, r⟩ := R1.at_ ha (lstAt_some q)
        obtain ⟨xs, rfl, r⟩ := r.lst_inv
        refine ⟨.inl ⟨rfl, _, SqL.of ho⟩, ?_⟩
        have P1 : Post X.gm W σ w1 Q (M.bind (g ρ) (fun y => kApp (.o i) y) S1) := P1
        refine stepE R1 E1 P1 fun y w2 H2 S2 dy g2 R2 E2 V2 P2 => ?_
        unfold kApp at P2
        dsimp only at P2
        cases q2 : lstAt S2 i with
        | none => rw [q2] at P2; exact P2.elim
        | some ds2 =>
          rw [q2] at P2
          have P2 : Post X.gm W σ w2 Q (if ds2.length < sizeLine then .ok (.p .none) (S2.set i (.lst (ds2 ++ [dy]))) else .bad) := P2
          by_cases hl : ds2.length < sizeLine
          · rw [if_pos hl] at P2
            obtain ⟨o2, ho2, r2⟩ := R2.at_ (g2.at ha) (lstAt_some q2)
            obtain ⟨ys, rfl, r2⟩ := r2.lst_inv
            exact ⟨a, ys, y, rfl, rfl, ho2, by rw [r2.length]; exact hl, P2 w2 _ (Grow.refl _) (R2.setC (o := .lst (ys ++ [y])) (g2.at ha) (RepVs.append r2 (.cons V2 .nil))) _ .non⟩
          · rw [if_neg hl] at P2
            exact P2.elim
theorem de_pop {apos cpos : Pos} (ho : DE X W o f) (hbase : attributeBase o "pop" X.env (eval o X.env) = eval o X.env := by rfl) (hline : (apos.endLine == cpos.line) = true := by rfl) :
    DE X W (.Call (.Attribute o "pop" apos) [] [] cpos) (ePop f) := (pe_bm0 PySem.F.plainAttrs_list PySem.F.slot_list_pop PySem.F.type_list_pop mt_pop ho hbase hline).imp fun σ H Q ⟨w, ρ, S, R, E, P⟩ => by
    refine stepE R E P fun x w1 H1 S1 d g1 R1 E1 V1 P1 => ?_
    cases d with
    | p d => exact P1.elim
    | s ns => exact P1.elim
    | o i =>
      unfold kPop at P1
      dsimp only at P1
      cases q : lstAt S1 i with
      | none => rw [q] at P1; exact P1.elim
      | some ds =>
        rw [q] at P1
        dsimp only at P1
        cases q2 : ds[ds.length - 1]? with
        | none => rw [q2] at P1; exact P1.elim
        | some y =>
          rw [q2] at P1
          obtain ⟨a, ha, rfl⟩ := V1
          obtain ⟨oo, ho, r⟩ := R1.at_ ha (lstAt_some q)
          obtain ⟨xs, rfl, r⟩ := r.lst_inv
          obtain ⟨v, h1, h2⟩ := RepVs.get r q2
          exact ⟨.inl ⟨rfl, _, SqL.of ho⟩, a, xs, v, rfl, rfl, ho, by rw [r.length]; exact h1, P1 w1 _ (Grow.refl _) (R1.setC (o := .lst xs.dropLast) ha r.dropLast) _ h2⟩
end
end DL
set_option Elab.async false
set_option linter.all false
set_option maxRecDepth 100000
set_option maxHeartbeats 4000000
namespace DL
open PySem PySem.Spec L2
/-! ### defs by their names -/
/-- the def stands in the module under its name -/
structure DefAt (K : PySem.W.Frag) (mg : Str → Option Value) (x : Str) (st : Stmt) (ps : List Str) : Prop where
  ex : ∃ fa fd, mg x = some (.ref fa) ∧ Fun K x x st fa fd ∧ Binds K fd ps []
/-- .. and what it is worth -/
structure DefOk (P : Program) (w : World) (K : PySem.W.Frag) (mg : Str → Option Value) (base : Heap) (x : Str) (ps : List Str) (lv : Nat) (F : List D → M D) : Prop where
  ex : ∃ fa fd, mg x = some (.ref fa) ∧ PySem.W.keepIn K (.ref fa) = true ∧ Binds K fd ps [] ∧ FnOk P w K mg base (L2.CX P w) lv fa fd ps (spD ⟨mg, K⟩ F)
/-- a method that stands in a class -/
structure MethAt (K : PySem.W.Frag) (C : Addr) (m qual : Str) (st : Stmt) (ps : List Str) : Prop where
  ex : ∃ fa fd, PySem.W.findIn K (.ref C) m = some (some (.ref fa)) ∧ PySem.W.isFn K (.ref fa) = true ∧ Fun K m qual st fa fd ∧ Binds K fd ps []
structure MethOk (P : Program) (w : World) (K : PySem.W.Frag) (mg : Str → Option Value) (base : Heap) (C : Addr) (m : Str) (ps : List Str) (lv : Nat) (F : List D → M D) : Prop where
  ex : ∃ fa fd, PySem.W.findIn K (.ref C) m = some (some (.ref fa)) ∧ PySem.W.isFn K (.ref fa) = true ∧ PySem.W.keepIn K (.ref fa) = true ∧ Binds K fd ps [] ∧ FnOk P w K mg base (L2.CX P w) lv fa fd ps (spD ⟨mg, K⟩ F)
section
variable {P : Program} {w : World} {K : PySem.W.Frag} {mg : Str → Option Value} {base : Heap}
theorem DefOk.imp {x : Str} {ps : List Str} {lv : Nat} {F F' : List D → M D} (h : DefOk P w K mg base x ps lv F) (hF : ∀ ds S, F' ds S ≠ .bad → F ds S = F' ds S) : DefOk P w K mg base x ps lv F' :=
  let ⟨fa, fd, h1, h2, h3, h4⟩ := h.ex
  ⟨fa, fd, h1, h2, h3, fnd_imp h4 hF⟩
theorem DefOk.mono {x : Str} {ps : List Str} {lv lv' : Nat} {F : List D → M D} (h : DefOk P w K mg base x ps lv F) (l : lv ≤ lv') : DefOk P w K mg base x ps lv' F :=
  let ⟨fa, fd, h1, h2, h3, h4⟩ := h.ex
  ⟨fa, fd, h1, h2, h3, h4.mono l⟩
/-- a def is worth what the reading of its body gives -/
def bodyF (n N : Nat) (g : Fs) : List D → M D := fun ds S => if ds.length = n then finR (g (slots N ds) S) else .bad
theorem def_ok {x : Str} {st : Stmt} {N ps : List Str} {k : Nat} {g : Fs} (h : DefAt K mg x st ps) (S : FnScope N ps (defScope st))
    (hbody : ∀ (f : Addr) (cdv : Value) (A : Around) (outer : List Env) (s : Shared) (H : Hp) (E : XK), Room k (A.deeper (PyProof.Rows.envOfC x (defScope st) s.heap.objs.size f cdv)) →
      DSs (cxOf (L2.CX P w) P w K mg base N x (defScope st) f cdv A outer s H E) (WF E) (defBody st) g) : DefOk P w K mg base x ps (k + 1) (bodyF ps.length N.length g) := by
  obtain ⟨fa, fd, h1, h2, h3⟩ := h.ex
  refine ⟨fa, fd, h1, h2.kp, h3, fnd_of h2 S (hbody fa) fun ds S' nb => ?_⟩
  unfold bodyF at nb ⊢
  by_cases e : ds.length = ps.length
  · rw [if_pos e]; exact ⟨e, rfl⟩
  · rw [if_neg e] at nb; exact absurd rfl nb
theorem meth_ok {C : Addr} {m qual : Str} {st : Stmt} {N ps : List Str} {k : Nat} {g : Fs} (h : MethAt K C m qual st ps) (S : FnScope N ps (defScope st))
    (hbody : ∀ (f : Addr) (cdv : Value) (A : Around) (outer : List Env) (s : Shared) (H : Hp) (E : XK), Room k (A.deeper (PyProof.Rows.envOfC qual (defScope st) s.heap.objs.size f cdv)) →
      DSs (cxOf (L2.CX P w) P w K mg base N qual (defScope st) f cdv A outer s H E) (WF E) (defBody st) g) : MethOk P w K mg base C m ps (k + 1) (bodyF ps.length N.length g) := by
  obtain ⟨fa, fd, h1, h1', h2, h3⟩ := h.ex
  refine ⟨fa, fd, h1, h1', h2.kp, h3, fnd_of h2 S (hbody fa) fun ds S' nb => ?_⟩
  unfold bodyF at nb ⊢
  by_cases e : ds.length = ps.length
  · rw [if_pos e]; exact ⟨e, rfl⟩
  · rw [if_neg e] at nb; exact absurd rfl nb
end
theorem hu65 {A : Around} {k : Nat} (hr : Room k A) : A.units + 65 < cLine := by have := hr.un; omega
theorem hu1 {A : Around} {k : Nat} (hr : Room k A) : A.units + 1 < cLine := by have := hr.un; omega
section
variable {X : Cx} {W : WX} {e a b c o i : Expr} {f g k : Fe} {pos : Pos} {es rest : List Expr} {fs : Fl}
theorem de_callD {x : Str} {p : Pos} {lv : Nat} {ps : List Str} {F : List D → M D} (h : DefOk X.prog X.w X.K X.mg X.base x ps lv F) (hr : Room lv X.A) (hg : Gl X x) (tk : Takes X W) (ha : DA X W (e :: es) fs)
    (hdb : (x == ("__debug__" : Str)) = false := by decide) (he : starEach (e :: es) X.env = (false, eval e X.env) :: starEach es X.env := by rfl) (hpl : (backTo pos (starEach es X.env)).any (·.1) = false := by rfl) :
    DE X W (.Call (.Name x p) (e :: es) [] pos) (eCB F fs) :=
  let ⟨_, _, h1, h2, h3, h4⟩ := h.ex
  de_call h4 hr hg h1 h2 h3 tk ha hdb he hpl
/-- what a class must have to be made -/
structure MkC (K : PySem.W.Frag) (C : Addr) : Prop where
  makes : PySem.W.makesIn K C = true
  kp : PySem.W.keepIn K (.ref C) = true
theorem de_makeD {x : Str} {p : Pos} {C : Addr} {lv : Nat} {ps : List Str} {F : List D → M D} (hm : X.mg x = some (.ref C)) (M : MkC X.K C) (h : MethOk X.prog X.w X.K X.mg X.base C "__init__" ps lv F) (hr : Room (lv + 1) X.A) (hg : Gl X x) (tk : Takes X W) (ha : DA X W (e :: es) fs)
    (hdb : (x == ("__debug__" : Str)) = false := by decide) (he : starEach (e :: es) X.env = (false, eval e X.env) :: starEach es X.env := by rfl) (hpl : (backTo pos (starEach es X.env)).any (·.1) = false := by rfl) :
    DE X W (.Call (.Name x p) (e :: es) [] pos) (eCB (kMake x F) fs) :=
  let ⟨_, _, h1, h1', _, h3, h4⟩ := h.ex
  de_make ⟨M.makes, h1, h1', M.kp⟩ h4 hr hg hm h3 tk ha hdb he hpl

/-! ### isinstance against an own class -/
structure IsC (K : PySem.W.Frag) (C : Addr) : Prop where
  cl : Cls K C
  ca : PySem.W.findIn K (.ref C) "__class__" = some (some (.builtin "object.__class__"))
  hn : PySem.W.specialIn K (.builtin "object.__class__") "__get__" = some (some (.builtin "getset_descriptor.__get__"))
  htk : PySem.W.takesIn K (.builtin "object.__class__") = some true
  hm : PySem.W.mroIn K C (.type "object") = some true
  self : PySem.W.kitOne K (.ref C) (.ref C) = some true
  non : PySem.W.kitOne K (.type "NoneType") (.ref C) = some false
  bl : PySem.W.kitOne K (.type "bool") (.ref C) = some false
  int : PySem.W.kitOne K (.type "int") (.ref C) = some false
  str : PySem.W.kitOne K (.type "str") (.ref C) = some false
  lst : PySem.W.kitOne K (.type "list") (.ref C) = some false
  tup : PySem.W.kitOne K (.type "tuple") (.ref C) = some false
def fIsiOwn (c : Str) : D → M D := fun x S => match x with
  | .o i => match insAt S i with
    | some p => if p.1 = c then .ok (.p (.bool true)) S else .bad
    | none => match lstAt S i with
      | some _ => .ok (.p (.bool false)) S
      | none => .bad
  | .p (.dict _) => .bad
  | _ => .ok (.p (.bool false)) S
theorem de_isiOwn {C : Addr} {c : Str} {p p2 : Pos} (hg : Gl X "isinstance") (hm : X.mg "isinstance" = none) (hgc : Gl X c) (hmc : X.mg c = some (.ref C)) (T : IsC X.K C) (ha : DE X W e f)
    (hdT : (c == ("__debug__" : Str)) = false := by decide)
    (he : starEach [e, .Name c p2] X.env = (false, eval e X.env) :: starEach [.Name c p2] X.env := by rfl) (he' : starEach [.Name c p2] X.env = (false, eval (.Name c p2) X.env) :: starEach [] X.env := by rfl) (hpl : (backTo pos (starEach [.Name c p2] X.env)).any (·.1) = false := by rfl) :
    DE X W (.Call (.Name "isinstance" p) [e, .Name c p2] [] pos) (eUn (fIsiOwn c) f) :=
  (pe_callB call_isi hg hm PyProof.Rows.boot_isinstance (pa_cons ha (pa_cons (pe_glob (v := .ref C) hgc hmc rfl hdT) pa_nil he') he) (by decide) (by decide) he hpl).imp fun σ H Q ⟨w, ρ, S, R, E, P⟩ => by
    refine stepE R E P fun x w1 H1 S1 d g1 R1 E1 V1 P1 => ?_
    have fin : ∀ {t : Value} {b : Bool}, TyX X.K H1 x t → PySem.W.kitOne X.K t (.ref C) = some b → Q (.bl b) H1 → rIsi X.K [x, .ref C] H1 Q := fun ty k q => ⟨x, .ref C, _, .ref C, _, rfl, .own C, ty, k, q⟩
    cases d with
    | s ns => exact fin (tyC_ty R1 V1 rfl) T.lst (Post.here R1 P1 (.bl _))
    | p d =>
      cases d with
      | none => exact fin (tyC_ty R1 V1 rfl) T.non (Post.here R1 P1 (.bl _))
      | bool _ => exact fin (tyC_ty R1 V1 rfl) T.bl (Post.here R1 P1 (.bl _))
      | int _ => exact fin (tyC_ty R1 V1 rfl) T.int (Post.here R1 P1 (.bl _))
      | str _ => exact fin (tyC_ty R1 V1 rfl) T.str (Post.here R1 P1 (.bl _))
      | list _ => exact fin (tyC_ty R1 V1 rfl) T.lst (Post.here R1 P1 (.bl _))
      | tuple _ => exact fin (tyC_ty R1 V1 rfl) T.tup (Post.here R1 P1 (.bl _))
      | dict _ => exact P1.elim
    | o i =>
      unfold fIsiOwn at P1
      dsimp only at P1
      cases q : insAt S1 i with
      | some pr =>
        rw [q] at P1
        dsimp only at P1
        by_cases hc : pr.1 = c
        · rw [if_pos hc] at P1
          obtain ⟨a, ha, rfl⟩ := id V1
          obtain ⟨oo, ho, r⟩ := R1.at_ ha (insAt_some q)
          obtain ⟨C', dx, xs, rfl, hmg, rf⟩ := r.ins_inv
          have hmg : X.mg pr.1 = some (.ref C') := hmg
          rw [hc, hmc] at hmg
          cases hmg
          exact fin (.base (.ins ho T.cl T.ca T.hn T.htk T.hm)) T.self (Post.here R1 P1 (.bl _))
        · rw [if_neg hc] at P1; exact P1.elim
      | none =>
        rw [q] at P1
        dsimp only at P1
        cases q2 : lstAt S1 i with
        | none => rw [q2] at P1; exact P1.elim
        | some ds =>
          rw [q2] at P1
          have e : tyC S1 (.o i) = some "list" := by
            show S1[i]?.bind Cell.ty? = some "list"
            rw [lstAt_some q2]; rfl
          exact fin (tyC_ty R1 V1 e) T.lst (Post.here R1 P1 (.bl _))

/-! ### zip of two lists or of two tuples -/
def isTupD : D → Bool
  | .p (.tuple _) => true
  | _ => false
def ofZip : List D → M SrcV
  | [x, y] => fun S => if (seqItems S x).isSome = true ∧ (seqItems S y).isSome = true ∧ isTupD x = isTupD y then .ok (.zip x y) S else .bad
  | _ => M.bad
def srcZip (f g : Fe) : Fsrc := fun ρ => M.bind (aCons f (aCons g aNil) ρ) ofZip
end
end DL
set_option Elab.async false
set_option linter.all false
set_option maxRecDepth 100000
set_option maxHeartbeats 4000000
namespace DL
open PySem PySem.Spec PySem.W PySem.Calls PySem.HandSPX
/-! ### an error class of the program: its __init__ says super().__init__(a text), then keeps its argument -/
def xA (a : Str) (p1 p2 : Pos) : Arguments := { posonlyargs := [], args := [{ arg := "self", annotation := none, pos := p1 }, { arg := a, annotation := none, pos := p2 }], vararg := none, kwonlyargs := [], kw_defaults := [], kwarg := none, defaults := [] }
def xB (a m : Str) (q1 q2 q3 q4 q5 q6 r1 r2 r3 r4 : Pos) (j : Nat) : List Stmt := [.Expr (.Call (.Attribute (.Call (.Name "super" q1) [] [] q2) "__init__" q3) [.Constant (.str m) j q4] [] q5) q6, .Assign [.Attribute (.Name "self" r1) a r2] (.Name a r3) r4]
def xS (a : Str) : Scope := { kind := .function, names := [(PySem.Str.ofString "self", .local), (a, .local), (PySem.Str.ofString "__class__", .free), (PySem.Str.ofString "super", .globalImplicit)], isGenerator := false, isCoroutine := false, more := [] }
theorem super_form {q1 q2 q3 q4 q5 : Pos} {m : Str} {j : Nat} {env : Env} (hp : (q3.endLine == q5.line) = true) : eval (.Call (.Attribute (.Call (.Name "super" q1) [] [] q2) "__init__" q3) [.Constant (.str m) j q4] [] q5) env = (do
      let ov ← attributeBase (.Call (.Name "super" q1) [] [] q2) "__init__" env (eval (.Call (.Name "super" q1) [] [] q2) env)
      standAt q3.atName
      let (f, first) ← holding [ov] (getMethod ov "__init__" (do return (← importBound (.Call (.Name "super" q1) [] [] q2) env).getD true))
      callWith q5 f first (backTo q5 (starEach [.Constant (.str m) j q4] env)) []) := by
  have h : eval (.Call (.Attribute (.Call (.Name "super" q1) [] [] q2) "__init__" q3) [.Constant (.str m) j q4] [] q5) env = (do
      let ov ← attributeBase (.Call (.Name "super" q1) [] [] q2) "__init__" env (eval (.Call (.Name "super" q1) [] [] q2) env)
      standAt q3.atName
      methodCall (.Call (.Name "super" q1) [] [] q2) "__init__" q3 q5 env ov 1 (backTo q5 (starEach [.Constant (.str m) j q4] env)) []) := rfl
  rw [h]
  have hf : methodCallForm 1 (backTo q5 (starEach [.Constant (.str m) j q4] env)) [] = true := rfl
  simp only [methodCall, hf, calleeOf, methodCallPos, hp, Bool.not_true, Bool.false_or, if_true]
  rfl
/-- what stands of such a class at C, its __init__ at fI -/
structure ErrC (P : Program) (K : Frag) (mg : Str → Option Value) (a : Str) (C fI : Addr) : Prop where
  cls : ∃ nm q N bs bm sn sub ab col dd k0 k1 k2 k3 k5, K.lookup C = some (excClassObj nm q C N bs bm true sn sub ab col dd k0 k1 k2 k3 k5 "ValueError.__new__") ∧ refsVE bm = true
  sa : findIn K (.ref C) "__setattr__" = some (some (.builtin "object.__setattr__"))
  ga : findIn K (.ref C) "__getattribute__" = some (some (.builtin "BaseException.__getattribute__"))
  gg : findIn K (.ref C) "__getattr__" = some none
  noN : findIn K (.ref C) a = some none
  iC : findIn K (.ref C) "__init__" = some (some (.ref fI))
  tC : typeIn K (.ref fI) = some (.type "function")
  kC : keepIn K (.ref C) = true
  exC : subIn K (.ref C) (.type "BaseException") = some true
  tyC : typeIn K (.ref C) = some (.type "type")
  hdC : hasDictIn K C = true
  te : exmOne K (.ref C) (.ref C) = some true
  sup : ks_superIn K C C "__init__" = some (some (.builtin "ValueError.__init__"))
  sv : subIn K (.ref C) (.type "ValueError") = some true
  op : nsIn K cStatics "thirdparty.any" = some none
  sub : mroIn K C (.ref C) = some true
  nsup : mg "super" = none
  top : (P.main.scope.names.lookup ("super" : Str)).isSome = false
  fn : ∃ (oc : Value) (od : Option Addr) (qual m : Str) (doc pm ct ccl cl : Value) (an cdd cld : Option Addr) (osl ccs csl : Array (Option Value)) (cda cc : Addr) (vs : Array Value) (file : Str) (tf : Tok) (p1 p2 q1 q2 q3 q4 q5 q6 r1 r2 r3 r4 : Pos) (j : Nat),
    K.lookup fI = some ⟨oc, od, .func (ksFn "__init__" qual (xA a p1 p2) (xB a m q1 q2 q3 q4 q5 q6 r1 r2 r3 r4 j) (xS a) .none .none doc pm an (.ref cda) ct cc), osl⟩ ∧ codeIn K (.ref cda) qual = true ∧
    K.lookup cda = some ⟨ccl, cdd, .fields vs, ccs⟩ ∧ vs[2]? = some (.str file tf) ∧ ((P.main.file : Str) == file) = true ∧ (q3.endLine == q5.line) = true ∧ K.lookup cc = some ⟨cl, cld, .cell (some (.ref C)), csl⟩
/-- the attribute's name is a plain one -/
structure PlainA (a : Str) : Prop where
  bd : ∀ (s : Shared) (qual : Str) (b : List Stmt) (doc pm : Value) (an : Option Addr) (cd ct cc : _) (p1 p2 : Pos) (x v : Value), BindsTo s (ksFn "__init__" qual (xA a p1 p2) b (xS a) .none .none doc pm an cd ct cc) ⟨[x, v], []⟩ [("self", x), (a, v)]
  la : (xS a).names.lookup a = some .local
  lsup : (xS a).names.lookup ("super" : Str) = some .globalImplicit
  lcls : (xS a).names.lookup ("__class__" : Str) = some .free
  lself : (xS a).names.lookup ("self" : Str) = some .local
  ns : ¬ a = ("self" : Str)
  nd : (a == ("__debug__" : Str)) = false
theorem plain_value : PlainA "value" := ⟨fun _ _ _ _ _ _ _ _ _ _ _ _ _ => BindsTo.of_eq (by first | rfl | with_unfolding_all rfl), by decide +kernel, by decide +kernel, by decide +kernel, by decide +kernel, by decide +kernel, by decide +kernel⟩
theorem plain_what : PlainA "what" := ⟨fun _ _ _ _ _ _ _ _ _ _ _ _ _ => BindsTo.of_eq (by first | rfl | with_unfolding_all rfl), by decide +kernel, by decide +kernel, by decide +kernel, by decide +kernel, by decide +kernel, by decide +kernel⟩
theorem plain_word : PlainA "word" := ⟨fun _ _ _ _ _ _ _ _ _ _ _ _ _ => BindsTo.of_eq (by first | rfl | with_unfolding_all rfl), by decide +kernel, by decide +kernel, by decide +kernel, by decide +kernel, by decide +kernel, by decide +kernel⟩
/-- what __init__ leaves of a fresh exception at x -/
structure XEnd (h h' : Heap) (x C dx t1 : Addr) (a : Str) (v : Value) : Prop where
  keep : ∀ b o, b ≠ x → h.get? b = some o → h'.get? b = some o
  obj : h'.get? x = some { cls := .ref C, dict := some dx, data := .fields #[.ref t1, .none, .none, .none, .bool false, .none] }
  dbig : h.objs.size ≤ dx
  dne : dx ≠ x
  ns : h'.Ns1 dx (fun y => if y = a then some v else none)
section
variable {prog : Program} {w : World} {A : Around} {E : Value → Shared → Prop} {R : Result → Shared → Prop} {s : Shared} {K : Frag} {mg : Str → Option Value} {C fI : Addr} {a : Str}
/-- the bound built-in __init__ called -/
theorem call_mw {B i newId : String} {bmB : List Value} {h : Heap} {g : Array GenState} {d : Drawn} {t : Nat} {os : OsState} {u x t0 : Addr} {rest : List Value} {Q : Value → Shared → Prop} (FB : ExcBaseFacts B newId i bmB)
    {nm q : Str} {N : Addr} {bs bm : List Value} {hdct : Bool} {sn : List Str} {sub : List Value} {ab : Bool} {col : Option Bool} {dd : Option Addr} {k0 k1 k2 k3 k5 : Option Value}
    (hC : h.get? C = some (excClassObj nm q C N bs bm hdct sn sub ab col dd k0 k1 k2 k3 k5 newId)) (hu : h.get? u = some (kxs_mw i x)) (he : h.get? x = some (excO C t0)) (hz : rest.length ≤ sizeLine)
    (fin : ∀ h', (∀ b o, b ≠ x → h.get? b = some o → h'.get? b = some o) → h'.get? x = some (excO C h.objs.size) → Q .none ⟨h', g, d, t, os⟩) : wpAny (model prog w) A (PySem.call (.ref u) rest) Q E ⟨h, g, d, t, os⟩ := by
  refine wpAny_call (codeAny_of_tree ?_)
  show wpAny _ A.in1 (callAny (.ref u) ⟨rest, []⟩) _ _ _
  simp only [callAny]
  refine wpAny_bind (wpAny_load hu ?_)
  simp only [kxs_mw, show (Value.type "method-wrapper" == Value.type "method" || Value.type "method-wrapper" == Value.type "builtin_function_or_method" || Value.type "method-wrapper" == Value.type "method-wrapper") = true by decide, if_true]
  refine KFB.if_so (by decide) ?_
  refine wpAny_bind (check_bound_init FB.toExcCallFacts hC he rfl ?_)
  refine wpAny_bind (wpAny_pure (wpAny_pure ?_))
  refine ⟨plainId_quiet FB.init.plain _, codeAny_builtin FB.initEntry ?_⟩
  exact exc_init_tree (cls := .ref C) (t0 := t0) (dv := none) (c2 := .none) (c3 := .none) (b4 := .bool false) he hz fun h' k e _ => fin h' k e
theorem err_init (T : ErrC prog K mg a C fI) (PA : PlainA a) {x t0 : Addr} {v : Value} (X : K.In s.heap) (hgl : s.heap.Ns mainGlobals mg) {mb : Str → Option Value} (hbl : s.heap.Ns builtinsNs mb) (hbs : mb "super" = some (.type "super")) (hlim : s.heap.NoLimit) (hx : s.heap.get? x = some (excO C t0)) (hnx : K.lookup x = none) (hroom : A.depth < recursionLimit)
    (hq : ∀ h' tk dx t1, XEnd s.heap h' x C dx t1 a v → R (.ok (.ret .none)) { s with heap := h', toks := tk }) :
    codeAny (model prog w) A (.call (.ref fI) ⟨[.ref x, v], []⟩) R s := by
  obtain ⟨oc, od, qual, m, doc, pm, ct, ccl, cl, an, cdd, cld, osl, ccs, csl, cda, cc, vs, file, tf, p1, p2, q1, q2, q3, q4, q5, q6, r1, r2, r3, r4, j, ho, hcd, hcode, hvs, hfile, hpos, hcell⟩ := T.fn
  obtain ⟨nm, q, N, bs, bm, sn, sub, ab, col, dd, k0, k1, k2, k3, k5, hC, hbm⟩ := T.cls
  have hcl : clsIn K C = some { name := nm, bases := bs, mro := .ref C :: bm, ns := N, qualname := q, hasDict := true, slotNames := sn, subclasses := sub, abstract := ab, collection := col, hasDel := false } := by unfold clsIn; rw [hC] <;> rfl
  refine ks_codeAny_call_defAt (fd := ksFn "__init__" qual (xA a p1 p2) (xB a m q1 q2 q3 q4 q5 q6 r1 r2 r3 r4 j) (xS a) .none .none doc pm an (.ref cda) ct cc) (body := xB a m q1 q2 q3 q4 q5 q6 r1 r2 r3 r4 j) (binds := [("self", .ref x), (a, v)]) hroom (X _ _ ho) rfl hlim (codeRec_of X hcd) rfl
    (PA.bd _ _ _ _ _ _ _ _ _ _ _ _ _) ?_ ?_ (fun h₁ hns hk₁ => ?_) rfl rfl rfl
  · intro y hy
    have hy : y ∈ [(PySem.Str.ofString "self", NameKind.local), (a, .local), (PySem.Str.ofString "__class__", .free), (PySem.Str.ofString "super", .globalImplicit)] := hy
    simp only [List.mem_cons, List.not_mem_nil, or_false] at hy
    rcases hy with rfl | rfl | rfl | rfl <;> (intro z; cases z)
  · intro y hy
    simp only [List.mem_cons, List.not_mem_nil, or_false] at hy
    rcases hy with rfl | rfl
    · exact PA.lself
    · exact PA.la
  · have X₁ : K.In h₁ := X.keeps hk₁
    have hx₁ := hk₁ _ _ hx
    have hnx₁ : x ≠ s.heap.objs.size := Nat.ne_of_lt (Heap.lt_size hx)
    obtain ⟨hp, g, d, t, os⟩ := s
    show wpAt (model prog w) (A.deeper (ksEnv qual (xS a) hp.objs.size fI (.ref cda) cc)) (.func _ (ksEnv qual (xS a) hp.objs.size fI (.ref cda) cc)) (execs (xB a m q1 q2 q3 q4 q5 q6 r1 r2 r3 r4 j) (ksEnv qual (xS a) hp.objs.size fI (.ref cda) cc)) _ _ _
    unfold xB
    refine ks_wpAt_execs_cons (ks_wpAt_Expr_any ?_)
    refine ks_wpAt_MethodCall ?_ (super_form hpos)
    refine ks_wpAt_super_base (env := ksEnv qual (xS a) hp.objs.size fI (.ref cda) cc) PA.lsup PA.lcls (by decide +kernel) rfl (X₁ _ _ ho) rfl rfl rfl (X₁ _ _ hcode) rfl hvs hfile T.top ?_
    refine ks_loadName_global rfl PA.lsup (loadGlobal_builtin (env := ksEnv qual (xS a) hp.objs.size fI (.ref cda) cc) (hgl.keeps hk₁) T.nsup (hbl.keeps hk₁) hbs ⟨rfl, ?_⟩)
    refine wpAny_loadName_free rfl PA.lcls rfl ⟨_, X₁ _ _ hcell, rfl⟩ ?_
    have vself : ([("self", Value.ref x), (a, v)] : List (Str × Value)).reverse.lookup ("self" : Str) = some (.ref x) := by
      show List.lookup (Str.ofString "self") [(a, v), (Str.ofString "self", Value.ref x)] = _
      have : ((Str.ofString "self") == a) = false := by
        have := PA.ns
        simp only [beq_eq_false_iff_ne, ne_eq]
        exact fun z => this z.symm
      simp [List.lookup, this]
    have va : ([("self", Value.ref x), (a, v)] : List (Str × Value)).reverse.lookup a = some v := by
      show List.lookup a [(a, v), (Str.ofString "self", Value.ref x)] = _
      simp [List.lookup]
    refine wpAny_loadName_local rfl PA.lself hns (v := .ref x) vself ?_
    refine ks_wpAny_isType_cls (X₁ _ _ hC) rfl ⟨rfl, ?_⟩
    refine ks_wpAny_call_super (X₁ _ _ hC) rfl hx₁ rfl (fun c e => by cases e) (looks_mroIn X₁ T.sub) (fun h2 e2 k2 => ?_)
    have X2 : K.In h2 := X₁.keeps k2
    have hx2 := k2 _ _ hx₁
    have I2 : InstAt h2 x (excO C t0) C none := ⟨hx2, rfl, rfl, trivial⟩
    have xC : x ≠ C := fun z => by rw [z, hC] at hnx; cases hnx
    refine kxs_getMethod kxs_ValueError (K := K) (D := C) (x := x) (C := C) e2 (looks_opaque X2 T.op) (l₀ := .ref C :: bm) ((looks_clsIn X2 hcl).andThen .now) rfl X2 ?_ (I2.type.andThen (looks_subIn X2 T.sv)) xC (by decide +kernel) ?_
    · have z := T.sup
      unfold ks_superIn at z
      rw [hcl] at z
      exact z
    have up : ∀ b o, h2.get? b = some o → (h2.push (kxs_mw "ValueError.__init__" x)).get? b = some o := fun b o e => Heap.get?_push_of_some _ e
    refine kxs_callWith (i := "ValueError.__init__") (x := x) rfl (evalArgs_plain ?_)
    refine Calls.spliced_cons (wpAny_Constant_str (k := j) (pos := q4) ?_)
    refine Calls.spliced_nil ?_
    refine ⟨Heap.get?_push_at rfl rfl, ?_⟩
    refine call_mw F.excBase_ValueError (up _ _ (k2 _ _ (hk₁ _ _ (X _ _ hC)))) (Heap.get?_push_at rfl rfl) (up _ _ hx2) (by rw [sizeLine_eq]; exact (by decide : 1 ≤ 16777216)) fun h3 k3 x3 => ?_
    have k3' : ∀ b o, b ≠ x → h₁.get? b = some o → h3.get? b = some o := fun b o hb e => k3 b o hb (up _ _ (k2 _ _ e))
    have X3 : K.In h3 := fun b o e => k3' b o (fun z => by rw [z, hnx] at e; cases e) (X₁ _ _ e)
    have hn3 : h3.Ns hp.objs.size (fun y => ([("self", Value.ref x), (a, v)] : List (Str × Value)).reverse.lookup y) := by
      obtain ⟨oL, es, ep, hL, r⟩ := hns
      exact ⟨oL, es, ep, k3' _ _ (Ne.symm hnx₁) hL, r⟩
    refine ks_wpAt_execs_cons (wpAt_of_wpAny (plainObj_wpAny_Assign_Attribute ?_))
    refine wpAny_Name (wpAny_loadName_local rfl PA.la hn3 va (wpAny_Name (wpAny_loadName_local rfl PA.lself hn3 vself ?_) (by decide +kernel))) PA.nd
    refine set_plain X3 (ox := excO C _) (od := none) ⟨x3, rfl, rfl, trivial⟩ T.sa ?_
    refine exc_osa X3 x3 hcl (show refsVE (.ref C :: bm) = true from hbm) rfl T.noN (fun h4 tk4 dx k4 dn dne hx4 hn4 => ?_)
    refine wpAt_of_wpAny ?_
    show wpAny _ _ (execs [] _) _ _ _
    have z : hp.objs.size < h3.objs.size := hn3.lt
    exact wpAny_execs_nil (hq h4 tk4 dx _ ⟨fun b o hb e => k4 b o hb (k3' b o hb (hk₁ b o e)), hx4, Nat.le_of_lt (Nat.lt_of_lt_of_le z dn), dne, hn4⟩)
end
end DL
set_option Elab.async false
set_option linter.all false
set_option maxRecDepth 100000
set_option maxHeartbeats 4000000
namespace DL
open PySem PySem.Spec PySem.W PySem.Calls PySem.HandSPX PyProof.Rows
/-- a made error -/
structure ErrMade (h h' : Heap) (e C d : Addr) (a : Str) (v : Value) : Prop where
  keep : ∀ b o, h.get? b = some o → h'.get? b = some o
  new : h.objs.size ≤ e
  obj : ∃ oe vs, h'.get? e = some oe ∧ oe.cls = .ref C ∧ oe.dict = some d ∧ oe.data = .fields vs ∧ vs[1]? = some .none
  dbig : h.objs.size ≤ d
  dne : d ≠ e
  ns : h'.Ns1 d (fun y => if y = a then some v else none)
section
variable {prog : Program} {w : World} {A : Around} {E : Value → Shared → Prop} {R : Result → Shared → Prop} {s : Shared} {K : Frag} {mg : Str → Option Value} {C fI : Addr} {a : Str}
theorem err_made (T : ErrC prog K mg a C fI) (PA : PlainA a) {v : Value} (X : K.In s.heap) (hgl : s.heap.Ns mainGlobals mg) {mb : Str → Option Value} (hbl : s.heap.Ns builtinsNs mb) (hbs : mb "super" = some (.type "super")) (hlim : s.heap.NoLimit) (hroom : A.depth + 1 < recursionLimit)
    (hq : ∀ h' tk e d, ErrMade s.heap h' e C d a v → R (.ok (.ret (.ref e))) { s with heap := h', toks := tk }) :
    codeAny (model prog w) A (.call (.ref C) ⟨[v], []⟩) R s := by
  obtain ⟨nm, q, N, bs, bm, sn, sub, ab, col, dd, k0, k1, k2, k3, k5, hC, hbm⟩ := T.cls
  obtain ⟨hp, g, dr, tk, os⟩ := s
  have k : ∀ b o, hp.get? b = some o → ((hp.push (kdv_tup [v])).push (excO C hp.objs.size)).get? b = some o := fun b o e => Heap.get?_push_of_some _ (Heap.get?_push_of_some _ e)
  have hget : ((hp.push (kdv_tup [v])).push (excO C hp.objs.size)).get? (hp.objs.size + 1) = some (excO C hp.objs.size) := by heap_get
  have hnx : K.lookup (hp.objs.size + 1) = none := by
    cases e : K.lookup (hp.objs.size + 1) with
    | none => rfl
    | some o =>
      have z : hp.get? (hp.objs.size + 1) = some o := X _ _ e
      exact absurd (Nat.lt_of_succ_lt (Heap.lt_size z)) (Nat.lt_irrefl _)
  refine call_own F.excBase_ValueError (fun X => refsVE_contains X bm hbm) (X _ _ hC) (looks_findIn X T.iC) (fun self => bind_fn X self T.tC) (by rw [sizeLine_eq]; exact (by decide : 1 ≤ 16777216)) ?_
  refine err_init (s := ⟨(hp.push (kdv_tup [v])).push (excO C hp.objs.size), g, dr, tk, os⟩) T PA (X.keeps k) (hgl.keeps k) (hbl.keeps k) hbs (hlim.keeps k) hget hnx ?_ fun h' tk' dx t1 ⟨k', hx, dn, dne, hns⟩ => ?_
  · show A.depth + 1 < recursionLimit
    exact hroom
  · have old : ∀ b o, hp.get? b = some o → h'.get? b = some o := fun b o e => k' b o (Nat.ne_of_lt (Nat.lt_succ_of_lt (Heap.lt_size e))) (k b o e)
    have z : hp.objs.size + 1 + 1 ≤ dx := by
      first
        | (simpa only [Heap.size_push] using dn)
        | exact dn
        | (have q := dn; rw [Heap.size_push, Heap.size_push] at q; exact q)
    exact ⟨rfl, hq h' tk' (hp.objs.size + 1) dx ⟨old, Nat.le_succ _, ⟨_, _, hx, rfl, rfl, rfl, rfl⟩, Nat.le_trans (Nat.le_trans (Nat.le_succ _) (Nat.le_succ _)) z, dne, hns⟩⟩
end
end DL
namespace DL
open PySem PySem.Spec L2 PyProof.Rows
theorem relO_err {a : Str} {v : V} {v' : Value} (r : RelV v v') (f : Str) : RelO (List.lookup f [(a, v)]) (if f = a then some v' else none) := by
  by_cases hw : f = a
  · subst hw
    rw [if_pos rfl]
    have q : List.lookup f [(f, v)] = some v := by simp [List.lookup]
    rw [q]
    exact r
  · rw [if_neg hw]
    have qw : (f == a) = false := by simpa using hw
    have q2 : List.lookup f [(a, v)] = none := by simp [List.lookup, qw]
    rw [q2]
    trivial
structure ErrTxt (P : Program) (K : PySem.W.Frag) (mg : Str → Option Value) (c a : Str) : Prop where
  at_ : ∃ C fI, mg c = some (.ref C) ∧ ErrC P K mg a C fI
  pl : PlainA a
  nd : (c == ("__debug__" : Str)) = false
section
variable {X : Cx} {W : WX} {c a : Str}
/-- c(e), raised -/
def tMkErr (C : Addr) (a : Str) (ta : TA) : L2.St → Hp → XK → Prop := fun σ H Q => ta σ H fun vs H1 => ∃ v, vs = [v] ∧ ∀ d, H1 d = none → Q (.ref C) (some d) (upd H1 d (.xd [(a, v)]))
theorem pmk_err {e : Expr} {ta : TA} {p pos : Pos} {k : Nat} {C fI : Addr} (T : ErrC X.prog X.K X.mg a C fI) (hc : X.mg c = some (.ref C)) (PA' : PlainA a) (hd : (c == ("__debug__" : Str)) = false) (hr : Room k X.A) (ha : PA X [e] ta) (hg : Gl X c)
    (he : starEach (e :: []) X.env = (false, eval e X.env) :: starEach [] X.env := by rfl) (hpl : (backTo pos (starEach [] X.env)).any (·.1) = false := by rfl) :
    PMk X (.Call (.Name c p) [e] [] pos) (tMkErr C a ta) := by
  intro pins s σ H Q I h
  refine wpAny_Call_Name_kw (ld_glob I hg hc ?_ hd)
  refine PySem.W.callWith_K (h₀ := X.base) I.ok.mod.kin T.kC (thn (ha.run pos pins s σ H _ I h) fun us s1 hh => ?_) he hpl
  obtain ⟨vs, H1, I1, r1, v, ev, q1⟩ := hh
  subst ev
  refine ⟨I1.kIn, ?_⟩
  cases r1 with
  | cons rv rn =>
    rename_i v' us'
    cases rn
    show wpAny _ _ (call (.ref C) [v']) _ _ _
    have hlim := I1.nolimit
    obtain ⟨mb, hb1, hb2⟩ := I1.mod.blt
    have hgl := I1.mod.glob.keeps I1.bk
    have hbl := hb1.keeps I1.bk
    have hbs : mb "super" = some (.type "super") := (hb2 _ (by decide +kernel)).trans (by first | boot_by_name | rfl | kernel_rfl)
    obtain ⟨hp, g, dr, tk, os⟩ := s1
    refine wpAny_call (err_made T PA' I1.kIn hgl hbl hbs hlim (by have := hr.dp; omega) fun h' tk' e d M => ?_)
    show MkP X pins σ Q (.ref e) ⟨h', g, dr, tk', os⟩
    obtain ⟨oe, fv, hoe, hcl, hd', hdat, h1⟩ := M.obj
    have hns := M.ns
    obtain ⟨G', g1, g2⟩ := restrict h' fun b => decide (b ≠ e)
    have gk : ∀ b, b ≠ e → G'.get? b = h'.get? b := fun b hb => g1 b (decide_eq_true hb)
    have ge : G'.get? e = none := g2 e (by simp)
    have old : ∀ b o, hp.get? b = some o → G'.get? b = some o := fun b o q => (gk b (Nat.ne_of_lt (Nat.lt_of_lt_of_le (Heap.lt_size q) M.new))).trans (M.keep b o q)
    have ob : ObjOk X.prog X.w (upd H1 d (.xd [(a, v)])) G' d (.xd [(a, v)]) :=
      ⟨_, hns.at (fun o q => (gk d M.dne).trans q), fun f => relO_err rv f⟩
    have J : Inv X pins σ (upd H1 d (.xd [(a, v)])) ⟨G', g, dr, tk', os⟩ := I1.laid (t' := tk') old M.dbig ob
    refine ⟨e, oe, fv, ⟨G', g, dr, tk', os⟩, _, .ref C, some d, rfl, J, fun b o q => ?_, ge, hoe, ⟨hcl, hd'⟩, hdat, h1, ?_, rfl, I1.bare, raises_own T.exC T.tyC, q1 d (I1.hok.fresh M.dbig)⟩
    · by_cases hb : b = e
      · have q' : G'.get? b = some o := q
        rw [hb, ge] at q'; cases q'
      · exact (gk b hb).symm.trans q
    · rw [upd_ne (Ne.symm M.dne)]
      exact I1.hok.fresh M.new
def sRaise (c a : Str) (f : Fe) : Fs := fun ρ S => bindS ρ (f ρ S) fun d S' => .exc ⟨c, [(a, d)]⟩ ρ S'
theorem ds_raise {e : Expr} {f : Fe} {p pos pos2 : Pos} {k : Nat} (hcalm : X.calm = true) (T : ErrTxt X.prog X.K X.mg c a) (hr : Room k X.A) (tk : Takes X W) (he : DE X W e f) (hg : Gl X c := by rfl)
    (hs : starEach (e :: []) X.env = (false, eval e X.env) :: starEach [] X.env := by rfl) (hpl : (backTo pos (starEach [] X.env)).any (·.1) = false := by rfl) :
    DS X W (.Raise (some (.Call (.Name c p) [e] [] pos)) none pos2) (sRaise c a f) := by
  obtain ⟨C, fI, hc, T'⟩ := T.at_
  refine (ps_raise hcalm tk (pmk_err T' hc T.pl T.nd hr (pa_cons he pa_nil hs) hg hs hpl)).imp fun E σ H ⟨w, ρ, S, R, e, P⟩ => ?_
  refine stepES R e P fun v w1 H1 S1 d g1 R1 E1 V1 P1 => ?_
  refine ⟨v, rfl, fun dx hdx => ?_⟩
  obtain ⟨g2, R2⟩ := R1.newP (.xd [(a, v)]) hdx
  exact P1 σ (.ref C) dx _ _ g2 R2 (E1.grow g2) ⟨C, _, hc, rfl, upd_same, .cons ⟨rfl, V1.grow g2⟩ .nil⟩
end
end DL
set_option Elab.async false
set_option linter.all false
set_option maxRecDepth 100000
set_option maxHeartbeats 4000000
/-! a try with several clauses 'except X as n' -/
namespace DL
open PySem PySem.Spec L2 PyProof.Rows
abbrev SuiteT := Addr → Value → Option Addr → TS
/-- the ends of a clause: its name is gone -/
def goneAt (i : Nat) (D : Ends) : Ends := { nx := fun τ G => D.nx (τ.set i none) G, rt := D.rt, bk := fun τ G => D.bk (τ.set i none) G, ct := fun τ G => D.ct (τ.set i none) G }
/-- what the clauses wish of an exception -/
def wAsMany (K : PySem.W.Frag) (Wo : WX) (D : Ends) : List (Value × Nat × SuiteT) → WX
  | [] => Wo
  | q :: r => fun cls dx τ G => ∃ yes, PySem.W.exmOne K cls q.1 = some yes ∧
      ((yes = true ∧ ∀ e, G e = none → q.2.2 e cls dx (goneAt q.2.1 D) (τ.set q.2.1 (some (.ref e))) G) ∨ (yes = false ∧ wAsMany K Wo D r cls dx τ G))
inductive AsOk (X : Cx) : List ExceptHandler → List (Value × Nat × SuiteT) → Prop
  | nil : AsOk X [] []
  | cons {x n : Str} {c : Value} {i : Nat} {ts : SuiteT} {b : Stmt} {bs : List Stmt} {p1 p2 : Pos} {hds : List ExceptHandler} {l : List (Value × Nat × SuiteT)} :
      Names X x c → X.N[i]? = some n → X.env.kindOf n = some .local →
      (∀ (e : Addr) (oe : Obj) (cls : Value) (dx : Option Addr) (pn : List (Addr × Obj)), Zc cls dx oe → (∃ vs, oe.data = .fields vs) → PSs (X.suite e ((e, oe) :: pn)) (b :: bs) (ts e cls dx)) →
      AsOk X hds l → AsOk X (.ExceptHandler (some (.Name x p1)) (some n) (b :: bs) p2 :: hds) ((c, i, ts) :: l)
section
variable {X : Cx} {bod : List Stmt} {hds : List ExceptHandler} {l : List (Value × Nat × SuiteT)} {pos : Pos} {tb : WX → TS} {Wo : WX}
/-- an exception at e, in the air above X's frame -/
structure Aloft (X : Cx) (pins : List (Addr × Obj)) (τ : L2.St) (G : Hp) (B : Heap) (e : Addr) (cls : Value) (dx : Option Addr) (s0 s1 : Shared) : Prop where
  base : Inv X pins τ G s0
  low : ∀ b o, s0.heap.get? b = some o → b ∉ frs X.stack → B.get? b = some o
  rise : s0.heap.UpToSlots s1.heap
  fly : HandSPX.FlyingZ B (X.env :: X.outer) e (Zc cls dx) s1.heap
  free : G e = none
  os : s1.os = s0.os
  bare : AllBare s1.gens
section
variable {pins : List (Addr × Obj)} {τ : L2.St} {G : Hp} {B : Heap} {e : Addr} {cls : Value} {dx : Option Addr} {s0 s1 : Shared}
theorem Aloft.inv (T : Aloft X pins τ G B e cls dx s0 s1) : Inv X pins τ G s1 := T.base.landed T.low T.fly.1 T.rise T.os T.bare
/-- what stands at e, and the context of a clause -/
theorem Aloft.inSuite (T : Aloft X pins τ G B e cls dx s0 s1) (hf : X.env.frame = some X.env.locals) :
    ∃ oe vs, s1.heap.get? e = some oe ∧ Zc cls dx oe ∧ oe.data = .fields vs ∧ Inv (X.suite e ((e, oe) :: (X.pn ++ pins))) [] τ G s1 := by
  obtain ⟨oe, vs, he, hz, hd⟩ := T.fly.there
  have far : e ∉ frs (X.env :: X.outer) := fun hm => by
    obtain ⟨_, o, ho, hn⟩ := T.fly.2.2.1.mem hm
    rw [he] at ho
    cases ho
    exact hn _ hd
  refine ⟨oe, vs, he, hz, hd, T.inv.suite he hd T.free (fun z => far ?_) (fun hm => far ?_)⟩
  · exact List.mem_filterMap.mpr ⟨X.env, List.mem_cons_self, by rw [hf, z]⟩
  · obtain ⟨v, hv, q⟩ := List.mem_filterMap.mp hm
    exact List.mem_filterMap.mpr ⟨v, List.mem_cons_of_mem _ hv, q⟩
/-- none of the clauses takes it -/
theorem Aloft.away {D : Ends} (T : Aloft X pins τ G B e cls dx s0 s1) (st : X.stack = X.env :: X.outer) (hf : X.env.frame = some X.env.locals) (tk : Takes X Wo) (w : Wo cls dx τ G) :
    wpAny (model X.prog X.w) X.A (handleBy (.ref e) X.env []) (SP X pins D) X.xe s1 := by
  refine wpAny_handleBy_nil ?_
  have up : wpAny (model X.prog X.w) X.A (setFlight (.ref e) X.env.frame) (fun _ s2 => wpAny (model X.prog X.w) X.A (throw (.ref e) : Sem Flow) (SP X pins D) X.xe s2) X.xe s1 := by
    rw [hf]
    obtain ⟨h1, g1, d1, t1, o1⟩ := s1
    refine HandSPX.setFlight_upZ T.fly fun h2 held r2 => wpAny_throw (tk _ _ ?_)
    exact ⟨e, B, s0, pins, τ, G, cls, dx, rfl, T.base, T.low, T.rise.trans r2, Or.inr (Or.inr (by rw [st]; exact held)), T.free, T.os, T.bare, w⟩
  obtain ⟨_, _, _, oe, vs, tb, _, _, he, _, hd, h1, _⟩ := id T.fly
  unfold PySem.passOn
  refine wpAny_bind (wpAny_field he hd h1 ?_)
  have nn : ¬ ((Value.ref tb == Value.none) = true) := by simp
  rw [if_neg nn]
  first
    | exact wpAny_bind (wpAny_pure (wpAny_bind up))
    | exact wpAny_bind up
/-- the clauses, one after the other -/
theorem Aloft.handled {D : Ends} (st : X.stack = X.env :: X.outer) (hf : X.env.frame = some X.env.locals) (hN : X.N.Nodup) (tk : Takes X Wo) (hh : AsOk X hds l) (T : Aloft X pins τ G B e cls dx s0 s1) :
    wAsMany X.K Wo D l cls dx τ G → wpAny (model X.prog X.w) X.A (handleBy (.ref e) X.env hds) (SP X pins D) X.xe s1 := by
  induction hh with
  | nil => exact fun w => T.away st hf tk w
  | @cons x n c i ts b bs p1 p2 hds' l' hc hi hn hs hr ih =>
    intro ⟨yes, hy, w⟩
    obtain ⟨oe, vs, he, hz, hd, S⟩ := T.inSuite hf
    refine wpAny_handleBy_cons (codeAny_handlers_test ?_) (by intro q; cases q)
    have typ : PySem.W.Looks (model X.prog X.w) s1.heap (typeOf (.ref e)) cls := fun A Q E s k q => wpAny_typeOf_ref (k _ _ he) (by rw [hz.1]; exact q)
    have mat := PySem.W.exm_one (M := model X.prog X.w) T.inv.kIn typ hy
    have clause : ∀ {Q : Value → Shared → Prop} {E : Value → Shared → Prop}, Q c s1 → wpAny (model X.prog X.w) (X.A.mark (some (.ref e))) (eval (.Name x p1) X.env) Q E s1 := by
      intro Q E q
      rcases hc with ⟨hg, hb, hm | ⟨hm, hv, hq⟩⟩
      · exact ld_glob (X := X.suite e ((e, oe) :: (X.pn ++ pins))) S hg hm q hb
      · exact ld_blt (X := X.suite e ((e, oe) :: (X.pn ++ pins))) S hg hm hv q hq hb
    refine clause (mat.here ?_)
    rcases w with ⟨rfl, w⟩ | ⟨rfl, w⟩
    · refine codeAny_handlers_suite_as ?_
      obtain ⟨h1, g1, d1, t1, o1⟩ := s1
      refine HandSPX.lands_againZ T.fly fun h2 f2 r2 => ?_
      have T2 : Aloft X pins τ G B e cls dx s0 ⟨h2, g1, d1, t1, o1⟩ := ⟨T.base, T.low, T.rise.trans r2, f2, T.free, T.os, T.bare⟩
      obtain ⟨oe2, vs2, he2, hz2, hd2, S2⟩ := T2.inSuite hf
      refine store_ok (X := X.suite e ((e, oe2) :: (X.pn ++ pins))) (v := .ref e) S2 hN hi (.inl hn) rfl (fun s3 S3 => ?_) (.inr hn)
      have fin : ∀ {τ' : L2.St} {G' : Hp} {s4 : Shared} {Q : Shared → Prop}, Inv (X.suite e ((e, oe2) :: (X.pn ++ pins))) [] τ' G' s4 → (∀ s5, Inv X pins (τ'.set i none) G' s5 → Q s5) →
          wpAny (model X.prog X.w) X.A (do bindName X.env n .none; unbindBehindTheSuite X.env n p2) (fun _ s5 => Q s5) X.xe s4 := fun J q => gone_ok (J.unsuite T.base.ok) hN hi hn q
      refine wpAny_mono ((hs e oe2 cls dx (X.pn ++ pins) hz2 ⟨_, hd2⟩).run [] s3 _ G _ S3 (w e T.free)) (fun f s4 q => ?_) (fun _ _ z => z.elim)
      cases f
      case next => obtain ⟨τ', G', J, q⟩ := q; exact fin J fun _ J' => ⟨_, _, J', q⟩
      case brk => obtain ⟨τ', G', J, q⟩ := q; exact fin J fun _ J' => ⟨_, _, J', q⟩
      case cont => obtain ⟨τ', G', J, q⟩ := q; exact fin J fun _ J' => ⟨_, _, J', q⟩
      case ret u => obtain ⟨v, τ', G', J, r, q⟩ := q; exact fin J fun _ J' => ⟨_, _, _, J', r, q⟩
    · show wpAny _ X.A (handleBy (.ref e) X.env hds') _ _ _
      exact ih w
end
theorem ps_try_asMany (st : X.stack = X.env :: X.outer) (hf : X.env.frame = some X.env.locals) (hN : X.N.Nodup) (tk : Takes X Wo) {h₀ : ExceptHandler}
    (hb : ∀ (W : WX) (pn : List (Addr × Obj)) (xe : Value → Shared → Prop), Takes (X.tr pn xe) W → PassesOwn (model X.prog X.w) X.A X.env xe → PSs (X.tr pn xe) bod (tb W))
    (hh : AsOk X (h₀ :: hds) l) : PS X (.Try bod (h₀ :: hds) [] [] pos) (fun D τ G => tb (wAsMany X.K Wo D l) D τ G) := by
  constructor
  intro pins s τ G D I h
  refine wpAny_Try_except ?_
  let xe' : Value → Shared → Prop := fun u s1 => wpAny (model X.prog X.w) X.A (noteFrame u X.env) (fun _ s2 => wpAny (model X.prog X.w) X.A (setFlight u none) (fun _ s3 => wpAny (model X.prog X.w) X.A (handleBy u X.env (h₀ :: hds)) (SP X pins D) X.xe s3) X.xe s2) X.xe s1
  have tk' : Takes (X.tr (X.pn ++ pins) xe') (wAsMany X.K Wo D l) := by
    intro u s1 xx
    obtain ⟨e, B, s0, pins', τ', G', cls, dx, rfl, J, low, rise, sky, free, os, bare, w⟩ := xx
    have sky : Sky B (X.env :: X.outer) e (Zc cls dx) X.env.locals s1.heap := by rw [← st]; exact sky
    refine Sky.land Zc.steady (I.ok.frames.trans (by rw [st])) hf sky fun h3 fl r3 => ?_
    exact Aloft.handled st hf hN tk hh ⟨J.ofTry I.ok, low, rise.trans r3, fl, free, os, bare⟩ w
  refine wpAny_mono ((hb _ (X.pn ++ pins) xe' tk' PassesOwn.looking).run [] s τ G D (I.toTry _) h) (fun f s1 q => ?_) (fun _ _ z => z)
  cases f
  case next => obtain ⟨τ', G', J, q⟩ := q; exact wpAny_execs_nil ⟨τ', G', J.ofTry I.ok, q⟩
  case brk => obtain ⟨τ', G', J, q⟩ := q; exact ⟨τ', G', J.ofTry I.ok, q⟩
  case cont => obtain ⟨τ', G', J, q⟩ := q; exact ⟨τ', G', J.ofTry I.ok, q⟩
  case ret u => obtain ⟨v, τ', G', J, r, q⟩ := q; exact ⟨v, τ', G', J.ofTry I.ok, r, q⟩
end
end DL
set_option Elab.async false
set_option linter.all false
set_option maxRecDepth 100000
set_option maxHeartbeats 4000000
/-! try: .. except X as n: return (a text, n.a) -/
namespace DL
open PySem PySem.Spec L2 PyProof.Rows
/-- a clause: its class, the slot of its name, what it returns ahead of the attribute, the attribute -/
structure Hd where
  c : Str
  i : Nat
  word : Option Str
  at_ : Str
def Hd.run (h : Hd) (x : Exn) (S : Store) : RS := match x.fs with
  | [(a, .p d)] => if a = h.at_ then (match h.word with | none => .rt (.p d) S | some t => .rt (.p (.tuple [.str t, d])) S) else .bad
  | _ => .bad
def hRun (EN : List Str) (x : Exn) (ρ : Sl) (S : Store) : List Hd → RS
  | [] => .exc x ρ S
  | h :: hs => if EN.contains x.cls = true ∧ h.i < ρ.length then (if (x.cls == h.c) = true then h.run x S else hRun EN x ρ S hs) else .bad
def sTry (EN : List Str) (g : Fs) (hs : List Hd) : Fs := fun ρ S => match g ρ S with
  | .exc x ρ' S' => hRun EN x ρ' S' hs
  | r => r
structure HdTxt (K : PySem.W.Frag) (mg : Str → Option Value) (EN : List Str) (c : Str) : Prop where
  at_ : ∃ C, mg c = some (.ref C) ∧ ∀ y, EN.contains y = true → ∀ Cy, mg y = some (.ref Cy) → PySem.W.exmOne K (.ref Cy) (.ref C) = some (y == c)
section
variable {X : Cx} {W : WX}
/-- what a clause's suite wishes: n stands in slot i -/
def tSuite (h : Hd) (C : Addr) : SuiteT := fun e cls dx => fun E σ H => σ[h.i]? = some (some (.ref e)) ∧ cls = .ref C ∧ ∃ dd v, dx = some dd ∧ H dd = some (.xd [(h.at_, v)]) ∧
  match h.word with | none => E.rt v H | some t => ∀ p, H p = none → E.rt (.ref p) (upd H p (.tup [.str t, v]))
def tErrAt (C : Addr) (at_ : Str) (a : Addr) (cls : Value) (d : Option Addr) (te : TE) : TE := fun σ H Q => te σ H fun x H1 => x = .ref a ∧ cls = .ref C ∧ ∃ (dd : Addr) (v : V), d = some dd ∧ H1 dd = some (.xd [(at_, v)]) ∧ Q v H1
theorem pe_errAt {C fI : Addr} {at_ : Str} {a : Addr} {oe : Obj} {cls : Value} {d : Option Addr} {pn : List (Addr × Obj)} {e : Expr} {te : TE} {pos : Pos} (T : ErrC X.prog X.K X.mg at_ C fI) (hz : Zc cls d oe) (hf : ∃ vs, oe.data = .fields vs) (he : PE (X.suite a ((a, oe) :: pn)) e te)
    (hb : attributeBase e at_ X.env (eval e X.env) = eval e X.env := by rfl) :
    PE (X.suite a ((a, oe) :: pn)) (.Attribute e at_ pos) (tErrAt C at_ a cls d te) := by
  refine ⟨fun pins s σ H Q I h => ?_⟩
  refine attr_of hb (thn (he.run pins s σ H _ I h) fun u s1 hh => ?_)
  obtain ⟨x, H1, I1, rx, ex, ec, dd, v, ed, ea, q⟩ := hh
  subst ex
  obtain rfl : u = Value.ref a := rx
  subst ec
  subst ed
  obtain ⟨ha, _⟩ := I1.pin (a, oe) (List.mem_append_left _ List.mem_cons_self)
  obtain ⟨vs, hd⟩ := hf
  have hx : ObjOk X.prog X.w H1 s1.heap dd (.xd [(at_, v)]) := I1.hok dd _ ea
  obtain ⟨mA, hns, hr⟩ := hx
  obtain ⟨od, ho, hl⟩ := lookIn_ns hns
  have l : List.lookup at_ [(at_, v)] = some v := by simp [List.lookup]
  obtain ⟨u, hu, ru⟩ := RelO.some_of (v := v) (o := mA at_) (by rw [← l]; exact hr at_)
  have J : PySem.W.InstAt s1.heap a oe C (some od) := ⟨ha, hz.1, by unfold PySem.W.notCls; rw [hd] <;> rfl, by rw [hz.2]; exact ho⟩
  exact HandSPX.exc_get I1.kIn J T.ga T.gg T.exC (PySem.W.findObj_own T.hdC T.noN rfl (by rw [hl, hu])) (handed_of ru) ⟨v, H1, I1.tok _, ru, q⟩
/-- clauses and their reading -/
inductive HdOk (X : Cx) (EN : List Str) : List ExceptHandler → List Hd → List (Value × Nat × SuiteT) → Prop
  | nil : HdOk X EN [] [] []
  | cons {hds : List ExceptHandler} {hs : List Hd} {l : List (Value × Nat × SuiteT)} {h : Hd} {C : Addr} {x n : Str} {p1 p2 : Pos} {b : Stmt} {bs : List Stmt} : X.mg h.c = some (.ref C) → (∀ y, EN.contains y = true → ∀ Cy, X.mg y = some (.ref Cy) → PySem.W.exmOne X.K (.ref Cy) (.ref C) = some (y == h.c)) →
      Names X x (.ref C) → X.N[h.i]? = some n → X.env.kindOf n = some .local →
      (∀ (e : Addr) (oe : Obj) (cls : Value) (dx : Option Addr) (pn : List (Addr × Obj)), Zc cls dx oe → (∃ vs, oe.data = .fields vs) → PSs (X.suite e ((e, oe) :: pn)) (b :: bs) (tSuite h C e cls dx)) →
      HdOk X EN hds hs l → HdOk X EN (.ExceptHandler (some (.Name x p1)) (some n) (b :: bs) p2 :: hds) (h :: hs) ((.ref C, h.i, tSuite h C) :: l)
theorem HdOk.as {EN : List Str} {hds : List ExceptHandler} {hs : List Hd} {l : List (Value × Nat × SuiteT)} (h : HdOk X EN hds hs l) : AsOk X hds l := by
  induction h with
  | nil => exact .nil
  | cons _ _ c n k s _ ih => exact .cons c n k s ih
theorem HdOk.wish {EN : List Str} {hds : List ExceptHandler} {hs : List Hd} {l : List (Value × Nat × SuiteT)} (h : HdOk X EN hds hs l) {D : Ends} {w : Wd} {σ : L2.St} {H : Hp} {ρ : Sl} {S : Store} {x : Exn} {cls : Value} {dx : Addr}
    (R : Rep X.gm w H S) (E : RepE w σ ρ) (V : RepX X.gm w cls dx x) (P : PostS X.gm W D w (hRun EN x ρ S hs)) : wAsMany X.K W D l cls (some dx) σ H := by
  induction h with
  | nil => exact P σ cls dx w H (Grow.refl w) R E V
  | @cons hds hs l h C y n p1 p2 b bs hC hm _ _ _ _ _ ih =>
    simp only [hRun] at P
    by_cases c : EN.contains x.cls = true ∧ h.i < ρ.length
    · rw [if_pos c] at P
      obtain ⟨Cx, fs, hx, rfl, hz, hfs⟩ := V
      refine ⟨_, hm _ c.1 Cx hx, ?_⟩
      by_cases e : (x.cls == h.c) = true
      · refine .inl ⟨e, fun a ha => ?_⟩
        rw [if_pos e] at P
        have e' : x.cls = h.c := by simpa using e
        rw [e'] at hx
        have hx2 : some (Value.ref C) = some (Value.ref Cx) := hC.symm.trans hx
        cases hx2
        obtain ⟨xc, xfs⟩ := x
        unfold Hd.run at P
        split at P
        · rename_i a' d he'
          dsimp only at he'
          subst he'
          dsimp only at hfs
          cases hfs with
          | cons h1 h2 =>
            rename_i p ps
            cases h2
            obtain ⟨pa, pv⟩ := p
            obtain ⟨hpa, hpv⟩ := h1
            dsimp only at hpa hpv
            subst hpa
            by_cases ea : pa = h.at_
            · rw [if_pos ea] at P
              subst ea
              refine ⟨by rw [List.getElem?_set_self (by rw [E.len]; exact c.2)], rfl, dx, pv, rfl, R.same _ _ hz, ?_⟩
              cases hw : h.word with
              | none => rw [hw] at P; exact P _ _ _ (Grow.refl w) R hpv
              | some t =>
                rw [hw] at P
                intro q hq
                obtain ⟨g, R'⟩ := R.newP (.tup [.str t, pv]) hq
                exact P _ _ _ g R' (.tup upd_same (.cons (.str t) (.cons (RepP.mono g.z _ _ hpv) .nil)))
            · rw [if_neg ea] at P; exact P.elim
        · exact P.elim
      · rw [if_neg e] at P
        exact .inr ⟨by simpa using e, ih P⟩
    · rw [if_neg c] at P; exact P.elim
theorem ds_try {EN : List Str} {body : List Stmt} {h₀ : ExceptHandler} {hds : List ExceptHandler} {hs : List Hd} {l : List (Value × Nat × SuiteT)} {g : Fs} {pos : Pos} (st : X.stack = X.env :: X.outer) (hf : X.env.frame = some X.env.locals) (hN : X.N.Nodup) (tk : Takes X W)
    (hb : ∀ (W' : WX) (pn : List (Addr × Obj)) (xe : Value → Shared → Prop), Takes (X.tr pn xe) W' → PassesOwn (model X.prog X.w) X.A X.env xe → DSs (X.tr pn xe) W' body g)
    (hh : HdOk X EN (h₀ :: hds) hs l) : DS X W (.Try body (h₀ :: hds) [] [] pos) (sTry EN g hs) :=
  (ps_try_asMany (Wo := W) st hf hN tk (tb := fun W' => tDS X.gm W' g) (fun W' pn xe t p => hb W' pn xe t p) hh.as).imp fun D σ H ⟨w, ρ, S, R, E, P⟩ => by
    refine ⟨w, ρ, S, R, E, ?_⟩
    unfold sTry at P
    split at P
    · rename_i x ρ' S' e
      rw [e]
      intro σ' cls dx w' H' g' R' E' V'
      exact hh.wish R' E' V' (P.grow g')
    · rename_i r hr
      cases e : g ρ S with
      | exc x ρ' S' => exact absurd e (hr x ρ' S')
      | nx _ _ => rw [e] at P; exact P
      | rt _ _ => rw [e] at P; exact P
      | bk _ _ => rw [e] at P; exact P
      | ct _ _ => rw [e] at P; exact P
      | bad => rw [e] at P; exact P
/-- the two suites -/
theorem suite_at {h : Hd} {C fI : Addr} {n : Str} {p pos pos2 : Pos} (hw : h.word = none) (T : ErrC X.prog X.K X.mg h.at_ C fI) (hN : X.N[h.i]? = some n) (hv : Vis X.env.scope n) (hd : (n == ("__debug__" : Str)) = false) (hcd : (n == ("__classdict__" : Str)) = false)
    (hb : attributeBase (.Name n p) h.at_ X.env (eval (.Name n p) X.env) = eval (.Name n p) X.env) :
    ∀ (e : Addr) (oe : Obj) (cls : Value) (dx : Option Addr) (pn : List (Addr × Obj)), Zc cls dx oe → (∃ vs, oe.data = .fields vs) → PSs (X.suite e ((e, oe) :: pn)) [.Return (some (.Attribute (.Name n p) h.at_ pos)) pos2] (tSuite h C e cls dx) := by
  intro e oe cls dx pn hz hf
  refine (pss_one (ps_ret (pe_errAt T hz hf (pe_var (X := X.suite e ((e, oe) :: pn)) (i := h.i) hN hv hd hcd) hb))).imp fun E σ H hh => ?_
  unfold tSuite at hh
  rw [hw] at hh
  obtain ⟨h1, h2, dd, v, h3, h4, h5⟩ := hh
  exact ⟨_, h1, rfl, h2, dd, v, h3, h4, h5⟩
theorem suite_tup {h : Hd} {C fI : Addr} {n t : Str} {j} {x1} {p p3 pos pos2 pos3 : Pos} (hw : h.word = some t) (T : ErrC X.prog X.K X.mg h.at_ C fI) (hN : X.N[h.i]? = some n) (hv : Vis X.env.scope n) (hd : (n == ("__debug__" : Str)) = false) (hcd : (n == ("__classdict__" : Str)) = false)
    (hb : attributeBase (.Name n p) h.at_ X.env (eval (.Name n p) X.env) = eval (.Name n p) X.env)
    (hs1 : starEach [.Constant (.str t) j p3, .Attribute (.Name n p) h.at_ pos] X.env = (false, eval (.Constant (.str t) j p3) X.env) :: starEach [.Attribute (.Name n p) h.at_ pos] X.env) (hs2 : starEach [.Attribute (.Name n p) h.at_ pos] X.env = (false, eval (.Attribute (.Name n p) h.at_ pos) X.env) :: starEach [] X.env) :
    ∀ (e : Addr) (oe : Obj) (cls : Value) (dx : Option Addr) (pn : List (Addr × Obj)), Zc cls dx oe → (∃ vs, oe.data = .fields vs) → PSs (X.suite e ((e, oe) :: pn)) [.Return (some (.Tuple [.Constant (.str t) j p3, .Attribute (.Name n p) h.at_ pos] x1 pos3)) pos2] (tSuite h C e cls dx) := by
  intro e oe cls dx pn hz hf
  refine (pss_one (ps_ret (pe_tup (pa_cons (X := X.suite e ((e, oe) :: pn)) pe_str (pa_cons (pe_errAt T hz hf (pe_var (X := X.suite e ((e, oe) :: pn)) (i := h.i) hN hv hd hcd) hb) pa_nil hs2) hs1)))).imp fun E σ H hh => ?_
  unfold tSuite at hh
  rw [hw] at hh
  obtain ⟨h1, h2, dd, v, h3, h4, h5⟩ := hh
  exact ⟨_, h1, rfl, h2, dd, v, h3, h4, by rw [sizeLine_eq]; exact (by decide : 2 ≤ 16777216), h5⟩
end
end DL
namespace DL
open PySem PySem.Spec L2 PyProof.Rows
section
variable {X : Cx} {W : WX} {EN : List Str} {hds : List ExceptHandler} {hs : List Hd}
def DHd (X : Cx) (EN : List Str) (hds : List ExceptHandler) (hs : List Hd) : Prop := ∃ l, HdOk X EN hds hs l
theorem dh_nil : DHd X EN [] [] := ⟨_, .nil⟩
theorem dh_tup {c a n t : Str} (i : Nat) {j} {x1} {p p1 p2 p3 pos pos2 pos3 : Pos} (T : ErrTxt X.prog X.K X.mg c a) (Th : HdTxt X.K X.mg EN c) (r : DHd X EN hds hs) (hN : X.N[i]? = some n := by rfl) (hk : X.env.kindOf n = some .local := by rfl)
    (hv : Vis X.env.scope n := by first | exact Or.inl rfl | exact Or.inr (Or.inl rfl) | exact Or.inr (Or.inr rfl)) (hd : (n == ("__debug__" : Str)) = false := by decide) (hcd : (n == ("__classdict__" : Str)) = false := by decide) (hg : Gl X c := by rfl)
    (hb : attributeBase (.Name n p) a X.env (eval (.Name n p) X.env) = eval (.Name n p) X.env := by rfl)
    (hs1 : starEach [.Constant (.str t) j p3, .Attribute (.Name n p) a pos] X.env = (false, eval (.Constant (.str t) j p3) X.env) :: starEach [.Attribute (.Name n p) a pos] X.env := by rfl) (hs2 : starEach [.Attribute (.Name n p) a pos] X.env = (false, eval (.Attribute (.Name n p) a pos) X.env) :: starEach [] X.env := by rfl) :
    DHd X EN (.ExceptHandler (some (.Name c p1)) (some n) [.Return (some (.Tuple [.Constant (.str t) j p3, .Attribute (.Name n p) a pos] x1 pos3)) pos2] p2 :: hds) (⟨c, i, some t, a⟩ :: hs) := by
  obtain ⟨l, r⟩ := r
  obtain ⟨C, fI, hc, T'⟩ := T.at_
  obtain ⟨C', hc', hm⟩ := Th.at_
  have e : some (Value.ref C) = some (Value.ref C') := hc.symm.trans hc'
  cases e
  exact ⟨_, .cons (h := ⟨c, i, some t, a⟩) hc hm ⟨hg, T.nd, .inl hc⟩ hN hk (suite_tup (h := ⟨c, i, some t, a⟩) rfl T' hN hv hd hcd hb hs1 hs2) r⟩
theorem dh_at {c a n : Str} (i : Nat) {p p1 p2 pos pos2 : Pos} (T : ErrTxt X.prog X.K X.mg c a) (Th : HdTxt X.K X.mg EN c) (r : DHd X EN hds hs) (hN : X.N[i]? = some n := by rfl) (hk : X.env.kindOf n = some .local := by rfl)
    (hv : Vis X.env.scope n := by first | exact Or.inl rfl | exact Or.inr (Or.inl rfl) | exact Or.inr (Or.inr rfl)) (hd : (n == ("__debug__" : Str)) = false := by decide) (hcd : (n == ("__classdict__" : Str)) = false := by decide) (hg : Gl X c := by rfl)
    (hb : attributeBase (.Name n p) a X.env (eval (.Name n p) X.env) = eval (.Name n p) X.env := by rfl) :
    DHd X EN (.ExceptHandler (some (.Name c p1)) (some n) [.Return (some (.Attribute (.Name n p) a pos)) pos2] p2 :: hds) (⟨c, i, none, a⟩ :: hs) := by
  obtain ⟨l, r⟩ := r
  obtain ⟨C, fI, hc, T'⟩ := T.at_
  obtain ⟨C', hc', hm⟩ := Th.at_
  have e : some (Value.ref C) = some (Value.ref C') := hc.symm.trans hc'
  cases e
  exact ⟨_, .cons (h := ⟨c, i, none, a⟩) hc hm ⟨hg, T.nd, .inl hc⟩ hN hk (suite_at (h := ⟨c, i, none, a⟩) rfl T' hN hv hd hcd hb) r⟩
theorem ds_tryD {body : List Stmt} {h₀ : ExceptHandler} {g : Fs} {pos : Pos} (st : X.stack = X.env :: X.outer) (hf : X.env.frame = some X.env.locals) (hN : X.N.Nodup) (tk : Takes X W)
    (hb : ∀ (W' : WX) (pn : List (Addr × Obj)) (xe : Value → Shared → Prop), Takes (X.tr pn xe) W' → PassesOwn (model X.prog X.w) X.A X.env xe → DSs (X.tr pn xe) W' body g)
    (hh : DHd X EN (h₀ :: hds) hs) : DS X W (.Try body (h₀ :: hds) [] [] pos) (sTry EN g hs) :=
  let ⟨_, h⟩ := hh
  ds_try st hf hN tk hb h
end
end DL
set_option Elab.async false
set_option linter.all false
set_option maxRecDepth 100000
set_option maxHeartbeats 4000000
/-! repetition, list(..) to be changed, three names at once, two items at once -/
namespace DL
open PySem PySem.Spec L2 PyProof.Rows
section
variable {X : Cx} {W : WX} {a b e : Expr} {f g : Fe} {pos : Pos}
theorem RepPs.repl {Z : Hp} {vs : List V} {ds : List PyData} (h : RepPs Z vs ds) : ∀ (n : Nat), RepPs Z (List.replicate n vs).flatten (List.replicate n ds).flatten
  | 0 => .nil
  | n + 1 => by
    rw [List.replicate_succ, List.replicate_succ, List.flatten_cons, List.flatten_cons]
    exact h.append (RepPs.repl h n)
def fRepT : D → D → M D
  | .p (.tuple ds), .p (.int k) => fun S => if ds ≠ [] ∧ 2 ≤ k ∧ k ≤ 1000 ∧ ds.length ≤ 1000 then .ok (.p (.tuple (List.replicate k.toNat ds).flatten)) S else .bad
  | _, _ => M.bad
instance {ds : List PyData} : Decidable (ds ≠ []) := by cases ds <;> simp <;> infer_instance
theorem ok_repT : R2ok X (rRepT X.K) fRepT := by
  intro w H S x y dx dy W σ Q R vx vy P
  unfold fRepT at P
  split at P
  · have vx := vx.cases_p
    cases vy.cases_p
    cases vx with | tup hx rx =>
    split at P
    · rename_i hc
      obtain ⟨h0, h1, h2, h3⟩ := hc
      exact ⟨_, _, _, rfl, rfl, SqT.of (R.same _ _ hx), fun z => h0 (by subst z; cases rx; rfl), h1, h2, by rw [rx.length]; exact h3, fun p hp => Post.newTup R P (rx.repl _) hp⟩
    · exact P.elim
  · exact P.elim
theorem de_repT (ha : DE X W a f) (hb : DE X W b g) : DE X W (.BinOp a .Mult b pos) (eBin fRepT f g) := de_bin op_repT ok_repT ha hb
def CRep (n : Nat) (k : Int) : Prop := -(2 ^ 63) ≤ k ∧ k < 2 ^ 63 ∧ n * k.toNat ≤ sizeLine
instance {n : Nat} {k : Int} : Decidable (CRep n k) := by unfold CRep; infer_instance
def fRepL : D → D → M D
  | .p (.list ds), .p (.int k) => fun S => if CRep ds.length k then .ok (.p (.list (List.replicate k.toNat ds).flatten)) S else .bad
  | _, _ => M.bad
theorem ok_repL : R2ok X rRep fRepL := by
  intro w H S x y dx dy W σ Q R vx vy P
  unfold fRepL at P
  split at P
  · have vx := vx.cases_p
    cases vy.cases_p
    cases vx with | lst hx rx =>
    split at P
    · rename_i hc
      exact ⟨_, _, _, rfl, rfl, R.same _ _ hx, hc.1, hc.2.1, by rw [rx.length]; exact hc.2.2, fun p hp => Post.newLst R P (rx.repl _) hp⟩
    · exact P.elim
  · exact P.elim
theorem de_repL (ha : DE X W a f) (hb : DE X W b g) : DE X W (.BinOp a .Mult b pos) (eBin fRepL f g) := de_bin op_rep ok_repL ha hb
/-- a new list that will be changed, of data -/
theorem Post.newCel {mg : Gm} {W : WX} {σ : L2.St} {w : Wd} {Q : VK} {H : Hp} {S : Store} {ds : List PyData} {xs : List V} (R : Rep mg w H S) (P : Post mg W σ w Q (.ok (.o S.length) (S ++ [.lst (ds.map D.p)]))) (r : RepPs w.Z xs ds) {p : Addr} (hp : H p = none) :
    Q (.ref p) (upd H p (.lst xs)) := by
  obtain ⟨g, R'⟩ := R.newC (o := .lst xs) (c := .lst (ds.map D.p)) hp (RepVs.grow (w := w) (w' := w.addM p) ⟨rfl, rfl, Same.refl _, [p], rfl⟩ (RepPs.toVs r))
  exact P _ _ g R' _ ⟨p, by show (w.m ++ [p])[S.length]? = some p; rw [← R.len]; simp, rfl⟩
def fRepC : D → D → M D
  | .p (.list ds), .p (.int k) => fun S => if CRep ds.length k then .ok (.o S.length) (S ++ [.lst ((List.replicate k.toNat ds).flatten.map D.p)]) else .bad
  | _, _ => M.bad
theorem ok_repC : R2ok X rRep fRepC := by
  intro w H S x y dx dy W σ Q R vx vy P
  unfold fRepC at P
  split at P
  · have vx := vx.cases_p
    cases vy.cases_p
    cases vx with | lst hx rx =>
    split at P
    · rename_i hc
      exact ⟨_, _, _, rfl, rfl, R.same _ _ hx, hc.1, hc.2.1, by rw [rx.length]; exact hc.2.2, fun p hp => Post.newCel R P (rx.repl _) hp⟩
    · exact P.elim
  · exact P.elim
theorem de_repC (ha : DE X W a f) (hb : DE X W b g) : DE X W (.BinOp a .Mult b pos) (eBin fRepC f g) := de_bin op_rep ok_repC ha hb
def fListC : D → M D
  | .p (.tuple ds) => fun S => .ok (.o S.length) (S ++ [.lst (ds.map D.p)])
  | _ => M.bad
theorem ok_listC : C1ok X (fun xs H Q => ∃ p ys, xs = [.ref p] ∧ (SqL X.K H p ys ∨ SqT X.K H p ys) ∧ ∀ l, H l = none → Q (.ref l) (upd H l (.lst ys))) (on1 fListC) := ok_on1 fun w H S x d W σ Q R v P => by
  unfold fListC at P
  split at P
  · have v := v.cases_p
    cases v with | tup hx rx =>
    exact ⟨_, _, rfl, .inr (SqT.of (R.same _ _ hx)), fun p hp => Post.newCel R P rx hp⟩
  · exact P.elim
theorem de_listC {p : Pos} (hg : Gl X "list") (hm : X.mg "list" = none) (ha : DE X W e f) (he : starEach [e] X.env = (false, eval e X.env) :: starEach [] X.env := by rfl) (hpl : (backTo pos (starEach [] X.env)).any (·.1) = false := by rfl) :
    DE X W (.Call (.Name "list" p) [e] [] pos) (eCB (on1 fListC) (aCons f aNil)) := de_callTy call_list_of ok_listC hg hm PyProof.Rows.boot_list (da_cons ha da_nil he) (by decide) (by decide) he hpl
/-- a, b, c = x, y, z -/
def sPar3 (i j l : Nat) (f g k : Fe) : Fs := fun ρ S => bindS ρ (f ρ S) fun d S1 => bindS ρ (g ρ S1) fun d2 S2 => bindS ρ (k ρ S2) fun d3 S3 => .nx (((ρ.set i (some d)).set j (some d2)).set l (some d3)) S3
theorem ds_par3 {c : Expr} {k : Fe} {i j l : Nat} {x y z : Str} {px py pz pt : Pos} {kt k2 pt2} (hc : X.calm = true) (hN : X.N.Nodup) (hi : X.N[i]? = some x) (hj : X.N[j]? = some y) (hl : X.N[l]? = some z) (hij : i ≠ j) (hil : i ≠ l) (hjl : j ≠ l)
    (hx : X.env.scope.names.lookup x = some .local) (hy : X.env.scope.names.lookup y = some .local) (hz : X.env.scope.names.lookup z = some .local) (ha : DE X W a f) (hb : DE X W b g) (hd : DE X W c k)
    (hw : swappedStores [.Tuple [.Name x px, .Name y py, .Name z pz] kt pt] (.Tuple [a, b, c] k2 pt2) X.env = pure (some [x, y, z]))
    (hs : swapsWithSole [.Tuple [.Name x px, .Name y py, .Name z pz] kt pt] (.Tuple [a, b, c] k2 pt2) pos.line X.env = pure false := by rfl)
    (he : starEach [a, b, c] X.env = (false, eval a X.env) :: starEach [b, c] X.env := by rfl) (he' : starEach [b, c] X.env = (false, eval b X.env) :: starEach [c] X.env := by rfl) (he3 : starEach [c] X.env = (false, eval c X.env) :: starEach [] X.env := by rfl) :
    DS X W (.Assign [.Tuple [.Name x px, .Name y py, .Name z pz] kt pt] (.Tuple [a, b, c] k2 pt2) pos) (sPar3 i j l f g k) :=
  (ps_par3 hc hN hi hj hl hij hil hjl hx hy hz (pa_cons ha (pa_cons hb (pa_cons hd pa_nil he3) he') he) hw hs).imp fun E σ H ⟨w, ρ, S, R, e, P⟩ =>
    stepES R e P fun v w1 H1 S1 d g1 R1 E1 V1 P1 => stepES R1 E1 P1 fun v2 w2 H2 S2 d2 g2 R2 E2 V2 P2 => stepES R2 E2 P2 fun v3 w3 H3 S3 d3 g3 R3 E3 V3 P3 =>
      ⟨v, v2, v3, rfl, P3 _ w3 H3 (Grow.refl _) R3 (((E3.set i ((V1.grow g2).grow g3)).set j (V2.grow g3)).set l V3)⟩
/-- xs[i], ys[j] = a pair -/
theorem setAt_inv {w : Wd} {H : Hp} {S S' : Store} {mg : Gm} {x y i : D} {vx vy vi : V} (R : Rep mg w H S) (Vx : RepV w vx x) (Vi : RepV w vi i) (Vy : RepV w vy y) (h : setAt x i y S = some S') {Q : Hp → Prop} (q : ∀ H', Rep mg w H' S' → Q H') : rSetL vx vi vy H Q := by
  unfold setAt at h
  split at h
  · rename_i a k
    cases Vi.cases_p
    obtain ⟨ad, ha, rfl⟩ := Vx
    cases q1 : lstAt S a with
    | none => rw [q1] at h; cases h
    | some ds =>
      rw [q1] at h
      dsimp only [Option.bind] at h
      cases q2 : ixN ds.length k with
      | none => rw [q2] at h; cases h
      | some j =>
        rw [q2] at h
        cases h
        obtain ⟨oo, ho, r⟩ := R.at_ ha (lstAt_some q1)
        obtain ⟨xs, rfl, r⟩ := r.lst_inv
        exact ⟨ad, xs, k, j, rfl, rfl, ho, by rw [r.length]; exact q2, q _ (R.setC (o := .lst (xs.set j vy)) ha (RepVs.set Vy j r))⟩
  · cases h
def sSwap (fv fo fi fo2 fi2 : Fe) : Fs := fun ρ S => bindS ρ (fv ρ S) fun d S1 => match d with
  | .p (.tuple [u, v]) => bindS ρ (fo ρ S1) fun x S2 => bindS ρ (fi ρ S2) fun i S3 => match setAt x i (.p u) S3 with
    | some S4 => bindS ρ (fo2 ρ S4) fun x2 S5 => bindS ρ (fi2 ρ S5) fun i2 S6 => nxO ρ (setAt x2 i2 (.p v) S6)
    | none => .bad
  | _ => .bad
theorem ds_swap {o i o2 i2 value : Expr} {fv fo fi fo2 fi2 : Fe} {k : Nat} {p1 p2 pt : Pos} (hc : X.calm = true) (hv : DE X W value fv) (ho : DE X W o fo) (hi : DE X W i fi) (ho2 : DE X W o2 fo2) (hi2 : DE X W i2 fi2)
    (ha : ∀ v, assign (.Subscript o i p1) X.env v = (do
      let ov ← holding [v] (eval o X.env)
      let iv ← holding [v, ov] (eval i X.env)
      standAt p1
      holding [v, ov, iv] (setItem ov iv v)
      release [v, ov, iv] []) := by intro _; rfl)
    (ha2 : ∀ v, assign (.Subscript o2 i2 p2) X.env v = (do
      let ov ← holding [v] (eval o2 X.env)
      let iv ← holding [v, ov] (eval i2 X.env)
      standAt p2
      holding [v, ov, iv] (setItem ov iv v)
      release [v, ov, iv] []) := by intro _; rfl)
    (h1 : (assignEach [.Subscript o i p1, .Subscript o2 i2 p2] X.env).map (·.2) = assign (.Subscript o i p1) X.env :: (assignEach [.Subscript o2 i2 p2] X.env).map (·.2) := by rfl)
    (h2 : (assignEach [.Subscript o2 i2 p2] X.env).map (·.2) = assign (.Subscript o2 i2 p2) X.env :: (assignEach [] X.env).map (·.2) := by rfl)
    (hn : (assignEach [.Subscript o i p1, .Subscript o2 i2 p2] X.env).length = 2 := by rfl) (hst : (assignEach [.Subscript o i p1, .Subscript o2 i2 p2] X.env).findIdx? (·.1) = none := by rfl)
    (hs : swapsWithSole [.Tuple [.Subscript o i p1, .Subscript o2 i2 p2] k pt] value pos.line X.env = pure false := by rfl) (hw : swappedStores [.Tuple [.Subscript o i p1, .Subscript o2 i2 p2] k pt] value X.env = pure none := by rfl)
    (h3 : (assignEach [.Tuple [.Subscript o i p1, .Subscript o2 i2 p2] k pt] X.env).map (·.2) = [assign (.Tuple [.Subscript o i p1, .Subscript o2 i2 p2] k pt) X.env] := by rfl) :
    DS X W (.Assign [.Tuple [.Subscript o i p1, .Subscript o2 i2 p2] k pt] value pos) (sSwap fv fo fi fo2 fi2) :=
  (ps_asg hv (pg_tup hc (pgs_cons (pg_sub ho hi set_list ha) (pgs_cons (pg_sub ho2 hi2 set_list ha2) pgs_nil h2) h1) hn hst) hs hw h3).imp fun En σ H ⟨w, ρ, S, R, E, P⟩ =>
    stepES R E P fun y w1 H1 S1 d g1 R1 E1 V1 P1 => by
      split at P1
      · rename_i u v
        have V1 := V1.cases_p
        cases V1 with | tup ht rt =>
        cases rt with | cons ru rt =>
        cases rt with | cons rv rt =>
        cases rt
        refine ⟨_, _, rfl, SqT.of (R1.same _ _ ht), rfl, _, _, rfl, ?_⟩
        refine stepES R1 E1 P1 fun x w2 H2 S2 d2 g2 R2 E2 V2 P2 => stepES R2 E2 P2 fun z w3 H3 S3 d3 g3 R3 E3 V3 P3 => ?_
        cases q : setAt d2 d3 (.p u) S3 with
        | none => rw [q] at P3; exact P3.elim
        | some S4 =>
          rw [q] at P3
          refine setAt_inv (y := .p u) R3 (V2.grow g3) V3 (RepP.mono (g2.trans g3).z _ _ ru) q fun H4 R4 => ?_
          refine ⟨_, _, rfl, ?_⟩
          refine stepES R4 E3 P3 fun x5 w5 H5 S5 d5 g5 R5 E5 V5 P5 => stepES R5 E5 P5 fun z6 w6 H6 S6 d6 g6 R6 E6 V6 P6 => ?_
          cases q6 : setAt d5 d6 (.p v) S6 with
          | none => rw [q6] at P6; exact P6.elim
          | some S7 =>
            rw [q6] at P6
            exact setAt_inv (y := .p v) R6 (V5.grow g6) V6 (RepP.mono (((g2.trans g3).trans g5).trans g6).z _ _ rv) q6 fun H7 R7 => ⟨rfl, P6 σ w6 H7 (Grow.refl _) R7 E6⟩
      · exact P1.elim
end
section
variable {P : Program} {w : World} {K : PySem.W.Frag} {mg : Str → Option Value} {base : Heap}
theorem def_none {x : Str} {st : Stmt} {ps : List Str} {k : Nat} (h : DefAt K mg x st ps) : DefOk P w K mg base x ps k (fun _ => M.bad) := by
  obtain ⟨fa, fd, h1, h2, h3⟩ := h.ex
  exact ⟨fa, fd, h1, h2.kp, h3, ⟨fun vs H Q E ⟨_, _, _, _, _, P⟩ => P.elim, fun _ _ _ _ _ _ _ _ _ _ _ _ _ ⟨_, _, _, _, _, P⟩ => P.elim⟩⟩
end
end DL
set_option Elab.async false
set_option linter.all false
set_option maxRecDepth 100000
set_option maxHeartbeats 4000000
/-! t[::-1] of a tuple -/
namespace DL
open PySem PySem.Spec L2 PyProof.Rows HT
theorem back_adjust (n : Nat) : Builtin.Slice.sliceAdjust none none (-1) (n : Int) = ((n : Int) - 1, -1) := rfl
theorem back_places (n : Nat) : Builtin.Slice.slicePlaces ((n : Int) - 1) (-1) (-1) = n := by
  unfold Builtin.Slice.slicePlaces
  have h1 : ¬ ((-1 : Int) > 0) := by decide
  rw [if_neg h1]
  have e : (-(-1) : Int) = 1 := by decide
  rw [e, Int.ediv_one]
  split <;> omega
theorem filterMap_same {α β : Type} {f g : α → Option β} : ∀ {l : List α}, (∀ a ∈ l, f a = g a) → l.filterMap f = l.filterMap g
  | [], _ => rfl
  | a :: l, h => by
    rw [List.filterMap_cons, List.filterMap_cons, h a List.mem_cons_self, filterMap_same fun b hb => h b (List.mem_cons_of_mem _ hb)]
theorem back_pick (xs : List Value) : ((List.range xs.length).filterMap fun (k : Nat) => xs.toArray[(((xs.length : Int) - 1) + (k : Int) * (-1)).toNat]?) = xs.reverse := by
  have h : ∀ k ∈ List.range xs.length, xs.toArray[(((xs.length : Int) - 1) + (k : Int) * (-1)).toNat]? = xs.reverse[k]? := by
    intro k hk
    have hk := List.mem_range.mp hk
    have e : (((xs.length : Int) - 1) + (k : Int) * (-1)).toNat = xs.length - 1 - k := by omega
    rw [e, List.getElem?_toArray, List.getElem?_reverse hk]
  have e1 : ((List.range xs.length).filterMap fun (k : Nat) => xs.toArray[(((xs.length : Int) - 1) + (k : Int) * (-1)).toNat]?) = (List.range xs.length).filterMap fun k => xs.reverse[k]? := filterMap_same h
  rw [e1]
  have key : ∀ (l : List Value), ((List.range l.length).filterMap fun k => l[k]?) = l := by
    intro l
    induction l with
    | nil => rfl
    | cons a l ih =>
      rw [List.length_cons, List.range_succ_eq_map, List.filterMap_cons, List.filterMap_map]
      show a :: (List.filterMap (fun k => l[k]?) (List.range l.length)) = a :: l
      rw [ih]
  have := key xs.reverse
  rw [List.length_reverse] at this
  exact this
/-- what tuple.__getitem__ gives of [::-1] -/
theorem back_meets {t sl : Addr} {items : List Value} {vs : Value} (ps : IsPart vs (some (-1))) (hz : items.length ≤ sizeLine) : Meets (Builtin.«tuple.__getitem__» ⟨[.ref t, .ref sl], []⟩)
    (fun _ R s => IsTup s.heap t items.toArray ∧ s.heap.IsSliceOf sl .none .none vs ∧ (R (.ok (.ret (.ref s.heap.objs.size))) { s with heap := s.heap.push { cls := .type "tuple", data := .seq items.reverse.toArray } })) :=
  .of_wp fun prog w A R s ⟨ht, hs, h⟩ => by
    obtain ⟨os, ho, hc, hd⟩ := id hs
    have ty : s.TypeIs (.ref sl) "slice" := ⟨os, ho, hc⟩
    have ok : sizeOk (.seq items.reverse.toArray) := by
      show items.reverse.toArray.size ≤ sizeLine
      simpa using hz
    change wpAny _ _ (Builtin.Tuple.tupleItemsOf (.ref t) >>= _) _ _ s
    apply wpAny_bind
    apply tupleItemsOf_ ht
    apply wpAny_bind
    apply wpAny_typeOf ty
    rw [if_pos (by decide)]
    have app : ∀ {Q : Int × Int × Nat → Shared → Prop} {E : Value → Shared → Prop}, Q ((items.length : Int) - 1, -1, items.length) s → wpAny (model prog w) A.in1 (Builtin.Slice.sliceApplied (.ref sl) (pure (items.toArray.size : Int))) Q E s := by
      intro Q E q
      unfold Builtin.Slice.sliceApplied Builtin.Slice.sliceFields
      apply wpAny_bind
      apply wpAny_bind
      refine wpAny_field ho hd (x := .none) rfl ?_
      apply wpAny_bind
      refine wpAny_field ho hd (x := .none) rfl ?_
      apply wpAny_bind
      refine wpAny_field ho hd (x := vs) rfl ?_
      apply wpAny_pure
      apply wpAny_bind
      refine slicePart_ ps ?_
      change wpAny _ _ (if ((-1 : Int) == 0) = true then _ else _) _ _ s
      rw [if_neg (by decide)]
      apply wpAny_bind
      apply slicePart_none
      apply wpAny_bind
      apply slicePart_none
      apply wpAny_bind
      apply wpAny_pure
      change wpAny _ _ (pure ((((items.toArray.size : Nat) : Int) - 1), (-1 : Int), Builtin.Slice.slicePlaces (((items.toArray.size : Nat) : Int) - 1) (-1) (-1))) _ _ s
      rw [back_places, List.size_toArray]
      exact wpAny_pure q
    apply wpAny_bind
    apply app
    have no : ¬ ((((items.length : Int) - 1) == 0 && (-1 : Int) == 1 && items.length == items.toArray.size) = true) := by simp
    change wpAny _ _ (if (((items.length : Int) - 1) == 0 && (-1 : Int) == 1 && items.length == items.toArray.size) = true then _ else _) _ _ s
    rw [if_neg no, back_pick]
    first
      | exact wpAny_bind (m := Builtin.Tuple.tupleExact _) (wpAny_newObj_type (wpAny_pure ⟨_, rfl, h⟩) ok)
      | exact wpAny_bind (m := Builtin.Tuple.tupleExact _) (wpAny_newObj_type (wpAny_bind (wpAny_pure (wpAny_pure ⟨_, rfl, h⟩))) ok)
      | exact wpAny_bind (wpAny_bind (m := Builtin.Tuple.tupleExact _) (wpAny_newObj_type (wpAny_pure (wpAny_pure ⟨_, rfl, h⟩)) ok))
section
variable {X : Cx} {W : WX} {e : Expr} {f : Fe}
def tRevT (K : PySem.W.Frag) (te : TE) : TE := fun σ H Q => te σ H fun x H1 => ∃ a xs, x = .ref a ∧ SqT K H1 a xs ∧ ∀ p, H1 p = none → Q (.ref p) (upd H1 p (.tup xs.reverse))
abbrev minus1 (k : Nat) (p q : Pos) : Expr := .UnaryOp .USub (.Constant (.int 1) k p) q
theorem pe_revT {te : TE} {k : Nat} {p1 p2 p3 pos : Pos} (he : PE X e te) : PE X (.Subscript e (.Slice none none (some (minus1 k p1 p2)) p3) pos) (tRevT X.K te) := by
  constructor
  intro pins s σ H Q I h
  have stp : PO X (some (minus1 k p1 p2)) (tPart (tUn (rU fun i => .int (-i)) (tC (.int 1)))) := po_some (pe_un un_neg pe_int)
  apply Subscript_
  refine thn (he.run pins s σ H _ I h) ?_
  rintro v s1 ⟨_, H1, I1, rv, a, xs, rfl, ha, q⟩
  cases rv
  apply wpAny_Slice
  refine thn (po_none.run pins s1 σ H1 (fun o G => o = none ∧ G = H1) I1 ⟨rfl, rfl⟩) ?_
  rintro lo s2 ⟨_, _, I2, plo, rfl, rfl⟩
  refine thn (po_none.run pins s2 σ _ (fun o G => o = none ∧ G = _) I2 ⟨rfl, rfl⟩) ?_
  rintro hi s3 ⟨_, _, I3, phi, rfl, rfl⟩
  refine thn (stp.run pins s3 σ _ (fun o G => o = some (-1) ∧ G = _) I3 ⟨1, rfl, -1, rfl, rfl, rfl⟩) ?_
  rintro st s4 ⟨_, _, I4, pst, rfl, rfl⟩
  cases plo
  cases phi
  have up : ∀ b ob, s4.heap.get? b = some ob → (s4.heap.push { cls := .type "slice", data := .fields #[.none, .none, st] }).get? b = some ob := fun b ob q => Heap.get?_push_of_some _ q
  have I5 := I4.kept (t' := s4.toks) up
  obtain ⟨its, r, ht, hz⟩ := I5.tuple ha
  change wpAny (model X.prog X.w) X.A (subscriptTail e (.Slice none none (some (minus1 k p1 p2)) p3) (.ref a) (.ref s4.heap.objs.size)) (EP X pins σ Q) X.xe { s4 with heap := s4.heap.push { cls := .type "slice", data := .fields #[.none, .none, st] } }
  refine tail_any (ops := [.ref a, .ref s4.heap.objs.size]) ht.typeIs (PyProof.Rows.slot_tuple_getitem.lookup) ?_ (by with_unfolding_all rfl)
  have hl : its.length ≤ sizeLine := by rw [← r.length]; exact hz
  refine getItem_meets ht.typeIs (by decide) PyProof.Rows.slot_tuple_getitem entry_tuple_getitem (args_tuple_getitem _ _) (back_meets pst hl) ?_
  refine ⟨ht, Heap.IsSliceOf.new _ _ _ _, ?_⟩
  refine ⟨.ref _, _, I5.laid (t' := s4.toks) (o := .tup xs.reverse) (fun b ob q => Heap.get?_push_of_some _ q) (Nat.le_refl _) ?_, rfl, q _ (I5.hok.fresh (Nat.le_refl _))⟩
  refine ⟨by rw [List.length_reverse]; exact hz, its.reverse, r.reverse, ?_⟩
  exact ⟨_, Heap.get?_push_size _ rfl, rfl, 0, rfl⟩
def fRev : D → M D
  | .p (.tuple ds) => M.pure (.p (.tuple ds.reverse))
  | _ => M.bad
theorem de_rev {k : Nat} {p1 p2 p3 pos : Pos} (he : DE X W e f) : DE X W (.Subscript e (.Slice none none (some (minus1 k p1 p2)) p3) pos) (eUn fRev f) := (pe_revT he).imp fun σ H Q ⟨w, ρ, S, R, E, P⟩ =>
  stepE R E P fun x w1 H1 S1 dx g1 R1 E1 V1 P1 => by
    unfold fRev at P1
    split at P1
    · have V1 := V1.cases_p
      cases V1 with | tup hx rx =>
      exact ⟨_, _, rfl, SqT.of (R1.same _ _ hx), fun p hp => Post.newTup R1 P1 rx.reverse hp⟩
    · exact P1.elim
end
end DL
set_option Elab.async false
set_option linter.all false
set_option maxRecDepth 100000
namespace DL
open PySem PySem.Spec L2
section
variable {X : Cx} {W : WX} {fsrc : Fsrc} {g : TG} {t : Tg} {tb : Fb} {el : Fe}
theorem de_lcI {elt tg iter : Expr} {ifs : List Expr} {scope : Scope} {own : List (Str × Nat)} {ix : List Nat} {pos : Pos} (hc : X.calm = true) (hN : X.N.Nodup) (hi : DI X W tg iter fsrc) (ok : BlkOk X.N X.env.scope scope own)
    (hT : TgC X.gm g t ix) (hg : ∀ (s : Shared) (H : Hp) (C : Addr) (cl : List (Str × Addr)) (fp : List Addr), PG (X.blk s H scope (compEnvC scope cl C X.env) fp) tg g) (ht : ∀ (s : Shared) (H : Hp) (C : Addr) (cl : List (Str × Addr)) (fp : List Addr), PTs (X.blk s H scope (compEnvC scope cl C X.env) fp) ifs (tDT X.gm Wno tb))
    (he : ∀ (s : Shared) (H : Hp) (C : Addr) (cl : List (Str × Addr)) (fp : List Addr), DE (X.blk s H scope (compEnvC scope cl C X.env) fp) Wno elt el) (hx : own.map (·.2) = ix := by rfl) (hs : ∀ x, foldedSetIterable iter X.env x = pure x := by intro _; rfl) :
    DE X W (.ListComp elt [⟨tg, iter, ifs, 0⟩] scope pos) (eLc fsrc ix t tb el) := by
  subst hx
  exact de_lc hc hN hi ok hT hg ht he hs
theorem ds_setLcI {i : Nat} {y : Str} {py : Pos} {elt tg iter : Expr} {ifs : List Expr} {scope : Scope} {own : List (Str × Nat)} {ix : List Nat} {pos spos : Pos} (hc : X.calm = true) (hN : X.N.Nodup) (hy : X.N[i]? = some y) (hyl : X.env.scope.names.lookup y = some .local)
    (hsw : swapsWith (.ListComp elt [⟨tg, iter, ifs, 0⟩] scope pos) (some (.Name y py)) spos.line X.env = pure true) (hi : DI X W tg iter fsrc) (ok : BlkOk X.N X.env.scope scope own)
    (hT : TgC X.gm g t ix) (hg : ∀ (s : Shared) (H : Hp) (C : Addr) (cl : List (Str × Addr)) (fp : List Addr), PG (X.blk s H scope (compEnvC scope cl C X.env) fp) tg g) (ht : ∀ (s : Shared) (H : Hp) (C : Addr) (cl : List (Str × Addr)) (fp : List Addr), PTs (X.blk s H scope (compEnvC scope cl C X.env) fp) ifs (tDT X.gm Wno tb))
    (he : ∀ (s : Shared) (H : Hp) (C : Addr) (cl : List (Str × Addr)) (fp : List Addr), DE (X.blk s H scope (compEnvC scope cl C X.env) fp) Wno elt el) (hx : own.map (·.2) = ix := by rfl) (hs : ∀ x, foldedSetIterable iter X.env x = pure x := by intro _; rfl) :
    DS X W (.Assign [.Name y py] (.ListComp elt [⟨tg, iter, ifs, 0⟩] scope pos) spos) (sSet i (eLc fsrc ix t tb el)) := by
  subst hx
  exact ds_setLc hc hN hy hyl hsw hi ok hT hg ht he hs
end
end DL
set_option Elab.async false
set_option linter.all false
set_option maxRecDepth 100000
namespace DL
open PySem PySem.Spec L2 RZ
def isTup : D → Bool
  | .p (.tuple _) => true
  | _ => false
theorem isTup_inv {d : D} (h : isTup d = true) : ∃ ds, d = .p (.tuple ds) := by
  cases d with
  | p d => cases d with
    | tuple ds => exact ⟨ds, rfl⟩
    | _ => cases h
  | _ => cases h
theorem notTup_items {d : D} (h : isTup d = false) (S : Store) : seqItems S d = items S d := by
  cases d with
  | o i => rfl
  | s ns => rfl
  | p d => cases d with
    | tuple ds => cases h
    | _ => rfl
theorem zipAt_some {xs ys : List D} {i : Nat} {d : D} (h : zipAt xs ys i = some (some d)) : ∃ a b, xs[i]? = some (.p a) ∧ ys[i]? = some (.p b) ∧ d = .p (.tuple [a, b]) := by
  unfold zipAt at h
  split at h
  · rename_i x y hx hy
    cases x <;> cases y <;> cases h
    exact ⟨_, _, hx, hy, rfl⟩
  · cases h
theorem zipAt_none {xs ys : List D} {i : Nat} (h : zipAt xs ys i = some none) : xs.length ≤ i ∨ ys.length ≤ i := by
  unfold zipAt at h
  split at h
  · rename_i x y hx hy
    cases x <;> cases y <;> cases h
  · rename_i hn
    cases hx : xs[i]? with
    | none => exact .inl (List.getElem?_eq_none_iff.mp hx)
    | some x =>
      cases hy : ys[i]? with
      | none => exact .inr (List.getElem?_eq_none_iff.mp hy)
      | some y => exact absurd hy (hn x y hx)
section
variable {mg : Gm} {w0 : Wd} {a b : Addr} {x y : D}
theorem src_zipL (Vx : RepV w0 (.ref a) x) (Vy : RepV w0 (.ref b) y) (hx : isTup x = false) (hy : isTup y = false) : Src mg (Itz mg.K a b) (.zip x y) w0 := by
  constructor
  · intro i w H S d g R h
    have h : (seqItems S x).bind (fun xs => (seqItems S y).bind fun ys => zipAt xs ys i) = some (some d) := h
    obtain ⟨xs, h1, h⟩ := Option.bind_eq_some_iff.mp h
    obtain ⟨ys, h2, h⟩ := Option.bind_eq_some_iff.mp h
    rw [notTup_items hx] at h1
    rw [notTup_items hy] at h2
    obtain ⟨a', us, e, hs, r⟩ := items_sq R (Vx.growD g) h1
    cases e
    obtain ⟨b', vs, e, ht, r'⟩ := items_sq R (Vy.growD g) h2
    cases e
    obtain ⟨p, q, e1, e2, rfl⟩ := zipAt_some h
    obtain ⟨u, f1, f2⟩ := r.get e1
    obtain ⟨v, f3, f4⟩ := r'.get e2
    refine ⟨⟨us, vs, u, v, hs, ht, f1, f3⟩, fun z H' ⟨T, u', v', ez, hT, eH, k1, k2⟩ => ?_⟩
    have k1 := k1 us hs
    have k2 := k2 vs ht
    rw [f1] at k1
    rw [f3] at k2
    cases k1
    cases k2
    subst ez eH
    obtain ⟨g', R'⟩ := R.newP (.tup [u, v]) hT
    exact ⟨_, g', R', .tup upd_same (.cons (RepP.mono g'.z _ _ f2) (.cons (RepP.mono g'.z _ _ f4) .nil))⟩
  · intro i w H S g R h
    have h : (seqItems S x).bind (fun xs => (seqItems S y).bind fun ys => zipAt xs ys i) = some none := h
    obtain ⟨xs, h1, h⟩ := Option.bind_eq_some_iff.mp h
    obtain ⟨ys, h2, h⟩ := Option.bind_eq_some_iff.mp h
    rw [notTup_items hx] at h1
    rw [notTup_items hy] at h2
    obtain ⟨a', us, e, hs, r⟩ := items_sq R (Vx.growD g) h1
    cases e
    obtain ⟨b', vs, e, ht, r'⟩ := items_sq R (Vy.growD g) h2
    cases e
    exact ⟨us, vs, hs, ht, by rw [r.length, r'.length]; exact zipAt_none h⟩
theorem src_zipT {K : PySem.W.Frag} {ds es : List PyData} (Vx : RepV w0 (.ref a) (.p (.tuple ds))) (Vy : RepV w0 (.ref b) (.p (.tuple es))) : Src mg (ItzT K a b) (.zip (.p (.tuple ds)) (.p (.tuple es))) w0 := by
  constructor
  · intro i w H S d g R h
    have h : zipAt (ds.map D.p) (es.map D.p) i = some (some d) := h
    have Vx := (Vx.growD g).cases_p
    have Vy := (Vy.growD g).cases_p
    cases Vx with | tup hx rx =>
    cases Vy with | tup hy ry =>
    rename_i us vs
    obtain ⟨p, q, e1, e2, rfl⟩ := zipAt_some h
    obtain ⟨u, f1, f2⟩ := (RepPs.toVs (w := w) rx).get e1
    obtain ⟨v, f3, f4⟩ := (RepPs.toVs (w := w) ry).get e2
    have hs : SqT K H a us := SqT.of (R.same _ _ hx)
    have ht : SqT K H b vs := SqT.of (R.same _ _ hy)
    refine ⟨⟨us, vs, u, v, hs, ht, f1, f3⟩, fun z H' ⟨T, u', v', ez, hT, eH, k1, k2⟩ => ?_⟩
    have k1 := k1 us hs
    have k2 := k2 vs ht
    rw [f1] at k1
    rw [f3] at k2
    cases k1
    cases k2
    subst ez eH
    obtain ⟨g', R'⟩ := R.newP (.tup [u, v]) hT
    exact ⟨_, g', R', .tup upd_same (.cons (RepP.mono g'.z _ _ f2) (.cons (RepP.mono g'.z _ _ f4) .nil))⟩
  · intro i w H S g R h
    have h : zipAt (ds.map D.p) (es.map D.p) i = some none := h
    have Vx := (Vx.growD g).cases_p
    have Vy := (Vy.growD g).cases_p
    cases Vx with | tup hx rx =>
    cases Vy with | tup hy ry =>
    have := zipAt_none h
    rw [List.length_map, List.length_map] at this
    exact ⟨_, _, SqT.of (R.same _ _ hx), SqT.of (R.same _ _ hy), by rw [rx.length, ry.length]; exact this⟩
end
def ofZip2 : List D → M SrcV
  | [x, y] => fun S => if isTup x = isTup y ∧ (seqItems S x).isSome = true ∧ (seqItems S y).isSome = true then .ok (.zip x y) S else .bad
  | _ => M.bad
def srcZip2 (f g : Fe) : Fsrc := fun ρ => M.bind (aCons f (aCons g aNil) ρ) ofZip2
section
variable {X : Cx} {W : WX} {a b : Expr} {f g : Fe} {pos : Pos}
theorem di_zip {p tpos : Pos} {elts : List Expr} {kk : Nat} (hg : Gl X "zip") (hm : X.mg "zip" = none) (ha : DE X W a f) (hb : DE X W b g) (hs : starEach [a, b] X.env = (false, eval a X.env) :: starEach [b] X.env := by rfl) (hs2 : starEach [b] X.env = (false, eval b X.env) :: starEach [] X.env := by rfl)
    (hpl : (backTo pos (starEach [b] X.env)).any (·.1) = false := by rfl) : DI X W (.Tuple elts kk tpos) (.Call (.Name "zip" p) [a, b] [] pos) (srcZip2 f g) :=
  ⟨fun pins s σ H T I ⟨w, ρ, S, R, E, P⟩ => (pi_zipA hg hm (da_cons ha (da_cons hb da_nil hs2) hs) hs hpl).run pins s σ H T I (by
    refine stepA R E P fun vs w1 H1 S1 ds g1 R1 E1 V1 P1 => ?_
    unfold ofZip2 at P1
    split at P1
    · rename_i dx dy
      obtain ⟨x, y, rfl, vx, vy⟩ := RepVs.two V1
      by_cases hc : isTup dx = isTup dy ∧ (seqItems S1 dx).isSome = true ∧ (seqItems S1 dy).isSome = true
      · rw [if_pos hc] at P1
        obtain ⟨he, h1, h2⟩ := hc
        cases ht : isTup dx with
        | true =>
          obtain ⟨ds, rfl⟩ := isTup_inv ht
          obtain ⟨es, rfl⟩ := isTup_inv (he.symm.trans ht)
          have vx' := vx.cases_p
          have vy' := vy.cases_p
          cases vx' with | tup hx rx =>
          cases vy' with | tup hy ry =>
          exact ⟨_, _, _, _, rfl, .inr ⟨SqT.of (R1.same _ _ hx), SqT.of (R1.same _ _ hy), P1 w1 H1 (Grow.refl _) R1 _ (src_zipT vx vy)⟩⟩
        | false =>
          have hy := he.symm.trans ht
          rw [notTup_items ht] at h1
          rw [notTup_items hy] at h2
          obtain ⟨xs, q1⟩ := Option.isSome_iff_exists.mp h1
          obtain ⟨ys, q2⟩ := Option.isSome_iff_exists.mp h2
          obtain ⟨a', us, rfl, k1, r1⟩ := items_sq R1 vx q1
          obtain ⟨b', vs', rfl, k2, r2⟩ := items_sq R1 vy q2
          exact ⟨_, _, _, _, rfl, .inl ⟨k1, k2, P1 w1 H1 (Grow.refl _) R1 _ (src_zipL vx vy ht hy)⟩⟩
      · rw [if_neg hc] at P1; exact P1.elim
    · exact P1.elim)⟩
end
end DL
set_option Elab.async false
set_option linter.all false
set_option maxRecDepth 100000
namespace DL
open PySem PySem.Spec L2 PySem.HandSPX
/-- a def at a known place is worth its reading -/
theorem law_fn {P : Program} {w : World} {K : PySem.W.Frag} {mg : Str → Option Value} {base : Heap} {x : Str} {st : Stmt} {f : Addr} {fd : FuncData} {N ps : List Str} {k : Nat} {g : Fs} (Fn : Fun K x x st f fd) (S : FnScope N ps (defScope st))
    (hbody : ∀ (cdv : Value) (A : Around) (outer : List Env) (s : Shared) (H : Hp) (E : XK), Room k (A.deeper (PyProof.Rows.envOfC x (defScope st) s.heap.objs.size f cdv)) →
      DSs (cxOf (L2.CX P w) P w K mg base N x (defScope st) f cdv A outer s H E) (WF E) (defBody st) g) : FnOk P w K mg base (L2.CX P w) (k + 1) f fd ps (spD ⟨mg, K⟩ (bodyF ps.length N.length g)) :=
  fnd_of Fn S hbody fun ds S' nb => by
    unfold bodyF at nb ⊢
    by_cases e : ds.length = ps.length
    · rw [if_pos e]; exact ⟨e, rfl⟩
    · rw [if_neg e] at nb; exact absurd rfl nb
/-- the text of an error's __init__ -/
def ErrText (st : Stmt) (a : Str) : Prop := ∃ (m : Str) (p1 p2 q1 q2 q3 q4 q5 q6 r1 r2 r3 r4 : Pos) (j : Nat), defArgs st = xA a p1 p2 ∧ defBody st = xB a m q1 q2 q3 q4 q5 q6 r1 r2 r3 r4 j ∧ defScope st = xS a ∧ (q3.endLine == q5.line) = true
/-- whether an error of one class is caught by the name of another -/
theorem exm_two {K : PySem.W.Frag} {C Y : Addr} {b : Bool} (h1 : PySem.W.subIn K (.ref C) (.type "BaseException") = some true) (h2 : PySem.W.isClsIn K C = true) (h3 : PySem.W.typeIn K (.ref C) = some (.type "type")) (h4 : PySem.W.subIn K (.ref Y) (.ref C) = some b) :
    PySem.W.exmOne K (.ref Y) (.ref C) = some b := by
  have h2 : (PySem.W.clsIn K C).isSome = true := h2
  unfold PySem.W.exmOne PySem.W.kitCls
  simp only [h1, h3, beq_self_eq_true, if_true, h2, Bool.and_self]
  exact h4
theorem kit_self {K : PySem.W.Frag} {C : Addr} : PySem.W.kitOne K (.ref C) (.ref C) = some true := by
  unfold PySem.W.kitOne
  rw [if_pos (by simp)]
theorem kit_own {K : PySem.W.Frag} {C : Addr} {T : String} {b : Bool} (h2 : PySem.W.isClsIn K C = true) (h3 : PySem.W.typeIn K (.ref C) = some (.type "type")) (h4 : PySem.W.subIn K (.type T) (.ref C) = some b) : PySem.W.kitOne K (.type T) (.ref C) = some b := by
  have h2 : (PySem.W.clsIn K C).isSome = true := h2
  have ne : ¬ ((Value.type T == Value.ref C) = true) := by simp
  unfold PySem.W.kitOne PySem.W.kitCls
  simp only [if_neg ne, h3, beq_self_eq_true, if_true, h2, Bool.and_self]
  exact h4
end DL
set_option Elab.async false
set_option linter.all false
set_option maxRecDepth 100000
set_option maxHeartbeats 4000000
/-! errors as values -/
namespace DL
open PySem PySem.Spec L2 PyProof.Rows
section
variable {X : Cx} {W : WX} {c a : Str} {f : Fe} {pos : Pos}
/-- an exception object that is known whole -/
def Exo (oe : Obj) : HO := .frz oe (.ext fun _ => True)
/-- c(e) -/
def tErrV (C : Addr) (a : Str) (ta : TA) : TE := fun σ H Q => ta σ H fun vs H1 => ∃ v, vs = [v] ∧ ∀ x d oe fv, H1 d = none → H1 x = none → x ≠ d → oe.cls = .ref C → oe.dict = some d → oe.data = .fields fv → Q (.ref x) (upd (upd H1 d (.xd [(a, v)])) x (Exo oe))
theorem pe_errV {e : Expr} {ta : TA} {p pos : Pos} {k : Nat} {C fI : Addr} (T : ErrC X.prog X.K X.mg a C fI) (hc : X.mg c = some (.ref C)) (PA' : PlainA a) (hd : (c == ("__debug__" : Str)) = false) (hr : Room k X.A) (ha : PA X [e] ta) (hg : Gl X c)
    (he : starEach (e :: []) X.env = (false, eval e X.env) :: starEach [] X.env := by rfl) (hpl : (backTo pos (starEach [] X.env)).any (·.1) = false := by rfl) :
    PE X (.Call (.Name c p) [e] [] pos) (tErrV C a ta) := by
  refine ⟨fun pins s σ H Q I h => ?_⟩
  refine wpAny_Call_Name_kw (ld_glob I hg hc ?_ hd)
  refine PySem.W.callWith_K (h₀ := X.base) I.ok.mod.kin T.kC (thn (ha.run pos pins s σ H _ I h) fun us s1 hh => ?_) he hpl
  obtain ⟨vs, H1, I1, r1, v, ev, q1⟩ := hh
  subst ev
  refine ⟨I1.kIn, ?_⟩
  cases r1 with
  | cons rv rn =>
    rename_i v' us'
    cases rn
    show wpAny _ _ (call (.ref C) [v']) _ _ _
    have hlim := I1.nolimit
    obtain ⟨mb, hb1, hb2⟩ := I1.mod.blt
    have hgl := I1.mod.glob.keeps I1.bk
    have hbl := hb1.keeps I1.bk
    have hbs : mb "super" = some (.type "super") := (hb2 _ (by decide +kernel)).trans (by first | boot_by_name | rfl | kernel_rfl)
    obtain ⟨hp, g, dr, tk, os⟩ := s1
    refine wpAny_call (err_made T PA' I1.kIn hgl hbl hbs hlim (by have := hr.dp; omega) fun h' tk' x d M => ?_)
    obtain ⟨oe, fv, hoe, hcl, hd', hdat, h1⟩ := M.obj
    have hns := M.ns
    obtain ⟨G', g1, g2⟩ := restrict h' fun b => decide (b ≠ x)
    have gk : ∀ b, b ≠ x → G'.get? b = h'.get? b := fun b hb => g1 b (decide_eq_true hb)
    have ge : G'.get? x = none := g2 x (by simp)
    have up : ∀ b o, G'.get? b = some o → h'.get? b = some o := fun b o q => by
      by_cases hb : b = x
      · rw [hb, ge] at q; cases q
      · exact (gk b hb).symm.trans q
    have old : ∀ b o, hp.get? b = some o → G'.get? b = some o := fun b o q => (gk b (Nat.ne_of_lt (Nat.lt_of_lt_of_le (Heap.lt_size q) M.new))).trans (M.keep b o q)
    have ob : ObjOk X.prog X.w (upd H1 d (.xd [(a, v)])) G' d (.xd [(a, v)]) :=
      ⟨_, hns.at (fun o q => (gk d M.dne).trans q), fun f => relO_err rv f⟩
    have J : Inv X pins σ (upd H1 d (.xd [(a, v)])) ⟨G', g, dr, tk', os⟩ := I1.laid (t' := tk') old M.dbig ob
    have nx : H1 x = none := I1.hok.fresh M.new
    have nx' : (upd H1 d (.xd [(a, v)])) x = none := by rw [upd_ne (Ne.symm M.dne)]; exact nx
    have J2 : Inv X pins σ (upd (upd H1 d (.xd [(a, v)])) x (Exo oe)) ⟨h', g, dr, tk', os⟩ := J.laidN (t' := tk') up ge nx' ⟨hoe, True.intro, ⟨oe, hoe⟩, fun _ _ _ _ => True.intro⟩
    exact ⟨.ref x, _, J2, rfl, q1 x d oe fv (I1.hok.fresh M.dbig) nx (Ne.symm M.dne) hcl hd' hdat⟩
def kErr (c a : Str) : D → M D
  | .p d => fun S => .ok (.o S.length) (S ++ [.exn c a d])
  | _ => M.bad
def eErr (c a : Str) (f : Fe) : Fe := fun ρ => M.bind (f ρ) (kErr c a)
theorem de_err {e : Expr} {p : Pos} {k : Nat} (T : ErrTxt X.prog X.K X.mg c a) (hr : Room k X.A) (he : DE X W e f) (hg : Gl X c := by rfl)
    (hs : starEach (e :: []) X.env = (false, eval e X.env) :: starEach [] X.env := by rfl) (hpl : (backTo pos (starEach [] X.env)).any (·.1) = false := by rfl) : DE X W (.Call (.Name c p) [e] [] pos) (eErr c a f) := by
  obtain ⟨C, fI, hc, T'⟩ := T.at_
  refine (pe_errV T' hc T.pl T.nd hr (pa_cons he pa_nil hs) hg hs hpl).imp fun σ H Q ⟨w, ρ, S, R, E, P⟩ => ?_
  refine stepE R E P fun v w1 H1 S1 d g1 R1 E1 V1 P1 => ?_
  refine ⟨v, rfl, fun x dx oe fv hdx hx ne h1 h2 h3 => ?_⟩
  cases d with
  | p d =>
    obtain ⟨g2, R2⟩ := R1.newP (.xd [(a, v)]) hdx
    have hx2 : (upd H1 dx (.xd [(a, v)])) x = none := by rw [upd_ne ne]; exact hx
    obtain ⟨g3, R3⟩ := R2.newC (o := Exo oe) (c := .exn c a d) hx2 ⟨C, dx, v, fv, hc, h1, h2, h3, upd_same, RepP.mono g2.z _ _ V1⟩
    exact P1 _ _ (g2.trans g3) R3 _ ⟨x, by show (w1.m ++ [x])[S1.length]? = some x; rw [← R1.len]; simp, rfl⟩
  | o i => exact P1.elim
  | s ns => exact P1.elim
/-- x.m of an error -/
def tErrAtV (X : Cx) (m : Str) (te : TE) : TE := fun σ H Q => te σ H fun x H1 => ∃ (a C fI dd : Addr) (v : V) (oe : Obj) (ex : HO) (vs : Array Value), x = .ref a ∧ H1 a = some (.frz oe ex) ∧ oe.cls = .ref C ∧ oe.dict = some dd ∧ oe.data = .fields vs ∧ H1 dd = some (.xd [(m, v)]) ∧ ErrC X.prog X.K X.mg m C fI ∧ Q v H1
theorem pe_errAtV {m : Str} {e : Expr} {te : TE} (he : PE X e te) (hb : attributeBase e m X.env (eval e X.env) = eval e X.env := by rfl) : PE X (.Attribute e m pos) (tErrAtV X m te) := by
  refine ⟨fun pins s σ H Q I h => ?_⟩
  refine attr_of hb (thn (he.run pins s σ H _ I h) fun u s1 hh => ?_)
  obtain ⟨x, H1, I1, rx, a, C, fI, dd, v, oe, eh, vs, ex, ha, ec, ed, hd, ea, T, q⟩ := hh
  subst ex
  obtain rfl : u = Value.ref a := rx
  have ha : s1.heap.get? a = some oe := (show ObjOk X.prog X.w H1 s1.heap a (.frz oe eh) from I1.hok a _ ha).1
  have hx : ObjOk X.prog X.w H1 s1.heap dd (.xd [(m, v)]) := I1.hok dd _ ea
  obtain ⟨mA, hns, hr⟩ := hx
  obtain ⟨od, ho, hl⟩ := lookIn_ns hns
  have l : List.lookup m [(m, v)] = some v := by simp [List.lookup]
  obtain ⟨u, hu, ru⟩ := RelO.some_of (v := v) (o := mA m) (by rw [← l]; exact hr m)
  have J : PySem.W.InstAt s1.heap a oe C (some od) := ⟨ha, ec, by unfold PySem.W.notCls; rw [hd] <;> rfl, by rw [ed]; exact ho⟩
  exact HandSPX.exc_get I1.kIn J T.ga T.gg T.exC (PySem.W.findObj_own T.hdC T.noN rfl (by rw [hl, hu])) (handed_of ru) ⟨v, H1, I1.tok _, ru, q⟩
def exnAt (S : Store) : D → Option (Str × Str × PyData)
  | .o i => match S[i]? with
    | some (.exn c a d) => some (c, a, d)
    | _ => none
  | _ => none
theorem RepC.exn_inv {mg : Gm} {w : Wd} {o : HO} {c a : Str} {d : PyData} (h : RepC mg w o (.exn c a d)) : ∃ oe ex C dx v vs, o = .frz oe ex ∧ mg.mg c = some (.ref C) ∧ oe.cls = .ref C ∧ oe.dict = some dx ∧ oe.data = .fields vs ∧ w.Z dx = some (.xd [(a, v)]) ∧ RepP w.Z v d := by
  cases o with
  | frz ob u =>
    cases u with
    | ext φ => exact ⟨ob, _, let ⟨C, dx, v, vs, h1, h2, h3, h4, h5, h6⟩ := h; ⟨C, dx, v, vs, rfl, h1, h2, h3, h4, h5, h6⟩⟩
    | _ => exact False.elim h
  | _ => exact False.elim h
theorem exnAt_inv {mg : Gm} {w : Wd} {H : Hp} {S : Store} {x : V} {d : D} {c a : Str} {p : PyData} (R : Rep mg w H S) (V1 : RepV w x d) (h : exnAt S d = some (c, a, p)) :
    ∃ (x' C dx : Addr) (v : V) (oe : Obj) (ex : HO) (vs : Array Value), x = .ref x' ∧ H x' = some (.frz oe ex) ∧ mg.mg c = some (.ref C) ∧ oe.cls = .ref C ∧ oe.dict = some dx ∧ oe.data = .fields vs ∧ w.Z dx = some (.xd [(a, v)]) ∧ RepP w.Z v p := by
  cases d with
  | p d => cases h
  | s ns => cases h
  | o i =>
    obtain ⟨y, hy, rfl⟩ := V1
    replace h : (match S[i]? with
      | some (.exn c a d) => some (c, a, d)
      | _ => none) = some (c, a, p) := h
    split at h
    · rename_i c' a' d' e
      cases h
      obtain ⟨o, ho, r⟩ := R.at_ hy e
      obtain ⟨oe, ex, C, dx, v, vs, rfl, h1, h2, h3, h4, h5, h6⟩ := r.exn_inv
      exact ⟨y, C, dx, v, oe, ex, vs, rfl, ho, h1, h2, h3, h4, h5, h6⟩
    · cases h
def fEat (ECs : List Str) (m : Str) : D → M D := fun x S => match exnAt S x with
  | some (c, a, d) => if a = m ∧ ECs.contains c = true then .ok (.p d) S else .bad
  | none => .bad
theorem de_eat {ECs : List Str} {m : Str} {e : Expr} (TS : ∀ c, ECs.contains c = true → ErrTxt X.prog X.K X.mg c m) (he : DE X W e f) (hb : attributeBase e m X.env (eval e X.env) = eval e X.env := by rfl) : DE X W (.Attribute e m pos) (eUn (fEat ECs m) f) :=
  (pe_errAtV he hb).imp fun σ H Q ⟨w, ρ, S, R, E, P⟩ => by
    refine stepE R E P fun v w1 H1 S1 d g1 R1 E1 V1 P1 => ?_
    unfold fEat at P1
    cases q : exnAt S1 d with
    | none => rw [q] at P1; exact P1.elim
    | some t =>
      obtain ⟨c, a, p⟩ := t
      rw [q] at P1
      dsimp only at P1
      by_cases hc : a = m ∧ ECs.contains c = true
      · rw [if_pos hc] at P1
        obtain ⟨rfl, hc⟩ := hc
        obtain ⟨x', C, dx, v', oe, ex, vs, e1, e2, e3, e4, e5, e6, e7, e8⟩ := exnAt_inv R1 V1 q
        obtain ⟨C', fI, h1, h2⟩ := (TS c hc).at_
        have h3 : some (Value.ref C') = some (Value.ref C) := h1.symm.trans e3
        cases h3
        exact ⟨x', C, fI, dx, v', oe, ex, vs, e1, e2, e4, e5, e6, R1.same _ _ e7, h2, Post.here R1 P1 e8⟩
      · rw [if_neg hc] at P1; exact P1.elim
/-! isinstance of an error -/
structure IsE (K : PySem.W.Frag) (C : Addr) : Prop where
  hcl : PySem.W.isClsIn K C = true
  ga : PySem.W.findIn K (.ref C) "__getattribute__" = some (some (.builtin "BaseException.__getattribute__"))
  gg : PySem.W.findIn K (.ref C) "__getattr__" = some none
  sub : PySem.W.subIn K (.ref C) (.type "BaseException") = some true
  ca : PySem.W.findIn K (.ref C) "__class__" = some (some (.builtin "object.__class__"))
  hn : PySem.W.specialIn K (.builtin "object.__class__") "__get__" = some (some (.builtin "getset_descriptor.__get__"))
  htk : PySem.W.takesIn K (.builtin "object.__class__") = some true
  hm : PySem.W.mroIn K C (.type "object") = some true
def rIsiE (K : PySem.W.Frag) : List V → Hp → VK → Prop := fun xs H Q => ∃ (x C dx : Addr) (c : V) (u : Value) (oe : Obj) (ex : HO) (vs : Array Value) (fs : List (Str × V)) (b : Bool), xs = [.ref x, c] ∧ ClsV c u ∧ H x = some (.frz oe ex) ∧ oe.cls = .ref C ∧ oe.dict = some dx ∧ oe.data = .fields vs ∧ H dx = some (.xd fs) ∧ IsE K C ∧ PySem.W.kitOne K (.ref C) u = some b ∧ Q (.bl b) H
theorem call_isiE : CallR X (.builtin "isinstance") (rIsiE X.K) := by
  intro pins s σ H xs us Q I r h
  obtain ⟨x, C, dx, c, u, oe, ex, vs, fs, b, rfl, k, ha, ec, ed, hd, ea, T, e, q⟩ := h
  obtain ⟨u1, u2, rfl, r1, r2⟩ := vals2 r
  have e2 := k.eq r2
  subst e2
  cases (show u1 = Value.ref x from r1)
  have ha : s.heap.get? x = some oe := (show ObjOk X.prog X.w H s.heap x (.frz oe ex) from I.hok x _ ha).1
  have hx : ObjOk X.prog X.w H s.heap dx (.xd fs) := I.hok dx _ ea
  obtain ⟨mA, hns, hr⟩ := hx
  obtain ⟨od, ho, hl⟩ := lookIn_ns hns
  have J : PySem.W.InstAt s.heap x oe C (some od) := ⟨ha, ec, by unfold PySem.W.notCls; rw [hd] <;> rfl, by rw [ed]; exact ho⟩
  exact PySem.W.kia_one (PySem.W.kitx_exc (x := x) (ox := oe) (od := some od) T.hcl T.ga T.gg T.sub T.ca T.hn T.htk T.hm) I.kIn J e (fun z => nomatch z) fun tk => ⟨.bl b, H, I.tok tk, rfl, q⟩
structure IsEs (K : PySem.W.Frag) (mg : Str → Option Value) (ECs : List Str) (u : Value) (sub : Str → Bool) : Prop where
  at_ : ∀ y, ECs.contains y = true → ∀ C, mg y = some (.ref C) → IsE K C ∧ PySem.W.kitOne K (.ref C) u = some (sub y)
def fIsiE (ECs : List Str) (sub : Str → Bool) : D → M D := fun x S => match exnAt S x with
  | some (c, _, _) => if ECs.contains c = true then .ok (.p (.bool (sub c))) S else .bad
  | none => .bad
theorem ok_isiE {ECs : List Str} {sub : Str → Bool} {c : V} {u : Value} (k : ClsV c u) (T : IsEs X.K X.mg ECs u sub) {σ : L2.St} {w1 : Wd} {H1 : Hp} {S1 : Store} {x : V} {d : D} {Q : VK} (R1 : Rep X.gm w1 H1 S1) (V1 : RepV w1 x d) (P1 : Post X.gm W σ w1 Q (fIsiE ECs sub d S1)) : rIsiE X.K [x, c] H1 Q := by
  unfold fIsiE at P1
  cases q : exnAt S1 d with
  | none => rw [q] at P1; exact P1.elim
  | some t =>
    obtain ⟨y, a, p⟩ := t
    rw [q] at P1
    dsimp only at P1
    by_cases hc : ECs.contains y = true
    · rw [if_pos hc] at P1
      obtain ⟨x', C, dx, v', oe, ex, vs, rfl, e2, e3, e4, e5, e6, e7, e8⟩ := exnAt_inv R1 V1 q
      obtain ⟨h1, h2⟩ := T.at_ y hc C e3
      exact ⟨x', C, dx, c, u, oe, ex, vs, _, sub y, rfl, k, e2, e4, e5, e6, R1.same _ _ e7, h1, h2, Post.here R1 P1 (.bl _)⟩
    · rw [if_neg hc] at P1; exact P1.elim
theorem de_isiE {ECs : List Str} {sub : Str → Bool} {C : Addr} {c : Str} {e : Expr} {p p2 : Pos} (hg : Gl X "isinstance") (hm : X.mg "isinstance" = none) (hgc : Gl X c) (hmc : X.mg c = some (.ref C)) (T : IsEs X.K X.mg ECs (.ref C) sub) (ha : DE X W e f)
    (hdT : (c == ("__debug__" : Str)) = false := by decide)
    (he : starEach [e, .Name c p2] X.env = (false, eval e X.env) :: starEach [.Name c p2] X.env := by rfl) (he' : starEach [.Name c p2] X.env = (false, eval (.Name c p2) X.env) :: starEach [] X.env := by rfl) (hpl : (backTo pos (starEach [.Name c p2] X.env)).any (·.1) = false := by rfl) :
    DE X W (.Call (.Name "isinstance" p) [e, .Name c p2] [] pos) (eUn (fIsiE ECs sub) f) :=
  (pe_callB call_isiE hg hm PyProof.Rows.boot_isinstance (pa_cons ha (pa_cons (pe_glob (v := .ref C) hgc hmc rfl hdT) pa_nil he') he) (by decide) (by decide) he hpl).imp fun σ H Q ⟨w, ρ, S, R, E, P⟩ =>
    stepE R E P fun x w1 H1 S1 d g1 R1 E1 V1 P1 => ok_isiE (.own C) T R1 V1 P1
theorem de_isiET {ECs : List Str} {sub : Str → Bool} {t : Str} {T : String} {e : Expr} {p p2 : Pos} (hg : Gl X "isinstance") (hm : X.mg "isinstance" = none) (hgt : Gl X t) (hmt : X.mg t = none) (hv : bootBuiltins t = some (.type T)) (IE : IsEs X.K X.mg ECs (.type T) sub) (ha : DE X W e f)
    (hn : t ≠ "__name__" := by decide) (hdT : (t == ("__debug__" : Str)) = false := by decide)
    (he : starEach [e, .Name t p2] X.env = (false, eval e X.env) :: starEach [.Name t p2] X.env := by rfl) (he' : starEach [.Name t p2] X.env = (false, eval (.Name t p2) X.env) :: starEach [] X.env := by rfl) (hpl : (backTo pos (starEach [.Name t p2] X.env)).any (·.1) = false := by rfl) :
    DE X W (.Call (.Name "isinstance" p) [e, .Name t p2] [] pos) (eUn (fIsiE ECs sub) f) :=
  (pe_callB call_isiE hg hm PyProof.Rows.boot_isinstance (pa_cons ha (pa_cons (pe_bltn (v := .ty T) hgt hmt hv rfl hn hdT) pa_nil he') he) (by decide) (by decide) he hpl).imp fun σ H Q ⟨w, ρ, S, R, E, P⟩ =>
    stepE R E P fun x w1 H1 S1 d g1 R1 E1 V1 P1 => ok_isiE (.ty T) IE R1 V1 P1
end
end DL
set_option Elab.async false
set_option linter.all false
set_option maxRecDepth 100000
set_option maxHeartbeats 4000000
/-! lists of errors; except T as e: return isinstance(e, C) and e.a == .. -/
namespace DL
open PySem PySem.Spec L2 PyProof.Rows
section
variable {X : Cx} {W : WX} {f g : Fe} {a b : Expr} {pos : Pos}
/-- two lists that may hold anything, one behind the other -/
def fCat2 : D → D → M D
  | .o i, .o j => fun S => match lstAt S i, lstAt S j with
    | some xs, some ys => if xs.length + ys.length ≤ sizeLine then .ok (.o S.length) (S ++ [.lst (xs ++ ys)]) else .bad
    | _, _ => .bad
  | _, _ => M.bad
theorem RepVs.cat {w : Wd} {vs us : List V} {ds es : List D} (h : RepVs w vs ds) (k : RepVs w us es) : RepVs w (vs ++ us) (ds ++ es) := by
  induction h with
  | nil => exact k
  | cons h1 _ ih => exact .cons h1 ih
theorem ok_cat2 : R2ok X rCat fCat2 := by
  intro w H S x y dx dy W σ Q R vx vy P
  unfold fCat2 at P
  split at P
  · rename_i i j
    obtain ⟨x', hx, rfl⟩ := vx
    obtain ⟨y', hy, rfl⟩ := vy
    cases q1 : lstAt S i with
    | none => simp only [q1] at P; exact P.elim
    | some xs =>
      cases q2 : lstAt S j with
      | none => simp only [q1, q2] at P; exact P.elim
      | some ys =>
        simp only [q1, q2] at P
        by_cases hl : xs.length + ys.length ≤ sizeLine
        · rw [if_pos hl] at P
          obtain ⟨o1, h1, r1⟩ := R.at_ hx (lstAt_some q1)
          obtain ⟨us, rfl, r1⟩ := r1.lst_inv
          obtain ⟨o2, h2, r2⟩ := R.at_ hy (lstAt_some q2)
          obtain ⟨vs, rfl, r2⟩ := r2.lst_inv
          refine ⟨_, _, _, _, rfl, rfl, h1, h2, by rw [r1.length, r2.length]; exact hl, fun p hp => ?_⟩
          obtain ⟨g', R'⟩ := R.newC (o := .lst (us ++ vs)) (c := .lst (xs ++ ys)) hp (RepVs.grow (w := w) (w' := w.addM p) ⟨rfl, rfl, Same.refl _, [p], rfl⟩ (RepVs.cat r1 r2))
          exact P _ _ g' R' _ ⟨p, by show (w.m ++ [p])[S.length]? = some p; rw [← R.len]; simp, rfl⟩
        · rw [if_neg hl] at P; exact P.elim
  · exact P.elim
theorem de_add2 (ha : DE X W a f) (hb : DE X W b g) : DE X W (.BinOp a .Add b pos) (eBin fCat2 f g) := de_bin op_cat ok_cat2 ha hb
/-! the clause -/
def rIsiPin (K : PySem.W.Frag) (e : Addr) (cls : Value) (d : Option Addr) : List V → Hp → VK → Prop := fun xs H Q => ∃ (C dx : Addr) (c : V) (u : Value) (fs : List (Str × V)) (b : Bool), cls = .ref C ∧ d = some dx ∧ IsE K C ∧ xs = [.ref e, c] ∧ ClsV c u ∧ H dx = some (.xd fs) ∧ PySem.W.kitOne K (.ref C) u = some b ∧ Q (.bl b) H
theorem call_isiPin {e : Addr} {oe : Obj} {cls : Value} {d : Option Addr} {pn : List (Addr × Obj)} (hz : Zc cls d oe) (hf : ∃ vs, oe.data = .fields vs) : CallR (X.suite e ((e, oe) :: pn)) (.builtin "isinstance") (rIsiPin X.K e cls d) := by
  intro pins s σ H xs us Q I r h
  obtain ⟨C, dx, c, u, fs, b, ec, ed, T, rfl, k, ea, e1, q⟩ := h
  subst ec ed
  obtain ⟨u1, u2, rfl, r1, r2⟩ := vals2 r
  have e2 := k.eq r2
  subst e2
  cases (show u1 = Value.ref e from r1)
  obtain ⟨ha, _⟩ := I.pin (e, oe) (List.mem_append_left _ List.mem_cons_self)
  obtain ⟨vs, hd⟩ := hf
  have hx : ObjOk X.prog X.w H s.heap dx (.xd fs) := I.hok dx _ ea
  obtain ⟨mA, hns, hr⟩ := hx
  obtain ⟨od, ho, hl⟩ := lookIn_ns hns
  have J : PySem.W.InstAt s.heap e oe C (some od) := ⟨ha, hz.1, by unfold PySem.W.notCls; rw [hd] <;> rfl, by rw [hz.2]; exact ho⟩
  exact PySem.W.kia_one (PySem.W.kitx_exc (x := e) (ox := oe) (od := some od) T.hcl T.ga T.gg T.sub T.ca T.hn T.htk T.hm) I.kIn J e1 (fun z => nomatch z) fun tk => ⟨.bl b, H, I.tok tk, rfl, q⟩
def tErrAtE (X : Cx) (m : Str) (e : Addr) (cls : Value) (d : Option Addr) (te : TE) : TE := fun σ H Q => te σ H fun x H1 => ∃ (C fI dd : Addr) (v : V), ErrC X.prog X.K X.mg m C fI ∧ x = .ref e ∧ cls = .ref C ∧ d = some dd ∧ H1 dd = some (.xd [(m, v)]) ∧ Q v H1
theorem pe_errAtE {m : Str} {e : Addr} {oe : Obj} {cls : Value} {d : Option Addr} {pn : List (Addr × Obj)} {ex : Expr} {te : TE} (hz : Zc cls d oe) (hf : ∃ vs, oe.data = .fields vs) (he : PE (X.suite e ((e, oe) :: pn)) ex te)
    (hb : attributeBase ex m X.env (eval ex X.env) = eval ex X.env := by rfl) : PE (X.suite e ((e, oe) :: pn)) (.Attribute ex m pos) (tErrAtE X m e cls d te) := by
  refine ⟨fun pins s σ H Q I h => ?_⟩
  have h : te σ H fun x H1 => ∃ (C fI dd : Addr) (v : V), ErrC X.prog X.K X.mg m C fI ∧ x = .ref e ∧ cls = .ref C ∧ d = some dd ∧ H1 dd = some (.xd [(m, v)]) ∧ Q v H1 := h
  refine attr_of hb (thn (he.run pins s σ H _ I h) fun u s1 hh => ?_)
  obtain ⟨x, H1, I1, rx, C, fI, dd, v, T, e1, ec, ed, ea, q⟩ := hh
  subst e1 ec ed
  obtain rfl : u = Value.ref e := rx
  obtain ⟨ha, _⟩ := I1.pin (e, oe) (List.mem_append_left _ List.mem_cons_self)
  obtain ⟨vs, hd⟩ := hf
  have hx : ObjOk X.prog X.w H1 s1.heap dd (.xd [(m, v)]) := I1.hok dd _ ea
  obtain ⟨mA, hns, hr⟩ := hx
  obtain ⟨od, ho, hl⟩ := lookIn_ns hns
  have l : List.lookup m [(m, v)] = some v := by simp [List.lookup]
  obtain ⟨u, hu, ru⟩ := RelO.some_of (v := v) (o := mA m) (by rw [← l]; exact hr m)
  have J : PySem.W.InstAt s1.heap e oe C (some od) := ⟨ha, hz.1, by unfold PySem.W.notCls; rw [hd] <;> rfl, by rw [hz.2]; exact ho⟩
  exact HandSPX.exc_get I1.kIn J T.ga T.gg T.exC (PySem.W.findObj_own T.hdC T.noN rfl (by rw [hl, hu])) (handed_of ru) ⟨v, H1, I1.tok _, ru, q⟩
/-- what the clause 'except T as e: return isinstance(e, C) and e.m == k' returns -/
def tRun (EN : List Str) (m : Str) (i : Nat) (sub : Str → Bool) (k : PyData) (x : Exn) (ρ : Sl) (S : Store) : RS := match x.fs with
  | [(a, .p d)] => if EN.contains x.cls = true ∧ i < ρ.length ∧ a = m ∧ (SeqAt.shaped d && SeqAt.shaped k) = true then .rt (.p (.bool (if sub x.cls = true then PyData.eqv d k else false))) S else .bad
  | _ => .bad
def sTryT (EN : List Str) (g : Fs) (m : Str) (i : Nat) (sub : Str → Bool) (k : PyData) : Fs := fun ρ S => match g ρ S with
  | .exc x ρ' S' => tRun EN m i sub k x ρ' S'
  | r => r
def tSuiteT (X : Cx) (m : Str) (i : Nat) (C1 : Addr) (k : Int) : SuiteT := fun e cls dx => fun E σ H => σ[i]? = some (some (.ref e)) ∧ ∃ (C fI dd : Addr) (v : V) (d : PyData) (b : Bool), cls = .ref C ∧ dx = some dd ∧ IsE X.K C ∧ ErrC X.prog X.K X.mg m C fI ∧ H dd = some (.xd [(m, v)]) ∧
  PySem.W.kitOne X.K (.ref C) (.ref C1) = some b ∧ Dp X.K H v d ∧ SeqAt.shaped d = true ∧ SeqAt.shaped (.int k) = true ∧ E.rt (.bl (if b = true then PyData.eqv d (.int k) else false)) H
theorem suite_t {i : Nat} {m n c1 : Str} {C1 : Addr} {k : Int} {j p p1 p2 p3 p4 p5 p6 p7 p8 p9} (hu : X.A.units + 64 < cLine) (hN : X.N[i]? = some n) (hv : Vis X.env.scope n) (hdn : (n == ("__debug__" : Str)) = false) (hcd : (n == ("__classdict__" : Str)) = false)
    (hg : Gl X "isinstance") (hm : X.mg "isinstance" = none) (hgc : Gl X c1) (hmc : X.mg c1 = some (.ref C1)) (hdc : (c1 == ("__debug__" : Str)) = false)
    (hb : attributeBase (.Name n p4) m X.env (eval (.Name n p4) X.env) = eval (.Name n p4) X.env)
    (he : starEach [.Name n p1, .Name c1 p2] X.env = (false, eval (.Name n p1) X.env) :: starEach [.Name c1 p2] X.env) (he' : starEach [.Name c1 p2] X.env = (false, eval (.Name c1 p2) X.env) :: starEach [] X.env) (hpl : (backTo p3 (starEach [.Name c1 p2] X.env)).any (·.1) = false) :
    ∀ (e : Addr) (oe : Obj) (cls : Value) (dx : Option Addr) (pn : List (Addr × Obj)), Zc cls dx oe → (∃ vs, oe.data = .fields vs) →
      PSs (X.suite e ((e, oe) :: pn)) [.Return (some (.BoolOp .And [.Call (.Name "isinstance" p) [.Name n p1, .Name c1 p2] [] p3, .Compare (.Attribute (.Name n p4) m p5) [.Eq] [.Constant (.int k) j p6] p7] p8)) p9] (tSuiteT X m i C1 k e cls dx) := by
  intro e oe cls dx pn hz hf
  have var : ∀ {q : Pos}, PE (X.suite e ((e, oe) :: pn)) (.Name n q) (tVar i) := fun {q} => pe_var (X := X.suite e ((e, oe) :: pn)) (i := i) hN hv hdn hcd
  have hu' : (X.suite e ((e, oe) :: pn)).A.units + 64 < cLine := hu
  refine (pss_one (ps_ret (pe_and (pe_callB (call_isiPin hz hf) hg hm PyProof.Rows.boot_isinstance (pa_cons var (pa_cons (pe_glob (X := X.suite e ((e, oe) :: pn)) (v := .ref C1) hgc hmc rfl hdc) pa_nil he') he) (by decide) (by decide) he hpl)
    (pe_one (pe_cmpR (op_eqD hu') (pe_errAtE hz hf var hb) pe_int (nomark _)))))).imp fun E σ H hh => ?_
  obtain ⟨h1, C, fI, dd, v, d, b, ec, ed, T, TE, ea, kb, hd, sd, sk, q⟩ := hh
  refine ⟨_, h1, C, dd, _, _, _, b, ec, ed, T, rfl, .own C1, ea, kb, b, rfl, ?_⟩
  cases b with
  | false => rw [if_neg Bool.false_ne_true] at q ⊢; exact q
  | true =>
    rw [if_pos rfl] at q ⊢
    exact ⟨_, h1, C, fI, dd, v, TE, rfl, ec, ed, ea, d, .int k, hd, .int k, sd, sk, q⟩
/-- what the class of the clause must be to the errors -/
structure CatchAll (K : PySem.W.Frag) (mg : Str → Option Value) (EN : List Str) (c : Str) : Prop where
  at_ : ∃ C, mg c = some (.ref C) ∧ ∀ y, EN.contains y = true → ∀ Cy, mg y = some (.ref Cy) → PySem.W.exmOne K (.ref Cy) (.ref C) = some true
theorem ds_tryT {EN : List Str} {body : List Stmt} {g : Fs} {m n c c1 : Str} {C1 : Addr} {k : Int} {sub : Str → Bool} (i : Nat) {j p p1 p2 p3 p4 p5 p6 p7 p8 p9 p10 p11} {pos : Pos} (st : X.stack = X.env :: X.outer) (hf : X.env.frame = some X.env.locals) (hNd : X.N.Nodup) (tk : Takes X W)
    (hb : ∀ (W' : WX) (pn : List (Addr × Obj)) (xe : Value → Shared → Prop), Takes (X.tr pn xe) W' → PassesOwn (model X.prog X.w) X.A X.env xe → DSs (X.tr pn xe) W' body g)
    (TC : CatchAll X.K X.mg EN c) (TS : ∀ y, EN.contains y = true → ErrTxt X.prog X.K X.mg y m) (TI : IsEs X.K X.mg EN (.ref C1) sub) (hmc : X.mg c1 = some (.ref C1)) (hm : X.mg "isinstance" = none) (hu : X.A.units + 64 < cLine) (hdcc : (c == ("__debug__" : Str)) = false := by decide)
    (hN : X.N[i]? = some n := by rfl) (hk : X.env.kindOf n = some .local := by rfl) (hv : Vis X.env.scope n := by first | exact Or.inl rfl | exact Or.inr (Or.inl rfl) | exact Or.inr (Or.inr rfl)) (hdn : (n == ("__debug__" : Str)) = false := by decide) (hcd : (n == ("__classdict__" : Str)) = false := by decide)
    (hgT : Gl X c := by rfl) (hg : Gl X "isinstance" := by rfl) (hgc : Gl X c1 := by rfl) (hdc : (c1 == ("__debug__" : Str)) = false := by decide)
    (hat : attributeBase (.Name n p4) m X.env (eval (.Name n p4) X.env) = eval (.Name n p4) X.env := by rfl)
    (he : starEach [.Name n p1, .Name c1 p2] X.env = (false, eval (.Name n p1) X.env) :: starEach [.Name c1 p2] X.env := by rfl) (he' : starEach [.Name c1 p2] X.env = (false, eval (.Name c1 p2) X.env) :: starEach [] X.env := by rfl) (hpl : (backTo p3 (starEach [.Name c1 p2] X.env)).any (·.1) = false := by rfl) :
    DS X W (.Try body [.ExceptHandler (some (.Name c p10)) (some n) [.Return (some (.BoolOp .And [.Call (.Name "isinstance" p) [.Name n p1, .Name c1 p2] [] p3, .Compare (.Attribute (.Name n p4) m p5) [.Eq] [.Constant (.int k) j p6] p7] p8)) p9] p11] [] [] pos) (sTryT EN g m i sub (.int k)) := by
  obtain ⟨C, hC, hcatch⟩ := TC.at_
  refine (ps_try_asMany (Wo := W) st hf hNd tk (tb := fun W' => tDS X.gm W' g) (fun W' pn xe t p => hb W' pn xe t p) (.cons (i := i) ⟨hgT, hdcc, .inl hC⟩ hN hk (suite_t hu hN hv hdn hcd hg hm hgc hmc hdc hat he he' hpl) .nil)).imp fun D σ H ⟨w, ρ, S, R, E, P⟩ => ?_
  refine ⟨w, ρ, S, R, E, ?_⟩
  unfold sTryT at P
  split at P
  · rename_i x ρ' S' e
    rw [e]
    intro σ' cls dx w' H' g' R' E' V'
    replace P := P.grow g'
    revert P
    generalize hP : tRun EN m i sub (.int k) x ρ' S' = rr
    intro P
    revert hP
    intro hP
    have P2 := P
    rw [← hP] at P2
    clear hP P
    obtain ⟨xc, xfs⟩ := x
    obtain ⟨Cx, fs, hx, rfl, hz, hfs⟩ := V'
    unfold tRun at P2
    split at P2
    · rename_i a' d he'
      dsimp only at he'
      subst he'
      dsimp only at hfs hx P2
      by_cases cc : EN.contains xc = true ∧ i < ρ'.length ∧ a' = m ∧ (SeqAt.shaped d && SeqAt.shaped (.int k)) = true
      · rw [if_pos cc] at P2
        obtain ⟨c1', c2, rfl, c4⟩ := cc
        rw [Bool.and_eq_true] at c4
        cases hfs with
        | cons h1 h2 =>
          rename_i p ps
          cases h2
          obtain ⟨pa, pv⟩ := p
          obtain ⟨hpa, hpv⟩ := h1
          dsimp only at hpa hpv
          subst hpa
          have hx : X.mg xc = some (.ref Cx) := hx
          refine ⟨true, hcatch xc c1' Cx hx, .inl ⟨rfl, fun ad ha => ?_⟩⟩
          obtain ⟨Cy, fI, hy, hE⟩ := (TS xc c1').at_
          have e3 : some (Value.ref Cy) = some (Value.ref Cx) := hy.symm.trans hx
          cases e3
          obtain ⟨i1, i2⟩ := TI.at_ xc c1' Cx hx
          refine ⟨by rw [List.getElem?_set_self (by rw [E'.len]; exact c2)], Cx, fI, dx, pv, d, sub xc, rfl, rfl, i1, hE, R'.same _ _ hz, i2, RepP.dpH R' hpv, c4.1, c4.2, ?_⟩
          exact P2 _ _ _ (Grow.refl w') R' (.bl _)
      · rw [if_neg cc] at P2; exact P2.elim
    · exact P2.elim
  · rename_i r hr
    cases e : g ρ S with
    | exc x ρ' S' => exact absurd e (hr x ρ' S')
    | nx _ _ => rw [e] at P; exact P
    | rt _ _ => rw [e] at P; exact P
    | bk _ _ => rw [e] at P; exact P
    | ct _ _ => rw [e] at P; exact P
    | bad => rw [e] at P; exact P
end
end DL
set_option Elab.async false
set_option linter.all false
set_option maxRecDepth 100000
namespace DL
open PySem PySem.Spec L2 PySem.HandSPX
theorem kit_ref {K : PySem.W.Frag} {C Y : Addr} {b : Bool} (h2 : PySem.W.isClsIn K C = true) (h3 : PySem.W.typeIn K (.ref C) = some (.type "type")) (h4 : PySem.W.subIn K (.ref Y) (.ref C) = some b) (ne : (Y == C) = false) : PySem.W.kitOne K (.ref Y) (.ref C) = some b := by
  have h2 : (PySem.W.clsIn K C).isSome = true := h2
  have ne' : ¬ ((Value.ref Y == Value.ref C) = true) := by
    intro q
    have : Y = C := Value.ref.inj (beq_iff_eq.mp q)
    simp [this] at ne
  unfold PySem.W.kitOne PySem.W.kitCls
  simp only [if_neg ne', h3, beq_self_eq_true, if_true, h2, Bool.and_self]
  exact h4
theorem kit_vt {K : PySem.W.Frag} {Y : Addr} {T : String} {b : Bool} (h4 : PySem.W.subIn K (.ref Y) (.type T) = some b) (m : PySem.W.kitMeta T = true) : PySem.W.kitOne K (.ref Y) (.type T) = some b := by
  have ne' : ¬ ((Value.ref Y == Value.type T) = true) := by simp
  unfold PySem.W.kitOne PySem.W.kitCls
  simp only [if_neg ne', m, if_true]
  exact h4
end DL
set_option Elab.async false
set_option linter.all false
set_option maxRecDepth 100000
set_option maxHeartbeats 400000
/-! xs[i] += v of a list of ints -/
namespace DL
open PySem PySem.Spec L2 PyProof.Rows
section
variable {X : Cx} {W : WX} {o i e : Expr} {fo fi fv : Fe} {pos : Pos}
def rGetL (K : PySem.W.Frag) : R2 := fun x y H Q => ∃ p xs k v, x = .ref p ∧ y = .int k ∧ 0 ≤ k ∧ SqL K H p xs ∧ xs[k.toNat]? = some v ∧ Q v H
theorem pget_list : PGet X (rGetL X.K) := by
  intro pins s σ H o i ov iv Q I ro ri h
  obtain ⟨p, xs, k, z, rfl, rfl, h0, hq, he, q⟩ := h
  cases ro
  obtain ⟨t, rfl⟩ := ri
  obtain ⟨its, r, pl, hz⟩ := I.list hq
  obtain ⟨u, eu, ru⟩ := r.get he
  have hk : k.toNat < xs.length := (List.getElem?_eq_some_iff.mp he).1
  have hn := line63
  exact getItem_listL pl.isList h0 (by omega) eu ⟨z, H, I, ru, q⟩
/-- xs[i] += v, of ints -/
def sAugI (fo fi fv : Fe) : Fs := fun ρ S => bindS ρ (fo ρ S) fun x S1 => bindS ρ (fi ρ S1) fun i S2 => match i with
  | .p (.int k) => if 0 ≤ k then (match (items S2 x).bind fun ds => ds[k.toNat]? with
    | some (.p (.int a)) => bindS ρ (fv ρ S2) fun v S3 => match v with
      | .p (.int b) => nxO ρ (setAt x i (.p (.int (a + b))) S3)
      | _ => .bad
    | _ => .bad) else .bad
  | _ => .bad
theorem ds_augI {tpos : Pos} (ho : DE X W o fo) (hi : DE X W i fi) (he : DE X W e fv)
    (ha : ∀ ov iv new, augStore i ov iv new = (do holding [new, ov, iv] (setItem ov iv new); release [new, ov, iv] []; pure .next) := by intros; rfl) : DS X W (.AugAssign (.Subscript o i tpos) .Add e pos) (sAugI fo fi fv) :=
  (ps_augS ho hi pget_list he ip_add set_list ha).imp fun En σ H ⟨w, ρ, S, R, E, P⟩ =>
    stepES R E P fun x w1 H1 S1 dx g1 R1 E1 V1 P1 => stepES R1 E1 P1 fun y w2 H2 S2 dy g2 R2 E2 V2 P2 => by
      split at P2
      · rename_i k
        cases V2.cases_p
        by_cases h0 : 0 ≤ k
        · rw [if_pos h0] at P2
          split at P2
          · rename_i a hq
            obtain ⟨ds, q1, q2⟩ := Option.bind_eq_some_iff.mp hq
            obtain ⟨p, xs, rfl, hs, r⟩ := items_sq R2 (V1.grow g2) q1
            obtain ⟨u, e1, e2⟩ := r.get q2
            cases e2.cases_p
            refine ⟨p, xs, k, _, rfl, rfl, h0, hs, e1, ?_⟩
            refine stepES R2 E2 P2 fun z w3 H3 S3 dz g3 R3 E3 V3 P3 => ?_
            split at P3
            · rename_i b
              cases V3.cases_p
              refine ⟨a, b, rfl, rfl, ?_⟩
              cases q3 : setAt dx (.p (.int k)) (.p (.int (a + b))) S3 with
              | none => rw [q3] at P3; exact P3.elim
              | some S4 =>
                rw [q3] at P3
                exact setAt_inv (y := .p (.int (a + b))) R3 ((V1.grow g2).grow g3) (i := .p (.int k)) (vi := .int k) (.int k) (.int (a + b)) q3 fun H4 R4 => P3 σ w3 H4 (Grow.refl _) R4 E3
            · exact P3.elim
          · exact P2.elim
        · rw [if_neg h0] at P2; exact P2.elim
      · exact P2.elim
end
end DL
set_option Elab.async false
set_option linter.all false
set_option maxRecDepth 100000
namespace DL
open PySem PySem.Spec PyProof.Rows L2
/-! ### a list against the empty list: told by its length -/
def rEqNil (K : PySem.W.Frag) : R2 := fun x y H Q => ∃ a b xs, x = .ref a ∧ y = .ref b ∧ SqL K H a xs ∧ SqL K H b [] ∧ Q (.bl (xs.length == 0)) H
theorem op_eqNil {X : Cx} (hu : X.A.units + 64 < cLine) : OpR X (compareOp .Eq) (rEqNil X.K) := by
  intro pins s σ H x y v u Q I rx ry h
  obtain ⟨a, b, xs, rfl, rfl, h1, h2, q⟩ := h
  cases rx
  cases ry
  obtain ⟨its, r1, ⟨o1, n1, e1, c1, _, d1⟩, _⟩ := I.list h1
  obtain ⟨its2, r2, ⟨o2, n2, e2, c2, _, d2⟩, _⟩ := I.list h2
  cases r2
  have l1 : s.heap.IsList a its.toArray := ⟨o1, e1, c1, n1, d1⟩
  have l2 : s.heap.IsList b ([] : List Value).toArray := ⟨o2, e2, c2, n2, d2⟩
  have hu' : X.A.units < cLine := by omega
  have hl := r1.length
  cases its with
  | nil =>
    have hx : xs = [] := by cases r1; rfl
    subst hx
    exact SeqAt.RcAt.lists (e := fun _ => true) l1 l2 rfl hu' (fun j h1 _ => by simp at h1) _ _ _ _ ⟨.bl _, H, I, rfl, q⟩
  | cons i its =>
    have hx : (xs.length == 0) = false := by rw [hl]; rfl
    rw [hx] at q
    exact SeqAt.RcAt.lists_lengths l1 l2 (by simp) hu' _ _ _ _ ⟨.bl _, H, I, rfl, q⟩
def fEqNil : D → D → M D := fun x y S => match y with
  | .p (.list []) => ofO S ((items S x).map fun ds => .p (.bool (ds.length == 0)))
  | _ => .bad
section
variable {X : Cx} {W : WX} {a b : Expr} {f g : Fe} {pos : Pos}
theorem ok_eqNil : R2ok X (rEqNil X.K) fEqNil := by
  intro w H S x y dx dy W σ Q R vx vy P
  unfold fEqNil at P
  split at P
  · cases q : items S dx with
    | none => rw [q] at P; exact P.elim
    | some ds =>
      rw [q] at P
      obtain ⟨p, xs, rfl, hs, r⟩ := items_sq R vx q
      have v := vy.cases_p
      cases v with | lst hx rx =>
      cases rx
      refine ⟨_, _, xs, rfl, rfl, hs, SqL.of (R.same _ _ hx), ?_⟩
      have e : xs.length = ds.length := r.length
      rw [e]
      have P : Post X.gm W σ w Q (.ok (.p (.bool (ds.length == 0))) S) := P
      exact Post.here R P (.bl _)
  · exact P.elim
theorem de_eqNil (hu : X.A.units + 64 < cLine) (ha : DE X W a f) (hb : DE X W b g) : DE X W (.Compare a [.Eq] [b] pos) (eBin fEqNil f g) := de_cmp (op_eqNil hu) ok_eqNil ha hb (nomark _)
theorem dt_eqNil (hu : X.A.units + 64 < cLine) (ha : DE X W a f) (hb : DE X W b g) : DT X W (.Compare a [.Eq] [b] pos) (eT (eBin fEqNil f g)) := dt_cmp (op_eqNil hu) ok_eqNil ha hb (nomark _)
end
end DL
set_option Elab.async false
set_option linter.all false
set_option maxRecDepth 100000
namespace DL
open PySem PySem.Spec PyProof.Rows L2
/-! ### < of integers or of tuples of integers -/
def asIP : List PyData → Option (List Int)
  | [] => some []
  | .int i :: r => (asIP r).map (i :: ·)
  | _ :: _ => none
def lexLt : List Int → List Int → Bool
  | [], [] => false
  | [], _ :: _ => true
  | _ :: _, [] => false
  | a :: as, b :: bs => if a = b then lexLt as bs else decide (a < b)
def fLtD : D → D → M D
  | .p (.int i), .p (.int j) => M.pure (.p (.bool (decide (i < j))))
  | .p (.tuple xs), .p (.tuple ys) => fun S => match asIP xs, asIP ys with
    | some a, some b => .ok (.p (.bool (lexLt a b))) S
    | _, _ => .bad
  | _, _ => M.bad
theorem lexAt_eq : ∀ (xs ys : List Int) (e r : Nat → Bool) (i : Nat), (∀ j (h1 : j < xs.length) (h2 : j < ys.length), e (i + j) = decide (xs[j] = ys[j])) → (∀ j (h1 : j < xs.length) (h2 : j < ys.length), r (i + j) = decide (xs[j] < ys[j])) →
    Ob.lexAt e r (decide (xs.length < ys.length)) i (min xs.length ys.length) = lexLt xs ys
  | [], [], _, _, _, _, _ => by simp [Ob.lexAt, lexLt]
  | [], _ :: _, _, _, _, _, _ => by simp [Ob.lexAt, lexLt]
  | _ :: _, [], _, _, _, _, _ => by simp [Ob.lexAt, lexLt]
  | a :: as, b :: bs, e, r, i, he, hr => by
    have h0 := he 0 (by simp) (by simp)
    have h1 := hr 0 (by simp) (by simp)
    simp only [Nat.add_zero, List.getElem_cons_zero] at h0 h1
    have em : min (a :: as).length (b :: bs).length = min as.length bs.length + 1 := by simp
    have el : decide ((a :: as).length < (b :: bs).length) = decide (as.length < bs.length) := by simp
    rw [em, el, Ob.lexAt, h0]
    have ih := lexAt_eq as bs e r (i + 1) (fun j h1 h2 => by
      have := he (j + 1) (by simp; omega) (by simp; omega)
      simpa [Nat.add_assoc, Nat.add_comm 1] using this) (fun j h1 h2 => by
      have := hr (j + 1) (by simp; omega) (by simp; omega)
      simpa [Nat.add_assoc, Nat.add_comm 1] using this)
    by_cases hab : a = b
    · rw [if_pos (by simp [hab]), ih]; simp [lexLt, hab]
    · rw [if_neg (by simp [hab]), h1]; simp [lexLt, hab]
theorem Vals.ints : ∀ {xs : List Int} {us : List Value}, Vals (xs.map V.int) us → us.length = xs.length ∧ ∀ j (h : j < xs.length) (h2 : j < us.length), ∃ t, us[j] = .int xs[j] t
  | [], _, .nil => ⟨rfl, fun j h => by simp at h⟩
  | x :: xs, _, .cons r t => by
    obtain ⟨h1, h2⟩ := Vals.ints t
    refine ⟨by simp [h1], fun j h h3 => ?_⟩
    cases j with
    | zero => exact r
    | succ j => simpa using h2 j (by simpa using h) (by simpa using h3)
def rTupLt (K : PySem.W.Frag) : R2 := fun x y H Q => ∃ a b xs ys, x = .ref a ∧ y = .ref b ∧ SqT K H a (List.map V.int xs) ∧ SqT K H b (List.map V.int ys) ∧ Q (.bl (lexLt xs ys)) H
theorem op_tupLt {X : Cx} (hu : X.A.units + 64 < cLine) : OpR X (compareOp .Lt) (rTupLt X.K) := by
  intro pins s σ H x y v u Q I rx ry h
  obtain ⟨a, b, xs, ys, rfl, rfl, h1, h2, q⟩ := h
  cases rx
  cases ry
  obtain ⟨its, r1, ⟨o1, e1, c1, n1, d1⟩, _⟩ := I.tuple h1
  obtain ⟨its2, r2, ⟨o2, e2, c2, n2, d2⟩, _⟩ := I.tuple h2
  obtain ⟨l1, v1⟩ := Vals.ints r1
  obtain ⟨l2, v2⟩ := Vals.ints r2
  have t1 : s.heap.IsTuple a its.toArray := ⟨o1, e1, c1, n1, d1⟩
  have t2 : s.heap.IsTuple b its2.toArray := ⟨o2, e2, c2, n2, d2⟩
  have hu' : X.A.units < cLine := by omega
  have he : ∀ j (h1 : j < its.toArray.size) (h2 : j < its2.toArray.size), SeqAt.EqAt X.A.in1 s its.toArray[j] its2.toArray[j] ((fun j => decide (xs.getD j 0 = ys.getD j 0)) j) := fun j h1 h2 => by
    simp only [List.size_toArray] at h1 h2
    obtain ⟨t, e1⟩ := v1 j (by omega) h1
    obtain ⟨t', e2⟩ := v2 j (by omega) h2
    simp only [List.getElem_toArray, e1, e2]
    have a1 : xs.getD j 0 = xs[j]'(by omega) := by simp [show j < xs.length by omega]
    have a2 : ys.getD j 0 = ys[j]'(by omega) := by simp [show j < ys.length by omega]
    rw [a1, a2]
    have e : decide (xs[j]'(by omega) = ys[j]'(by omega)) = (xs[j]'(by omega) == ys[j]'(by omega)) := by
      by_cases h : xs[j]'(by omega) = ys[j]'(by omega) <;> simp [h]
    rw [e]
    exact SeqAt.EqAt.int_int _ _ _ _
  have hr : ∀ j (h1 : j < its.toArray.size) (h2 : j < its2.toArray.size), (fun j => decide (xs.getD j 0 = ys.getD j 0)) j = false → Ob.RcOp .Lt X.A.in1 s its.toArray[j] its2.toArray[j] ((fun j => decide (xs.getD j 0 < ys.getD j 0)) j) := fun j h1 h2 _ => by
    simp only [List.size_toArray] at h1 h2
    obtain ⟨t, e1⟩ := v1 j (by omega) h1
    obtain ⟨t', e2⟩ := v2 j (by omega) h2
    simp only [List.getElem_toArray, e1, e2]
    have a1 : xs.getD j 0 = xs[j]'(by omega) := by simp [show j < xs.length by omega]
    have a2 : ys.getD j 0 = ys[j]'(by omega) := by simp [show j < ys.length by omega]
    rw [a1, a2]
    exact Ob.RcOp.lt_int _ _ _ _
  have R := Ob.RcOp.tuples_lt t1 t2 hu' he hr
  have ex : Ob.lexAt (fun j => decide (xs.getD j 0 = ys.getD j 0)) (fun j => decide (xs.getD j 0 < ys.getD j 0)) (decide (its.toArray.size < its2.toArray.size)) 0 (min its.toArray.size its2.toArray.size) = lexLt xs ys := by
    simp only [List.size_toArray]
    rw [l1, l2]
    refine lexAt_eq xs ys _ _ 0 (fun j h1 h2 => ?_) (fun j h1 h2 => ?_)
    · simp [h1, h2]
    · simp [h1, h2]
  rw [ex] at R
  exact R _ _ _ _ ⟨.bl _, H, I, rfl, q⟩
theorem asIP_rep {Z : Hp} : ∀ {ds : List PyData} {ns : List Int} {vs : List V}, asIP ds = some ns → RepPs Z vs ds → vs = ns.map V.int
  | [], ns, vs, h, r => by cases h; cases r; rfl
  | d :: ds, ns, vs, h, r => by
    cases d with
    | int i =>
      obtain ⟨ms, q, e⟩ := Option.map_eq_some_iff.mp (show (asIP ds).map (i :: ·) = some ns from h)
      subst e
      cases r with
      | cons r1 r2 =>
        cases r1
        rw [asIP_rep q r2]; rfl
    | _ => cases h
def rLtD (K : PySem.W.Frag) : R2 := fun x y H Q => (rI0 fun i j => .bl (decide (i < j))) x y H Q ∨ rTupLt K x y H Q
section
variable {X : Cx} {W : WX} {a b : Expr} {f g : Fe} {pos : Pos}
theorem op_ltD (hu : X.A.units + 64 < cLine) : OpR X (compareOp .Lt) (rLtD X.K) := op_lt.or (op_tupLt hu)
theorem ok_ltD : R2ok X (rLtD X.K) fLtD := by
  intro w H S x y dx dy W σ Q R vx vy P
  unfold fLtD at P
  split at P
  · cases vx.cases_p; cases vy.cases_p
    exact .inl ⟨_, _, rfl, rfl, Post.here R P (.bl _)⟩
  · rename_i ds es
    cases ha : asIP ds with
    | none => rw [ha] at P; exact P.elim
    | some ns =>
      cases hb : asIP es with
      | none => rw [ha, hb] at P; exact P.elim
      | some ms =>
        rw [ha, hb] at P
        have vx := vx.cases_p
        have vy := vy.cases_p
        cases vx with | tup hx rx =>
        cases vy with | tup hy ry =>
        have e1 := asIP_rep ha rx
        have e2 := asIP_rep hb ry
        subst e1 e2
        have P : Post X.gm W σ w Q (.ok (.p (.bool (lexLt ns ms))) S) := P
        exact .inr ⟨_, _, ns, ms, rfl, rfl, SqT.of (R.same _ _ hx), SqT.of (R.same _ _ hy), Post.here R P (.bl _)⟩
  · exact P.elim
theorem de_ltD (hu : X.A.units + 64 < cLine) (ha : DE X W a f) (hb : DE X W b g) : DE X W (.Compare a [.Lt] [b] pos) (eBin fLtD f g) := de_cmp (op_ltD hu) ok_ltD ha hb (nomark _)
theorem dt_ltD (hu : X.A.units + 64 < cLine) (ha : DE X W a f) (hb : DE X W b g) : DT X W (.Compare a [.Lt] [b] pos) (eT (eBin fLtD f g)) := dt_cmp (op_ltD hu) ok_ltD ha hb (nomark _)
end
end DL
set_option Elab.async false
set_option linter.all false
set_option maxRecDepth 100000
namespace LK
open PySem PySem.Spec L2 DL
def top (i : Nat) : Stmt := PySem.Challenge.pw_sureticks_k01_errors.main.body.getD i (.Pass ⟨0, 0, 0, 0⟩)
abbrev ENs : List Str := ["InvalidClaim", "InvalidEdge", "InvalidEdges", "InvalidLengths", "InvalidMarks", "InvalidNumber", "InvalidQuestion", "InvalidRun", "InvalidTicks", "InvalidTrace", "InvalidWaits", "NothingToUndo", "TickError", "Undefined"]
abbrev ECs_all : List Str := ["InvalidClaim", "InvalidEdge", "InvalidEdges", "InvalidLengths", "InvalidMarks", "InvalidNumber", "InvalidQuestion", "InvalidRun", "InvalidTicks", "InvalidTrace", "InvalidWaits", "NothingToUndo", "Undefined"]
abbrev ECs_value : List Str := ["InvalidClaim", "InvalidEdge", "InvalidEdges", "InvalidLengths", "InvalidMarks", "InvalidNumber", "InvalidQuestion", "InvalidRun", "InvalidTicks", "InvalidTrace", "InvalidWaits"]
abbrev ECs_what : List Str := ["Undefined"]
abbrev ECs_word : List Str := ["NothingToUndo"]
def sub_InvalidClaim : Str → Bool := fun y => y == "InvalidClaim"
def sub_InvalidEdge : Str → Bool := fun y => y == "InvalidEdge"
def sub_InvalidEdges : Str → Bool := fun y => y == "InvalidEdges"
def sub_InvalidLengths : Str → Bool := fun y => y == "InvalidLengths"
def sub_InvalidMarks : Str → Bool := fun y => y == "InvalidMarks"
def sub_InvalidNumber : Str → Bool := fun y => y == "InvalidNumber"
def sub_InvalidQuestion : Str → Bool := fun y => y == "InvalidQuestion"
def sub_InvalidRun : Str → Bool := fun y => y == "InvalidRun"
def sub_InvalidTicks : Str → Bool := fun y => y == "InvalidTicks"
def sub_InvalidTrace : Str → Bool := fun y => y == "InvalidTrace"
def sub_InvalidWaits : Str → Bool := fun y => y == "InvalidWaits"
def sub_NothingToUndo : Str → Bool := fun y => y == "NothingToUndo"
def sub_TickError : Str → Bool := fun _ => true
def sub_Undefined : Str → Bool := fun y => y == "Undefined"
def sub_ValueError : Str → Bool := fun _ => true
structure Txt (P : Program) (K : PySem.W.Frag) (mg : Str → Option Value) (C_Calls : Addr) (C_InvalidClaim : Addr) (C_InvalidEdge : Addr) (C_InvalidEdges : Addr) (C_InvalidLengths : Addr) (C_InvalidMarks : Addr) (C_InvalidNumber : Addr) (C_InvalidQuestion : Addr) (C_InvalidRun : Addr) (C_InvalidTicks : Addr) (C_InvalidTrace : Addr) (C_InvalidWaits : Addr) (C_NothingToUndo : Addr) (C_TickError : Addr) (C_Undefined : Addr) : Prop where
  b_ValueError : mg "ValueError" = none
  b_abs : mg "abs" = none
  b_all : mg "all" = none
  b_bool : mg "bool" = none
  b_int : mg "int" = none
  b_isinstance : mg "isinstance" = none
  b_len : mg "len" = none
  b_range : mg "range" = none
  b_str : mg "str" = none
  b_tuple : mg "tuple" = none
  b_zip : mg "zip" = none
  c_MOST_FUNCTIONS : ∃ t, mg "MOST_FUNCTIONS" = some (.int 5 t)
  g_Calls : mg "Calls" = some (.ref C_Calls)
  cl_Calls : Cls K C_Calls
  mk_Calls : MkC K C_Calls
  is_Calls : IsC K C_Calls
  n_Calls_edges : NoAttr K C_Calls "edges"
  n_Calls_functions : NoAttr K C_Calls "functions"
  x_InvalidClaim : ErrTxt P K mg "InvalidClaim" "value"
  x_InvalidEdge : ErrTxt P K mg "InvalidEdge" "value"
  x_InvalidEdges : ErrTxt P K mg "InvalidEdges" "value"
  x_InvalidLengths : ErrTxt P K mg "InvalidLengths" "value"
  x_InvalidMarks : ErrTxt P K mg "InvalidMarks" "value"
  x_InvalidNumber : ErrTxt P K mg "InvalidNumber" "value"
  x_InvalidQuestion : ErrTxt P K mg "InvalidQuestion" "value"
  x_InvalidRun : ErrTxt P K mg "InvalidRun" "value"
  x_InvalidTicks : ErrTxt P K mg "InvalidTicks" "value"
  x_InvalidTrace : ErrTxt P K mg "InvalidTrace" "value"
  x_InvalidWaits : ErrTxt P K mg "InvalidWaits" "value"
  x_NothingToUndo : ErrTxt P K mg "NothingToUndo" "word"
  x_Undefined : ErrTxt P K mg "Undefined" "what"
  e_value : ∀ c, ECs_value.contains c = true → ErrTxt P K mg c "value"
  e_what : ∀ c, ECs_what.contains c = true → ErrTxt P K mg c "what"
  e_word : ∀ c, ECs_word.contains c = true → ErrTxt P K mg c "word"
  g_InvalidClaim : mg "InvalidClaim" = some (.ref C_InvalidClaim)
  ie_InvalidClaim : IsEs K mg ECs_all (.ref C_InvalidClaim) sub_InvalidClaim
  g_InvalidEdge : mg "InvalidEdge" = some (.ref C_InvalidEdge)
  ie_InvalidEdge : IsEs K mg ECs_all (.ref C_InvalidEdge) sub_InvalidEdge
  g_InvalidEdges : mg "InvalidEdges" = some (.ref C_InvalidEdges)
  ie_InvalidEdges : IsEs K mg ECs_all (.ref C_InvalidEdges) sub_InvalidEdges
  g_InvalidLengths : mg "InvalidLengths" = some (.ref C_InvalidLengths)
  ie_InvalidLengths : IsEs K mg ECs_all (.ref C_InvalidLengths) sub_InvalidLengths
  g_InvalidMarks : mg "InvalidMarks" = some (.ref C_InvalidMarks)
  ie_InvalidMarks : IsEs K mg ECs_all (.ref C_InvalidMarks) sub_InvalidMarks
  g_InvalidNumber : mg "InvalidNumber" = some (.ref C_InvalidNumber)
  ie_InvalidNumber : IsEs K mg ECs_all (.ref C_InvalidNumber) sub_InvalidNumber
  g_InvalidQuestion : mg "InvalidQuestion" = some (.ref C_InvalidQuestion)
  ie_InvalidQuestion : IsEs K mg ECs_all (.ref C_InvalidQuestion) sub_InvalidQuestion
  g_InvalidRun : mg "InvalidRun" = some (.ref C_InvalidRun)
  ie_InvalidRun : IsEs K mg ECs_all (.ref C_InvalidRun) sub_InvalidRun
  g_InvalidTicks : mg "InvalidTicks" = some (.ref C_InvalidTicks)
  ie_InvalidTicks : IsEs K mg ECs_all (.ref C_InvalidTicks) sub_InvalidTicks
  g_InvalidTrace : mg "InvalidTrace" = some (.ref C_InvalidTrace)
  ie_InvalidTrace : IsEs K mg ECs_all (.ref C_InvalidTrace) sub_InvalidTrace
  g_InvalidWaits : mg "InvalidWaits" = some (.ref C_InvalidWaits)
  ie_InvalidWaits : IsEs K mg ECs_all (.ref C_InvalidWaits) sub_InvalidWaits
  g_NothingToUndo : mg "NothingToUndo" = some (.ref C_NothingToUndo)
  ie_NothingToUndo : IsEs K mg ECs_all (.ref C_NothingToUndo) sub_NothingToUndo
  g_TickError : mg "TickError" = some (.ref C_TickError)
  ie_TickError : IsEs K mg ECs_all (.ref C_TickError) sub_TickError
  g_Undefined : mg "Undefined" = some (.ref C_Undefined)
  ie_Undefined : IsEs K mg ECs_all (.ref C_Undefined) sub_Undefined
  ie_ValueError : IsEs K mg ECs_all (.type "ValueError") sub_ValueError
  ct_TickError : CatchAll K mg ECs_value "TickError"
  iv_InvalidNumber : IsEs K mg ECs_value (.ref C_InvalidNumber) sub_InvalidNumber
section
variable {P : Program} {w : World} {K : PySem.W.Frag} {mg : Str → Option Value} {base : Heap} {C_Calls : Addr}
abbrev s__law_box : Stmt := (top 26)
abbrev N__law_box : List Str := ["script", "k", "cell", "great"]
theorem sc__law_box : FnScope N__law_box ["script", "k"] (defScope s__law_box) := ⟨rfl, rfl, rfl, by decide +kernel, rfl, by decide +kernel, by decide +kernel⟩
def g__law_box : Fs := (sSeq (sSet 2 (eBin fAdd (eBin fMul (eC (.int 7919)) (eVar 1)) (eC (.int 101)))) (sSeq (sIf (eT (eBin fLt (eVar 1) (eCB (on1 fLen) (aCons (eVar 0) aNil)))) (sSet 2 (eCB (on1 fAbs) (aCons (eBin fIx (eVar 0) (eVar 1)) aNil))) (sIf (eT (eBin fGt (eCB (on1 fLen) (aCons (eVar 0) aNil)) (eC (.int 0)))) (sSet 2 (eBin fAdd (eBin fMul (eBin fMod (eCB (on1 fInt) (aCons (eCB (on1 fAbs) (aCons (eBin fIx (eVar 0) (eBin fMod (eCB (on1 fInt) (aCons (eVar 1) aNil)) (eCB (on1 fLen) (aCons (eVar 0) aNil)))) aNil)) aNil)) (eC (.int 1000000007))) (eC (.int 31))) (eBin fMul (eC (.int 7919)) (eVar 1)))) sNil)) (sSeq (sSet 3 (eBin fIx (eLst (aCons (eC (.int 0)) (aCons (eVar 2) aNil))) (eCB (on1 fInt) (aCons (eBin fGe (eVar 2) (eBin fPow (eC (.int 10)) (eC (.int 18)))) aNil)))) (sRet (eCell (aCons (eVar 3) (aCons (eBin fAdd (eBin fMod (eCB (on1 fInt) (aCons (eBin fAdd (eBin fMul (eBin fMod (eCB (on1 fInt) (aCons (eVar 2) aNil)) (eC (.int 1000000007))) (eC (.int 48271))) (eBin fMul (eC (.int 613)) (eVar 1))) aNil)) (eC (.int 2147483647))) (eC (.int 1))) aNil)))))))
def F__law_box : List D → M D := bodyF 2 4 g__law_box
set_option maxHeartbeats 2000000 in
theorem d__law_box (T : Txt P K mg C_Calls C_InvalidClaim C_InvalidEdge C_InvalidEdges C_InvalidLengths C_InvalidMarks C_InvalidNumber C_InvalidQuestion C_InvalidRun C_InvalidTicks C_InvalidTrace C_InvalidWaits C_NothingToUndo C_TickError C_Undefined) (At : DefAt K mg "_law_box" s__law_box ["script", "k"]) : DefOk P w K mg base "_law_box" ["script", "k"] 1 F__law_box :=
  def_ok At sc__law_box fun f cdv A outer s H E hr => (dss_cons (ds_set (i := 2) sc__law_box.nd rfl (by first | exact Or.inl rfl | exact Or.inr rfl) (de_add (de_mul de_int (de_var 1)) de_int)) (dss_cons (ds_if (dt_lt (de_var 1) (de_len rfl T.b_len (de_var 0))) (dss_one (ds_set (i := 2) sc__law_box.nd rfl (by first | exact Or.inl rfl | exact Or.inr rfl) (de_abs rfl T.b_abs (de_item (de_var 0) (de_var 1))))) (dss_one (ds_if (dt_gt (de_len rfl T.b_len (de_var 0)) de_int) (dss_one (ds_set (i := 2) sc__law_box.nd rfl (by first | exact Or.inl rfl | exact Or.inr rfl) (de_add (de_mul (de_mod (de_toInt rfl T.b_int (de_abs rfl T.b_abs (de_item (de_var 0) (de_mod (de_toInt rfl T.b_int (de_var 1)) (de_len rfl T.b_len (de_var 0)))))) de_int) de_int) (de_mul de_int (de_var 1))))) dss_nil))) (dss_cons (ds_set (i := 3) sc__law_box.nd rfl (by first | exact Or.inl rfl | exact Or.inr rfl) (de_item (de_lst (da_cons de_int (da_cons (de_var 2) da_nil))) (de_toInt rfl T.b_int (de_ge (de_var 2) (de_pow de_int de_int))))) (dss_one (ds_ret (de_cell (da_cons (de_var 3) (da_cons (de_add (de_mod (de_toInt rfl T.b_int (de_add (de_mul (de_mod (de_toInt rfl T.b_int (de_var 2)) de_int) de_int) (de_mul de_int (de_var 1)))) de_int) de_int) da_nil))))))))
abbrev s__law_take : Stmt := (top 27)
abbrev N__law_take : List Str := ["box", "many", "got"]
theorem sc__law_take : FnScope N__law_take ["box", "many"] (defScope s__law_take) := ⟨rfl, rfl, rfl, by decide +kernel, rfl, by decide +kernel, by decide +kernel⟩
def g__law_take : Fs := (sSeq (sIf (eT (eBin fGt (eBin fIx (eVar 0) (eC (.int 0))) (eC (.int 0)))) (sSeq (sSet 2 (eBin fMod (eCB (on1 fInt) (aCons (eBin fIx (eVar 0) (eC (.int 0))) aNil)) (eVar 1))) (sSeq (sItem (eVar 0) (eC (.int 0)) (eBin fDivW (eBin fIx (eVar 0) (eC (.int 0))) (eVar 1))) (sRet (eVar 2)))) sNil) (sSeq (sItem (eVar 0) (eC (.int 1)) (eBin fMod (eCB (on1 fInt) (aCons (eBin fAdd (eBin fMul (eBin fIx (eVar 0) (eC (.int 1))) (eC (.int 39373))) (eC (.int 69621))) aNil)) (eC (.int 2147483647)))) (sRet (eBin fMod (eCB (on1 fInt) (aCons (eBin fDiv (eBin fIx (eVar 0) (eC (.int 1))) (eC (.int 8191))) aNil)) (eVar 1)))))
def F__law_take : List D → M D := bodyF 2 3 g__law_take
set_option maxHeartbeats 2000000 in
theorem d__law_take (T : Txt P K mg C_Calls C_InvalidClaim C_InvalidEdge C_InvalidEdges C_InvalidLengths C_InvalidMarks C_InvalidNumber C_InvalidQuestion C_InvalidRun C_InvalidTicks C_InvalidTrace C_InvalidWaits C_NothingToUndo C_TickError C_Undefined) (At : DefAt K mg "_law_take" s__law_take ["box", "many"]) : DefOk P w K mg base "_law_take" ["box", "many"] 1 F__law_take :=
  def_ok At sc__law_take fun f cdv A outer s H E hr => (dss_cons (ds_if (dt_gt (de_item (de_var 0) de_int) de_int) (dss_cons (ds_set (i := 2) sc__law_take.nd rfl (by first | exact Or.inl rfl | exact Or.inr rfl) (de_mod (de_toInt rfl T.b_int (de_item (de_var 0) de_int)) (de_var 1))) (dss_cons (ds_item (de_var 0) de_int (de_fdivW (de_item (de_var 0) de_int) (de_var 1))) (dss_one (ds_ret (de_var 2))))) dss_nil) (dss_cons (ds_item (de_var 0) de_int (de_mod (de_toInt rfl T.b_int (de_add (de_mul (de_item (de_var 0) de_int) de_int) de_int)) de_int)) (dss_one (ds_ret (de_mod (de_toInt rfl T.b_int (de_fdiv (de_item (de_var 0) de_int) de_int)) (de_var 1))))))
abbrev s__law_pick : Stmt := (top 28)
abbrev N__law_pick : List Str := ["box", "some"]
theorem sc__law_pick : FnScope N__law_pick ["box", "some"] (defScope s__law_pick) := ⟨rfl, rfl, rfl, by decide +kernel, rfl, by decide +kernel, by decide +kernel⟩
def g__law_pick : Fs := (sRet (eBin fIx (eVar 1) (eCB F__law_take (aCons (eVar 0) (aCons (eCB (on1 fLen) (aCons (eVar 1) aNil)) aNil)))))
def F__law_pick : List D → M D := bodyF 2 2 g__law_pick
set_option maxHeartbeats 2000000 in
theorem d__law_pick (T : Txt P K mg C_Calls C_InvalidClaim C_InvalidEdge C_InvalidEdges C_InvalidLengths C_InvalidMarks C_InvalidNumber C_InvalidQuestion C_InvalidRun C_InvalidTicks C_InvalidTrace C_InvalidWaits C_NothingToUndo C_TickError C_Undefined) (At : DefAt K mg "_law_pick" s__law_pick ["box", "some"]) (D__law_take : DefOk P w K mg base "_law_take" ["box", "many"] 1 F__law_take) : DefOk P w K mg base "_law_pick" ["box", "some"] 2 F__law_pick :=
  def_ok At sc__law_pick fun f cdv A outer s H E hr => (dss_one (ds_ret (de_item (de_var 1) (de_callD D__law_take (hr.mono (by first | decide | omega | (simp only [Nat.add_eq]; omega))) rfl (takes_of rfl rfl rfl rfl) (da_cons (de_var 0) (da_cons (de_len rfl T.b_len (de_var 1)) da_nil))))))
abbrev s__law_ones : Stmt := (top 29)
abbrev N__law_ones : List Str := ["v", "found"]
theorem sc__law_ones : FnScope N__law_ones ["v"] (defScope s__law_ones) := ⟨rfl, rfl, rfl, by decide +kernel, rfl, by decide +kernel, by decide +kernel⟩
def g__law_ones : Fs := (sSeq (sSet 1 (eCell (aCons (eErr "InvalidNumber" "value" (eVar 0)) (aCons (eErr "InvalidEdges" "value" (eVar 0)) (aCons (eErr "InvalidEdge" "value" (eVar 0)) (aCons (eErr "InvalidRun" "value" (eVar 0)) (aCons (eErr "InvalidTrace" "value" (eVar 0)) (aCons (eErr "InvalidTicks" "value" (eVar 0)) aNil)))))))) (sRet (eBin fCat2 (eVar 1) (eCell (aCons (eErr "InvalidMarks" "value" (eVar 0)) (aCons (eErr "InvalidLengths" "value" (eVar 0)) (aCons (eErr "InvalidWaits" "value" (eVar 0)) (aCons (eErr "InvalidQuestion" "value" (eVar 0)) (aCons (eErr "InvalidClaim" "value" (eVar 0)) aNil)))))))))
def F__law_ones : List D → M D := bodyF 1 2 g__law_ones
set_option maxHeartbeats 2000000 in
theorem d__law_ones (T : Txt P K mg C_Calls C_InvalidClaim C_InvalidEdge C_InvalidEdges C_InvalidLengths C_InvalidMarks C_InvalidNumber C_InvalidQuestion C_InvalidRun C_InvalidTicks C_InvalidTrace C_InvalidWaits C_NothingToUndo C_TickError C_Undefined) (At : DefAt K mg "_law_ones" s__law_ones ["v"]) : DefOk P w K mg base "_law_ones" ["v"] 1 F__law_ones :=
  def_ok At sc__law_ones fun f cdv A outer s H E hr => (dss_cons (ds_set (i := 1) sc__law_ones.nd rfl (by first | exact Or.inl rfl | exact Or.inr rfl) (de_cell (da_cons (de_err T.x_InvalidNumber hr (de_var 0)) (da_cons (de_err T.x_InvalidEdges hr (de_var 0)) (da_cons (de_err T.x_InvalidEdge hr (de_var 0)) (da_cons (de_err T.x_InvalidRun hr (de_var 0)) (da_cons (de_err T.x_InvalidTrace hr (de_var 0)) (da_cons (de_err T.x_InvalidTicks hr (de_var 0)) da_nil)))))))) (dss_one (ds_ret (de_add2 (de_var 1) (de_cell (da_cons (de_err T.x_InvalidMarks hr (de_var 0)) (da_cons (de_err T.x_InvalidLengths hr (de_var 0)) (da_cons (de_err T.x_InvalidWaits hr (de_var 0)) (da_cons (de_err T.x_InvalidQuestion hr (de_var 0)) (da_cons (de_err T.x_InvalidClaim hr (de_var 0)) da_nil))))))))))
abbrev s_is_integer : Stmt := (top 16)
abbrev N_is_integer : List Str := ["value"]
theorem sc_is_integer : FnScope N_is_integer ["value"] (defScope s_is_integer) := ⟨rfl, rfl, rfl, by decide +kernel, rfl, by decide +kernel, by decide +kernel⟩
def g_is_integer : Fs := (sRet (eAnd (eUn (fIsi "int") (eVar 0)) (eNot (eUn (fIsi "bool") (eVar 0)))))
def F_is_integer : List D → M D := bodyF 1 1 g_is_integer
set_option maxHeartbeats 2000000 in
theorem d_is_integer (T : Txt P K mg C_Calls C_InvalidClaim C_InvalidEdge C_InvalidEdges C_InvalidLengths C_InvalidMarks C_InvalidNumber C_InvalidQuestion C_InvalidRun C_InvalidTicks C_InvalidTrace C_InvalidWaits C_NothingToUndo C_TickError C_Undefined) (At : DefAt K mg "is_integer" s_is_integer ["value"]) : DefOk P w K mg base "is_integer" ["value"] 1 F_is_integer :=
  def_ok At sc_is_integer fun f cdv A outer s H E hr => (dss_one (ds_ret (de_and (de_isi rfl T.b_isinstance rfl T.b_int PyProof.Rows.boot_int (de_var 0)) (de_one (de_not (de_isi rfl T.b_isinstance rfl T.b_bool PyProof.Rows.boot_bool (de_var 0)))))))
abbrev s_is_integer_in : Stmt := (top 17)
abbrev N_is_integer_in : List Str := ["value", "low", "high"]
theorem sc_is_integer_in : FnScope N_is_integer_in ["value", "low", "high"] (defScope s_is_integer_in) := ⟨rfl, rfl, rfl, by decide +kernel, rfl, by decide +kernel, by decide +kernel⟩
def g_is_integer_in : Fs := (sRet (eAnd (eCB F_is_integer (aCons (eVar 0) aNil)) (eChain fLe fLe (eVar 1) (eVar 0) (eVar 2))))
def F_is_integer_in : List D → M D := bodyF 3 3 g_is_integer_in
set_option maxHeartbeats 2000000 in
theorem d_is_integer_in (T : Txt P K mg C_Calls C_InvalidClaim C_InvalidEdge C_InvalidEdges C_InvalidLengths C_InvalidMarks C_InvalidNumber C_InvalidQuestion C_InvalidRun C_InvalidTicks C_InvalidTrace C_InvalidWaits C_NothingToUndo C_TickError C_Undefined) (At : DefAt K mg "is_integer_in" s_is_integer_in ["value", "low", "high"]) (D_is_integer : DefOk P w K mg base "is_integer" ["value"] 1 F_is_integer) : DefOk P w K mg base "is_integer_in" ["value", "low", "high"] 2 F_is_integer_in :=
  def_ok At sc_is_integer_in fun f cdv A outer s H E hr => (dss_one (ds_ret (de_and (de_callD D_is_integer (hr.mono (by first | decide | omega | (simp only [Nat.add_eq]; omega))) rfl (takes_of rfl rfl rfl rfl) (da_cons (de_var 0) da_nil)) (de_one (de_chain op_le op_le (ok_int0 fun _ _ _ => .bl _) (ok_int0 fun _ _ _ => .bl _) (de_var 1) (de_var 0) (de_var 2))))))
abbrev s_is_ascending : Stmt := (top 21)
abbrev N_is_ascending : List Str := ["members", "one", "other"]
theorem sc_is_ascending : FnScope N_is_ascending ["members"] (defScope s_is_ascending) := ⟨rfl, rfl, rfl, by decide +kernel, rfl, by decide +kernel, by decide +kernel⟩
def g_is_ascending : Fs := (sRet (eCB (on1 fAll) (aCons (eLc (srcZip2 (eVar 0) (eSl (eVar 0) (oSome (eC (.int 1))) oNone)) [1, 2] (tTupT 2 (tsCons (tName 1) (tsCons (tName 2) tsNil))) (fun _ => M.pure true) (eBin fLtD (eVar 1) (eVar 2))) aNil)))
def F_is_ascending : List D → M D := bodyF 1 3 g_is_ascending
set_option maxHeartbeats 2000000 in
theorem d_is_ascending (T : Txt P K mg C_Calls C_InvalidClaim C_InvalidEdge C_InvalidEdges C_InvalidLengths C_InvalidMarks C_InvalidNumber C_InvalidQuestion C_InvalidRun C_InvalidTicks C_InvalidTrace C_InvalidWaits C_NothingToUndo C_TickError C_Undefined) (At : DefAt K mg "is_ascending" s_is_ascending ["members"]) : DefOk P w K mg base "is_ascending" ["members"] 1 F_is_ascending :=
  def_ok At sc_is_ascending fun f cdv A outer s H E hr => (dss_one (ds_ret (de_all rfl T.b_all rfl (de_lcI rfl sc_is_ascending.nd (di_zip rfl T.b_zip (de_var 0) (de_slice (de_var 0) (do_some de_int) do_none)) (blkOk_by (own := [("one", 1), ("other", 2)]) (N := N_is_ascending) (sc := defScope s_is_ascending) (by decide +kernel)) tgc_two (fun _ _ _ _ _ => pg_tup rfl (pgs_cons (pg_name (i := 1) sc_is_ascending.nd rfl (by first | exact Or.inl rfl | exact Or.inr rfl)) (pgs_cons (pg_name (i := 2) sc_is_ascending.nd rfl (by first | exact Or.inl rfl | exact Or.inr rfl)) pgs_nil))) (fun _ _ _ _ _ => dts_nil) (fun _ _ _ _ _ => (de_ltD hr.units (de_var 1) (de_var 2)))))))
abbrev s_is_pair : Stmt := (top 18)
abbrev N_is_pair : List Str := ["value"]
theorem sc_is_pair : FnScope N_is_pair ["value"] (defScope s_is_pair) := ⟨rfl, rfl, rfl, by decide +kernel, rfl, by decide +kernel, by decide +kernel⟩
def g_is_pair : Fs := (sRet (eAnd (eUn (fIsi "tuple") (eVar 0)) (eBin (fEq false) (eCB (on1 fLen) (aCons (eVar 0) aNil)) (eC (.int 2)))))
def F_is_pair : List D → M D := bodyF 1 1 g_is_pair
set_option maxHeartbeats 2000000 in
theorem d_is_pair (T : Txt P K mg C_Calls C_InvalidClaim C_InvalidEdge C_InvalidEdges C_InvalidLengths C_InvalidMarks C_InvalidNumber C_InvalidQuestion C_InvalidRun C_InvalidTicks C_InvalidTrace C_InvalidWaits C_NothingToUndo C_TickError C_Undefined) (At : DefAt K mg "is_pair" s_is_pair ["value"]) : DefOk P w K mg base "is_pair" ["value"] 1 F_is_pair :=
  def_ok At sc_is_pair fun f cdv A outer s H E hr => (dss_one (ds_ret (de_and (de_isi rfl T.b_isinstance rfl T.b_tuple PyProof.Rows.boot_tuple (de_var 0)) (de_one (de_eq hr.units (de_len rfl T.b_len (de_var 0)) de_int)))))
abbrev s_is_upward_pair : Stmt := (top 19)
abbrev N_is_upward_pair : List Str := ["many", "value"]
theorem sc_is_upward_pair : FnScope N_is_upward_pair ["many", "value"] (defScope s_is_upward_pair) := ⟨rfl, rfl, rfl, by decide +kernel, rfl, by decide +kernel, by decide +kernel⟩
def g_is_upward_pair : Fs := (sRet (eAnd (eCB F_is_pair (aCons (eVar 1) aNil)) (eAnd (eCB F_is_integer_in (aCons (eBin fIx (eVar 1) (eC (.int 0))) (aCons (eC (.int 0)) (aCons (eBin fSub (eVar 0) (eC (.int 1))) aNil)))) (eAnd (eCB F_is_integer_in (aCons (eBin fIx (eVar 1) (eC (.int 1))) (aCons (eC (.int 0)) (aCons (eBin fSub (eVar 0) (eC (.int 1))) aNil)))) (eBin fLt (eBin fIx (eVar 1) (eC (.int 0))) (eBin fIx (eVar 1) (eC (.int 1))))))))
def F_is_upward_pair : List D → M D := bodyF 2 2 g_is_upward_pair
set_option maxHeartbeats 2000000 in
theorem d_is_upward_pair (T : Txt P K mg C_Calls C_InvalidClaim C_InvalidEdge C_InvalidEdges C_InvalidLengths C_InvalidMarks C_InvalidNumber C_InvalidQuestion C_InvalidRun C_InvalidTicks C_InvalidTrace C_InvalidWaits C_NothingToUndo C_TickError C_Undefined) (At : DefAt K mg "is_upward_pair" s_is_upward_pair ["many", "value"]) (D_is_integer_in : DefOk P w K mg base "is_integer_in" ["value", "low", "high"] 2 F_is_integer_in) (D_is_pair : DefOk P w K mg base "is_pair" ["value"] 1 F_is_pair) : DefOk P w K mg base "is_upward_pair" ["many", "value"] 3 F_is_upward_pair :=
  def_ok At sc_is_upward_pair fun f cdv A outer s H E hr => (dss_one (ds_ret (de_and (de_callD D_is_pair (hr.mono (by first | decide | omega | (simp only [Nat.add_eq]; omega))) rfl (takes_of rfl rfl rfl rfl) (da_cons (de_var 1) da_nil)) (de_and (de_callD D_is_integer_in (hr.mono (by first | decide | omega | (simp only [Nat.add_eq]; omega))) rfl (takes_of rfl rfl rfl rfl) (da_cons (de_item (de_var 1) de_int) (da_cons de_int (da_cons (de_sub (de_var 0) de_int) da_nil)))) (de_and (de_callD D_is_integer_in (hr.mono (by first | decide | omega | (simp only [Nat.add_eq]; omega))) rfl (takes_of rfl rfl rfl rfl) (da_cons (de_item (de_var 1) de_int) (da_cons de_int (da_cons (de_sub (de_var 0) de_int) da_nil)))) (de_one (de_lt (de_item (de_var 1) de_int) (de_item (de_var 1) de_int))))))))
abbrev s_are_upward_pairs : Stmt := (top 20)
abbrev N_are_upward_pairs : List Str := ["many", "value", "pair"]
theorem sc_are_upward_pairs : FnScope N_are_upward_pairs ["many", "value"] (defScope s_are_upward_pairs) := ⟨rfl, rfl, rfl, by decide +kernel, rfl, by decide +kernel, by decide +kernel⟩
def g_are_upward_pairs : Fs := (sRet (eAnd (eUn (fIsi "tuple") (eVar 1)) (eAnd (eCB (on1 fAll) (aCons (eLc (srcSeq (eVar 1)) [2] (tName 2) (fun _ => M.pure true) (eCB F_is_upward_pair (aCons (eVar 0) (aCons (eVar 2) aNil)))) aNil)) (eCB F_is_ascending (aCons (eVar 1) aNil)))))
def F_are_upward_pairs : List D → M D := bodyF 2 3 g_are_upward_pairs
set_option maxHeartbeats 2000000 in
theorem d_are_upward_pairs (T : Txt P K mg C_Calls C_InvalidClaim C_InvalidEdge C_InvalidEdges C_InvalidLengths C_InvalidMarks C_InvalidNumber C_InvalidQuestion C_InvalidRun C_InvalidTicks C_InvalidTrace C_InvalidWaits C_NothingToUndo C_TickError C_Undefined) (At : DefAt K mg "are_upward_pairs" s_are_upward_pairs ["many", "value"]) (D_is_ascending : DefOk P w K mg base "is_ascending" ["members"] 1 F_is_ascending) (D_is_upward_pair : DefOk P w K mg base "is_upward_pair" ["many", "value"] 3 F_is_upward_pair) : DefOk P w K mg base "are_upward_pairs" ["many", "value"] 4 F_are_upward_pairs :=
  def_ok At sc_are_upward_pairs fun f cdv A outer s H E hr => (dss_one (ds_ret (de_and (de_isi rfl T.b_isinstance rfl T.b_tuple PyProof.Rows.boot_tuple (de_var 1)) (de_and (de_all rfl T.b_all rfl (de_lcI rfl sc_are_upward_pairs.nd (di_seq (de_var 1)) (blkOk_by (own := [("pair", 2)]) (N := N_are_upward_pairs) (sc := defScope s_are_upward_pairs) (by decide +kernel)) tgc_one (fun _ _ _ _ _ => pg_name (i := 2) sc_are_upward_pairs.nd rfl (by first | exact Or.inl rfl | exact Or.inr rfl)) (fun _ _ _ _ _ => dts_nil) (fun _ _ _ _ _ => (de_callD D_is_upward_pair (hr.mono (by first | decide | omega | (simp only [Nat.add_eq]; omega))) rfl takes0 (da_cons (de_var 0) (da_cons (de_var 2) da_nil)))))) (de_one (de_callD D_is_ascending (hr.mono (by first | decide | omega | (simp only [Nat.add_eq]; omega))) rfl (takes_of rfl rfl rfl rfl) (da_cons (de_var 1) da_nil)))))))
abbrev s_m_Callsdd_initdd : Stmt := (inClass (top 24) 0)
abbrev N_m_Callsdd_initdd : List Str := ["self", "functions", "edges", "g", "f"]
theorem sc_m_Callsdd_initdd : FnScope N_m_Callsdd_initdd ["self", "functions", "edges"] (defScope s_m_Callsdd_initdd) := ⟨rfl, rfl, rfl, by decide +kernel, rfl, by decide +kernel, by decide +kernel⟩
def g_m_Callsdd_initdd : Fs := (sSeq (sIf (bNot (eT (eCB F_is_integer_in (aCons (eVar 1) (aCons (eC (.int 1)) (aCons (eC (.int 5)) aNil)))))) (sRaise "InvalidNumber" "value" (eVar 1)) sNil) (sSeq (sIf (bNot (eT (eCB F_are_upward_pairs (aCons (eVar 1) (aCons (eVar 2) aNil))))) (sRaise "InvalidEdges" "value" (eVar 2)) sNil) (sSeq (sFld "Calls" "functions" (eVar 0) (eCB (on1 fInt) (aCons (eVar 1) aNil))) (sFld "Calls" "edges" (eVar 0) (eCB (on1 fTuple) (aCons (eLc (srcSeq (eVar 2)) [3, 4] (tTupT 2 (tsCons (tName 3) (tsCons (tName 4) tsNil))) (fun _ => M.pure true) (eTup (aCons (eCB (on1 fInt) (aCons (eVar 3) aNil)) (aCons (eCB (on1 fInt) (aCons (eVar 4) aNil)) aNil)))) aNil))))))
def F_m_Callsdd_initdd : List D → M D := bodyF 3 5 g_m_Callsdd_initdd
set_option maxHeartbeats 2000000 in
theorem d_m_Callsdd_initdd (T : Txt P K mg C_Calls C_InvalidClaim C_InvalidEdge C_InvalidEdges C_InvalidLengths C_InvalidMarks C_InvalidNumber C_InvalidQuestion C_InvalidRun C_InvalidTicks C_InvalidTrace C_InvalidWaits C_NothingToUndo C_TickError C_Undefined) (At : MethAt K C_Calls "__init__" "Calls.__init__" s_m_Callsdd_initdd ["self", "functions", "edges"]) (D_are_upward_pairs : DefOk P w K mg base "are_upward_pairs" ["many", "value"] 4 F_are_upward_pairs) (D_is_integer_in : DefOk P w K mg base "is_integer_in" ["value", "low", "high"] 2 F_is_integer_in) : MethOk P w K mg base C_Calls "__init__" ["self", "functions", "edges"] 5 F_m_Callsdd_initdd :=
  meth_ok At sc_m_Callsdd_initdd fun f cdv A outer s H E hr => (dss_cons (ds_if (dt_not (dt_val (de_callD D_is_integer_in (hr.mono (by first | decide | omega | (simp only [Nat.add_eq]; omega))) rfl (takes_of rfl rfl rfl rfl) (da_cons (de_var 1) (da_cons de_int (da_cons (de_globE rfl T.c_MOST_FUNCTIONS) da_nil)))))) (dss_one (ds_raise rfl T.x_InvalidNumber hr (takes_of rfl rfl rfl rfl) (de_var 1))) dss_nil) (dss_cons (ds_if (dt_not (dt_val (de_callD D_are_upward_pairs (hr.mono (by first | decide | omega | (simp only [Nat.add_eq]; omega))) rfl (takes_of rfl rfl rfl rfl) (da_cons (de_var 1) (da_cons (de_var 2) da_nil))))) (dss_one (ds_raise rfl T.x_InvalidEdges hr (takes_of rfl rfl rfl rfl) (de_var 2))) dss_nil) (dss_cons (ds_fld T.g_Calls T.cl_Calls T.n_Calls_functions (de_var 0) (de_toInt rfl T.b_int (de_var 1))) (dss_one (ds_fld T.g_Calls T.cl_Calls T.n_Calls_edges (de_var 0) (de_tuple rfl T.b_tuple (de_lcI rfl sc_m_Callsdd_initdd.nd (di_seq (de_var 2)) (blkOk_by (own := [("g", 3), ("f", 4)]) (N := N_m_Callsdd_initdd) (sc := defScope s_m_Callsdd_initdd) (by decide +kernel)) tgc_two (fun _ _ _ _ _ => pg_tup rfl (pgs_cons (pg_name (i := 3) sc_m_Callsdd_initdd.nd rfl (by first | exact Or.inl rfl | exact Or.inr rfl)) (pgs_cons (pg_name (i := 4) sc_m_Callsdd_initdd.nd rfl (by first | exact Or.inl rfl | exact Or.inr rfl)) pgs_nil))) (fun _ _ _ _ _ => dts_nil) (fun _ _ _ _ _ => (de_tup (da_cons (de_toInt rfl T.b_int (de_var 3)) (da_cons (de_toInt rfl T.b_int (de_var 4)) da_nil)))))))))))
abbrev s__law_kinds : Stmt := (top 30)
abbrev N__law_kinds : List Str := ["e", "found"]
theorem sc__law_kinds : FnScope N__law_kinds ["e"] (defScope s__law_kinds) := ⟨rfl, rfl, rfl, by decide +kernel, rfl, by decide +kernel, by decide +kernel⟩
def g__law_kinds : Fs := (sSeq (sSet 1 (eLst (aCons (eUn (fIsiE ECs_all sub_InvalidNumber) (eVar 0)) (aCons (eUn (fIsiE ECs_all sub_InvalidEdges) (eVar 0)) (aCons (eUn (fIsiE ECs_all sub_InvalidEdge) (eVar 0)) (aCons (eUn (fIsiE ECs_all sub_InvalidRun) (eVar 0)) aNil)))))) (sSeq (sSet 1 (eBin fAdd (eVar 1) (eLst (aCons (eUn (fIsiE ECs_all sub_InvalidTrace) (eVar 0)) (aCons (eUn (fIsiE ECs_all sub_InvalidTicks) (eVar 0)) (aCons (eUn (fIsiE ECs_all sub_InvalidMarks) (eVar 0)) (aCons (eUn (fIsiE ECs_all sub_InvalidLengths) (eVar 0)) aNil))))))) (sSeq (sSet 1 (eBin fAdd (eVar 1) (eLst (aCons (eUn (fIsiE ECs_all sub_InvalidWaits) (eVar 0)) (aCons (eUn (fIsiE ECs_all sub_InvalidQuestion) (eVar 0)) (aCons (eUn (fIsiE ECs_all sub_InvalidClaim) (eVar 0)) aNil)))))) (sSeq (sSet 1 (eBin fAdd (eVar 1) (eLst (aCons (eUn (fIsiE ECs_all sub_Undefined) (eVar 0)) (aCons (eUn (fIsiE ECs_all sub_NothingToUndo) (eVar 0)) aNil))))) (sRet (eBin fAdd (eVar 1) (eLst (aCons (eUn (fIsiE ECs_all sub_TickError) (eVar 0)) (aCons (eUn (fIsiE ECs_all sub_ValueError) (eVar 0)) aNil)))))))))
def F__law_kinds : List D → M D := bodyF 1 2 g__law_kinds
set_option maxHeartbeats 2000000 in
theorem d__law_kinds (T : Txt P K mg C_Calls C_InvalidClaim C_InvalidEdge C_InvalidEdges C_InvalidLengths C_InvalidMarks C_InvalidNumber C_InvalidQuestion C_InvalidRun C_InvalidTicks C_InvalidTrace C_InvalidWaits C_NothingToUndo C_TickError C_Undefined) (At : DefAt K mg "_law_kinds" s__law_kinds ["e"]) : DefOk P w K mg base "_law_kinds" ["e"] 1 F__law_kinds :=
  def_ok At sc__law_kinds fun f cdv A outer s H E hr => (dss_cons (ds_set (i := 1) sc__law_kinds.nd rfl (by first | exact Or.inl rfl | exact Or.inr rfl) (de_lst (da_cons (de_isiE rfl T.b_isinstance rfl T.g_InvalidNumber T.ie_InvalidNumber (de_var 0)) (da_cons (de_isiE rfl T.b_isinstance rfl T.g_InvalidEdges T.ie_InvalidEdges (de_var 0)) (da_cons (de_isiE rfl T.b_isinstance rfl T.g_InvalidEdge T.ie_InvalidEdge (de_var 0)) (da_cons (de_isiE rfl T.b_isinstance rfl T.g_InvalidRun T.ie_InvalidRun (de_var 0)) da_nil)))))) (dss_cons (ds_set (i := 1) sc__law_kinds.nd rfl (by first | exact Or.inl rfl | exact Or.inr rfl) (de_add (de_var 1) (de_lst (da_cons (de_isiE rfl T.b_isinstance rfl T.g_InvalidTrace T.ie_InvalidTrace (de_var 0)) (da_cons (de_isiE rfl T.b_isinstance rfl T.g_InvalidTicks T.ie_InvalidTicks (de_var 0)) (da_cons (de_isiE rfl T.b_isinstance rfl T.g_InvalidMarks T.ie_InvalidMarks (de_var 0)) (da_cons (de_isiE rfl T.b_isinstance rfl T.g_InvalidLengths T.ie_InvalidLengths (de_var 0)) da_nil))))))) (dss_cons (ds_set (i := 1) sc__law_kinds.nd rfl (by first | exact Or.inl rfl | exact Or.inr rfl) (de_add (de_var 1) (de_lst (da_cons (de_isiE rfl T.b_isinstance rfl T.g_InvalidWaits T.ie_InvalidWaits (de_var 0)) (da_cons (de_isiE rfl T.b_isinstance rfl T.g_InvalidQuestion T.ie_InvalidQuestion (de_var 0)) (da_cons (de_isiE rfl T.b_isinstance rfl T.g_InvalidClaim T.ie_InvalidClaim (de_var 0)) da_nil)))))) (dss_cons (ds_set (i := 1) sc__law_kinds.nd rfl (by first | exact Or.inl rfl | exact Or.inr rfl) (de_add (de_var 1) (de_lst (da_cons (de_isiE rfl T.b_isinstance rfl T.g_Undefined T.ie_Undefined (de_var 0)) (da_cons (de_isiE rfl T.b_isinstance rfl T.g_NothingToUndo T.ie_NothingToUndo (de_var 0)) da_nil))))) (dss_one (ds_ret (de_add (de_var 1) (de_lst (da_cons (de_isiE rfl T.b_isinstance rfl T.g_TickError T.ie_TickError (de_var 0)) (da_cons (de_isiET rfl T.b_isinstance rfl T.b_ValueError (by first | boot_by_name | rfl | kernel_rfl) T.ie_ValueError (de_var 0)) da_nil))))))))))
abbrev s_law : Stmt := (top 31)
abbrev N_law : List Str := ["script", "box", "some", "v", "errors", "one", "what", "word", "k", "e", "j"]
theorem sc_law : FnScope N_law ["script"] (defScope s_law) := ⟨rfl, rfl, rfl, by decide +kernel, rfl, by decide +kernel, by decide +kernel⟩
def g_law : Fs := (sSeq (sSet 1 (eCB F__law_box (aCons (eVar 0) (aCons (eC (.int 0)) aNil)))) (sSeq (sSet 2 (eLst (aCons (eBin fSub (eCB F__law_take (aCons (eVar 1) (aCons (eBin fPow (eC (.int 10)) (eC (.int 6))) aNil))) (eC (.int 500000))) (aCons (eBin fAdd (eC (.str "text ")) (eCB (on1 fStr) (aCons (eCB F__law_take (aCons (eVar 1) (aCons (eC (.int 99)) aNil))) aNil))) (aCons (eTup (aCons (eC (.int 1)) (aCons (eCB F__law_take (aCons (eVar 1) (aCons (eC (.int 9)) aNil))) aNil))) aNil))))) (sSeq (sSet 2 (eBin fAdd (eVar 2) (eLst (aCons (eLst (aCons (eCB F__law_take (aCons (eVar 1) (aCons (eC (.int 9)) aNil))) aNil)) (aCons (eC .none) (aCons (eC (.bool true)) (aCons (eTup aNil) aNil))))))) (sSeq (sSet 3 (eCB F__law_pick (aCons (eVar 1) (aCons (eVar 2) aNil)))) (sSeq (sSet 4 (eCB F__law_ones (aCons (eVar 3) aNil))) (sSeq (sFor (srcSeq (eVar 4)) (tName 5) (sIf (eT (eBin (fEq true) (eUn (fEat ECs_value "value") (eVar 5)) (eVar 3))) (sRet (eC (.bool false))) sNil)) (sSeq (sPar 6 7 (eErr "Undefined" "what" (eVar 3)) (eErr "NothingToUndo" "word" (eVar 3))) (sSeq (sIf (bOr (eT (eBin (fEq true) (eUn (fEat ECs_what "what") (eVar 6)) (eVar 3))) (eT (eBin (fEq true) (eUn (fEat ECs_word "word") (eVar 7)) (eVar 3)))) (sRet (eC (.bool false))) sNil) (sSeq (sSet 4 (eBin fCat2 (eVar 4) (eCell (aCons (eVar 6) (aCons (eVar 7) aNil))))) (sSeq (sFor (srcRng1 (eCB (on1 fLen) (aCons (eVar 4) aNil))) (tName 8) (sIf (eT (eBin (fEq true) (eCB F__law_kinds (aCons (eBin fIx (eVar 4) (eVar 8)) aNil)) (eLc (srcRng1 (eBin fAdd (eCB (on1 fLen) (aCons (eVar 4) aNil)) (eC (.int 2)))) [10] (tName 10) (fun _ => M.pure true) (eOr (eBin (fEq false) (eVar 10) (eVar 8)) (eBin fGe (eVar 10) (eCB (on1 fLen) (aCons (eVar 4) aNil))))))) (sRet (eC (.bool false))) sNil)) (sTryT ECs_value (sSeq (sExpr (eCB (kMake "Calls" F_m_Callsdd_initdd) (aCons (eC (.int 0)) (aCons (eTup aNil) aNil)))) (sRet (eC (.bool false)))) "value" 9 sub_InvalidNumber (.int 0))))))))))))
def F_law : List D → M D := bodyF 1 11 g_law
set_option maxHeartbeats 2000000 in
theorem d_law (T : Txt P K mg C_Calls C_InvalidClaim C_InvalidEdge C_InvalidEdges C_InvalidLengths C_InvalidMarks C_InvalidNumber C_InvalidQuestion C_InvalidRun C_InvalidTicks C_InvalidTrace C_InvalidWaits C_NothingToUndo C_TickError C_Undefined) (At : DefAt K mg "law" s_law ["script"]) (D_m_Callsdd_initdd : MethOk P w K mg base C_Calls "__init__" ["self", "functions", "edges"] 5 F_m_Callsdd_initdd) (D__law_kinds : DefOk P w K mg base "_law_kinds" ["e"] 1 F__law_kinds) (D__law_ones : DefOk P w K mg base "_law_ones" ["v"] 1 F__law_ones) (D__law_pick : DefOk P w K mg base "_law_pick" ["box", "some"] 2 F__law_pick) (D__law_take : DefOk P w K mg base "_law_take" ["box", "many"] 1 F__law_take) (D__law_box : DefOk P w K mg base "_law_box" ["script", "k"] 1 F__law_box) : DefOk P w K mg base "law" ["script"] 7 F_law :=
  def_ok At sc_law fun f cdv A outer s H E hr => (dss_cons (ds_set (i := 1) sc_law.nd rfl (by first | exact Or.inl rfl | exact Or.inr rfl) (de_callD D__law_box (hr.mono (by first | decide | omega | (simp only [Nat.add_eq]; omega))) rfl (takes_of rfl rfl rfl rfl) (da_cons (de_var 0) (da_cons de_int da_nil)))) (dss_cons (ds_set (i := 2) sc_law.nd rfl (by first | exact Or.inl rfl | exact Or.inr rfl) (de_lst (da_cons (de_sub (de_callD D__law_take (hr.mono (by first | decide | omega | (simp only [Nat.add_eq]; omega))) rfl (takes_of rfl rfl rfl rfl) (da_cons (de_var 1) (da_cons (de_pow de_int de_int) da_nil))) de_int) (da_cons (de_add de_str (de_toStr rfl T.b_str (de_callD D__law_take (hr.mono (by first | decide | omega | (simp only [Nat.add_eq]; omega))) rfl (takes_of rfl rfl rfl rfl) (da_cons (de_var 1) (da_cons de_int da_nil))))) (da_cons (de_tup (da_cons de_int (da_cons (de_callD D__law_take (hr.mono (by first | decide | omega | (simp only [Nat.add_eq]; omega))) rfl (takes_of rfl rfl rfl rfl) (da_cons (de_var 1) (da_cons de_int da_nil))) da_nil))) da_nil))))) (dss_cons (ds_set (i := 2) sc_law.nd rfl (by first | exact Or.inl rfl | exact Or.inr rfl) (de_add (de_var 2) (de_lst (da_cons (de_lst (da_cons (de_callD D__law_take (hr.mono (by first | decide | omega | (simp only [Nat.add_eq]; omega))) rfl (takes_of rfl rfl rfl rfl) (da_cons (de_var 1) (da_cons de_int da_nil))) da_nil)) (da_cons de_non (da_cons de_bl (da_cons (de_tup da_nil) da_nil))))))) (dss_cons (ds_set (i := 3) sc_law.nd rfl (by first | exact Or.inl rfl | exact Or.inr rfl) (de_callD D__law_pick (hr.mono (by first | decide | omega | (simp only [Nat.add_eq]; omega))) rfl (takes_of rfl rfl rfl rfl) (da_cons (de_var 1) (da_cons (de_var 2) da_nil)))) (dss_cons (ds_set (i := 4) sc_law.nd rfl (by first | exact Or.inl rfl | exact Or.inr rfl) (de_callD D__law_ones (hr.mono (by first | decide | omega | (simp only [Nat.add_eq]; omega))) rfl (takes_of rfl rfl rfl rfl) (da_cons (de_var 3) da_nil))) (dss_cons (ds_for (passes_of rfl) rfl (di_seq (de_var 4)) (dg_name (i := 5) sc_law.nd rfl (by first | exact Or.inl rfl | exact Or.inr rfl)) (dss_one (ds_if (dt_ne hr.units (de_eat T.e_value (de_var 5)) (de_var 3)) (dss_one (ds_ret de_bl)) dss_nil))) (dss_cons (ds_par (i := 6) (j := 7) rfl sc_law.nd rfl rfl (by decide) rfl rfl (de_err T.x_Undefined hr (de_var 3)) (de_err T.x_NothingToUndo hr (de_var 3)) (by rfl)) (dss_cons (ds_if (DW.dt (dw_or (dt_ne hr.units (de_eat T.e_what (de_var 6)) (de_var 3)) (dw_or1 (dt_ne hr.units (de_eat T.e_word (de_var 7)) (de_var 3))))) (dss_one (ds_ret de_bl)) dss_nil) (dss_cons (ds_set (i := 4) sc_law.nd rfl (by first | exact Or.inl rfl | exact Or.inr rfl) (de_add2 (de_var 4) (de_cell (da_cons (de_var 6) (da_cons (de_var 7) da_nil))))) (dss_cons (ds_for (passes_of rfl) rfl (di_rng1 rfl T.b_range (de_len rfl T.b_len (de_var 4))) (dg_name (i := 8) sc_law.nd rfl (by first | exact Or.inl rfl | exact Or.inr rfl)) (dss_one (ds_if (dt_ne hr.units (de_callD D__law_kinds (hr.mono (by first | decide | omega | (simp only [Nat.add_eq]; omega))) rfl (takes_of rfl rfl rfl rfl) (da_cons (de_item (de_var 4) (de_var 8)) da_nil)) (de_lcI rfl sc_law.nd (di_rng1 rfl T.b_range (de_add (de_len rfl T.b_len (de_var 4)) de_int)) (blkOk_by (own := [("j", 10)]) (N := N_law) (sc := defScope s_law) (by decide +kernel)) tgc_one (fun _ _ _ _ _ => pg_name (i := 10) sc_law.nd rfl (by first | exact Or.inl rfl | exact Or.inr rfl)) (fun _ _ _ _ _ => dts_nil) (fun _ _ _ _ _ => (de_or (de_eq hr.units (de_var 10) (de_var 8)) (de_one (de_ge (de_var 10) (de_len rfl T.b_len (de_var 4)))))))) (dss_one (ds_ret de_bl)) dss_nil))) (dss_one (ds_tryT (EN := ECs_value) 9 rfl rfl sc_law.nd (takes_of rfl rfl rfl rfl) (fun W' pn xe tk' hp' => (dss_cons (ds_expr (de_makeD T.g_Calls T.mk_Calls D_m_Callsdd_initdd (hr.mono (by first | decide | omega | (simp only [Nat.add_eq]; omega))) rfl tk' (da_cons de_int (da_cons (de_tup da_nil) da_nil)))) (dss_one (ds_ret de_bl)))) T.ct_TickError T.e_value T.iv_InvalidNumber T.g_InvalidNumber T.b_isinstance hr.units))))))))))))
set_option maxHeartbeats 2000000 in
theorem fn_law (T : Txt P K mg C_Calls C_InvalidClaim C_InvalidEdge C_InvalidEdges C_InvalidLengths C_InvalidMarks C_InvalidNumber C_InvalidQuestion C_InvalidRun C_InvalidTicks C_InvalidTrace C_InvalidWaits C_NothingToUndo C_TickError C_Undefined) {fa : Addr} {fd : FuncData} (Fn : Fun K "law" "law" s_law fa fd) (D_m_Callsdd_initdd : MethOk P w K mg base C_Calls "__init__" ["self", "functions", "edges"] 5 F_m_Callsdd_initdd) (D__law_kinds : DefOk P w K mg base "_law_kinds" ["e"] 1 F__law_kinds) (D__law_ones : DefOk P w K mg base "_law_ones" ["v"] 1 F__law_ones) (D__law_pick : DefOk P w K mg base "_law_pick" ["box", "some"] 2 F__law_pick) (D__law_take : DefOk P w K mg base "_law_take" ["box", "many"] 1 F__law_take) (D__law_box : DefOk P w K mg base "_law_box" ["script", "k"] 1 F__law_box) : FnOk P w K mg base (L2.CX P w) 7 fa fd ["script"] (spD ⟨mg, K⟩ F_law) :=
  law_fn Fn sc_law fun cdv A outer s H E hr => (dss_cons (ds_set (i := 1) sc_law.nd rfl (by first | exact Or.inl rfl | exact Or.inr rfl) (de_callD D__law_box (hr.mono (by first | decide | omega | (simp only [Nat.add_eq]; omega))) rfl (takes_of rfl rfl rfl rfl) (da_cons (de_var 0) (da_cons de_int da_nil)))) (dss_cons (ds_set (i := 2) sc_law.nd rfl (by first | exact Or.inl rfl | exact Or.inr rfl) (de_lst (da_cons (de_sub (de_callD D__law_take (hr.mono (by first | decide | omega | (simp only [Nat.add_eq]; omega))) rfl (takes_of rfl rfl rfl rfl) (da_cons (de_var 1) (da_cons (de_pow de_int de_int) da_nil))) de_int) (da_cons (de_add de_str (de_toStr rfl T.b_str (de_callD D__law_take (hr.mono (by first | decide | omega | (simp only [Nat.add_eq]; omega))) rfl (takes_of rfl rfl rfl rfl) (da_cons (de_var 1) (da_cons de_int da_nil))))) (da_cons (de_tup (da_cons de_int (da_cons (de_callD D__law_take (hr.mono (by first | decide | omega | (simp only [Nat.add_eq]; omega))) rfl (takes_of rfl rfl rfl rfl) (da_cons (de_var 1) (da_cons de_int da_nil))) da_nil))) da_nil))))) (dss_cons (ds_set (i := 2) sc_law.nd rfl (by first | exact Or.inl rfl | exact Or.inr rfl) (de_add (de_var 2) (de_lst (da_cons (de_lst (da_cons (de_callD D__law_take (hr.mono (by first | decide | omega | (simp only [Nat.add_eq]; omega))) rfl (takes_of rfl rfl rfl rfl) (da_cons (de_var 1) (da_cons de_int da_nil))) da_nil)) (da_cons de_non (da_cons de_bl (da_cons (de_tup da_nil) da_nil))))))) (dss_cons (ds_set (i := 3) sc_law.nd rfl (by first | exact Or.inl rfl | exact Or.inr rfl) (de_callD D__law_pick (hr.mono (by first | decide | omega | (simp only [Nat.add_eq]; omega))) rfl (takes_of rfl rfl rfl rfl) (da_cons (de_var 1) (da_cons (de_var 2) da_nil)))) (dss_cons (ds_set (i := 4) sc_law.nd rfl (by first | exact Or.inl rfl | exact Or.inr rfl) (de_callD D__law_ones (hr.mono (by first | decide | omega | (simp only [Nat.add_eq]; omega))) rfl (takes_of rfl rfl rfl rfl) (da_cons (de_var 3) da_nil))) (dss_cons (ds_for (passes_of rfl) rfl (di_seq (de_var 4)) (dg_name (i := 5) sc_law.nd rfl (by first | exact Or.inl rfl | exact Or.inr rfl)) (dss_one (ds_if (dt_ne hr.units (de_eat T.e_value (de_var 5)) (de_var 3)) (dss_one (ds_ret de_bl)) dss_nil))) (dss_cons (ds_par (i := 6) (j := 7) rfl sc_law.nd rfl rfl (by decide) rfl rfl (de_err T.x_Undefined hr (de_var 3)) (de_err T.x_NothingToUndo hr (de_var 3)) (by rfl)) (dss_cons (ds_if (DW.dt (dw_or (dt_ne hr.units (de_eat T.e_what (de_var 6)) (de_var 3)) (dw_or1 (dt_ne hr.units (de_eat T.e_word (de_var 7)) (de_var 3))))) (dss_one (ds_ret de_bl)) dss_nil) (dss_cons (ds_set (i := 4) sc_law.nd rfl (by first | exact Or.inl rfl | exact Or.inr rfl) (de_add2 (de_var 4) (de_cell (da_cons (de_var 6) (da_cons (de_var 7) da_nil))))) (dss_cons (ds_for (passes_of rfl) rfl (di_rng1 rfl T.b_range (de_len rfl T.b_len (de_var 4))) (dg_name (i := 8) sc_law.nd rfl (by first | exact Or.inl rfl | exact Or.inr rfl)) (dss_one (ds_if (dt_ne hr.units (de_callD D__law_kinds (hr.mono (by first | decide | omega | (simp only [Nat.add_eq]; omega))) rfl (takes_of rfl rfl rfl rfl) (da_cons (de_item (de_var 4) (de_var 8)) da_nil)) (de_lcI rfl sc_law.nd (di_rng1 rfl T.b_range (de_add (de_len rfl T.b_len (de_var 4)) de_int)) (blkOk_by (own := [("j", 10)]) (N := N_law) (sc := defScope s_law) (by decide +kernel)) tgc_one (fun _ _ _ _ _ => pg_name (i := 10) sc_law.nd rfl (by first | exact Or.inl rfl | exact Or.inr rfl)) (fun _ _ _ _ _ => dts_nil) (fun _ _ _ _ _ => (de_or (de_eq hr.units (de_var 10) (de_var 8)) (de_one (de_ge (de_var 10) (de_len rfl T.b_len (de_var 4)))))))) (dss_one (ds_ret de_bl)) dss_nil))) (dss_one (ds_tryT (EN := ECs_value) 9 rfl rfl sc_law.nd (takes_of rfl rfl rfl rfl) (fun W' pn xe tk' hp' => (dss_cons (ds_expr (de_makeD T.g_Calls T.mk_Calls D_m_Callsdd_initdd (hr.mono (by first | decide | omega | (simp only [Nat.add_eq]; omega))) rfl tk' (da_cons de_int (da_cons (de_tup da_nil) da_nil)))) (dss_one (ds_ret de_bl)))) T.ct_TickError T.e_value T.iv_InvalidNumber T.g_InvalidNumber T.b_isinstance hr.units))))))))))))
end
end LK
set_option Elab.async false
set_option linter.all false
set_option maxRecDepth 100000
set_option maxHeartbeats 1000000
namespace LK
open PySem PySem.Spec L2 DL
theorem ixN2 (S : Store) (i : Nat) (b0 b1 : Int) (h : S[i]? = some (.lst [.p (.int b0), .p (.int b1)])) : lstAt S i = some [.p (.int b0), .p (.int b1)] := by
  unfold lstAt; rw [h]; rfl
theorem items2 (S : Store) (i : Nat) (b0 b1 : Int) (h : S[i]? = some (.lst [.p (.int b0), .p (.int b1)])) : items S (.o i) = some [.p (.int b0), .p (.int b1)] := by
  show S[i]?.bind Cell.seq? = _; rw [h]; rfl
theorem at2_0 {a b : D} : atI [a, b] 0 = some a := rfl
theorem at2_1 {a b : D} : atI [a, b] 1 = some b := rfl
theorem items_pl {S : Store} {es : List PyData} : items S (.p (.list es)) = some (es.map D.p) := rfl
theorem ix2_0 : ixN 2 0 = some 0 := rfl
theorem ix2_1 : ixN 2 1 = some 1 := rfl
theorem take_ok (S : Store) (i : Nat) (b0 b1 m : Int) (h : S[i]? = some (.lst [.p (.int b0), .p (.int b1)])) (hm : 0 < m) (hl : m.natAbs.log2 < 9000) :
    ∃ got b0' b1', F__law_take [.o i, .p (.int m)] S = .ok (.p (.int got)) (S.set i (.lst [.p (.int b0'), .p (.int b1')])) ∧ 0 ≤ got ∧ got < m := by
  have hi := items2 S i b0 b1 h
  have hl' := ixN2 S i b0 b1 h
  by_cases hb : 0 < b0
  · refine ⟨b0 % m, b0 / m, b1, ?_, Int.emod_nonneg _ (by omega), Int.emod_lt_of_pos _ hm⟩
    unfold F__law_take bodyF g__law_take
    simp [sSeq, thenS, sIf, eT, asB, eBin, eVar, eC, M.bind, M.pure, M.bad, fIx, fI, fI0, fGt, fLt, fGe, fLe, fMod, fDivW, fDiv, fMul, fSub, fPow, fAdd, bindS, slots, finR, sRet, sSet, sItem, eCB, on1, aCons, aNil, fInt, fAbs, fLen, ofO, setAt, CDivW, CDiv, CMul, CPow, nxO, at2_0, at2_1, ix2_0, ix2_1, sNil, eCell, kCell, eLst, eTup, kLst, kTup, asPs, sizeLine_eq, items_pl, hi, hb, hm, hl', hl]
  · have hlen : i < S.length := (List.getElem?_eq_some_iff.mp h).1
    refine ⟨((b1 * 39373 + 69621) % 2147483647 / 8191) % m, b0, (b1 * 39373 + 69621) % 2147483647, ?_, Int.emod_nonneg _ (by omega), Int.emod_lt_of_pos _ hm⟩
    unfold F__law_take bodyF g__law_take
    have hi2 : items (S.set i (.lst [.p (.int b0), .p (.int ((b1 * 39373 + 69621) % 2147483647))])) (.o i) = some [.p (.int b0), .p (.int ((b1 * 39373 + 69621) % 2147483647))] := items2 _ i _ _ (by rw [List.getElem?_set_self hlen])
    simp [sSeq, thenS, sIf, eT, asB, eBin, eVar, eC, M.bind, M.pure, M.bad, fIx, fI, fI0, fGt, fLt, fGe, fLe, fMod, fDivW, fDiv, fMul, fSub, fPow, fAdd, bindS, slots, finR, sRet, sSet, sItem, eCB, on1, aCons, aNil, fInt, fAbs, fLen, ofO, setAt, CDivW, CDiv, CMul, CPow, nxO, at2_0, at2_1, ix2_0, ix2_1, sNil, eCell, kCell, eLst, eTup, kLst, kTup, asPs, sizeLine_eq, items_pl, hi, hb, hm, hl', hl, hi2]
theorem ixN_nat {n k : Nat} (h : k < n) : ixN n (k : Int) = some k := by
  unfold ixN
  have : ¬ ((k : Int) < 0) := by omega
  simp [this]
  try omega
theorem atI_map {ns : List Int} {k : Nat} (h : k < ns.length) : atI (ns.map fun n => D.p (.int n)) (k : Int) = some (.p (.int (ns.getD k 0))) := by
  unfold atI
  rw [List.length_map, ixN_nat h]
  simp [h]
theorem len_s {S : Store} {ns : List Int} : fLen (.s ns) S = .ok (.p (.int ns.length)) S := by
  simp [fLen, items, ofO]
theorem ix_s {S : Store} {ns : List Int} {k : Nat} (h : k < ns.length) : fIx (.s ns) (.p (.int k)) S = .ok (.p (.int (ns.getD k 0))) S := by
  show ofO S ((items S (.s ns)).bind fun ds => atI ds k) = _
  show ofO S (atI (ns.map fun n => D.p (.int n)) k) = _
  rw [atI_map h]
  rfl
theorem box_end (S : Store) (c k : Int) (ρ0 : Option D) :
    ∃ b0 b1, thenS (.nx [ρ0, some (.p (.int k)), some (.p (.int c)), none] S) (sSeq (sSet 3 (eBin fIx (eLst (aCons (eC (.int 0)) (aCons (eVar 2) aNil))) (eCB (on1 fInt) (aCons (eBin fGe (eVar 2) (eBin fPow (eC (.int 10)) (eC (.int 18)))) aNil)))) (sRet (eCell (aCons (eVar 3) (aCons (eBin fAdd (eBin fMod (eCB (on1 fInt) (aCons (eBin fAdd (eBin fMul (eBin fMod (eCB (on1 fInt) (aCons (eVar 2) aNil)) (eC (.int 1000000007))) (eC (.int 48271))) (eBin fMul (eC (.int 613)) (eVar 1))) aNil)) (eC (.int 2147483647))) (eC (.int 1))) aNil))))) = .rt (.o S.length) (S ++ [.lst [.p (.int b0), .p (.int b1)]]) := by
  by_cases h : (10 : Int) ^ 18 ≤ c
  · refine ⟨c, (c % 1000000007 * 48271 + 613 * k) % 2147483647 + 1, ?_⟩
    have h' : (1000000000000000000 : Int) ≤ c := by simpa using h
    simp [sSeq, thenS, sIf, eT, asB, eBin, eVar, eC, M.bind, M.pure, M.bad, fIx, fI, fI0, fGt, fLt, fGe, fLe, fMod, fDivW, fDiv, fMul, fSub, fPow, fAdd, bindS, slots, finR, sRet, sSet, sItem, eCB, on1, aCons, aNil, fInt, fAbs, fLen, ofO, setAt, CDivW, CDiv, CMul, CPow, nxO, at2_0, at2_1, ix2_0, ix2_1, sNil, eCell, kCell, eLst, eTup, kLst, kTup, asPs, sizeLine_eq, items_pl, h']
  · refine ⟨0, (c % 1000000007 * 48271 + 613 * k) % 2147483647 + 1, ?_⟩
    have h' : ¬ (1000000000000000000 : Int) ≤ c := by simpa using h
    simp [sSeq, thenS, sIf, eT, asB, eBin, eVar, eC, M.bind, M.pure, M.bad, fIx, fI, fI0, fGt, fLt, fGe, fLe, fMod, fDivW, fDiv, fMul, fSub, fPow, fAdd, bindS, slots, finR, sRet, sSet, sItem, eCB, on1, aCons, aNil, fInt, fAbs, fLen, ofO, setAt, CDivW, CDiv, CMul, CPow, nxO, at2_0, at2_1, ix2_0, ix2_1, sNil, eCell, kCell, eLst, eTup, kLst, kTup, asPs, sizeLine_eq, items_pl, h']
/-- the box of a script -/
theorem box_ok (ns : List Int) (k : Nat) (S : Store) : ∃ b0 b1, F__law_box [.s ns, .p (.int k)] S = .ok (.o S.length) (S ++ [.lst [.p (.int b0), .p (.int b1)]]) := by
  have fin : ∀ (c : Int) (r0 : Option D) (x : RS), x = .nx [r0, some (.p (.int k)), some (.p (.int c)), none] S → ∃ b0 b1, finR (thenS x (sSeq (sSet 3 (eBin fIx (eLst (aCons (eC (.int 0)) (aCons (eVar 2) aNil))) (eCB (on1 fInt) (aCons (eBin fGe (eVar 2) (eBin fPow (eC (.int 10)) (eC (.int 18)))) aNil)))) (sRet (eCell (aCons (eVar 3) (aCons (eBin fAdd (eBin fMod (eCB (on1 fInt) (aCons (eBin fAdd (eBin fMul (eBin fMod (eCB (on1 fInt) (aCons (eVar 2) aNil)) (eC (.int 1000000007))) (eC (.int 48271))) (eBin fMul (eC (.int 613)) (eVar 1))) aNil)) (eC (.int 2147483647))) (eC (.int 1))) aNil)))))) = .ok (.o S.length) (S ++ [.lst [.p (.int b0), .p (.int b1)]]) := by
    intro c r0 x e
    obtain ⟨b0, b1, f⟩ := box_end S c k r0
    exact ⟨b0, b1, by rw [e, f]; rfl⟩
  have hl := @len_s S ns
  have start : ∃ c : Int, thenS (sSet 2 (eBin fAdd (eBin fMul (eC (.int 7919)) (eVar 1)) (eC (.int 101))) (slots 4 [.s ns, .p (.int k)]) S) (sIf (eT (eBin fLt (eVar 1) (eCB (on1 fLen) (aCons (eVar 0) aNil)))) (sSet 2 (eCB (on1 fAbs) (aCons (eBin fIx (eVar 0) (eVar 1)) aNil))) (sIf (eT (eBin fGt (eCB (on1 fLen) (aCons (eVar 0) aNil)) (eC (.int 0)))) (sSet 2 (eBin fAdd (eBin fMul (eBin fMod (eCB (on1 fInt) (aCons (eCB (on1 fAbs) (aCons (eBin fIx (eVar 0) (eBin fMod (eCB (on1 fInt) (aCons (eVar 1) aNil)) (eCB (on1 fLen) (aCons (eVar 0) aNil)))) aNil)) aNil)) (eC (.int 1000000007))) (eC (.int 31))) (eBin fMul (eC (.int 7919)) (eVar 1)))) sNil)) = .nx [some (.s ns), some (.p (.int k)), some (.p (.int c)), none] S := by
    by_cases h1 : k < ns.length
    · have hx := @ix_s S ns k h1
      refine ⟨if ns.getD k 0 < 0 then - ns.getD k 0 else ns.getD k 0, ?_⟩
      simp [sSet, eBin, eVar, eC, M.bind, M.pure, bindS, slots, fAdd, fMul, fI, CMul, thenS, sIf, eT, eCB, on1, aCons, aNil, hl, fLt, fI0, asB, h1, hx, fAbs]
    · by_cases h2 : 0 < ns.length
      · have hm : (k : Int) % (ns.length : Int) = ((k % ns.length : Nat) : Int) := by omega
        have hx : fIx (.s ns) (.p (.int ((k : Int) % (ns.length : Int)))) S = .ok (.p (.int (ns.getD (k % ns.length) 0))) S := by rw [hm]; exact @ix_s S ns (k % ns.length) (Nat.mod_lt _ h2)
        refine ⟨(if ns.getD (k % ns.length) 0 < 0 then - ns.getD (k % ns.length) 0 else ns.getD (k % ns.length) 0) % 1000000007 * 31 + 7919 * k, ?_⟩
        simp [sSet, eBin, eVar, eC, M.bind, M.pure, bindS, slots, fAdd, fMul, fI, CMul, thenS, sIf, eT, eCB, on1, aCons, aNil, hl, fLt, fGt, fI0, asB, h1, h2, fAbs, fMod, fInt, hx]
      · refine ⟨7919 * k + 101, ?_⟩
        simp [sSet, eBin, eVar, eC, M.bind, M.pure, bindS, slots, fAdd, fMul, fI, CMul, thenS, sIf, eT, eCB, on1, aCons, aNil, hl, fLt, fGt, fI0, asB, h1, h2, sNil]
  obtain ⟨c, e⟩ := start
  exact fin c _ _ e
end LK
set_option Elab.async false
set_option linter.all false
set_option maxRecDepth 100000
set_option maxHeartbeats 1000000
namespace LK
open PySem PySem.Spec L2 DL
/-- a loop that leaves the store as it is -/
theorem loop_inv {sv : SrcV} {t : Tg} {u : Fs} {S : Store} (ds : List D) (hn : ∀ i, sv.nxt i S = some ds[i]?) (Pv : Nat → Sl → Prop)
    (step : ∀ (i : Nat) (d : D) (ρ : Sl), ds[i]? = some d → Pv i ρ → ∃ ρ1 ρ2, t d ρ = some ρ1 ∧ u ρ1 S = .nx ρ2 S ∧ Pv (i + 1) ρ2) :
    ∀ (m i : Nat) (ρ : Sl), i + m = ds.length → Pv i ρ → ∃ ρ', loopS sv t u m i ρ S = .nx ρ' S ∧ Pv ds.length ρ'
  | 0, i, ρ, h, p => by
    have e : i = ds.length := by omega
    subst e
    refine ⟨ρ, ?_, p⟩
    unfold loopS
    rw [hn, List.getElem?_eq_none (Nat.le_refl _)]
  | m + 1, i, ρ, h, p => by
    have hi : i < ds.length := by omega
    obtain ⟨ρ1, ρ2, e1, e2, p2⟩ := step i ds[i] ρ (List.getElem?_eq_getElem hi) p
    obtain ⟨ρ', e3, p3⟩ := loop_inv ds hn Pv step m (i + 1) ρ2 (by omega) p2
    refine ⟨ρ', ?_, p3⟩
    unfold loopS
    rw [hn, List.getElem?_eq_getElem hi]
    simp only [e1, e2]
    exact e3
def errs1 (v : PyData) : List Cell := [.exn "InvalidNumber" "value" v, .exn "InvalidEdges" "value" v, .exn "InvalidEdge" "value" v, .exn "InvalidRun" "value" v, .exn "InvalidTrace" "value" v, .exn "InvalidTicks" "value" v]
def errs2 (v : PyData) : List Cell := [.exn "InvalidMarks" "value" v, .exn "InvalidLengths" "value" v, .exn "InvalidWaits" "value" v, .exn "InvalidQuestion" "value" v, .exn "InvalidClaim" "value" v]
def S1 (c : Cell) (v : PyData) : Store := c :: (errs1 v ++ [.lst [.o 1, .o 2, .o 3, .o 4, .o 5, .o 6]] ++ errs2 v ++ [.lst [.o 8, .o 9, .o 10, .o 11, .o 12], .lst [.o 1, .o 2, .o 3, .o 4, .o 5, .o 6, .o 8, .o 9, .o 10, .o 11, .o 12]])
theorem ones_ok (c : Cell) (v : PyData) : F__law_ones [.p v] [c] = .ok (.o 14) (S1 c v) := by
  rfl
def S2 (c : Cell) (v : PyData) : Store := S1 c v ++ [.exn "Undefined" "what" v, .exn "NothingToUndo" "word" v, .lst [.o 15, .o 16], .lst [.o 1, .o 2, .o 3, .o 4, .o 5, .o 6, .o 8, .o 9, .o 10, .o 11, .o 12, .o 15, .o 16]]
def kindsOf (k : Nat) : List PyData := (List.range 15).map fun j => .bool (j == k || 13 ≤ j)
theorem kinds_ok (c : Cell) (v : PyData) : ∀ k : Nat, k < 13 → ∃ d, (S2 c v)[18]? = some (.lst [.o 1, .o 2, .o 3, .o 4, .o 5, .o 6, .o 8, .o 9, .o 10, .o 11, .o 12, .o 15, .o 16]) ∧ fIx (.o 18) (.p (.int (k : Int))) (S2 c v) = .ok d (S2 c v) ∧ F__law_kinds [d] (S2 c v) = .ok (.p (.list (kindsOf k))) (S2 c v)
  | 0, _ => ⟨_, rfl, rfl, rfl⟩
  | 1, _ => ⟨_, rfl, rfl, rfl⟩
  | 2, _ => ⟨_, rfl, rfl, rfl⟩
  | 3, _ => ⟨_, rfl, rfl, rfl⟩
  | 4, _ => ⟨_, rfl, rfl, rfl⟩
  | 5, _ => ⟨_, rfl, rfl, rfl⟩
  | 6, _ => ⟨_, rfl, rfl, rfl⟩
  | 7, _ => ⟨_, rfl, rfl, rfl⟩
  | 8, _ => ⟨_, rfl, rfl, rfl⟩
  | 9, _ => ⟨_, rfl, rfl, rfl⟩
  | 10, _ => ⟨_, rfl, rfl, rfl⟩
  | 11, _ => ⟨_, rfl, rfl, rfl⟩
  | 12, _ => ⟨_, rfl, rfl, rfl⟩
  | n + 13, h => absurd h (by omega)
abbrev body1 : Fs := sIf (eT (eBin (fEq true) (eUn (fEat ECs_value "value") (eVar 5)) (eVar 3))) (sRet (eC (.bool false))) sNil
def vals (v : PyData) : List D := [.o 1, .o 2, .o 3, .o 4, .o 5, .o 6, .o 8, .o 9, .o 10, .o 11, .o 12]
theorem eat_ok (c : Cell) (v : PyData) : ∀ (i : Nat) (d : D), (vals v)[i]? = some d → fEat ECs_value "value" d (S1 c v) = .ok (.p v) (S1 c v)
  | 0, d, h => by cases h; rfl
  | 1, d, h => by cases h; rfl
  | 2, d, h => by cases h; rfl
  | 3, d, h => by cases h; rfl
  | 4, d, h => by cases h; rfl
  | 5, d, h => by cases h; rfl
  | 6, d, h => by cases h; rfl
  | 7, d, h => by cases h; rfl
  | 8, d, h => by cases h; rfl
  | 9, d, h => by cases h; rfl
  | 10, d, h => by cases h; rfl
  | n + 11, d, h => by simp [vals] at h
/-- a value that may be drawn -/
structure Good (v : PyData) : Prop where
  sh : SeqAt.shaped v = true
  eq : PyData.eqv v v = true
theorem ne_self {v : PyData} (g : Good v) (S : Store) : fEq true (.p v) (.p v) S = .ok (.p (.bool false)) S := by
  unfold fEq
  simp [toPy, g.sh, g.eq]
theorem loop1 (c : Cell) {v : PyData} (g : Good v) (a0 a1 a2 : Option D) (r6 : List (Option D)) : ∃ x, sFor (srcSeq (eVar 4)) (tName 5) body1 (a0 :: a1 :: a2 :: some (.p v) :: some (.o 14) :: none :: r6) (S1 c v) = .nx (a0 :: a1 :: a2 :: some (.p v) :: some (.o 14) :: x :: r6) (S1 c v) := by
  have hs : srcSeq (eVar 4) (a0 :: a1 :: a2 :: some (.p v) :: some (.o 14) :: none :: r6) (S1 c v) = .ok (.seq (.o 14)) (S1 c v) := rfl
  have hn : ∀ i, (SrcV.seq (.o 14)).nxt i (S1 c v) = some (vals v)[i]? := fun i => rfl
  obtain ⟨ρ', e, x, rfl⟩ := loop_inv (sv := .seq (.o 14)) (t := tName 5) (u := body1) (S := S1 c v) (vals v) hn (fun _ ρ => ∃ x, ρ = a0 :: a1 :: a2 :: some (.p v) :: some (.o 14) :: x :: r6) (fun i d ρ hd ⟨x, hx⟩ => by
    subst hx
    refine ⟨a0 :: a1 :: a2 :: some (.p v) :: some (.o 14) :: some d :: r6, a0 :: a1 :: a2 :: some (.p v) :: some (.o 14) :: some d :: r6, rfl, ?_, some d, rfl⟩
    have he := eat_ok c v i d hd
    have hq := ne_self g (S1 c v)
    simp [body1, sIf, eT, eBin, eUn, eVar, M.bind, he, hq, asB, M.pure, bindS, sNil]) 11 0 _ rfl ⟨none, rfl⟩
  refine ⟨x, ?_⟩
  unfold sFor
  rw [hs]
  exact e
end LK
set_option Elab.async false
set_option linter.all false
set_option maxRecDepth 100000
set_option maxHeartbeats 400000
namespace LK
open PySem PySem.Spec L2 DL
abbrev body2 : Fs := sIf (eT (eBin (fEq true) (eCB F__law_kinds (aCons (eBin fIx (eVar 4) (eVar 8)) aNil)) (eLc (srcRng1 (eBin fAdd (eCB (on1 fLen) (aCons (eVar 4) aNil)) (eC (.int 2)))) [10] (tName 10) (fun _ => M.pure true) (eOr (eBin (fEq false) (eVar 10) (eVar 8)) (eBin fGe (eVar 10) (eCB (on1 fLen) (aCons (eVar 4) aNil))))))) (sRet (eC (.bool false))) sNil
theorem turn2 (c : Cell) (v : PyData) (a0 a1 a2 a3 a5 a6 a7 a9 a10 : Option D) : ∀ k : Nat, k < 13 → body2 [a0, a1, a2, a3, some (.o 18), a5, a6, a7, some (.p (.int (k : Int))), a9, a10] (S2 c v) = .nx [a0, a1, a2, a3, some (.o 18), a5, a6, a7, some (.p (.int (k : Int))), a9, a10] (S2 c v)
  | 0, _ => rfl
  | 1, _ => rfl
  | 2, _ => rfl
  | 3, _ => rfl
  | 4, _ => rfl
  | 5, _ => rfl
  | 6, _ => rfl
  | 7, _ => rfl
  | 8, _ => rfl
  | 9, _ => rfl
  | 10, _ => rfl
  | 11, _ => rfl
  | 12, _ => rfl
  | n + 13, h => absurd h (by omega)
end LK
set_option Elab.async false
set_option linter.all false
set_option maxRecDepth 100000
set_option maxHeartbeats 400000
namespace LK
open PySem PySem.Spec L2 DL
theorem loop2 (c : Cell) (v : PyData) (a0 a1 a2 a3 a5 a6 a7 a9 a10 : Option D) : ∃ x, sFor (srcRng1 (eCB (on1 fLen) (aCons (eVar 4) aNil))) (tName 8) body2 [a0, a1, a2, a3, some (.o 18), a5, a6, a7, none, a9, a10] (S2 c v) = .nx [a0, a1, a2, a3, some (.o 18), a5, a6, a7, x, a9, a10] (S2 c v) := by
  have hs : srcRng1 (eCB (on1 fLen) (aCons (eVar 4) aNil)) [a0, a1, a2, a3, some (.o 18), a5, a6, a7, none, a9, a10] (S2 c v) = .ok (.rng 0 13) (S2 c v) := rfl
  have hn : ∀ i, (SrcV.rng 0 13).nxt i (S2 c v) = some ((List.range 13).map fun (i : Nat) => D.p (.int (i : Int)))[i]? := fun i => by
    show some (if i < 13 then some (D.p (.int (0 + (i : Int)))) else none) = _
    by_cases h : i < 13
    · simp [h]
    · simp [h]
  obtain ⟨ρ', e, x, rfl⟩ := loop_inv (sv := .rng 0 13) (t := tName 8) (u := body2) (S := S2 c v) ((List.range 13).map fun (i : Nat) => D.p (.int (i : Int))) hn (fun _ ρ => ∃ x, ρ = [a0, a1, a2, a3, some (.o 18), a5, a6, a7, x, a9, a10]) (fun i d ρ hd ⟨x, hx⟩ => by
    subst hx
    have hi : i < 13 := by
      have := (List.getElem?_eq_some_iff.mp hd).1
      simpa using this
    have hd' : d = .p (.int (i : Int)) := by
      rw [List.getElem?_map, List.getElem?_range hi] at hd
      exact (Option.some.inj hd).symm
    subst hd'
    exact ⟨[a0, a1, a2, a3, some (.o 18), a5, a6, a7, some (.p (.int (i : Int))), a9, a10], [a0, a1, a2, a3, some (.o 18), a5, a6, a7, some (.p (.int (i : Int))), a9, a10], rfl, turn2 c v a0 a1 a2 a3 a5 a6 a7 a9 a10 i hi, some (.p (.int (i : Int))), rfl⟩) 13 0 [a0, a1, a2, a3, some (.o 18), a5, a6, a7, none, a9, a10] (by simp) ⟨none, rfl⟩
  refine ⟨x, ?_⟩
  unfold sFor bindS
  rw [hs]
  show loopS (.rng 0 13) (tName 8) body2 13 0 _ _ = _
  exact e
end LK
set_option Elab.async false
set_option linter.all false
set_option maxRecDepth 100000
set_option maxHeartbeats 400000
namespace LK
open PySem PySem.Spec L2 DL
theorem isint (S : Store) : F_is_integer [.p (.int 0)] S = .ok (.p (.bool true)) S := by rfl
theorem isin (S : Store) : F_is_integer_in [.p (.int 0), .p (.int 1), .p (.int 5)] S = .ok (.p (.bool false)) S := by rfl
theorem init_ok (S : Store) (a : D) : F_m_Callsdd_initdd [a, .p (.int 0), .p (.tuple [])] S = .exc ⟨"InvalidNumber", [("value", .p (.int 0))]⟩ S := by
  unfold F_m_Callsdd_initdd bodyF g_m_Callsdd_initdd
  simp [sSeq, thenS, sIf, bNot, eT, eCB, aCons, aNil, M.bind, M.pure, eVar, eC, slots, isin, asB, bindS, sRaise, finR]
end LK
set_option Elab.async false
set_option linter.all false
set_option maxRecDepth 100000
set_option maxHeartbeats 400000
namespace LK
open PySem PySem.Spec L2 DL
def Bx (S : Store) : Prop := ∃ b0 b1, S = [.lst [.p (.int b0), .p (.int b1)]]
theorem take1 {S : Store} (h : Bx S) (m : Int) (hm : 0 < m) (hl : m.natAbs.log2 < 9000) : ∃ got S', F__law_take [.o 0, .p (.int m)] S = .ok (.p (.int got)) S' ∧ 0 ≤ got ∧ got < m ∧ Bx S' := by
  obtain ⟨b0, b1, rfl⟩ := h
  obtain ⟨got, c0, c1, e, h1, h2⟩ := take_ok [.lst [.p (.int b0), .p (.int b1)]] 0 b0 b1 m rfl hm hl
  exact ⟨got, _, e, h1, h2, c0, c1, rfl⟩
theorem str99 : ∀ n : Nat, n < 99 → (Str.ofString (toString (n : Int))).length ≤ 100 := by decide +kernel
theorem log99 : ∀ n : Nat, n < 99 → n.log2 < 1920 := by decide +kernel
theorem strok99 : ∀ n : Nat, n < 99 → PyData.strOk (Str.ofString "text " ++ Str.ofString (toString (n : Int))) = true := by decide +kernel
theorem str_ok (S : Store) (g : Int) (h0 : 0 ≤ g) (h1 : g < 99) : ∃ x : Str, fStr (.p (.int g)) S = .ok (.p (.str x)) S ∧ x.length ≤ 100 ∧ PyData.strOk (Str.ofString "text " ++ x) = true := by
  obtain ⟨n, rfl⟩ := Int.eq_ofNat_of_zero_le h0
  have hn : n < 99 := by omega
  refine ⟨_, ?_, str99 n hn, strok99 n hn⟩
  show (if ((n : Int)).natAbs.log2 < 1920 then _ else _) = _
  rw [if_pos (by simpa using log99 n hn)]
theorem good_int (a : Int) : Good (.int a) := ⟨by rfl, by simp [PyData.eqv]⟩
theorem good_str (a : Str) (h : PyData.strOk a = true) : Good (.str a) := ⟨by simp [SeqAt.shaped, PyData.canLay0, PyData.depth, h], by simp [PyData.eqv]⟩
theorem good_t (a : Int) : Good (.tuple [.int 1, .int a]) := ⟨by rfl, by simp [PyData.eqv, PyData.eqvAll]⟩
theorem good_l (a : Int) : Good (.list [.int a]) := ⟨by rfl, by simp [PyData.eqv, PyData.eqvAll]⟩
theorem good_n : Good .none := ⟨by rfl, by rfl⟩
theorem good_b : Good (.bool true) := ⟨by rfl, by rfl⟩
theorem good_e : Good (.tuple []) := ⟨by rfl, by rfl⟩
/-- what is drawn -/
theorem drawn (S : Store) (h : Bx S) (a b c : Int) (x : Str) (hx : PyData.strOk x = true) : ∃ v S', F__law_pick [.o 0, .p (.list [.int a, .str x, .tuple [.int 1, .int b], .list [.int c], .none, .bool true, .tuple []])] S = .ok (.p v) S' ∧ Good v ∧ Bx S' := by
  obtain ⟨g, S', e, h0, h1, h2⟩ := take1 h 7 (by decide) (by decide)
  have key : ∃ v, fIx (.p (.list [.int a, .str x, .tuple [.int 1, .int b], .list [.int c], .none, .bool true, .tuple []])) (.p (.int g)) S' = .ok (.p v) S' ∧ Good v := by
    obtain ⟨n, rfl⟩ := Int.eq_ofNat_of_zero_le h0
    have hn : n < 7 := by omega
    match n, hn with
    | 0, _ => exact ⟨_, rfl, good_int a⟩
    | 1, _ => exact ⟨_, rfl, good_str x hx⟩
    | 2, _ => exact ⟨_, rfl, good_t b⟩
    | 3, _ => exact ⟨_, rfl, good_l c⟩
    | 4, _ => exact ⟨_, rfl, good_n⟩
    | 5, _ => exact ⟨_, rfl, good_b⟩
    | 6, _ => exact ⟨_, rfl, good_e⟩
  obtain ⟨v, e2, gv⟩ := key
  refine ⟨v, S', ?_, gv, h2⟩
  unfold F__law_pick bodyF g__law_pick
  have hlen : fLen (.p (.list [.int a, .str x, .tuple [.int 1, .int b], .list [.int c], .none, .bool true, .tuple []])) S = .ok (.p (.int 7)) S := rfl
  simp [sRet, eBin, eVar, eCB, aCons, aNil, on1, M.bind, M.pure, slots, hlen, e, e2, bindS, finR]
theorem stp {u v : Fs} {ρ ρ' : Sl} {S S' : Store} (h : u ρ S = .nx ρ' S') : sSeq u v ρ S = v ρ' S' := by
  unfold sSeq; rw [h]; rfl
def Sm (c : Cell) (v : PyData) : Store := S1 c v ++ [.exn "Undefined" "what" v, .exn "NothingToUndo" "word" v]
theorem what_ok (c : Cell) (v : PyData) : fEat ECs_what "what" (.o 15) (Sm c v) = .ok (.p v) (Sm c v) := by rfl
theorem word_ok (c : Cell) (v : PyData) : fEat ECs_word "word" (.o 16) (Sm c v) = .ok (.p v) (Sm c v) := by rfl
theorem par_ok (c : Cell) (v : PyData) (a0 a1 a2 y : Option D) : sPar 6 7 (eErr "Undefined" "what" (eVar 3)) (eErr "NothingToUndo" "word" (eVar 3)) [a0, a1, a2, some (.p v), some (.o 14), y, none, none, none, none, none] (S1 c v) = .nx [a0, a1, a2, some (.p v), some (.o 14), y, some (.o 15), some (.o 16), none, none, none] (Sm c v) := by rfl
theorem if_ok (c : Cell) {v : PyData} (g : Good v) (a0 a1 a2 y : Option D) : sIf (bOr (eT (eBin (fEq true) (eUn (fEat ECs_what "what") (eVar 6)) (eVar 3))) (eT (eBin (fEq true) (eUn (fEat ECs_word "word") (eVar 7)) (eVar 3)))) (sRet (eC (.bool false))) sNil [a0, a1, a2, some (.p v), some (.o 14), y, some (.o 15), some (.o 16), none, none, none] (Sm c v) = .nx [a0, a1, a2, some (.p v), some (.o 14), y, some (.o 15), some (.o 16), none, none, none] (Sm c v) := by
  have h1 := what_ok c v
  have h2 := word_ok c v
  have h3 := ne_self g (Sm c v)
  simp [sIf, bOr, eT, eBin, eUn, eVar, M.bind, h1, h2, h3, asB, M.pure, bindS, sNil]
theorem cat_ok (c : Cell) (v : PyData) (a0 a1 a2 y : Option D) : sSet 4 (eBin fCat2 (eVar 4) (eCell (aCons (eVar 6) (aCons (eVar 7) aNil)))) [a0, a1, a2, some (.p v), some (.o 14), y, some (.o 15), some (.o 16), none, none, none] (Sm c v) = .nx [a0, a1, a2, some (.p v), some (.o 18), y, some (.o 15), some (.o 16), none, none, none] (S2 c v) := by rfl
theorem try_ok (ρ : Sl) (h : 9 < ρ.length) (S : Store) : ∃ S', sTryT ECs_value (sSeq (sExpr (eCB (kMake "Calls" F_m_Callsdd_initdd) (aCons (eC (.int 0)) (aCons (eTup aNil) aNil)))) (sRet (eC (.bool false)))) "value" 9 sub_InvalidNumber (.int 0) ρ S = .rt (.p (.bool true)) S' := by
  refine ⟨S ++ [.ins "Calls" []], ?_⟩
  have e : sSeq (sExpr (eCB (kMake "Calls" F_m_Callsdd_initdd) (aCons (eC (.int 0)) (aCons (eTup aNil) aNil)))) (sRet (eC (.bool false))) ρ S = .exc ⟨"InvalidNumber", [("value", .p (.int 0))]⟩ ρ (S ++ [.ins "Calls" []]) := by
    have q := init_ok (S ++ [.ins "Calls" []]) (.o S.length)
    simp [sSeq, sExpr, eCB, kMake, aCons, aNil, eC, eTup, kTup, asPs, M.bind, M.pure, q, bindS, thenS, sizeLine_eq]
  unfold sTryT
  rw [e]
  show tRun ECs_value "value" 9 sub_InvalidNumber (.int 0) ⟨"InvalidNumber", [("value", .p (.int 0))]⟩ ρ (S ++ [.ins "Calls" []]) = _
  unfold tRun
  have hc : ECs_value.contains "InvalidNumber" = true ∧ 9 < ρ.length ∧ ("value" : Str) = "value" ∧ (SeqAt.shaped (.int 0) && SeqAt.shaped (.int 0)) = true := ⟨by decide +kernel, h, rfl, by decide +kernel⟩
  dsimp only
  rw [if_pos hc]
  rfl
theorem law_true (ns : List Int) : ∃ S, F_law [.s ns] [] = .ok (.p (.bool true)) S := by
  have z : (.none : Option D) = none := rfl
  suffices h : ∃ S, g_law [some (.s ns), none, none, none, none, none, none, none, none, none, none] [] = .rt (.p (.bool true)) S by
    obtain ⟨S, e⟩ := h
    refine ⟨S, ?_⟩
    show finR (g_law [some (.s ns), none, none, none, none, none, none, none, none, none, none] []) = _
    rw [e]
    rfl
  unfold g_law
  obtain ⟨b0, b1, e1⟩ := box_ok ns 0 []
  rw [stp (ρ' := [some (.s ns), some (.o 0), none, none, none, none, none, none, none, none, none]) (S' := [.lst [.p (.int b0), .p (.int b1)]]) (by
    have e1 : F__law_box [.s ns, .p (.int 0)] [] = .ok (.o 0) [.lst [.p (.int b0), .p (.int b1)]] := e1
    simp [sSet, eCB, aCons, aNil, eVar, eC, M.bind, M.pure, e1, bindS])]
  have h1 : Bx [.lst [.p (.int b0), .p (.int b1)]] := ⟨b0, b1, rfl⟩
  generalize ([.lst [.p (.int b0), .p (.int b1)]] : Store) = T0 at h1
  obtain ⟨g1, T1, t1, _, _, h1⟩ := take1 h1 1000000 (by decide) (by decide)
  obtain ⟨g2, T2, t2, p2, q2, h2⟩ := take1 h1 99 (by decide) (by decide)
  obtain ⟨x, ex, lx, ox⟩ := str_ok T2 g2 p2 q2
  obtain ⟨g3, T3, t3, _, _, h3⟩ := take1 h2 9 (by decide) (by decide)
  obtain ⟨g4, T4, t4, _, _, h4⟩ := take1 h3 9 (by decide) (by decide)
  have l5 : (Str.ofString "text ").length = 5 := by decide +kernel
  rw [stp (ρ' := [some (.s ns), some (.o 0), some (.p (.list [.int (g1 - 500000), .str (Str.ofString "text " ++ x), .tuple [.int 1, .int g3]])), none, none, none, none, none, none, none, none]) (S' := T3) (by
    have hx : (Str.ofString "text ").length + x.length ≤ 16777216 := by omega
    simp [sSet, eLst, eTup, eBin, eCB, on1, aCons, aNil, eVar, eC, M.bind, M.pure, t1, t2, ex, t3, bindS, fSub, fI0, fAdd, fPow, fI, CPow, kTup, kLst, asPs, sizeLine_eq, hx])]
  rw [stp (ρ' := [some (.s ns), some (.o 0), some (.p (.list [.int (g1 - 500000), .str (Str.ofString "text " ++ x), .tuple [.int 1, .int g3], .list [.int g4], .none, .bool true, .tuple []])), none, none, none, none, none, none, none, none]) (S' := T4) (by
    simp [sSet, eLst, eTup, eBin, eCB, on1, aCons, aNil, eVar, eC, M.bind, M.pure, t4, bindS, fAdd, kTup, kLst, asPs, sizeLine_eq])]
  obtain ⟨v, T5, t5, gv, c0, c1, h5⟩ := drawn T4 h4 (g1 - 500000) g3 g4 (Str.ofString "text " ++ x) ox
  generalize hsm : (PyData.list [.int (g1 - 500000), .str (Str.ofString "text " ++ x), .tuple [.int 1, .int g3], .list [.int g4], .none, .bool true, .tuple []]) = some' at t5 ⊢
  rw [stp (ρ' := [some (.s ns), some (.o 0), some (.p some'), some (.p v), none, none, none, none, none, none, none]) (S' := T5) (by
    simp [sSet, eCB, aCons, aNil, eVar, M.bind, M.pure, t5, bindS])]
  subst h5
  generalize (Cell.lst [.p (.int c0), .p (.int c1)]) = cc
  rw [stp (ρ' := [some (.s ns), some (.o 0), some (.p some'), some (.p v), some (.o 14), none, none, none, none, none, none]) (S' := S1 cc v) (by
    have e := ones_ok cc v
    simp [sSet, eCB, aCons, aNil, eVar, M.bind, M.pure, e, bindS])]
  obtain ⟨y1, l1⟩ := loop1 cc gv (some (.s ns)) (some (.o 0)) (some (.p some')) [none, none, none, none, none]
  rw [stp l1, stp (par_ok cc v _ _ _ _), stp (if_ok cc gv _ _ _ _), stp (cat_ok cc v _ _ _ _)]
  obtain ⟨y2, l2⟩ := loop2 cc v (some (.s ns)) (some (.o 0)) (some (.p some')) (some (.p v)) y1 (some (.o 15)) (some (.o 16)) none none
  rw [stp l2]
  exact try_ok _ (by simp) _
end LK
set_option Elab.async false
set_option linter.all false
set_option maxRecDepth 100000
namespace LK
open PySem PySem.Spec L2 DL PySem.HandSPX
theorem law_trueB (ns : List Int) (h : ns.length ≤ 63) (hb : ∀ z ∈ ns, Builtin.Int.intBits z ≤ 1048576) : ∃ S, F_law [.s ns] [] = .ok (.p (.bool true)) S := law_true ns
abbrev sx_InvalidClaim : Stmt := inClass (top 12) 0
theorem tx_InvalidClaim : ErrText sx_InvalidClaim "value" := ⟨_, _, _, _, _, _, _, _, _, _, _, _, _, _, rfl, rfl, rfl, rfl⟩
abbrev sx_InvalidEdge : Stmt := inClass (top 4) 0
theorem tx_InvalidEdge : ErrText sx_InvalidEdge "value" := ⟨_, _, _, _, _, _, _, _, _, _, _, _, _, _, rfl, rfl, rfl, rfl⟩
abbrev sx_InvalidEdges : Stmt := inClass (top 3) 0
theorem tx_InvalidEdges : ErrText sx_InvalidEdges "value" := ⟨_, _, _, _, _, _, _, _, _, _, _, _, _, _, rfl, rfl, rfl, rfl⟩
abbrev sx_InvalidLengths : Stmt := inClass (top 9) 0
theorem tx_InvalidLengths : ErrText sx_InvalidLengths "value" := ⟨_, _, _, _, _, _, _, _, _, _, _, _, _, _, rfl, rfl, rfl, rfl⟩
abbrev sx_InvalidMarks : Stmt := inClass (top 8) 0
theorem tx_InvalidMarks : ErrText sx_InvalidMarks "value" := ⟨_, _, _, _, _, _, _, _, _, _, _, _, _, _, rfl, rfl, rfl, rfl⟩
abbrev sx_InvalidNumber : Stmt := inClass (top 2) 0
theorem tx_InvalidNumber : ErrText sx_InvalidNumber "value" := ⟨_, _, _, _, _, _, _, _, _, _, _, _, _, _, rfl, rfl, rfl, rfl⟩
abbrev sx_InvalidQuestion : Stmt := inClass (top 11) 0
theorem tx_InvalidQuestion : ErrText sx_InvalidQuestion "value" := ⟨_, _, _, _, _, _, _, _, _, _, _, _, _, _, rfl, rfl, rfl, rfl⟩
abbrev sx_InvalidRun : Stmt := inClass (top 5) 0
theorem tx_InvalidRun : ErrText sx_InvalidRun "value" := ⟨_, _, _, _, _, _, _, _, _, _, _, _, _, _, rfl, rfl, rfl, rfl⟩
abbrev sx_InvalidTicks : Stmt := inClass (top 7) 0
theorem tx_InvalidTicks : ErrText sx_InvalidTicks "value" := ⟨_, _, _, _, _, _, _, _, _, _, _, _, _, _, rfl, rfl, rfl, rfl⟩
abbrev sx_InvalidTrace : Stmt := inClass (top 6) 0
theorem tx_InvalidTrace : ErrText sx_InvalidTrace "value" := ⟨_, _, _, _, _, _, _, _, _, _, _, _, _, _, rfl, rfl, rfl, rfl⟩
abbrev sx_InvalidWaits : Stmt := inClass (top 10) 0
theorem tx_InvalidWaits : ErrText sx_InvalidWaits "value" := ⟨_, _, _, _, _, _, _, _, _, _, _, _, _, _, rfl, rfl, rfl, rfl⟩
abbrev sx_NothingToUndo : Stmt := inClass (top 14) 0
theorem tx_NothingToUndo : ErrText sx_NothingToUndo "word" := ⟨_, _, _, _, _, _, _, _, _, _, _, _, _, _, rfl, rfl, rfl, rfl⟩
abbrev sx_Undefined : Stmt := inClass (top 13) 0
theorem tx_Undefined : ErrText sx_Undefined "what" := ⟨_, _, _, _, _, _, _, _, _, _, _, _, _, _, rfl, rfl, rfl, rfl⟩
set_option maxHeartbeats 4000000 in
theorem all_mk {l : PySem.W.OpenLaw} {w : World} {K : PySem.W.Frag} {h : Heap} {mg : Str → Option Value} {fa : Addr} (X : K.In h) (G : h.Ns mainGlobals mg) (hfa : mg "law" = some (.ref fa))
    {f0 : Addr} {od0 an0 : Option Addr} {sl0 : Array (Option Value)} {oc0 kV0 dc0 pm0 cd0 ct0 : Value}
    {f1 : Addr} {od1 an1 : Option Addr} {sl1 : Array (Option Value)} {oc1 kV1 dc1 pm1 cd1 ct1 : Value}
    {f2 : Addr} {od2 an2 : Option Addr} {sl2 : Array (Option Value)} {oc2 kV2 dc2 pm2 cd2 ct2 : Value}
    {f3 : Addr} {od3 an3 : Option Addr} {sl3 : Array (Option Value)} {oc3 kV3 dc3 pm3 cd3 ct3 : Value}
    {f4 : Addr} {od4 an4 : Option Addr} {sl4 : Array (Option Value)} {oc4 kV4 dc4 pm4 cd4 ct4 : Value}
    {f5 : Addr} {od5 an5 : Option Addr} {sl5 : Array (Option Value)} {oc5 kV5 dc5 pm5 cd5 ct5 : Value}
    {f6 : Addr} {od6 an6 : Option Addr} {sl6 : Array (Option Value)} {oc6 kV6 dc6 pm6 cd6 ct6 : Value}
    {f7 : Addr} {od7 an7 : Option Addr} {sl7 : Array (Option Value)} {oc7 kV7 dc7 pm7 cd7 ct7 : Value}
    {f8 : Addr} {od8 an8 : Option Addr} {sl8 : Array (Option Value)} {oc8 kV8 dc8 pm8 cd8 ct8 : Value}
    {f9 : Addr} {od9 an9 : Option Addr} {sl9 : Array (Option Value)} {oc9 kV9 dc9 pm9 cd9 ct9 : Value}
    {f10 : Addr} {od10 an10 : Option Addr} {sl10 : Array (Option Value)} {oc10 kV10 dc10 pm10 cd10 ct10 : Value}
    {f11 : Addr} {od11 an11 : Option Addr} {sl11 : Array (Option Value)} {oc11 kV11 dc11 pm11 cd11 ct11 : Value}
    {f12 : Addr} {od12 an12 : Option Addr} {sl12 : Array (Option Value)} {oc12 kV12 dc12 pm12 cd12 ct12 : Value}
    {t_MOST_FUNCTIONS : Tok}
    {C_Calls : Addr}
    {C_InvalidClaim : Addr}
    {C_InvalidEdge : Addr}
    {C_InvalidEdges : Addr}
    {C_InvalidLengths : Addr}
    {C_InvalidMarks : Addr}
    {C_InvalidNumber : Addr}
    {C_InvalidQuestion : Addr}
    {C_InvalidRun : Addr}
    {C_InvalidTicks : Addr}
    {C_InvalidTrace : Addr}
    {C_InvalidWaits : Addr}
    {C_NothingToUndo : Addr}
    {C_TickError : Addr}
    {C_Undefined : Addr}
    {nm_InvalidClaim q_InvalidClaim : Str} {N_InvalidClaim : Addr} {bs_InvalidClaim bm_InvalidClaim : List Value} {sn_InvalidClaim : List Str} {sbc_InvalidClaim : List Value} {ab_InvalidClaim : Bool} {col_InvalidClaim : Option Bool} {dd_InvalidClaim : Option Addr} {m0_InvalidClaim m1_InvalidClaim m2_InvalidClaim m3_InvalidClaim m5_InvalidClaim : Option Value}
    {e_InvalidClaim cda_InvalidClaim cc_InvalidClaim : Addr} {eoc_InvalidClaim edc_InvalidClaim epm_InvalidClaim ect_InvalidClaim ccl_InvalidClaim ecl_InvalidClaim : Value} {eod_InvalidClaim ean_InvalidClaim cdd_InvalidClaim cld_InvalidClaim : Option Addr} {esl_InvalidClaim ccs_InvalidClaim csl_InvalidClaim : Array (Option Value)} {vs_InvalidClaim : Array Value} {fi_InvalidClaim : Str} {tf_InvalidClaim : Tok}
    {nm_InvalidEdge q_InvalidEdge : Str} {N_InvalidEdge : Addr} {bs_InvalidEdge bm_InvalidEdge : List Value} {sn_InvalidEdge : List Str} {sbc_InvalidEdge : List Value} {ab_InvalidEdge : Bool} {col_InvalidEdge : Option Bool} {dd_InvalidEdge : Option Addr} {m0_InvalidEdge m1_InvalidEdge m2_InvalidEdge m3_InvalidEdge m5_InvalidEdge : Option Value}
    {e_InvalidEdge cda_InvalidEdge cc_InvalidEdge : Addr} {eoc_InvalidEdge edc_InvalidEdge epm_InvalidEdge ect_InvalidEdge ccl_InvalidEdge ecl_InvalidEdge : Value} {eod_InvalidEdge ean_InvalidEdge cdd_InvalidEdge cld_InvalidEdge : Option Addr} {esl_InvalidEdge ccs_InvalidEdge csl_InvalidEdge : Array (Option Value)} {vs_InvalidEdge : Array Value} {fi_InvalidEdge : Str} {tf_InvalidEdge : Tok}
    {nm_InvalidEdges q_InvalidEdges : Str} {N_InvalidEdges : Addr} {bs_InvalidEdges bm_InvalidEdges : List Value} {sn_InvalidEdges : List Str} {sbc_InvalidEdges : List Value} {ab_InvalidEdges : Bool} {col_InvalidEdges : Option Bool} {dd_InvalidEdges : Option Addr} {m0_InvalidEdges m1_InvalidEdges m2_InvalidEdges m3_InvalidEdges m5_InvalidEdges : Option Value}
    {e_InvalidEdges cda_InvalidEdges cc_InvalidEdges : Addr} {eoc_InvalidEdges edc_InvalidEdges epm_InvalidEdges ect_InvalidEdges ccl_InvalidEdges ecl_InvalidEdges : Value} {eod_InvalidEdges ean_InvalidEdges cdd_InvalidEdges cld_InvalidEdges : Option Addr} {esl_InvalidEdges ccs_InvalidEdges csl_InvalidEdges : Array (Option Value)} {vs_InvalidEdges : Array Value} {fi_InvalidEdges : Str} {tf_InvalidEdges : Tok}
    {nm_InvalidLengths q_InvalidLengths : Str} {N_InvalidLengths : Addr} {bs_InvalidLengths bm_InvalidLengths : List Value} {sn_InvalidLengths : List Str} {sbc_InvalidLengths : List Value} {ab_InvalidLengths : Bool} {col_InvalidLengths : Option Bool} {dd_InvalidLengths : Option Addr} {m0_InvalidLengths m1_InvalidLengths m2_InvalidLengths m3_InvalidLengths m5_InvalidLengths : Option Value}
    {e_InvalidLengths cda_InvalidLengths cc_InvalidLengths : Addr} {eoc_InvalidLengths edc_InvalidLengths epm_InvalidLengths ect_InvalidLengths ccl_InvalidLengths ecl_InvalidLengths : Value} {eod_InvalidLengths ean_InvalidLengths cdd_InvalidLengths cld_InvalidLengths : Option Addr} {esl_InvalidLengths ccs_InvalidLengths csl_InvalidLengths : Array (Option Value)} {vs_InvalidLengths : Array Value} {fi_InvalidLengths : Str} {tf_InvalidLengths : Tok}
    {nm_InvalidMarks q_InvalidMarks : Str} {N_InvalidMarks : Addr} {bs_InvalidMarks bm_InvalidMarks : List Value} {sn_InvalidMarks : List Str} {sbc_InvalidMarks : List Value} {ab_InvalidMarks : Bool} {col_InvalidMarks : Option Bool} {dd_InvalidMarks : Option Addr} {m0_InvalidMarks m1_InvalidMarks m2_InvalidMarks m3_InvalidMarks m5_InvalidMarks : Option Value}
    {e_InvalidMarks cda_InvalidMarks cc_InvalidMarks : Addr} {eoc_InvalidMarks edc_InvalidMarks epm_InvalidMarks ect_InvalidMarks ccl_InvalidMarks ecl_InvalidMarks : Value} {eod_InvalidMarks ean_InvalidMarks cdd_InvalidMarks cld_InvalidMarks : Option Addr} {esl_InvalidMarks ccs_InvalidMarks csl_InvalidMarks : Array (Option Value)} {vs_InvalidMarks : Array Value} {fi_InvalidMarks : Str} {tf_InvalidMarks : Tok}
    {nm_InvalidNumber q_InvalidNumber : Str} {N_InvalidNumber : Addr} {bs_InvalidNumber bm_InvalidNumber : List Value} {sn_InvalidNumber : List Str} {sbc_InvalidNumber : List Value} {ab_InvalidNumber : Bool} {col_InvalidNumber : Option Bool} {dd_InvalidNumber : Option Addr} {m0_InvalidNumber m1_InvalidNumber m2_InvalidNumber m3_InvalidNumber m5_InvalidNumber : Option Value}
    {e_InvalidNumber cda_InvalidNumber cc_InvalidNumber : Addr} {eoc_InvalidNumber edc_InvalidNumber epm_InvalidNumber ect_InvalidNumber ccl_InvalidNumber ecl_InvalidNumber : Value} {eod_InvalidNumber ean_InvalidNumber cdd_InvalidNumber cld_InvalidNumber : Option Addr} {esl_InvalidNumber ccs_InvalidNumber csl_InvalidNumber : Array (Option Value)} {vs_InvalidNumber : Array Value} {fi_InvalidNumber : Str} {tf_InvalidNumber : Tok}
    {nm_InvalidQuestion q_InvalidQuestion : Str} {N_InvalidQuestion : Addr} {bs_InvalidQuestion bm_InvalidQuestion : List Value} {sn_InvalidQuestion : List Str} {sbc_InvalidQuestion : List Value} {ab_InvalidQuestion : Bool} {col_InvalidQuestion : Option Bool} {dd_InvalidQuestion : Option Addr} {m0_InvalidQuestion m1_InvalidQuestion m2_InvalidQuestion m3_InvalidQuestion m5_InvalidQuestion : Option Value}
    {e_InvalidQuestion cda_InvalidQuestion cc_InvalidQuestion : Addr} {eoc_InvalidQuestion edc_InvalidQuestion epm_InvalidQuestion ect_InvalidQuestion ccl_InvalidQuestion ecl_InvalidQuestion : Value} {eod_InvalidQuestion ean_InvalidQuestion cdd_InvalidQuestion cld_InvalidQuestion : Option Addr} {esl_InvalidQuestion ccs_InvalidQuestion csl_InvalidQuestion : Array (Option Value)} {vs_InvalidQuestion : Array Value} {fi_InvalidQuestion : Str} {tf_InvalidQuestion : Tok}
    {nm_InvalidRun q_InvalidRun : Str} {N_InvalidRun : Addr} {bs_InvalidRun bm_InvalidRun : List Value} {sn_InvalidRun : List Str} {sbc_InvalidRun : List Value} {ab_InvalidRun : Bool} {col_InvalidRun : Option Bool} {dd_InvalidRun : Option Addr} {m0_InvalidRun m1_InvalidRun m2_InvalidRun m3_InvalidRun m5_InvalidRun : Option Value}
    {e_InvalidRun cda_InvalidRun cc_InvalidRun : Addr} {eoc_InvalidRun edc_InvalidRun epm_InvalidRun ect_InvalidRun ccl_InvalidRun ecl_InvalidRun : Value} {eod_InvalidRun ean_InvalidRun cdd_InvalidRun cld_InvalidRun : Option Addr} {esl_InvalidRun ccs_InvalidRun csl_InvalidRun : Array (Option Value)} {vs_InvalidRun : Array Value} {fi_InvalidRun : Str} {tf_InvalidRun : Tok}
    {nm_InvalidTicks q_InvalidTicks : Str} {N_InvalidTicks : Addr} {bs_InvalidTicks bm_InvalidTicks : List Value} {sn_InvalidTicks : List Str} {sbc_InvalidTicks : List Value} {ab_InvalidTicks : Bool} {col_InvalidTicks : Option Bool} {dd_InvalidTicks : Option Addr} {m0_InvalidTicks m1_InvalidTicks m2_InvalidTicks m3_InvalidTicks m5_InvalidTicks : Option Value}
    {e_InvalidTicks cda_InvalidTicks cc_InvalidTicks : Addr} {eoc_InvalidTicks edc_InvalidTicks epm_InvalidTicks ect_InvalidTicks ccl_InvalidTicks ecl_InvalidTicks : Value} {eod_InvalidTicks ean_InvalidTicks cdd_InvalidTicks cld_InvalidTicks : Option Addr} {esl_InvalidTicks ccs_InvalidTicks csl_InvalidTicks : Array (Option Value)} {vs_InvalidTicks : Array Value} {fi_InvalidTicks : Str} {tf_InvalidTicks : Tok}
    {nm_InvalidTrace q_InvalidTrace : Str} {N_InvalidTrace : Addr} {bs_InvalidTrace bm_InvalidTrace : List Value} {sn_InvalidTrace : List Str} {sbc_InvalidTrace : List Value} {ab_InvalidTrace : Bool} {col_InvalidTrace : Option Bool} {dd_InvalidTrace : Option Addr} {m0_InvalidTrace m1_InvalidTrace m2_InvalidTrace m3_InvalidTrace m5_InvalidTrace : Option Value}
    {e_InvalidTrace cda_InvalidTrace cc_InvalidTrace : Addr} {eoc_InvalidTrace edc_InvalidTrace epm_InvalidTrace ect_InvalidTrace ccl_InvalidTrace ecl_InvalidTrace : Value} {eod_InvalidTrace ean_InvalidTrace cdd_InvalidTrace cld_InvalidTrace : Option Addr} {esl_InvalidTrace ccs_InvalidTrace csl_InvalidTrace : Array (Option Value)} {vs_InvalidTrace : Array Value} {fi_InvalidTrace : Str} {tf_InvalidTrace : Tok}
    {nm_InvalidWaits q_InvalidWaits : Str} {N_InvalidWaits : Addr} {bs_InvalidWaits bm_InvalidWaits : List Value} {sn_InvalidWaits : List Str} {sbc_InvalidWaits : List Value} {ab_InvalidWaits : Bool} {col_InvalidWaits : Option Bool} {dd_InvalidWaits : Option Addr} {m0_InvalidWaits m1_InvalidWaits m2_InvalidWaits m3_InvalidWaits m5_InvalidWaits : Option Value}
    {e_InvalidWaits cda_InvalidWaits cc_InvalidWaits : Addr} {eoc_InvalidWaits edc_InvalidWaits epm_InvalidWaits ect_InvalidWaits ccl_InvalidWaits ecl_InvalidWaits : Value} {eod_InvalidWaits ean_InvalidWaits cdd_InvalidWaits cld_InvalidWaits : Option Addr} {esl_InvalidWaits ccs_InvalidWaits csl_InvalidWaits : Array (Option Value)} {vs_InvalidWaits : Array Value} {fi_InvalidWaits : Str} {tf_InvalidWaits : Tok}
    {nm_NothingToUndo q_NothingToUndo : Str} {N_NothingToUndo : Addr} {bs_NothingToUndo bm_NothingToUndo : List Value} {sn_NothingToUndo : List Str} {sbc_NothingToUndo : List Value} {ab_NothingToUndo : Bool} {col_NothingToUndo : Option Bool} {dd_NothingToUndo : Option Addr} {m0_NothingToUndo m1_NothingToUndo m2_NothingToUndo m3_NothingToUndo m5_NothingToUndo : Option Value}
    {e_NothingToUndo cda_NothingToUndo cc_NothingToUndo : Addr} {eoc_NothingToUndo edc_NothingToUndo epm_NothingToUndo ect_NothingToUndo ccl_NothingToUndo ecl_NothingToUndo : Value} {eod_NothingToUndo ean_NothingToUndo cdd_NothingToUndo cld_NothingToUndo : Option Addr} {esl_NothingToUndo ccs_NothingToUndo csl_NothingToUndo : Array (Option Value)} {vs_NothingToUndo : Array Value} {fi_NothingToUndo : Str} {tf_NothingToUndo : Tok}
    {nm_Undefined q_Undefined : Str} {N_Undefined : Addr} {bs_Undefined bm_Undefined : List Value} {sn_Undefined : List Str} {sbc_Undefined : List Value} {ab_Undefined : Bool} {col_Undefined : Option Bool} {dd_Undefined : Option Addr} {m0_Undefined m1_Undefined m2_Undefined m3_Undefined m5_Undefined : Option Value}
    {e_Undefined cda_Undefined cc_Undefined : Addr} {eoc_Undefined edc_Undefined epm_Undefined ect_Undefined ccl_Undefined ecl_Undefined : Value} {eod_Undefined ean_Undefined cdd_Undefined cld_Undefined : Option Addr} {esl_Undefined ccs_Undefined csl_Undefined : Array (Option Value)} {vs_Undefined : Array Value} {fi_Undefined : Str} {tf_Undefined : Tok}
    (a0 : PySem.W.nsIn K mainGlobals "_law_box" = some (some (.ref f0)))
    (l0 : K.lookup f0 = some ⟨oc0, od0, .func (PySem.W.fnOf "_law_box" "_law_box" (defArgs s__law_box) (defBody s__law_box) (defScope s__law_box) .none kV0 dc0 pm0 an0 cd0 ct0), sl0⟩)
    (c0 : PySem.W.codeIn K cd0 "_law_box" = true)
    (k0 : PySem.W.keepIn K (.ref f0) = true)
    (a1 : PySem.W.nsIn K mainGlobals "_law_take" = some (some (.ref f1)))
    (l1 : K.lookup f1 = some ⟨oc1, od1, .func (PySem.W.fnOf "_law_take" "_law_take" (defArgs s__law_take) (defBody s__law_take) (defScope s__law_take) .none kV1 dc1 pm1 an1 cd1 ct1), sl1⟩)
    (c1 : PySem.W.codeIn K cd1 "_law_take" = true)
    (k1 : PySem.W.keepIn K (.ref f1) = true)
    (a2 : PySem.W.nsIn K mainGlobals "_law_pick" = some (some (.ref f2)))
    (l2 : K.lookup f2 = some ⟨oc2, od2, .func (PySem.W.fnOf "_law_pick" "_law_pick" (defArgs s__law_pick) (defBody s__law_pick) (defScope s__law_pick) .none kV2 dc2 pm2 an2 cd2 ct2), sl2⟩)
    (c2 : PySem.W.codeIn K cd2 "_law_pick" = true)
    (k2 : PySem.W.keepIn K (.ref f2) = true)
    (a3 : PySem.W.nsIn K mainGlobals "_law_ones" = some (some (.ref f3)))
    (l3 : K.lookup f3 = some ⟨oc3, od3, .func (PySem.W.fnOf "_law_ones" "_law_ones" (defArgs s__law_ones) (defBody s__law_ones) (defScope s__law_ones) .none kV3 dc3 pm3 an3 cd3 ct3), sl3⟩)
    (c3 : PySem.W.codeIn K cd3 "_law_ones" = true)
    (k3 : PySem.W.keepIn K (.ref f3) = true)
    (a4 : PySem.W.nsIn K mainGlobals "is_integer" = some (some (.ref f4)))
    (l4 : K.lookup f4 = some ⟨oc4, od4, .func (PySem.W.fnOf "is_integer" "is_integer" (defArgs s_is_integer) (defBody s_is_integer) (defScope s_is_integer) .none kV4 dc4 pm4 an4 cd4 ct4), sl4⟩)
    (c4 : PySem.W.codeIn K cd4 "is_integer" = true)
    (k4 : PySem.W.keepIn K (.ref f4) = true)
    (a5 : PySem.W.nsIn K mainGlobals "is_integer_in" = some (some (.ref f5)))
    (l5 : K.lookup f5 = some ⟨oc5, od5, .func (PySem.W.fnOf "is_integer_in" "is_integer_in" (defArgs s_is_integer_in) (defBody s_is_integer_in) (defScope s_is_integer_in) .none kV5 dc5 pm5 an5 cd5 ct5), sl5⟩)
    (c5 : PySem.W.codeIn K cd5 "is_integer_in" = true)
    (k5 : PySem.W.keepIn K (.ref f5) = true)
    (a6 : PySem.W.nsIn K mainGlobals "is_ascending" = some (some (.ref f6)))
    (l6 : K.lookup f6 = some ⟨oc6, od6, .func (PySem.W.fnOf "is_ascending" "is_ascending" (defArgs s_is_ascending) (defBody s_is_ascending) (defScope s_is_ascending) .none kV6 dc6 pm6 an6 cd6 ct6), sl6⟩)
    (c6 : PySem.W.codeIn K cd6 "is_ascending" = true)
    (k6 : PySem.W.keepIn K (.ref f6) = true)
    (a7 : PySem.W.nsIn K mainGlobals "is_pair" = some (some (.ref f7)))
    (l7 : K.lookup f7 = some ⟨oc7, od7, .func (PySem.W.fnOf "is_pair" "is_pair" (defArgs s_is_pair) (defBody s_is_pair) (defScope s_is_pair) .none kV7 dc7 pm7 an7 cd7 ct7), sl7⟩)
    (c7 : PySem.W.codeIn K cd7 "is_pair" = true)
    (k7 : PySem.W.keepIn K (.ref f7) = true)
    (a8 : PySem.W.nsIn K mainGlobals "is_upward_pair" = some (some (.ref f8)))
    (l8 : K.lookup f8 = some ⟨oc8, od8, .func (PySem.W.fnOf "is_upward_pair" "is_upward_pair" (defArgs s_is_upward_pair) (defBody s_is_upward_pair) (defScope s_is_upward_pair) .none kV8 dc8 pm8 an8 cd8 ct8), sl8⟩)
    (c8 : PySem.W.codeIn K cd8 "is_upward_pair" = true)
    (k8 : PySem.W.keepIn K (.ref f8) = true)
    (a9 : PySem.W.nsIn K mainGlobals "are_upward_pairs" = some (some (.ref f9)))
    (l9 : K.lookup f9 = some ⟨oc9, od9, .func (PySem.W.fnOf "are_upward_pairs" "are_upward_pairs" (defArgs s_are_upward_pairs) (defBody s_are_upward_pairs) (defScope s_are_upward_pairs) .none kV9 dc9 pm9 an9 cd9 ct9), sl9⟩)
    (c9 : PySem.W.codeIn K cd9 "are_upward_pairs" = true)
    (k9 : PySem.W.keepIn K (.ref f9) = true)
    (a10 : PySem.W.findIn K (.ref C_Calls) "__init__" = some (some (.ref f10)))
    (i10 : PySem.W.isFn K (.ref f10) = true)
    (l10 : K.lookup f10 = some ⟨oc10, od10, .func (PySem.W.fnOf "__init__" "Calls.__init__" (defArgs s_m_Callsdd_initdd) (defBody s_m_Callsdd_initdd) (defScope s_m_Callsdd_initdd) .none kV10 dc10 pm10 an10 cd10 ct10), sl10⟩)
    (c10 : PySem.W.codeIn K cd10 "Calls.__init__" = true)
    (k10 : PySem.W.keepIn K (.ref f10) = true)
    (a11 : PySem.W.nsIn K mainGlobals "_law_kinds" = some (some (.ref f11)))
    (l11 : K.lookup f11 = some ⟨oc11, od11, .func (PySem.W.fnOf "_law_kinds" "_law_kinds" (defArgs s__law_kinds) (defBody s__law_kinds) (defScope s__law_kinds) .none kV11 dc11 pm11 an11 cd11 ct11), sl11⟩)
    (c11 : PySem.W.codeIn K cd11 "_law_kinds" = true)
    (k11 : PySem.W.keepIn K (.ref f11) = true)
    (a12 : PySem.W.nsIn K mainGlobals "law" = some (some (.ref f12)))
    (l12 : K.lookup f12 = some ⟨oc12, od12, .func (PySem.W.fnOf "law" "law" (defArgs s_law) (defBody s_law) (defScope s_law) .none kV12 dc12 pm12 an12 cd12 ct12), sl12⟩)
    (c12 : PySem.W.codeIn K cd12 "law" = true)
    (k12 : PySem.W.keepIn K (.ref f12) = true)
    (b_ValueError : PySem.W.nsIn K mainGlobals "ValueError" = some none)
    (b_abs : PySem.W.nsIn K mainGlobals "abs" = some none)
    (b_all : PySem.W.nsIn K mainGlobals "all" = some none)
    (b_bool : PySem.W.nsIn K mainGlobals "bool" = some none)
    (b_int : PySem.W.nsIn K mainGlobals "int" = some none)
    (b_isinstance : PySem.W.nsIn K mainGlobals "isinstance" = some none)
    (b_len : PySem.W.nsIn K mainGlobals "len" = some none)
    (b_range : PySem.W.nsIn K mainGlobals "range" = some none)
    (b_str : PySem.W.nsIn K mainGlobals "str" = some none)
    (b_tuple : PySem.W.nsIn K mainGlobals "tuple" = some none)
    (b_zip : PySem.W.nsIn K mainGlobals "zip" = some none)
    (g_MOST_FUNCTIONS : PySem.W.nsIn K mainGlobals "MOST_FUNCTIONS" = some (some (.int 5 t_MOST_FUNCTIONS)))
    (a_Calls : PySem.W.nsIn K mainGlobals "Calls" = some (some (.ref C_Calls)))
    (pg_Calls : PySem.W.plainGet K C_Calls Str.empty = true)
    (hd_Calls : PySem.W.hasDictIn K C_Calls = true)
    (po_Calls : PySem.W.plainOver K C_Calls = true)
    (sa_Calls : PySem.W.findIn K (.ref C_Calls) "__setattr__" = some (some (.builtin "object.__setattr__")))
    (mk_Calls : PySem.W.makesIn K C_Calls = true)
    (kp_Calls : PySem.W.keepIn K (.ref C_Calls) = true)
    (ca_Calls : PySem.W.findIn K (.ref C_Calls) "__class__" = some (some (.builtin "object.__class__")))
    (hn_Calls : PySem.W.specialIn K (.builtin "object.__class__") "__get__" = some (some (.builtin "getset_descriptor.__get__")))
    (tk_Calls : PySem.W.takesIn K (.builtin "object.__class__") = some true)
    (mr_Calls : PySem.W.mroIn K C_Calls (.type "object") = some true)
    (ic_Calls : PySem.W.isClsIn K C_Calls = true)
    (tc_Calls : PySem.W.typeIn K (.ref C_Calls) = some (.type "type"))
    (kit_non_Calls : PySem.W.subIn K (.type "NoneType") (.ref C_Calls) = some false)
    (kit_bl_Calls : PySem.W.subIn K (.type "bool") (.ref C_Calls) = some false)
    (kit_int_Calls : PySem.W.subIn K (.type "int") (.ref C_Calls) = some false)
    (kit_str_Calls : PySem.W.subIn K (.type "str") (.ref C_Calls) = some false)
    (kit_lst_Calls : PySem.W.subIn K (.type "list") (.ref C_Calls) = some false)
    (kit_tup_Calls : PySem.W.subIn K (.type "tuple") (.ref C_Calls) = some false)
    (n_Calls_edges : PySem.W.findIn K (.ref C_Calls) "edges" = some none)
    (n_Calls_functions : PySem.W.findIn K (.ref C_Calls) "functions" = some none)
    (a_InvalidClaim : PySem.W.nsIn K mainGlobals "InvalidClaim" = some (some (.ref C_InvalidClaim)))
    (a_InvalidEdge : PySem.W.nsIn K mainGlobals "InvalidEdge" = some (some (.ref C_InvalidEdge)))
    (a_InvalidEdges : PySem.W.nsIn K mainGlobals "InvalidEdges" = some (some (.ref C_InvalidEdges)))
    (a_InvalidLengths : PySem.W.nsIn K mainGlobals "InvalidLengths" = some (some (.ref C_InvalidLengths)))
    (a_InvalidMarks : PySem.W.nsIn K mainGlobals "InvalidMarks" = some (some (.ref C_InvalidMarks)))
    (a_InvalidNumber : PySem.W.nsIn K mainGlobals "InvalidNumber" = some (some (.ref C_InvalidNumber)))
    (a_InvalidQuestion : PySem.W.nsIn K mainGlobals "InvalidQuestion" = some (some (.ref C_InvalidQuestion)))
    (a_InvalidRun : PySem.W.nsIn K mainGlobals "InvalidRun" = some (some (.ref C_InvalidRun)))
    (a_InvalidTicks : PySem.W.nsIn K mainGlobals "InvalidTicks" = some (some (.ref C_InvalidTicks)))
    (a_InvalidTrace : PySem.W.nsIn K mainGlobals "InvalidTrace" = some (some (.ref C_InvalidTrace)))
    (a_InvalidWaits : PySem.W.nsIn K mainGlobals "InvalidWaits" = some (some (.ref C_InvalidWaits)))
    (a_NothingToUndo : PySem.W.nsIn K mainGlobals "NothingToUndo" = some (some (.ref C_NothingToUndo)))
    (a_TickError : PySem.W.nsIn K mainGlobals "TickError" = some (some (.ref C_TickError)))
    (a_Undefined : PySem.W.nsIn K mainGlobals "Undefined" = some (some (.ref C_Undefined)))
    (nsup : PySem.W.nsIn K mainGlobals "super" = some none)
    (x_InvalidClaim : K.lookup C_InvalidClaim = some (excClassObj nm_InvalidClaim q_InvalidClaim C_InvalidClaim N_InvalidClaim bs_InvalidClaim bm_InvalidClaim true sn_InvalidClaim sbc_InvalidClaim ab_InvalidClaim col_InvalidClaim dd_InvalidClaim m0_InvalidClaim m1_InvalidClaim m2_InvalidClaim m3_InvalidClaim m5_InvalidClaim "ValueError.__new__"))
    (rv_InvalidClaim : refsVE bm_InvalidClaim = true)
    (esa_InvalidClaim : PySem.W.findIn K (.ref C_InvalidClaim) "__setattr__" = some (some (.builtin "object.__setattr__")))
    (ega_InvalidClaim : PySem.W.findIn K (.ref C_InvalidClaim) "__getattribute__" = some (some (.builtin "BaseException.__getattribute__")))
    (egg_InvalidClaim : PySem.W.findIn K (.ref C_InvalidClaim) "__getattr__" = some none)
    (eno_InvalidClaim : PySem.W.findIn K (.ref C_InvalidClaim) "value" = some none)
    (ei_InvalidClaim : PySem.W.findIn K (.ref C_InvalidClaim) "__init__" = some (some (.ref e_InvalidClaim)))
    (et_InvalidClaim : PySem.W.typeIn K (.ref e_InvalidClaim) = some (.type "function"))
    (ekC_InvalidClaim : PySem.W.keepIn K (.ref C_InvalidClaim) = true)
    (ehd_InvalidClaim : PySem.W.hasDictIn K C_InvalidClaim = true)
    (esup_InvalidClaim : PySem.W.ks_superIn K C_InvalidClaim C_InvalidClaim "__init__" = some (some (.builtin "ValueError.__init__")))
    (esv_InvalidClaim : PySem.W.subIn K (.ref C_InvalidClaim) (.type "ValueError") = some true)
    (emr_InvalidClaim : PySem.W.mroIn K C_InvalidClaim (.ref C_InvalidClaim) = some true)
    (el_InvalidClaim : K.lookup e_InvalidClaim = some ⟨eoc_InvalidClaim, eod_InvalidClaim, .func (PySem.W.ksFn "__init__" "InvalidClaim.__init__" (defArgs sx_InvalidClaim) (defBody sx_InvalidClaim) (defScope sx_InvalidClaim) .none .none edc_InvalidClaim epm_InvalidClaim ean_InvalidClaim (.ref cda_InvalidClaim) ect_InvalidClaim cc_InvalidClaim), esl_InvalidClaim⟩)
    (eco_InvalidClaim : PySem.W.codeIn K (.ref cda_InvalidClaim) "InvalidClaim.__init__" = true)
    (ecd_InvalidClaim : K.lookup cda_InvalidClaim = some ⟨ccl_InvalidClaim, cdd_InvalidClaim, .fields vs_InvalidClaim, ccs_InvalidClaim⟩)
    (ev2_InvalidClaim : vs_InvalidClaim[2]? = some (.str fi_InvalidClaim tf_InvalidClaim))
    (efi_InvalidClaim : ((l.prog.main.file : Str) == fi_InvalidClaim) = true)
    (ecc_InvalidClaim : K.lookup cc_InvalidClaim = some ⟨ecl_InvalidClaim, cld_InvalidClaim, .cell (some (.ref C_InvalidClaim)), csl_InvalidClaim⟩)
    (x_InvalidEdge : K.lookup C_InvalidEdge = some (excClassObj nm_InvalidEdge q_InvalidEdge C_InvalidEdge N_InvalidEdge bs_InvalidEdge bm_InvalidEdge true sn_InvalidEdge sbc_InvalidEdge ab_InvalidEdge col_InvalidEdge dd_InvalidEdge m0_InvalidEdge m1_InvalidEdge m2_InvalidEdge m3_InvalidEdge m5_InvalidEdge "ValueError.__new__"))
    (rv_InvalidEdge : refsVE bm_InvalidEdge = true)
    (esa_InvalidEdge : PySem.W.findIn K (.ref C_InvalidEdge) "__setattr__" = some (some (.builtin "object.__setattr__")))
    (ega_InvalidEdge : PySem.W.findIn K (.ref C_InvalidEdge) "__getattribute__" = some (some (.builtin "BaseException.__getattribute__")))
    (egg_InvalidEdge : PySem.W.findIn K (.ref C_InvalidEdge) "__getattr__" = some none)
    (eno_InvalidEdge : PySem.W.findIn K (.ref C_InvalidEdge) "value" = some none)
    (ei_InvalidEdge : PySem.W.findIn K (.ref C_InvalidEdge) "__init__" = some (some (.ref e_InvalidEdge)))
    (et_InvalidEdge : PySem.W.typeIn K (.ref e_InvalidEdge) = some (.type "function"))
    (ekC_InvalidEdge : PySem.W.keepIn K (.ref C_InvalidEdge) = true)
    (ehd_InvalidEdge : PySem.W.hasDictIn K C_InvalidEdge = true)
    (esup_InvalidEdge : PySem.W.ks_superIn K C_InvalidEdge C_InvalidEdge "__init__" = some (some (.builtin "ValueError.__init__")))
    (esv_InvalidEdge : PySem.W.subIn K (.ref C_InvalidEdge) (.type "ValueError") = some true)
    (emr_InvalidEdge : PySem.W.mroIn K C_InvalidEdge (.ref C_InvalidEdge) = some true)
    (el_InvalidEdge : K.lookup e_InvalidEdge = some ⟨eoc_InvalidEdge, eod_InvalidEdge, .func (PySem.W.ksFn "__init__" "InvalidEdge.__init__" (defArgs sx_InvalidEdge) (defBody sx_InvalidEdge) (defScope sx_InvalidEdge) .none .none edc_InvalidEdge epm_InvalidEdge ean_InvalidEdge (.ref cda_InvalidEdge) ect_InvalidEdge cc_InvalidEdge), esl_InvalidEdge⟩)
    (eco_InvalidEdge : PySem.W.codeIn K (.ref cda_InvalidEdge) "InvalidEdge.__init__" = true)
    (ecd_InvalidEdge : K.lookup cda_InvalidEdge = some ⟨ccl_InvalidEdge, cdd_InvalidEdge, .fields vs_InvalidEdge, ccs_InvalidEdge⟩)
    (ev2_InvalidEdge : vs_InvalidEdge[2]? = some (.str fi_InvalidEdge tf_InvalidEdge))
    (efi_InvalidEdge : ((l.prog.main.file : Str) == fi_InvalidEdge) = true)
    (ecc_InvalidEdge : K.lookup cc_InvalidEdge = some ⟨ecl_InvalidEdge, cld_InvalidEdge, .cell (some (.ref C_InvalidEdge)), csl_InvalidEdge⟩)
    (x_InvalidEdges : K.lookup C_InvalidEdges = some (excClassObj nm_InvalidEdges q_InvalidEdges C_InvalidEdges N_InvalidEdges bs_InvalidEdges bm_InvalidEdges true sn_InvalidEdges sbc_InvalidEdges ab_InvalidEdges col_InvalidEdges dd_InvalidEdges m0_InvalidEdges m1_InvalidEdges m2_InvalidEdges m3_InvalidEdges m5_InvalidEdges "ValueError.__new__"))
    (rv_InvalidEdges : refsVE bm_InvalidEdges = true)
    (esa_InvalidEdges : PySem.W.findIn K (.ref C_InvalidEdges) "__setattr__" = some (some (.builtin "object.__setattr__")))
    (ega_InvalidEdges : PySem.W.findIn K (.ref C_InvalidEdges) "__getattribute__" = some (some (.builtin "BaseException.__getattribute__")))
    (egg_InvalidEdges : PySem.W.findIn K (.ref C_InvalidEdges) "__getattr__" = some none)
    (eno_InvalidEdges : PySem.W.findIn K (.ref C_InvalidEdges) "value" = some none)
    (ei_InvalidEdges : PySem.W.findIn K (.ref C_InvalidEdges) "__init__" = some (some (.ref e_InvalidEdges)))
    (et_InvalidEdges : PySem.W.typeIn K (.ref e_InvalidEdges) = some (.type "function"))
    (ekC_InvalidEdges : PySem.W.keepIn K (.ref C_InvalidEdges) = true)
    (ehd_InvalidEdges : PySem.W.hasDictIn K C_InvalidEdges = true)
    (esup_InvalidEdges : PySem.W.ks_superIn K C_InvalidEdges C_InvalidEdges "__init__" = some (some (.builtin "ValueError.__init__")))
    (esv_InvalidEdges : PySem.W.subIn K (.ref C_InvalidEdges) (.type "ValueError") = some true)
    (emr_InvalidEdges : PySem.W.mroIn K C_InvalidEdges (.ref C_InvalidEdges) = some true)
    (el_InvalidEdges : K.lookup e_InvalidEdges = some ⟨eoc_InvalidEdges, eod_InvalidEdges, .func (PySem.W.ksFn "__init__" "InvalidEdges.__init__" (defArgs sx_InvalidEdges) (defBody sx_InvalidEdges) (defScope sx_InvalidEdges) .none .none edc_InvalidEdges epm_InvalidEdges ean_InvalidEdges (.ref cda_InvalidEdges) ect_InvalidEdges cc_InvalidEdges), esl_InvalidEdges⟩)
    (eco_InvalidEdges : PySem.W.codeIn K (.ref cda_InvalidEdges) "InvalidEdges.__init__" = true)
    (ecd_InvalidEdges : K.lookup cda_InvalidEdges = some ⟨ccl_InvalidEdges, cdd_InvalidEdges, .fields vs_InvalidEdges, ccs_InvalidEdges⟩)
    (ev2_InvalidEdges : vs_InvalidEdges[2]? = some (.str fi_InvalidEdges tf_InvalidEdges))
    (efi_InvalidEdges : ((l.prog.main.file : Str) == fi_InvalidEdges) = true)
    (ecc_InvalidEdges : K.lookup cc_InvalidEdges = some ⟨ecl_InvalidEdges, cld_InvalidEdges, .cell (some (.ref C_InvalidEdges)), csl_InvalidEdges⟩)
    (x_InvalidLengths : K.lookup C_InvalidLengths = some (excClassObj nm_InvalidLengths q_InvalidLengths C_InvalidLengths N_InvalidLengths bs_InvalidLengths bm_InvalidLengths true sn_InvalidLengths sbc_InvalidLengths ab_InvalidLengths col_InvalidLengths dd_InvalidLengths m0_InvalidLengths m1_InvalidLengths m2_InvalidLengths m3_InvalidLengths m5_InvalidLengths "ValueError.__new__"))
    (rv_InvalidLengths : refsVE bm_InvalidLengths = true)
    (esa_InvalidLengths : PySem.W.findIn K (.ref C_InvalidLengths) "__setattr__" = some (some (.builtin "object.__setattr__")))
    (ega_InvalidLengths : PySem.W.findIn K (.ref C_InvalidLengths) "__getattribute__" = some (some (.builtin "BaseException.__getattribute__")))
    (egg_InvalidLengths : PySem.W.findIn K (.ref C_InvalidLengths) "__getattr__" = some none)
    (eno_InvalidLengths : PySem.W.findIn K (.ref C_InvalidLengths) "value" = some none)
    (ei_InvalidLengths : PySem.W.findIn K (.ref C_InvalidLengths) "__init__" = some (some (.ref e_InvalidLengths)))
    (et_InvalidLengths : PySem.W.typeIn K (.ref e_InvalidLengths) = some (.type "function"))
    (ekC_InvalidLengths : PySem.W.keepIn K (.ref C_InvalidLengths) = true)
    (ehd_InvalidLengths : PySem.W.hasDictIn K C_InvalidLengths = true)
    (esup_InvalidLengths : PySem.W.ks_superIn K C_InvalidLengths C_InvalidLengths "__init__" = some (some (.builtin "ValueError.__init__")))
    (esv_InvalidLengths : PySem.W.subIn K (.ref C_InvalidLengths) (.type "ValueError") = some true)
    (emr_InvalidLengths : PySem.W.mroIn K C_InvalidLengths (.ref C_InvalidLengths) = some true)
    (el_InvalidLengths : K.lookup e_InvalidLengths = some ⟨eoc_InvalidLengths, eod_InvalidLengths, .func (PySem.W.ksFn "__init__" "InvalidLengths.__init__" (defArgs sx_InvalidLengths) (defBody sx_InvalidLengths) (defScope sx_InvalidLengths) .none .none edc_InvalidLengths epm_InvalidLengths ean_InvalidLengths (.ref cda_InvalidLengths) ect_InvalidLengths cc_InvalidLengths), esl_InvalidLengths⟩)
    (eco_InvalidLengths : PySem.W.codeIn K (.ref cda_InvalidLengths) "InvalidLengths.__init__" = true)
    (ecd_InvalidLengths : K.lookup cda_InvalidLengths = some ⟨ccl_InvalidLengths, cdd_InvalidLengths, .fields vs_InvalidLengths, ccs_InvalidLengths⟩)
    (ev2_InvalidLengths : vs_InvalidLengths[2]? = some (.str fi_InvalidLengths tf_InvalidLengths))
    (efi_InvalidLengths : ((l.prog.main.file : Str) == fi_InvalidLengths) = true)
    (ecc_InvalidLengths : K.lookup cc_InvalidLengths = some ⟨ecl_InvalidLengths, cld_InvalidLengths, .cell (some (.ref C_InvalidLengths)), csl_InvalidLengths⟩)
    (x_InvalidMarks : K.lookup C_InvalidMarks = some (excClassObj nm_InvalidMarks q_InvalidMarks C_InvalidMarks N_InvalidMarks bs_InvalidMarks bm_InvalidMarks true sn_InvalidMarks sbc_InvalidMarks ab_InvalidMarks col_InvalidMarks dd_InvalidMarks m0_InvalidMarks m1_InvalidMarks m2_InvalidMarks m3_InvalidMarks m5_InvalidMarks "ValueError.__new__"))
    (rv_InvalidMarks : refsVE bm_InvalidMarks = true)
    (esa_InvalidMarks : PySem.W.findIn K (.ref C_InvalidMarks) "__setattr__" = some (some (.builtin "object.__setattr__")))
    (ega_InvalidMarks : PySem.W.findIn K (.ref C_InvalidMarks) "__getattribute__" = some (some (.builtin "BaseException.__getattribute__")))
    (egg_InvalidMarks : PySem.W.findIn K (.ref C_InvalidMarks) "__getattr__" = some none)
    (eno_InvalidMarks : PySem.W.findIn K (.ref C_InvalidMarks) "value" = some none)
    (ei_InvalidMarks : PySem.W.findIn K (.ref C_InvalidMarks) "__init__" = some (some (.ref e_InvalidMarks)))
    (et_InvalidMarks : PySem.W.typeIn K (.ref e_InvalidMarks) = some (.type "function"))
    (ekC_InvalidMarks : PySem.W.keepIn K (.ref C_InvalidMarks) = true)
    (ehd_InvalidMarks : PySem.W.hasDictIn K C_InvalidMarks = true)
    (esup_InvalidMarks : PySem.W.ks_superIn K C_InvalidMarks C_InvalidMarks "__init__" = some (some (.builtin "ValueError.__init__")))
    (esv_InvalidMarks : PySem.W.subIn K (.ref C_InvalidMarks) (.type "ValueError") = some true)
    (emr_InvalidMarks : PySem.W.mroIn K C_InvalidMarks (.ref C_InvalidMarks) = some true)
    (el_InvalidMarks : K.lookup e_InvalidMarks = some ⟨eoc_InvalidMarks, eod_InvalidMarks, .func (PySem.W.ksFn "__init__" "InvalidMarks.__init__" (defArgs sx_InvalidMarks) (defBody sx_InvalidMarks) (defScope sx_InvalidMarks) .none .none edc_InvalidMarks epm_InvalidMarks ean_InvalidMarks (.ref cda_InvalidMarks) ect_InvalidMarks cc_InvalidMarks), esl_InvalidMarks⟩)
    (eco_InvalidMarks : PySem.W.codeIn K (.ref cda_InvalidMarks) "InvalidMarks.__init__" = true)
    (ecd_InvalidMarks : K.lookup cda_InvalidMarks = some ⟨ccl_InvalidMarks, cdd_InvalidMarks, .fields vs_InvalidMarks, ccs_InvalidMarks⟩)
    (ev2_InvalidMarks : vs_InvalidMarks[2]? = some (.str fi_InvalidMarks tf_InvalidMarks))
    (efi_InvalidMarks : ((l.prog.main.file : Str) == fi_InvalidMarks) = true)
    (ecc_InvalidMarks : K.lookup cc_InvalidMarks = some ⟨ecl_InvalidMarks, cld_InvalidMarks, .cell (some (.ref C_InvalidMarks)), csl_InvalidMarks⟩)
    (x_InvalidNumber : K.lookup C_InvalidNumber = some (excClassObj nm_InvalidNumber q_InvalidNumber C_InvalidNumber N_InvalidNumber bs_InvalidNumber bm_InvalidNumber true sn_InvalidNumber sbc_InvalidNumber ab_InvalidNumber col_InvalidNumber dd_InvalidNumber m0_InvalidNumber m1_InvalidNumber m2_InvalidNumber m3_InvalidNumber m5_InvalidNumber "ValueError.__new__"))
    (rv_InvalidNumber : refsVE bm_InvalidNumber = true)
    (esa_InvalidNumber : PySem.W.findIn K (.ref C_InvalidNumber) "__setattr__" = some (some (.builtin "object.__setattr__")))
    (ega_InvalidNumber : PySem.W.findIn K (.ref C_InvalidNumber) "__getattribute__" = some (some (.builtin "BaseException.__getattribute__")))
    (egg_InvalidNumber : PySem.W.findIn K (.ref C_InvalidNumber) "__getattr__" = some none)
    (eno_InvalidNumber : PySem.W.findIn K (.ref C_InvalidNumber) "value" = some none)
    (ei_InvalidNumber : PySem.W.findIn K (.ref C_InvalidNumber) "__init__" = some (some (.ref e_InvalidNumber)))
    (et_InvalidNumber : PySem.W.typeIn K (.ref e_InvalidNumber) = some (.type "function"))
    (ekC_InvalidNumber : PySem.W.keepIn K (.ref C_InvalidNumber) = true)
    (ehd_InvalidNumber : PySem.W.hasDictIn K C_InvalidNumber = true)
    (esup_InvalidNumber : PySem.W.ks_superIn K C_InvalidNumber C_InvalidNumber "__init__" = some (some (.builtin "ValueError.__init__")))
    (esv_InvalidNumber : PySem.W.subIn K (.ref C_InvalidNumber) (.type "ValueError") = some true)
    (emr_InvalidNumber : PySem.W.mroIn K C_InvalidNumber (.ref C_InvalidNumber) = some true)
    (el_InvalidNumber : K.lookup e_InvalidNumber = some ⟨eoc_InvalidNumber, eod_InvalidNumber, .func (PySem.W.ksFn "__init__" "InvalidNumber.__init__" (defArgs sx_InvalidNumber) (defBody sx_InvalidNumber) (defScope sx_InvalidNumber) .none .none edc_InvalidNumber epm_InvalidNumber ean_InvalidNumber (.ref cda_InvalidNumber) ect_InvalidNumber cc_InvalidNumber), esl_InvalidNumber⟩)
    (eco_InvalidNumber : PySem.W.codeIn K (.ref cda_InvalidNumber) "InvalidNumber.__init__" = true)
    (ecd_InvalidNumber : K.lookup cda_InvalidNumber = some ⟨ccl_InvalidNumber, cdd_InvalidNumber, .fields vs_InvalidNumber, ccs_InvalidNumber⟩)
    (ev2_InvalidNumber : vs_InvalidNumber[2]? = some (.str fi_InvalidNumber tf_InvalidNumber))
    (efi_InvalidNumber : ((l.prog.main.file : Str) == fi_InvalidNumber) = true)
    (ecc_InvalidNumber : K.lookup cc_InvalidNumber = some ⟨ecl_InvalidNumber, cld_InvalidNumber, .cell (some (.ref C_InvalidNumber)), csl_InvalidNumber⟩)
    (x_InvalidQuestion : K.lookup C_InvalidQuestion = some (excClassObj nm_InvalidQuestion q_InvalidQuestion C_InvalidQuestion N_InvalidQuestion bs_InvalidQuestion bm_InvalidQuestion true sn_InvalidQuestion sbc_InvalidQuestion ab_InvalidQuestion col_InvalidQuestion dd_InvalidQuestion m0_InvalidQuestion m1_InvalidQuestion m2_InvalidQuestion m3_InvalidQuestion m5_InvalidQuestion "ValueError.__new__"))
    (rv_InvalidQuestion : refsVE bm_InvalidQuestion = true)
    (esa_InvalidQuestion : PySem.W.findIn K (.ref C_InvalidQuestion) "__setattr__" = some (some (.builtin "object.__setattr__")))
    (ega_InvalidQuestion : PySem.W.findIn K (.ref C_InvalidQuestion) "__getattribute__" = some (some (.builtin "BaseException.__getattribute__")))
    (egg_InvalidQuestion : PySem.W.findIn K (.ref C_InvalidQuestion) "__getattr__" = some none)
    (eno_InvalidQuestion : PySem.W.findIn K (.ref C_InvalidQuestion) "value" = some none)
    (ei_InvalidQuestion : PySem.W.findIn K (.ref C_InvalidQuestion) "__init__" = some (some (.ref e_InvalidQuestion)))
    (et_InvalidQuestion : PySem.W.typeIn K (.ref e_InvalidQuestion) = some (.type "function"))
    (ekC_InvalidQuestion : PySem.W.keepIn K (.ref C_InvalidQuestion) = true)
    (ehd_InvalidQuestion : PySem.W.hasDictIn K C_InvalidQuestion = true)
    (esup_InvalidQuestion : PySem.W.ks_superIn K C_InvalidQuestion C_InvalidQuestion "__init__" = some (some (.builtin "ValueError.__init__")))
    (esv_InvalidQuestion : PySem.W.subIn K (.ref C_InvalidQuestion) (.type "ValueError") = some true)
    (emr_InvalidQuestion : PySem.W.mroIn K C_InvalidQuestion (.ref C_InvalidQuestion) = some true)
    (el_InvalidQuestion : K.lookup e_InvalidQuestion = some ⟨eoc_InvalidQuestion, eod_InvalidQuestion, .func (PySem.W.ksFn "__init__" "InvalidQuestion.__init__" (defArgs sx_InvalidQuestion) (defBody sx_InvalidQuestion) (defScope sx_InvalidQuestion) .none .none edc_InvalidQuestion epm_InvalidQuestion ean_InvalidQuestion (.ref cda_InvalidQuestion) ect_InvalidQuestion cc_InvalidQuestion), esl_InvalidQuestion⟩)
    (eco_InvalidQuestion : PySem.W.codeIn K (.ref cda_InvalidQuestion) "InvalidQuestion.__init__" = true)
    (ecd_InvalidQuestion : K.lookup cda_InvalidQuestion = some ⟨ccl_InvalidQuestion, cdd_InvalidQuestion, .fields vs_InvalidQuestion, ccs_InvalidQuestion⟩)
    (ev2_InvalidQuestion : vs_InvalidQuestion[2]? = some (.str fi_InvalidQuestion tf_InvalidQuestion))
    (efi_InvalidQuestion : ((l.prog.main.file : Str) == fi_InvalidQuestion) = true)
    (ecc_InvalidQuestion : K.lookup cc_InvalidQuestion = some ⟨ecl_InvalidQuestion, cld_InvalidQuestion, .cell (some (.ref C_InvalidQuestion)), csl_InvalidQuestion⟩)
    (x_InvalidRun : K.lookup C_InvalidRun = some (excClassObj nm_InvalidRun q_InvalidRun C_InvalidRun N_InvalidRun bs_InvalidRun bm_InvalidRun true sn_InvalidRun sbc_InvalidRun ab_InvalidRun col_InvalidRun dd_InvalidRun m0_InvalidRun m1_InvalidRun m2_InvalidRun m3_InvalidRun m5_InvalidRun "ValueError.__new__"))
    (rv_InvalidRun : refsVE bm_InvalidRun = true)
    (esa_InvalidRun : PySem.W.findIn K (.ref C_InvalidRun) "__setattr__" = some (some (.builtin "object.__setattr__")))
    (ega_InvalidRun : PySem.W.findIn K (.ref C_InvalidRun) "__getattribute__" = some (some (.builtin "BaseException.__getattribute__")))
    (egg_InvalidRun : PySem.W.findIn K (.ref C_InvalidRun) "__getattr__" = some none)
    (eno_InvalidRun : PySem.W.findIn K (.ref C_InvalidRun) "value" = some none)
    (ei_InvalidRun : PySem.W.findIn K (.ref C_InvalidRun) "__init__" = some (some (.ref e_InvalidRun)))
    (et_InvalidRun : PySem.W.typeIn K (.ref e_InvalidRun) = some (.type "function"))
    (ekC_InvalidRun : PySem.W.keepIn K (.ref C_InvalidRun) = true)
    (ehd_InvalidRun : PySem.W.hasDictIn K C_InvalidRun = true)
    (esup_InvalidRun : PySem.W.ks_superIn K C_InvalidRun C_InvalidRun "__init__" = some (some (.builtin "ValueError.__init__")))
    (esv_InvalidRun : PySem.W.subIn K (.ref C_InvalidRun) (.type "ValueError") = some true)
    (emr_InvalidRun : PySem.W.mroIn K C_InvalidRun (.ref C_InvalidRun) = some true)
    (el_InvalidRun : K.lookup e_InvalidRun = some ⟨eoc_InvalidRun, eod_InvalidRun, .func (PySem.W.ksFn "__init__" "InvalidRun.__init__" (defArgs sx_InvalidRun) (defBody sx_InvalidRun) (defScope sx_InvalidRun) .none .none edc_InvalidRun epm_InvalidRun ean_InvalidRun (.ref cda_InvalidRun) ect_InvalidRun cc_InvalidRun), esl_InvalidRun⟩)
    (eco_InvalidRun : PySem.W.codeIn K (.ref cda_InvalidRun) "InvalidRun.__init__" = true)
    (ecd_InvalidRun : K.lookup cda_InvalidRun = some ⟨ccl_InvalidRun, cdd_InvalidRun, .fields vs_InvalidRun, ccs_InvalidRun⟩)
    (ev2_InvalidRun : vs_InvalidRun[2]? = some (.str fi_InvalidRun tf_InvalidRun))
    (efi_InvalidRun : ((l.prog.main.file : Str) == fi_InvalidRun) = true)
    (ecc_InvalidRun : K.lookup cc_InvalidRun = some ⟨ecl_InvalidRun, cld_InvalidRun, .cell (some (.ref C_InvalidRun)), csl_InvalidRun⟩)
    (x_InvalidTicks : K.lookup C_InvalidTicks = some (excClassObj nm_InvalidTicks q_InvalidTicks C_InvalidTicks N_InvalidTicks bs_InvalidTicks bm_InvalidTicks true sn_InvalidTicks sbc_InvalidTicks ab_InvalidTicks col_InvalidTicks dd_InvalidTicks m0_InvalidTicks m1_InvalidTicks m2_InvalidTicks m3_InvalidTicks m5_InvalidTicks "ValueError.__new__"))
    (rv_InvalidTicks : refsVE bm_InvalidTicks = true)
    (esa_InvalidTicks : PySem.W.findIn K (.ref C_InvalidTicks) "__setattr__" = some (some (.builtin "object.__setattr__")))
    (ega_InvalidTicks : PySem.W.findIn K (.ref C_InvalidTicks) "__getattribute__" = some (some (.builtin "BaseException.__getattribute__")))
    (egg_InvalidTicks : PySem.W.findIn K (.ref C_InvalidTicks) "__getattr__" = some none)
    (eno_InvalidTicks : PySem.W.findIn K (.ref C_InvalidTicks) "value" = some none)
    (ei_InvalidTicks : PySem.W.findIn K (.ref C_InvalidTicks) "__init__" = some (some (.ref e_InvalidTicks)))
    (et_InvalidTicks : PySem.W.typeIn K (.ref e_InvalidTicks) = some (.type "function"))
    (ekC_InvalidTicks : PySem.W.keepIn K (.ref C_InvalidTicks) = true)
    (ehd_InvalidTicks : PySem.W.hasDictIn K C_InvalidTicks = true)
    (esup_InvalidTicks : PySem.W.ks_superIn K C_InvalidTicks C_InvalidTicks "__init__" = some (some (.builtin "ValueError.__init__")))
    (esv_InvalidTicks : PySem.W.subIn K (.ref C_InvalidTicks) (.type "ValueError") = some true)
    (emr_InvalidTicks : PySem.W.mroIn K C_InvalidTicks (.ref C_InvalidTicks) = some true)
    (el_InvalidTicks : K.lookup e_InvalidTicks = some ⟨eoc_InvalidTicks, eod_InvalidTicks, .func (PySem.W.ksFn "__init__" "InvalidTicks.__init__" (defArgs sx_InvalidTicks) (defBody sx_InvalidTicks) (defScope sx_InvalidTicks) .none .none edc_InvalidTicks epm_InvalidTicks ean_InvalidTicks (.ref cda_InvalidTicks) ect_InvalidTicks cc_InvalidTicks), esl_InvalidTicks⟩)
    (eco_InvalidTicks : PySem.W.codeIn K (.ref cda_InvalidTicks) "InvalidTicks.__init__" = true)
    (ecd_InvalidTicks : K.lookup cda_InvalidTicks = some ⟨ccl_InvalidTicks, cdd_InvalidTicks, .fields vs_InvalidTicks, ccs_InvalidTicks⟩)
    (ev2_InvalidTicks : vs_InvalidTicks[2]? = some (.str fi_InvalidTicks tf_InvalidTicks))
    (efi_InvalidTicks : ((l.prog.main.file : Str) == fi_InvalidTicks) = true)
    (ecc_InvalidTicks : K.lookup cc_InvalidTicks = some ⟨ecl_InvalidTicks, cld_InvalidTicks, .cell (some (.ref C_InvalidTicks)), csl_InvalidTicks⟩)
    (x_InvalidTrace : K.lookup C_InvalidTrace = some (excClassObj nm_InvalidTrace q_InvalidTrace C_InvalidTrace N_InvalidTrace bs_InvalidTrace bm_InvalidTrace true sn_InvalidTrace sbc_InvalidTrace ab_InvalidTrace col_InvalidTrace dd_InvalidTrace m0_InvalidTrace m1_InvalidTrace m2_InvalidTrace m3_InvalidTrace m5_InvalidTrace "ValueError.__new__"))
    (rv_InvalidTrace : refsVE bm_InvalidTrace = true)
    (esa_InvalidTrace : PySem.W.findIn K (.ref C_InvalidTrace) "__setattr__" = some (some (.builtin "object.__setattr__")))
    (ega_InvalidTrace : PySem.W.findIn K (.ref C_InvalidTrace) "__getattribute__" = some (some (.builtin "BaseException.__getattribute__")))
    (egg_InvalidTrace : PySem.W.findIn K (.ref C_InvalidTrace) "__getattr__" = some none)
    (eno_InvalidTrace : PySem.W.findIn K (.ref C_InvalidTrace) "value" = some none)
    (ei_InvalidTrace : PySem.W.findIn K (.ref C_InvalidTrace) "__init__" = some (some (.ref e_InvalidTrace)))
    (et_InvalidTrace : PySem.W.typeIn K (.ref e_InvalidTrace) = some (.type "function"))
    (ekC_InvalidTrace : PySem.W.keepIn K (.ref C_InvalidTrace) = true)
    (ehd_InvalidTrace : PySem.W.hasDictIn K C_InvalidTrace = true)
    (esup_InvalidTrace : PySem.W.ks_superIn K C_InvalidTrace C_InvalidTrace "__init__" = some (some (.builtin "ValueError.__init__")))
    (esv_InvalidTrace : PySem.W.subIn K (.ref C_InvalidTrace) (.type "ValueError") = some true)
    (emr_InvalidTrace : PySem.W.mroIn K C_InvalidTrace (.ref C_InvalidTrace) = some true)
    (el_InvalidTrace : K.lookup e_InvalidTrace = some ⟨eoc_InvalidTrace, eod_InvalidTrace, .func (PySem.W.ksFn "__init__" "InvalidTrace.__init__" (defArgs sx_InvalidTrace) (defBody sx_InvalidTrace) (defScope sx_InvalidTrace) .none .none edc_InvalidTrace epm_InvalidTrace ean_InvalidTrace (.ref cda_InvalidTrace) ect_InvalidTrace cc_InvalidTrace), esl_InvalidTrace⟩)
    (eco_InvalidTrace : PySem.W.codeIn K (.ref cda_InvalidTrace) "InvalidTrace.__init__" = true)
    (ecd_InvalidTrace : K.lookup cda_InvalidTrace = some ⟨ccl_InvalidTrace, cdd_InvalidTrace, .fields vs_InvalidTrace, ccs_InvalidTrace⟩)
    (ev2_InvalidTrace : vs_InvalidTrace[2]? = some (.str fi_InvalidTrace tf_InvalidTrace))
    (efi_InvalidTrace : ((l.prog.main.file : Str) == fi_InvalidTrace) = true)
    (ecc_InvalidTrace : K.lookup cc_InvalidTrace = some ⟨ecl_InvalidTrace, cld_InvalidTrace, .cell (some (.ref C_InvalidTrace)), csl_InvalidTrace⟩)
    (x_InvalidWaits : K.lookup C_InvalidWaits = some (excClassObj nm_InvalidWaits q_InvalidWaits C_InvalidWaits N_InvalidWaits bs_InvalidWaits bm_InvalidWaits true sn_InvalidWaits sbc_InvalidWaits ab_InvalidWaits col_InvalidWaits dd_InvalidWaits m0_InvalidWaits m1_InvalidWaits m2_InvalidWaits m3_InvalidWaits m5_InvalidWaits "ValueError.__new__"))
    (rv_InvalidWaits : refsVE bm_InvalidWaits = true)
    (esa_InvalidWaits : PySem.W.findIn K (.ref C_InvalidWaits) "__setattr__" = some (some (.builtin "object.__setattr__")))
    (ega_InvalidWaits : PySem.W.findIn K (.ref C_InvalidWaits) "__getattribute__" = some (some (.builtin "BaseException.__getattribute__")))
    (egg_InvalidWaits : PySem.W.findIn K (.ref C_InvalidWaits) "__getattr__" = some none)
    (eno_InvalidWaits : PySem.W.findIn K (.ref C_InvalidWaits) "value" = some none)
    (ei_InvalidWaits : PySem.W.findIn K (.ref C_InvalidWaits) "__init__" = some (some (.ref e_InvalidWaits)))
    (et_InvalidWaits : PySem.W.typeIn K (.ref e_InvalidWaits) = some (.type "function"))
    (ekC_InvalidWaits : PySem.W.keepIn K (.ref C_InvalidWaits) = true)
    (ehd_InvalidWaits : PySem.W.hasDictIn K C_InvalidWaits = true)
    (esup_InvalidWaits : PySem.W.ks_superIn K C_InvalidWaits C_InvalidWaits "__init__" = some (some (.builtin "ValueError.__init__")))
    (esv_InvalidWaits : PySem.W.subIn K (.ref C_InvalidWaits) (.type "ValueError") = some true)
    (emr_InvalidWaits : PySem.W.mroIn K C_InvalidWaits (.ref C_InvalidWaits) = some true)
    (el_InvalidWaits : K.lookup e_InvalidWaits = some ⟨eoc_InvalidWaits, eod_InvalidWaits, .func (PySem.W.ksFn "__init__" "InvalidWaits.__init__" (defArgs sx_InvalidWaits) (defBody sx_InvalidWaits) (defScope sx_InvalidWaits) .none .none edc_InvalidWaits epm_InvalidWaits ean_InvalidWaits (.ref cda_InvalidWaits) ect_InvalidWaits cc_InvalidWaits), esl_InvalidWaits⟩)
    (eco_InvalidWaits : PySem.W.codeIn K (.ref cda_InvalidWaits) "InvalidWaits.__init__" = true)
    (ecd_InvalidWaits : K.lookup cda_InvalidWaits = some ⟨ccl_InvalidWaits, cdd_InvalidWaits, .fields vs_InvalidWaits, ccs_InvalidWaits⟩)
    (ev2_InvalidWaits : vs_InvalidWaits[2]? = some (.str fi_InvalidWaits tf_InvalidWaits))
    (efi_InvalidWaits : ((l.prog.main.file : Str) == fi_InvalidWaits) = true)
    (ecc_InvalidWaits : K.lookup cc_InvalidWaits = some ⟨ecl_InvalidWaits, cld_InvalidWaits, .cell (some (.ref C_InvalidWaits)), csl_InvalidWaits⟩)
    (x_NothingToUndo : K.lookup C_NothingToUndo = some (excClassObj nm_NothingToUndo q_NothingToUndo C_NothingToUndo N_NothingToUndo bs_NothingToUndo bm_NothingToUndo true sn_NothingToUndo sbc_NothingToUndo ab_NothingToUndo col_NothingToUndo dd_NothingToUndo m0_NothingToUndo m1_NothingToUndo m2_NothingToUndo m3_NothingToUndo m5_NothingToUndo "ValueError.__new__"))
    (rv_NothingToUndo : refsVE bm_NothingToUndo = true)
    (esa_NothingToUndo : PySem.W.findIn K (.ref C_NothingToUndo) "__setattr__" = some (some (.builtin "object.__setattr__")))
    (ega_NothingToUndo : PySem.W.findIn K (.ref C_NothingToUndo) "__getattribute__" = some (some (.builtin "BaseException.__getattribute__")))
    (egg_NothingToUndo : PySem.W.findIn K (.ref C_NothingToUndo) "__getattr__" = some none)
    (eno_NothingToUndo : PySem.W.findIn K (.ref C_NothingToUndo) "word" = some none)
    (ei_NothingToUndo : PySem.W.findIn K (.ref C_NothingToUndo) "__init__" = some (some (.ref e_NothingToUndo)))
    (et_NothingToUndo : PySem.W.typeIn K (.ref e_NothingToUndo) = some (.type "function"))
    (ekC_NothingToUndo : PySem.W.keepIn K (.ref C_NothingToUndo) = true)
    (ehd_NothingToUndo : PySem.W.hasDictIn K C_NothingToUndo = true)
    (esup_NothingToUndo : PySem.W.ks_superIn K C_NothingToUndo C_NothingToUndo "__init__" = some (some (.builtin "ValueError.__init__")))
    (esv_NothingToUndo : PySem.W.subIn K (.ref C_NothingToUndo) (.type "ValueError") = some true)
    (emr_NothingToUndo : PySem.W.mroIn K C_NothingToUndo (.ref C_NothingToUndo) = some true)
    (el_NothingToUndo : K.lookup e_NothingToUndo = some ⟨eoc_NothingToUndo, eod_NothingToUndo, .func (PySem.W.ksFn "__init__" "NothingToUndo.__init__" (defArgs sx_NothingToUndo) (defBody sx_NothingToUndo) (defScope sx_NothingToUndo) .none .none edc_NothingToUndo epm_NothingToUndo ean_NothingToUndo (.ref cda_NothingToUndo) ect_NothingToUndo cc_NothingToUndo), esl_NothingToUndo⟩)
    (eco_NothingToUndo : PySem.W.codeIn K (.ref cda_NothingToUndo) "NothingToUndo.__init__" = true)
    (ecd_NothingToUndo : K.lookup cda_NothingToUndo = some ⟨ccl_NothingToUndo, cdd_NothingToUndo, .fields vs_NothingToUndo, ccs_NothingToUndo⟩)
    (ev2_NothingToUndo : vs_NothingToUndo[2]? = some (.str fi_NothingToUndo tf_NothingToUndo))
    (efi_NothingToUndo : ((l.prog.main.file : Str) == fi_NothingToUndo) = true)
    (ecc_NothingToUndo : K.lookup cc_NothingToUndo = some ⟨ecl_NothingToUndo, cld_NothingToUndo, .cell (some (.ref C_NothingToUndo)), csl_NothingToUndo⟩)
    (x_Undefined : K.lookup C_Undefined = some (excClassObj nm_Undefined q_Undefined C_Undefined N_Undefined bs_Undefined bm_Undefined true sn_Undefined sbc_Undefined ab_Undefined col_Undefined dd_Undefined m0_Undefined m1_Undefined m2_Undefined m3_Undefined m5_Undefined "ValueError.__new__"))
    (rv_Undefined : refsVE bm_Undefined = true)
    (esa_Undefined : PySem.W.findIn K (.ref C_Undefined) "__setattr__" = some (some (.builtin "object.__setattr__")))
    (ega_Undefined : PySem.W.findIn K (.ref C_Undefined) "__getattribute__" = some (some (.builtin "BaseException.__getattribute__")))
    (egg_Undefined : PySem.W.findIn K (.ref C_Undefined) "__getattr__" = some none)
    (eno_Undefined : PySem.W.findIn K (.ref C_Undefined) "what" = some none)
    (ei_Undefined : PySem.W.findIn K (.ref C_Undefined) "__init__" = some (some (.ref e_Undefined)))
    (et_Undefined : PySem.W.typeIn K (.ref e_Undefined) = some (.type "function"))
    (ekC_Undefined : PySem.W.keepIn K (.ref C_Undefined) = true)
    (ehd_Undefined : PySem.W.hasDictIn K C_Undefined = true)
    (esup_Undefined : PySem.W.ks_superIn K C_Undefined C_Undefined "__init__" = some (some (.builtin "ValueError.__init__")))
    (esv_Undefined : PySem.W.subIn K (.ref C_Undefined) (.type "ValueError") = some true)
    (emr_Undefined : PySem.W.mroIn K C_Undefined (.ref C_Undefined) = some true)
    (el_Undefined : K.lookup e_Undefined = some ⟨eoc_Undefined, eod_Undefined, .func (PySem.W.ksFn "__init__" "Undefined.__init__" (defArgs sx_Undefined) (defBody sx_Undefined) (defScope sx_Undefined) .none .none edc_Undefined epm_Undefined ean_Undefined (.ref cda_Undefined) ect_Undefined cc_Undefined), esl_Undefined⟩)
    (eco_Undefined : PySem.W.codeIn K (.ref cda_Undefined) "Undefined.__init__" = true)
    (ecd_Undefined : K.lookup cda_Undefined = some ⟨ccl_Undefined, cdd_Undefined, .fields vs_Undefined, ccs_Undefined⟩)
    (ev2_Undefined : vs_Undefined[2]? = some (.str fi_Undefined tf_Undefined))
    (efi_Undefined : ((l.prog.main.file : Str) == fi_Undefined) = true)
    (ecc_Undefined : K.lookup cc_Undefined = some ⟨ecl_Undefined, cld_Undefined, .cell (some (.ref C_Undefined)), csl_Undefined⟩)
    (top_ : (l.prog.main.scope.names.lookup ("super" : Str)).isSome = false)
    (opq : PySem.W.nsIn K cStatics "thirdparty.any" = some none)
    (eB_InvalidClaim : PySem.W.subIn K (.ref C_InvalidClaim) (.type "BaseException") = some true)
    (eT_InvalidClaim : PySem.W.typeIn K (.ref C_InvalidClaim) = some (.type "type"))
    (eI_InvalidClaim : PySem.W.isClsIn K C_InvalidClaim = true)
    (s_InvalidClaim_InvalidClaim : PySem.W.subIn K (.ref C_InvalidClaim) (.ref C_InvalidClaim) = some true)
    (s_InvalidEdge_InvalidClaim : PySem.W.subIn K (.ref C_InvalidEdge) (.ref C_InvalidClaim) = some false)
    (d_InvalidEdge_InvalidClaim : (C_InvalidEdge == C_InvalidClaim) = false)
    (s_InvalidEdges_InvalidClaim : PySem.W.subIn K (.ref C_InvalidEdges) (.ref C_InvalidClaim) = some false)
    (d_InvalidEdges_InvalidClaim : (C_InvalidEdges == C_InvalidClaim) = false)
    (s_InvalidLengths_InvalidClaim : PySem.W.subIn K (.ref C_InvalidLengths) (.ref C_InvalidClaim) = some false)
    (d_InvalidLengths_InvalidClaim : (C_InvalidLengths == C_InvalidClaim) = false)
    (s_InvalidMarks_InvalidClaim : PySem.W.subIn K (.ref C_InvalidMarks) (.ref C_InvalidClaim) = some false)
    (d_InvalidMarks_InvalidClaim : (C_InvalidMarks == C_InvalidClaim) = false)
    (s_InvalidNumber_InvalidClaim : PySem.W.subIn K (.ref C_InvalidNumber) (.ref C_InvalidClaim) = some false)
    (d_InvalidNumber_InvalidClaim : (C_InvalidNumber == C_InvalidClaim) = false)
    (s_InvalidQuestion_InvalidClaim : PySem.W.subIn K (.ref C_InvalidQuestion) (.ref C_InvalidClaim) = some false)
    (d_InvalidQuestion_InvalidClaim : (C_InvalidQuestion == C_InvalidClaim) = false)
    (s_InvalidRun_InvalidClaim : PySem.W.subIn K (.ref C_InvalidRun) (.ref C_InvalidClaim) = some false)
    (d_InvalidRun_InvalidClaim : (C_InvalidRun == C_InvalidClaim) = false)
    (s_InvalidTicks_InvalidClaim : PySem.W.subIn K (.ref C_InvalidTicks) (.ref C_InvalidClaim) = some false)
    (d_InvalidTicks_InvalidClaim : (C_InvalidTicks == C_InvalidClaim) = false)
    (s_InvalidTrace_InvalidClaim : PySem.W.subIn K (.ref C_InvalidTrace) (.ref C_InvalidClaim) = some false)
    (d_InvalidTrace_InvalidClaim : (C_InvalidTrace == C_InvalidClaim) = false)
    (s_InvalidWaits_InvalidClaim : PySem.W.subIn K (.ref C_InvalidWaits) (.ref C_InvalidClaim) = some false)
    (d_InvalidWaits_InvalidClaim : (C_InvalidWaits == C_InvalidClaim) = false)
    (s_NothingToUndo_InvalidClaim : PySem.W.subIn K (.ref C_NothingToUndo) (.ref C_InvalidClaim) = some false)
    (d_NothingToUndo_InvalidClaim : (C_NothingToUndo == C_InvalidClaim) = false)
    (s_Undefined_InvalidClaim : PySem.W.subIn K (.ref C_Undefined) (.ref C_InvalidClaim) = some false)
    (d_Undefined_InvalidClaim : (C_Undefined == C_InvalidClaim) = false)
    (eB_InvalidEdge : PySem.W.subIn K (.ref C_InvalidEdge) (.type "BaseException") = some true)
    (eT_InvalidEdge : PySem.W.typeIn K (.ref C_InvalidEdge) = some (.type "type"))
    (eI_InvalidEdge : PySem.W.isClsIn K C_InvalidEdge = true)
    (s_InvalidClaim_InvalidEdge : PySem.W.subIn K (.ref C_InvalidClaim) (.ref C_InvalidEdge) = some false)
    (d_InvalidClaim_InvalidEdge : (C_InvalidClaim == C_InvalidEdge) = false)
    (s_InvalidEdge_InvalidEdge : PySem.W.subIn K (.ref C_InvalidEdge) (.ref C_InvalidEdge) = some true)
    (s_InvalidEdges_InvalidEdge : PySem.W.subIn K (.ref C_InvalidEdges) (.ref C_InvalidEdge) = some false)
    (d_InvalidEdges_InvalidEdge : (C_InvalidEdges == C_InvalidEdge) = false)
    (s_InvalidLengths_InvalidEdge : PySem.W.subIn K (.ref C_InvalidLengths) (.ref C_InvalidEdge) = some false)
    (d_InvalidLengths_InvalidEdge : (C_InvalidLengths == C_InvalidEdge) = false)
    (s_InvalidMarks_InvalidEdge : PySem.W.subIn K (.ref C_InvalidMarks) (.ref C_InvalidEdge) = some false)
    (d_InvalidMarks_InvalidEdge : (C_InvalidMarks == C_InvalidEdge) = false)
    (s_InvalidNumber_InvalidEdge : PySem.W.subIn K (.ref C_InvalidNumber) (.ref C_InvalidEdge) = some false)
    (d_InvalidNumber_InvalidEdge : (C_InvalidNumber == C_InvalidEdge) = false)
    (s_InvalidQuestion_InvalidEdge : PySem.W.subIn K (.ref C_InvalidQuestion) (.ref C_InvalidEdge) = some false)
    (d_InvalidQuestion_InvalidEdge : (C_InvalidQuestion == C_InvalidEdge) = false)
    (s_InvalidRun_InvalidEdge : PySem.W.subIn K (.ref C_InvalidRun) (.ref C_InvalidEdge) = some false)
    (d_InvalidRun_InvalidEdge : (C_InvalidRun == C_InvalidEdge) = false)
    (s_InvalidTicks_InvalidEdge : PySem.W.subIn K (.ref C_InvalidTicks) (.ref C_InvalidEdge) = some false)
    (d_InvalidTicks_InvalidEdge : (C_InvalidTicks == C_InvalidEdge) = false)
    (s_InvalidTrace_InvalidEdge : PySem.W.subIn K (.ref C_InvalidTrace) (.ref C_InvalidEdge) = some false)
    (d_InvalidTrace_InvalidEdge : (C_InvalidTrace == C_InvalidEdge) = false)
    (s_InvalidWaits_InvalidEdge : PySem.W.subIn K (.ref C_InvalidWaits) (.ref C_InvalidEdge) = some false)
    (d_InvalidWaits_InvalidEdge : (C_InvalidWaits == C_InvalidEdge) = false)
    (s_NothingToUndo_InvalidEdge : PySem.W.subIn K (.ref C_NothingToUndo) (.ref C_InvalidEdge) = some false)
    (d_NothingToUndo_InvalidEdge : (C_NothingToUndo == C_InvalidEdge) = false)
    (s_Undefined_InvalidEdge : PySem.W.subIn K (.ref C_Undefined) (.ref C_InvalidEdge) = some false)
    (d_Undefined_InvalidEdge : (C_Undefined == C_InvalidEdge) = false)
    (eB_InvalidEdges : PySem.W.subIn K (.ref C_InvalidEdges) (.type "BaseException") = some true)
    (eT_InvalidEdges : PySem.W.typeIn K (.ref C_InvalidEdges) = some (.type "type"))
    (eI_InvalidEdges : PySem.W.isClsIn K C_InvalidEdges = true)
    (s_InvalidClaim_InvalidEdges : PySem.W.subIn K (.ref C_InvalidClaim) (.ref C_InvalidEdges) = some false)
    (d_InvalidClaim_InvalidEdges : (C_InvalidClaim == C_InvalidEdges) = false)
    (s_InvalidEdge_InvalidEdges : PySem.W.subIn K (.ref C_InvalidEdge) (.ref C_InvalidEdges) = some false)
    (d_InvalidEdge_InvalidEdges : (C_InvalidEdge == C_InvalidEdges) = false)
    (s_InvalidEdges_InvalidEdges : PySem.W.subIn K (.ref C_InvalidEdges) (.ref C_InvalidEdges) = some true)
    (s_InvalidLengths_InvalidEdges : PySem.W.subIn K (.ref C_InvalidLengths) (.ref C_InvalidEdges) = some false)
    (d_InvalidLengths_InvalidEdges : (C_InvalidLengths == C_InvalidEdges) = false)
    (s_InvalidMarks_InvalidEdges : PySem.W.subIn K (.ref C_InvalidMarks) (.ref C_InvalidEdges) = some false)
    (d_InvalidMarks_InvalidEdges : (C_InvalidMarks == C_InvalidEdges) = false)
    (s_InvalidNumber_InvalidEdges : PySem.W.subIn K (.ref C_InvalidNumber) (.ref C_InvalidEdges) = some false)
    (d_InvalidNumber_InvalidEdges : (C_InvalidNumber == C_InvalidEdges) = false)
    (s_InvalidQuestion_InvalidEdges : PySem.W.subIn K (.ref C_InvalidQuestion) (.ref C_InvalidEdges) = some false)
    (d_InvalidQuestion_InvalidEdges : (C_InvalidQuestion == C_InvalidEdges) = false)
    (s_InvalidRun_InvalidEdges : PySem.W.subIn K (.ref C_InvalidRun) (.ref C_InvalidEdges) = some false)
    (d_InvalidRun_InvalidEdges : (C_InvalidRun == C_InvalidEdges) = false)
    (s_InvalidTicks_InvalidEdges : PySem.W.subIn K (.ref C_InvalidTicks) (.ref C_InvalidEdges) = some false)
    (d_InvalidTicks_InvalidEdges : (C_InvalidTicks == C_InvalidEdges) = false)
    (s_InvalidTrace_InvalidEdges : PySem.W.subIn K (.ref C_InvalidTrace) (.ref C_InvalidEdges) = some false)
    (d_InvalidTrace_InvalidEdges : (C_InvalidTrace == C_InvalidEdges) = false)
    (s_InvalidWaits_InvalidEdges : PySem.W.subIn K (.ref C_InvalidWaits) (.ref C_InvalidEdges) = some false)
    (d_InvalidWaits_InvalidEdges : (C_InvalidWaits == C_InvalidEdges) = false)
    (s_NothingToUndo_InvalidEdges : PySem.W.subIn K (.ref C_NothingToUndo) (.ref C_InvalidEdges) = some false)
    (d_NothingToUndo_InvalidEdges : (C_NothingToUndo == C_InvalidEdges) = false)
    (s_Undefined_InvalidEdges : PySem.W.subIn K (.ref C_Undefined) (.ref C_InvalidEdges) = some false)
    (d_Undefined_InvalidEdges : (C_Undefined == C_InvalidEdges) = false)
    (eB_InvalidLengths : PySem.W.subIn K (.ref C_InvalidLengths) (.type "BaseException") = some true)
    (eT_InvalidLengths : PySem.W.typeIn K (.ref C_InvalidLengths) = some (.type "type"))
    (eI_InvalidLengths : PySem.W.isClsIn K C_InvalidLengths = true)
    (s_InvalidClaim_InvalidLengths : PySem.W.subIn K (.ref C_InvalidClaim) (.ref C_InvalidLengths) = some false)
    (d_InvalidClaim_InvalidLengths : (C_InvalidClaim == C_InvalidLengths) = false)
    (s_InvalidEdge_InvalidLengths : PySem.W.subIn K (.ref C_InvalidEdge) (.ref C_InvalidLengths) = some false)
    (d_InvalidEdge_InvalidLengths : (C_InvalidEdge == C_InvalidLengths) = false)
    (s_InvalidEdges_InvalidLengths : PySem.W.subIn K (.ref C_InvalidEdges) (.ref C_InvalidLengths) = some false)
    (d_InvalidEdges_InvalidLengths : (C_InvalidEdges == C_InvalidLengths) = false)
    (s_InvalidLengths_InvalidLengths : PySem.W.subIn K (.ref C_InvalidLengths) (.ref C_InvalidLengths) = some true)
    (s_InvalidMarks_InvalidLengths : PySem.W.subIn K (.ref C_InvalidMarks) (.ref C_InvalidLengths) = some false)
    (d_InvalidMarks_InvalidLengths : (C_InvalidMarks == C_InvalidLengths) = false)
    (s_InvalidNumber_InvalidLengths : PySem.W.subIn K (.ref C_InvalidNumber) (.ref C_InvalidLengths) = some false)
    (d_InvalidNumber_InvalidLengths : (C_InvalidNumber == C_InvalidLengths) = false)
    (s_InvalidQuestion_InvalidLengths : PySem.W.subIn K (.ref C_InvalidQuestion) (.ref C_InvalidLengths) = some false)
    (d_InvalidQuestion_InvalidLengths : (C_InvalidQuestion == C_InvalidLengths) = false)
    (s_InvalidRun_InvalidLengths : PySem.W.subIn K (.ref C_InvalidRun) (.ref C_InvalidLengths) = some false)
    (d_InvalidRun_InvalidLengths : (C_InvalidRun == C_InvalidLengths) = false)
    (s_InvalidTicks_InvalidLengths : PySem.W.subIn K (.ref C_InvalidTicks) (.ref C_InvalidLengths) = some false)
    (d_InvalidTicks_InvalidLengths : (C_InvalidTicks == C_InvalidLengths) = false)
    (s_InvalidTrace_InvalidLengths : PySem.W.subIn K (.ref C_InvalidTrace) (.ref C_InvalidLengths) = some false)
    (d_InvalidTrace_InvalidLengths : (C_InvalidTrace == C_InvalidLengths) = false)
    (s_InvalidWaits_InvalidLengths : PySem.W.subIn K (.ref C_InvalidWaits) (.ref C_InvalidLengths) = some false)
    (d_InvalidWaits_InvalidLengths : (C_InvalidWaits == C_InvalidLengths) = false)
    (s_NothingToUndo_InvalidLengths : PySem.W.subIn K (.ref C_NothingToUndo) (.ref C_InvalidLengths) = some false)
    (d_NothingToUndo_InvalidLengths : (C_NothingToUndo == C_InvalidLengths) = false)
    (s_Undefined_InvalidLengths : PySem.W.subIn K (.ref C_Undefined) (.ref C_InvalidLengths) = some false)
    (d_Undefined_InvalidLengths : (C_Undefined == C_InvalidLengths) = false)
    (eB_InvalidMarks : PySem.W.subIn K (.ref C_InvalidMarks) (.type "BaseException") = some true)
    (eT_InvalidMarks : PySem.W.typeIn K (.ref C_InvalidMarks) = some (.type "type"))
    (eI_InvalidMarks : PySem.W.isClsIn K C_InvalidMarks = true)
    (s_InvalidClaim_InvalidMarks : PySem.W.subIn K (.ref C_InvalidClaim) (.ref C_InvalidMarks) = some false)
    (d_InvalidClaim_InvalidMarks : (C_InvalidClaim == C_InvalidMarks) = false)
    (s_InvalidEdge_InvalidMarks : PySem.W.subIn K (.ref C_InvalidEdge) (.ref C_InvalidMarks) = some false)
    (d_InvalidEdge_InvalidMarks : (C_InvalidEdge == C_InvalidMarks) = false)
    (s_InvalidEdges_InvalidMarks : PySem.W.subIn K (.ref C_InvalidEdges) (.ref C_InvalidMarks) = some false)
    (d_InvalidEdges_InvalidMarks : (C_InvalidEdges == C_InvalidMarks) = false)
    (s_InvalidLengths_InvalidMarks : PySem.W.subIn K (.ref C_InvalidLengths) (.ref C_InvalidMarks) = some false)
    (d_InvalidLengths_InvalidMarks : (C_InvalidLengths == C_InvalidMarks) = false)
    (s_InvalidMarks_InvalidMarks : PySem.W.subIn K (.ref C_InvalidMarks) (.ref C_InvalidMarks) = some true)
    (s_InvalidNumber_InvalidMarks : PySem.W.subIn K (.ref C_InvalidNumber) (.ref C_InvalidMarks) = some false)
    (d_InvalidNumber_InvalidMarks : (C_InvalidNumber == C_InvalidMarks) = false)
    (s_InvalidQuestion_InvalidMarks : PySem.W.subIn K (.ref C_InvalidQuestion) (.ref C_InvalidMarks) = some false)
    (d_InvalidQuestion_InvalidMarks : (C_InvalidQuestion == C_InvalidMarks) = false)
    (s_InvalidRun_InvalidMarks : PySem.W.subIn K (.ref C_InvalidRun) (.ref C_InvalidMarks) = some false)
    (d_InvalidRun_InvalidMarks : (C_InvalidRun == C_InvalidMarks) = false)
    (s_InvalidTicks_InvalidMarks : PySem.W.subIn K (.ref C_InvalidTicks) (.ref C_InvalidMarks) = some false)
    (d_InvalidTicks_InvalidMarks : (C_InvalidTicks == C_InvalidMarks) = false)
    (s_InvalidTrace_InvalidMarks : PySem.W.subIn K (.ref C_InvalidTrace) (.ref C_InvalidMarks) = some false)
    (d_InvalidTrace_InvalidMarks : (C_InvalidTrace == C_InvalidMarks) = false)
    (s_InvalidWaits_InvalidMarks : PySem.W.subIn K (.ref C_InvalidWaits) (.ref C_InvalidMarks) = some false)
    (d_InvalidWaits_InvalidMarks : (C_InvalidWaits == C_InvalidMarks) = false)
    (s_NothingToUndo_InvalidMarks : PySem.W.subIn K (.ref C_NothingToUndo) (.ref C_InvalidMarks) = some false)
    (d_NothingToUndo_InvalidMarks : (C_NothingToUndo == C_InvalidMarks) = false)
    (s_Undefined_InvalidMarks : PySem.W.subIn K (.ref C_Undefined) (.ref C_InvalidMarks) = some false)
    (d_Undefined_InvalidMarks : (C_Undefined == C_InvalidMarks) = false)
    (eB_InvalidNumber : PySem.W.subIn K (.ref C_InvalidNumber) (.type "BaseException") = some true)
    (eT_InvalidNumber : PySem.W.typeIn K (.ref C_InvalidNumber) = some (.type "type"))
    (eI_InvalidNumber : PySem.W.isClsIn K C_InvalidNumber = true)
    (s_InvalidClaim_InvalidNumber : PySem.W.subIn K (.ref C_InvalidClaim) (.ref C_InvalidNumber) = some false)
    (d_InvalidClaim_InvalidNumber : (C_InvalidClaim == C_InvalidNumber) = false)
    (s_InvalidEdge_InvalidNumber : PySem.W.subIn K (.ref C_InvalidEdge) (.ref C_InvalidNumber) = some false)
    (d_InvalidEdge_InvalidNumber : (C_InvalidEdge == C_InvalidNumber) = false)
    (s_InvalidEdges_InvalidNumber : PySem.W.subIn K (.ref C_InvalidEdges) (.ref C_InvalidNumber) = some false)
    (d_InvalidEdges_InvalidNumber : (C_InvalidEdges == C_InvalidNumber) = false)
    (s_InvalidLengths_InvalidNumber : PySem.W.subIn K (.ref C_InvalidLengths) (.ref C_InvalidNumber) = some false)
    (d_InvalidLengths_InvalidNumber : (C_InvalidLengths == C_InvalidNumber) = false)
    (s_InvalidMarks_InvalidNumber : PySem.W.subIn K (.ref C_InvalidMarks) (.ref C_InvalidNumber) = some false)
    (d_InvalidMarks_InvalidNumber : (C_InvalidMarks == C_InvalidNumber) = false)
    (s_InvalidNumber_InvalidNumber : PySem.W.subIn K (.ref C_InvalidNumber) (.ref C_InvalidNumber) = some true)
    (s_InvalidQuestion_InvalidNumber : PySem.W.subIn K (.ref C_InvalidQuestion) (.ref C_InvalidNumber) = some false)
    (d_InvalidQuestion_InvalidNumber : (C_InvalidQuestion == C_InvalidNumber) = false)
    (s_InvalidRun_InvalidNumber : PySem.W.subIn K (.ref C_InvalidRun) (.ref C_InvalidNumber) = some false)
    (d_InvalidRun_InvalidNumber : (C_InvalidRun == C_InvalidNumber) = false)
    (s_InvalidTicks_InvalidNumber : PySem.W.subIn K (.ref C_InvalidTicks) (.ref C_InvalidNumber) = some false)
    (d_InvalidTicks_InvalidNumber : (C_InvalidTicks == C_InvalidNumber) = false)
    (s_InvalidTrace_InvalidNumber : PySem.W.subIn K (.ref C_InvalidTrace) (.ref C_InvalidNumber) = some false)
    (d_InvalidTrace_InvalidNumber : (C_InvalidTrace == C_InvalidNumber) = false)
    (s_InvalidWaits_InvalidNumber : PySem.W.subIn K (.ref C_InvalidWaits) (.ref C_InvalidNumber) = some false)
    (d_InvalidWaits_InvalidNumber : (C_InvalidWaits == C_InvalidNumber) = false)
    (s_NothingToUndo_InvalidNumber : PySem.W.subIn K (.ref C_NothingToUndo) (.ref C_InvalidNumber) = some false)
    (d_NothingToUndo_InvalidNumber : (C_NothingToUndo == C_InvalidNumber) = false)
    (s_Undefined_InvalidNumber : PySem.W.subIn K (.ref C_Undefined) (.ref C_InvalidNumber) = some false)
    (d_Undefined_InvalidNumber : (C_Undefined == C_InvalidNumber) = false)
    (eB_InvalidQuestion : PySem.W.subIn K (.ref C_InvalidQuestion) (.type "BaseException") = some true)
    (eT_InvalidQuestion : PySem.W.typeIn K (.ref C_InvalidQuestion) = some (.type "type"))
    (eI_InvalidQuestion : PySem.W.isClsIn K C_InvalidQuestion = true)
    (s_InvalidClaim_InvalidQuestion : PySem.W.subIn K (.ref C_InvalidClaim) (.ref C_InvalidQuestion) = some false)
    (d_InvalidClaim_InvalidQuestion : (C_InvalidClaim == C_InvalidQuestion) = false)
    (s_InvalidEdge_InvalidQuestion : PySem.W.subIn K (.ref C_InvalidEdge) (.ref C_InvalidQuestion) = some false)
    (d_InvalidEdge_InvalidQuestion : (C_InvalidEdge == C_InvalidQuestion) = false)
    (s_InvalidEdges_InvalidQuestion : PySem.W.subIn K (.ref C_InvalidEdges) (.ref C_InvalidQuestion) = some false)
    (d_InvalidEdges_InvalidQuestion : (C_InvalidEdges == C_InvalidQuestion) = false)
    (s_InvalidLengths_InvalidQuestion : PySem.W.subIn K (.ref C_InvalidLengths) (.ref C_InvalidQuestion) = some false)
    (d_InvalidLengths_InvalidQuestion : (C_InvalidLengths == C_InvalidQuestion) = false)
    (s_InvalidMarks_InvalidQuestion : PySem.W.subIn K (.ref C_InvalidMarks) (.ref C_InvalidQuestion) = some false)
    (d_InvalidMarks_InvalidQuestion : (C_InvalidMarks == C_InvalidQuestion) = false)
    (s_InvalidNumber_InvalidQuestion : PySem.W.subIn K (.ref C_InvalidNumber) (.ref C_InvalidQuestion) = some false)
    (d_InvalidNumber_InvalidQuestion : (C_InvalidNumber == C_InvalidQuestion) = false)
    (s_InvalidQuestion_InvalidQuestion : PySem.W.subIn K (.ref C_InvalidQuestion) (.ref C_InvalidQuestion) = some true)
    (s_InvalidRun_InvalidQuestion : PySem.W.subIn K (.ref C_InvalidRun) (.ref C_InvalidQuestion) = some false)
    (d_InvalidRun_InvalidQuestion : (C_InvalidRun == C_InvalidQuestion) = false)
    (s_InvalidTicks_InvalidQuestion : PySem.W.subIn K (.ref C_InvalidTicks) (.ref C_InvalidQuestion) = some false)
    (d_InvalidTicks_InvalidQuestion : (C_InvalidTicks == C_InvalidQuestion) = false)
    (s_InvalidTrace_InvalidQuestion : PySem.W.subIn K (.ref C_InvalidTrace) (.ref C_InvalidQuestion) = some false)
    (d_InvalidTrace_InvalidQuestion : (C_InvalidTrace == C_InvalidQuestion) = false)
    (s_InvalidWaits_InvalidQuestion : PySem.W.subIn K (.ref C_InvalidWaits) (.ref C_InvalidQuestion) = some false)
    (d_InvalidWaits_InvalidQuestion : (C_InvalidWaits == C_InvalidQuestion) = false)
    (s_NothingToUndo_InvalidQuestion : PySem.W.subIn K (.ref C_NothingToUndo) (.ref C_InvalidQuestion) = some false)
    (d_NothingToUndo_InvalidQuestion : (C_NothingToUndo == C_InvalidQuestion) = false)
    (s_Undefined_InvalidQuestion : PySem.W.subIn K (.ref C_Undefined) (.ref C_InvalidQuestion) = some false)
    (d_Undefined_InvalidQuestion : (C_Undefined == C_InvalidQuestion) = false)
    (eB_InvalidRun : PySem.W.subIn K (.ref C_InvalidRun) (.type "BaseException") = some true)
    (eT_InvalidRun : PySem.W.typeIn K (.ref C_InvalidRun) = some (.type "type"))
    (eI_InvalidRun : PySem.W.isClsIn K C_InvalidRun = true)
    (s_InvalidClaim_InvalidRun : PySem.W.subIn K (.ref C_InvalidClaim) (.ref C_InvalidRun) = some false)
    (d_InvalidClaim_InvalidRun : (C_InvalidClaim == C_InvalidRun) = false)
    (s_InvalidEdge_InvalidRun : PySem.W.subIn K (.ref C_InvalidEdge) (.ref C_InvalidRun) = some false)
    (d_InvalidEdge_InvalidRun : (C_InvalidEdge == C_InvalidRun) = false)
    (s_InvalidEdges_InvalidRun : PySem.W.subIn K (.ref C_InvalidEdges) (.ref C_InvalidRun) = some false)
    (d_InvalidEdges_InvalidRun : (C_InvalidEdges == C_InvalidRun) = false)
    (s_InvalidLengths_InvalidRun : PySem.W.subIn K (.ref C_InvalidLengths) (.ref C_InvalidRun) = some false)
    (d_InvalidLengths_InvalidRun : (C_InvalidLengths == C_InvalidRun) = false)
    (s_InvalidMarks_InvalidRun : PySem.W.subIn K (.ref C_InvalidMarks) (.ref C_InvalidRun) = some false)
    (d_InvalidMarks_InvalidRun : (C_InvalidMarks == C_InvalidRun) = false)
    (s_InvalidNumber_InvalidRun : PySem.W.subIn K (.ref C_InvalidNumber) (.ref C_InvalidRun) = some false)
    (d_InvalidNumber_InvalidRun : (C_InvalidNumber == C_InvalidRun) = false)
    (s_InvalidQuestion_InvalidRun : PySem.W.subIn K (.ref C_InvalidQuestion) (.ref C_InvalidRun) = some false)
    (d_InvalidQuestion_InvalidRun : (C_InvalidQuestion == C_InvalidRun) = false)
    (s_InvalidRun_InvalidRun : PySem.W.subIn K (.ref C_InvalidRun) (.ref C_InvalidRun) = some true)
    (s_InvalidTicks_InvalidRun : PySem.W.subIn K (.ref C_InvalidTicks) (.ref C_InvalidRun) = some false)
    (d_InvalidTicks_InvalidRun : (C_InvalidTicks == C_InvalidRun) = false)
    (s_InvalidTrace_InvalidRun : PySem.W.subIn K (.ref C_InvalidTrace) (.ref C_InvalidRun) = some false)
    (d_InvalidTrace_InvalidRun : (C_InvalidTrace == C_InvalidRun) = false)
    (s_InvalidWaits_InvalidRun : PySem.W.subIn K (.ref C_InvalidWaits) (.ref C_InvalidRun) = some false)
    (d_InvalidWaits_InvalidRun : (C_InvalidWaits == C_InvalidRun) = false)
    (s_NothingToUndo_InvalidRun : PySem.W.subIn K (.ref C_NothingToUndo) (.ref C_InvalidRun) = some false)
    (d_NothingToUndo_InvalidRun : (C_NothingToUndo == C_InvalidRun) = false)
    (s_Undefined_InvalidRun : PySem.W.subIn K (.ref C_Undefined) (.ref C_InvalidRun) = some false)
    (d_Undefined_InvalidRun : (C_Undefined == C_InvalidRun) = false)
    (eB_InvalidTicks : PySem.W.subIn K (.ref C_InvalidTicks) (.type "BaseException") = some true)
    (eT_InvalidTicks : PySem.W.typeIn K (.ref C_InvalidTicks) = some (.type "type"))
    (eI_InvalidTicks : PySem.W.isClsIn K C_InvalidTicks = true)
    (s_InvalidClaim_InvalidTicks : PySem.W.subIn K (.ref C_InvalidClaim) (.ref C_InvalidTicks) = some false)
    (d_InvalidClaim_InvalidTicks : (C_InvalidClaim == C_InvalidTicks) = false)
    (s_InvalidEdge_InvalidTicks : PySem.W.subIn K (.ref C_InvalidEdge) (.ref C_InvalidTicks) = some false)
    (d_InvalidEdge_InvalidTicks : (C_InvalidEdge == C_InvalidTicks) = false)
    (s_InvalidEdges_InvalidTicks : PySem.W.subIn K (.ref C_InvalidEdges) (.ref C_InvalidTicks) = some false)
    (d_InvalidEdges_InvalidTicks : (C_InvalidEdges == C_InvalidTicks) = false)
    (s_InvalidLengths_InvalidTicks : PySem.W.subIn K (.ref C_InvalidLengths) (.ref C_InvalidTicks) = some false)
    (d_InvalidLengths_InvalidTicks : (C_InvalidLengths == C_InvalidTicks) = false)
    (s_InvalidMarks_InvalidTicks : PySem.W.subIn K (.ref C_InvalidMarks) (.ref C_InvalidTicks) = some false)
    (d_InvalidMarks_InvalidTicks : (C_InvalidMarks == C_InvalidTicks) = false)
    (s_InvalidNumber_InvalidTicks : PySem.W.subIn K (.ref C_InvalidNumber) (.ref C_InvalidTicks) = some false)
    (d_InvalidNumber_InvalidTicks : (C_InvalidNumber == C_InvalidTicks) = false)
    (s_InvalidQuestion_InvalidTicks : PySem.W.subIn K (.ref C_InvalidQuestion) (.ref C_InvalidTicks) = some false)
    (d_InvalidQuestion_InvalidTicks : (C_InvalidQuestion == C_InvalidTicks) = false)
    (s_InvalidRun_InvalidTicks : PySem.W.subIn K (.ref C_InvalidRun) (.ref C_InvalidTicks) = some false)
    (d_InvalidRun_InvalidTicks : (C_InvalidRun == C_InvalidTicks) = false)
    (s_InvalidTicks_InvalidTicks : PySem.W.subIn K (.ref C_InvalidTicks) (.ref C_InvalidTicks) = some true)
    (s_InvalidTrace_InvalidTicks : PySem.W.subIn K (.ref C_InvalidTrace) (.ref C_InvalidTicks) = some false)
    (d_InvalidTrace_InvalidTicks : (C_InvalidTrace == C_InvalidTicks) = false)
    (s_InvalidWaits_InvalidTicks : PySem.W.subIn K (.ref C_InvalidWaits) (.ref C_InvalidTicks) = some false)
    (d_InvalidWaits_InvalidTicks : (C_InvalidWaits == C_InvalidTicks) = false)
    (s_NothingToUndo_InvalidTicks : PySem.W.subIn K (.ref C_NothingToUndo) (.ref C_InvalidTicks) = some false)
    (d_NothingToUndo_InvalidTicks : (C_NothingToUndo == C_InvalidTicks) = false)
    (s_Undefined_InvalidTicks : PySem.W.subIn K (.ref C_Undefined) (.ref C_InvalidTicks) = some false)
    (d_Undefined_InvalidTicks : (C_Undefined == C_InvalidTicks) = false)
    (eB_InvalidTrace : PySem.W.subIn K (.ref C_InvalidTrace) (.type "BaseException") = some true)
    (eT_InvalidTrace : PySem.W.typeIn K (.ref C_InvalidTrace) = some (.type "type"))
    (eI_InvalidTrace : PySem.W.isClsIn K C_InvalidTrace = true)
    (s_InvalidClaim_InvalidTrace : PySem.W.subIn K (.ref C_InvalidClaim) (.ref C_InvalidTrace) = some false)
    (d_InvalidClaim_InvalidTrace : (C_InvalidClaim == C_InvalidTrace) = false)
    (s_InvalidEdge_InvalidTrace : PySem.W.subIn K (.ref C_InvalidEdge) (.ref C_InvalidTrace) = some false)
    (d_InvalidEdge_InvalidTrace : (C_InvalidEdge == C_InvalidTrace) = false)
    (s_InvalidEdges_InvalidTrace : PySem.W.subIn K (.ref C_InvalidEdges) (.ref C_InvalidTrace) = some false)
    (d_InvalidEdges_InvalidTrace : (C_InvalidEdges == C_InvalidTrace) = false)
    (s_InvalidLengths_InvalidTrace : PySem.W.subIn K (.ref C_InvalidLengths) (.ref C_InvalidTrace) = some false)
    (d_InvalidLengths_InvalidTrace : (C_InvalidLengths == C_InvalidTrace) = false)
    (s_InvalidMarks_InvalidTrace : PySem.W.subIn K (.ref C_InvalidMarks) (.ref C_InvalidTrace) = some false)
    (d_InvalidMarks_InvalidTrace : (C_InvalidMarks == C_InvalidTrace) = false)
    (s_InvalidNumber_InvalidTrace : PySem.W.subIn K (.ref C_InvalidNumber) (.ref C_InvalidTrace) = some false)
    (d_InvalidNumber_InvalidTrace : (C_InvalidNumber == C_InvalidTrace) = false)
    (s_InvalidQuestion_InvalidTrace : PySem.W.subIn K (.ref C_InvalidQuestion) (.ref C_InvalidTrace) = some false)
    (d_InvalidQuestion_InvalidTrace : (C_InvalidQuestion == C_InvalidTrace) = false)
    (s_InvalidRun_InvalidTrace : PySem.W.subIn K (.ref C_InvalidRun) (.ref C_InvalidTrace) = some false)
    (d_InvalidRun_InvalidTrace : (C_InvalidRun == C_InvalidTrace) = false)
    (s_InvalidTicks_InvalidTrace : PySem.W.subIn K (.ref C_InvalidTicks) (.ref C_InvalidTrace) = some false)
    (d_InvalidTicks_InvalidTrace : (C_InvalidTicks == C_InvalidTrace) = false)
    (s_InvalidTrace_InvalidTrace : PySem.W.subIn K (.ref C_InvalidTrace) (.ref C_InvalidTrace) = some true)
    (s_InvalidWaits_InvalidTrace : PySem.W.subIn K (.ref C_InvalidWaits) (.ref C_InvalidTrace) = some false)
    (d_InvalidWaits_InvalidTrace : (C_InvalidWaits == C_InvalidTrace) = false)
    (s_NothingToUndo_InvalidTrace : PySem.W.subIn K (.ref C_NothingToUndo) (.ref C_InvalidTrace) = some false)
    (d_NothingToUndo_InvalidTrace : (C_NothingToUndo == C_InvalidTrace) = false)
    (s_Undefined_InvalidTrace : PySem.W.subIn K (.ref C_Undefined) (.ref C_InvalidTrace) = some false)
    (d_Undefined_InvalidTrace : (C_Undefined == C_InvalidTrace) = false)
    (eB_InvalidWaits : PySem.W.subIn K (.ref C_InvalidWaits) (.type "BaseException") = some true)
    (eT_InvalidWaits : PySem.W.typeIn K (.ref C_InvalidWaits) = some (.type "type"))
    (eI_InvalidWaits : PySem.W.isClsIn K C_InvalidWaits = true)
    (s_InvalidClaim_InvalidWaits : PySem.W.subIn K (.ref C_InvalidClaim) (.ref C_InvalidWaits) = some false)
    (d_InvalidClaim_InvalidWaits : (C_InvalidClaim == C_InvalidWaits) = false)
    (s_InvalidEdge_InvalidWaits : PySem.W.subIn K (.ref C_InvalidEdge) (.ref C_InvalidWaits) = some false)
    (d_InvalidEdge_InvalidWaits : (C_InvalidEdge == C_InvalidWaits) = false)
    (s_InvalidEdges_InvalidWaits : PySem.W.subIn K (.ref C_InvalidEdges) (.ref C_InvalidWaits) = some false)
    (d_InvalidEdges_InvalidWaits : (C_InvalidEdges == C_InvalidWaits) = false)
    (s_InvalidLengths_InvalidWaits : PySem.W.subIn K (.ref C_InvalidLengths) (.ref C_InvalidWaits) = some false)
    (d_InvalidLengths_InvalidWaits : (C_InvalidLengths == C_InvalidWaits) = false)
    (s_InvalidMarks_InvalidWaits : PySem.W.subIn K (.ref C_InvalidMarks) (.ref C_InvalidWaits) = some false)
    (d_InvalidMarks_InvalidWaits : (C_InvalidMarks == C_InvalidWaits) = false)
    (s_InvalidNumber_InvalidWaits : PySem.W.subIn K (.ref C_InvalidNumber) (.ref C_InvalidWaits) = some false)
    (d_InvalidNumber_InvalidWaits : (C_InvalidNumber == C_InvalidWaits) = false)
    (s_InvalidQuestion_InvalidWaits : PySem.W.subIn K (.ref C_InvalidQuestion) (.ref C_InvalidWaits) = some false)
    (d_InvalidQuestion_InvalidWaits : (C_InvalidQuestion == C_InvalidWaits) = false)
    (s_InvalidRun_InvalidWaits : PySem.W.subIn K (.ref C_InvalidRun) (.ref C_InvalidWaits) = some false)
    (d_InvalidRun_InvalidWaits : (C_InvalidRun == C_InvalidWaits) = false)
    (s_InvalidTicks_InvalidWaits : PySem.W.subIn K (.ref C_InvalidTicks) (.ref C_InvalidWaits) = some false)
    (d_InvalidTicks_InvalidWaits : (C_InvalidTicks == C_InvalidWaits) = false)
    (s_InvalidTrace_InvalidWaits : PySem.W.subIn K (.ref C_InvalidTrace) (.ref C_InvalidWaits) = some false)
    (d_InvalidTrace_InvalidWaits : (C_InvalidTrace == C_InvalidWaits) = false)
    (s_InvalidWaits_InvalidWaits : PySem.W.subIn K (.ref C_InvalidWaits) (.ref C_InvalidWaits) = some true)
    (s_NothingToUndo_InvalidWaits : PySem.W.subIn K (.ref C_NothingToUndo) (.ref C_InvalidWaits) = some false)
    (d_NothingToUndo_InvalidWaits : (C_NothingToUndo == C_InvalidWaits) = false)
    (s_Undefined_InvalidWaits : PySem.W.subIn K (.ref C_Undefined) (.ref C_InvalidWaits) = some false)
    (d_Undefined_InvalidWaits : (C_Undefined == C_InvalidWaits) = false)
    (eB_NothingToUndo : PySem.W.subIn K (.ref C_NothingToUndo) (.type "BaseException") = some true)
    (eT_NothingToUndo : PySem.W.typeIn K (.ref C_NothingToUndo) = some (.type "type"))
    (eI_NothingToUndo : PySem.W.isClsIn K C_NothingToUndo = true)
    (s_InvalidClaim_NothingToUndo : PySem.W.subIn K (.ref C_InvalidClaim) (.ref C_NothingToUndo) = some false)
    (d_InvalidClaim_NothingToUndo : (C_InvalidClaim == C_NothingToUndo) = false)
    (s_InvalidEdge_NothingToUndo : PySem.W.subIn K (.ref C_InvalidEdge) (.ref C_NothingToUndo) = some false)
    (d_InvalidEdge_NothingToUndo : (C_InvalidEdge == C_NothingToUndo) = false)
    (s_InvalidEdges_NothingToUndo : PySem.W.subIn K (.ref C_InvalidEdges) (.ref C_NothingToUndo) = some false)
    (d_InvalidEdges_NothingToUndo : (C_InvalidEdges == C_NothingToUndo) = false)
    (s_InvalidLengths_NothingToUndo : PySem.W.subIn K (.ref C_InvalidLengths) (.ref C_NothingToUndo) = some false)
    (d_InvalidLengths_NothingToUndo : (C_InvalidLengths == C_NothingToUndo) = false)
    (s_InvalidMarks_NothingToUndo : PySem.W.subIn K (.ref C_InvalidMarks) (.ref C_NothingToUndo) = some false)
    (d_InvalidMarks_NothingToUndo : (C_InvalidMarks == C_NothingToUndo) = false)
    (s_InvalidNumber_NothingToUndo : PySem.W.subIn K (.ref C_InvalidNumber) (.ref C_NothingToUndo) = some false)
    (d_InvalidNumber_NothingToUndo : (C_InvalidNumber == C_NothingToUndo) = false)
    (s_InvalidQuestion_NothingToUndo : PySem.W.subIn K (.ref C_InvalidQuestion) (.ref C_NothingToUndo) = some false)
    (d_InvalidQuestion_NothingToUndo : (C_InvalidQuestion == C_NothingToUndo) = false)
    (s_InvalidRun_NothingToUndo : PySem.W.subIn K (.ref C_InvalidRun) (.ref C_NothingToUndo) = some false)
    (d_InvalidRun_NothingToUndo : (C_InvalidRun == C_NothingToUndo) = false)
    (s_InvalidTicks_NothingToUndo : PySem.W.subIn K (.ref C_InvalidTicks) (.ref C_NothingToUndo) = some false)
    (d_InvalidTicks_NothingToUndo : (C_InvalidTicks == C_NothingToUndo) = false)
    (s_InvalidTrace_NothingToUndo : PySem.W.subIn K (.ref C_InvalidTrace) (.ref C_NothingToUndo) = some false)
    (d_InvalidTrace_NothingToUndo : (C_InvalidTrace == C_NothingToUndo) = false)
    (s_InvalidWaits_NothingToUndo : PySem.W.subIn K (.ref C_InvalidWaits) (.ref C_NothingToUndo) = some false)
    (d_InvalidWaits_NothingToUndo : (C_InvalidWaits == C_NothingToUndo) = false)
    (s_NothingToUndo_NothingToUndo : PySem.W.subIn K (.ref C_NothingToUndo) (.ref C_NothingToUndo) = some true)
    (s_Undefined_NothingToUndo : PySem.W.subIn K (.ref C_Undefined) (.ref C_NothingToUndo) = some false)
    (d_Undefined_NothingToUndo : (C_Undefined == C_NothingToUndo) = false)
    (eB_TickError : PySem.W.subIn K (.ref C_TickError) (.type "BaseException") = some true)
    (eT_TickError : PySem.W.typeIn K (.ref C_TickError) = some (.type "type"))
    (eI_TickError : PySem.W.isClsIn K C_TickError = true)
    (s_InvalidClaim_TickError : PySem.W.subIn K (.ref C_InvalidClaim) (.ref C_TickError) = some true)
    (d_InvalidClaim_TickError : (C_InvalidClaim == C_TickError) = false)
    (s_InvalidEdge_TickError : PySem.W.subIn K (.ref C_InvalidEdge) (.ref C_TickError) = some true)
    (d_InvalidEdge_TickError : (C_InvalidEdge == C_TickError) = false)
    (s_InvalidEdges_TickError : PySem.W.subIn K (.ref C_InvalidEdges) (.ref C_TickError) = some true)
    (d_InvalidEdges_TickError : (C_InvalidEdges == C_TickError) = false)
    (s_InvalidLengths_TickError : PySem.W.subIn K (.ref C_InvalidLengths) (.ref C_TickError) = some true)
    (d_InvalidLengths_TickError : (C_InvalidLengths == C_TickError) = false)
    (s_InvalidMarks_TickError : PySem.W.subIn K (.ref C_InvalidMarks) (.ref C_TickError) = some true)
    (d_InvalidMarks_TickError : (C_InvalidMarks == C_TickError) = false)
    (s_InvalidNumber_TickError : PySem.W.subIn K (.ref C_InvalidNumber) (.ref C_TickError) = some true)
    (d_InvalidNumber_TickError : (C_InvalidNumber == C_TickError) = false)
    (s_InvalidQuestion_TickError : PySem.W.subIn K (.ref C_InvalidQuestion) (.ref C_TickError) = some true)
    (d_InvalidQuestion_TickError : (C_InvalidQuestion == C_TickError) = false)
    (s_InvalidRun_TickError : PySem.W.subIn K (.ref C_InvalidRun) (.ref C_TickError) = some true)
    (d_InvalidRun_TickError : (C_InvalidRun == C_TickError) = false)
    (s_InvalidTicks_TickError : PySem.W.subIn K (.ref C_InvalidTicks) (.ref C_TickError) = some true)
    (d_InvalidTicks_TickError : (C_InvalidTicks == C_TickError) = false)
    (s_InvalidTrace_TickError : PySem.W.subIn K (.ref C_InvalidTrace) (.ref C_TickError) = some true)
    (d_InvalidTrace_TickError : (C_InvalidTrace == C_TickError) = false)
    (s_InvalidWaits_TickError : PySem.W.subIn K (.ref C_InvalidWaits) (.ref C_TickError) = some true)
    (d_InvalidWaits_TickError : (C_InvalidWaits == C_TickError) = false)
    (s_NothingToUndo_TickError : PySem.W.subIn K (.ref C_NothingToUndo) (.ref C_TickError) = some true)
    (d_NothingToUndo_TickError : (C_NothingToUndo == C_TickError) = false)
    (s_Undefined_TickError : PySem.W.subIn K (.ref C_Undefined) (.ref C_TickError) = some true)
    (d_Undefined_TickError : (C_Undefined == C_TickError) = false)
    (eB_Undefined : PySem.W.subIn K (.ref C_Undefined) (.type "BaseException") = some true)
    (eT_Undefined : PySem.W.typeIn K (.ref C_Undefined) = some (.type "type"))
    (eI_Undefined : PySem.W.isClsIn K C_Undefined = true)
    (s_InvalidClaim_Undefined : PySem.W.subIn K (.ref C_InvalidClaim) (.ref C_Undefined) = some false)
    (d_InvalidClaim_Undefined : (C_InvalidClaim == C_Undefined) = false)
    (s_InvalidEdge_Undefined : PySem.W.subIn K (.ref C_InvalidEdge) (.ref C_Undefined) = some false)
    (d_InvalidEdge_Undefined : (C_InvalidEdge == C_Undefined) = false)
    (s_InvalidEdges_Undefined : PySem.W.subIn K (.ref C_InvalidEdges) (.ref C_Undefined) = some false)
    (d_InvalidEdges_Undefined : (C_InvalidEdges == C_Undefined) = false)
    (s_InvalidLengths_Undefined : PySem.W.subIn K (.ref C_InvalidLengths) (.ref C_Undefined) = some false)
    (d_InvalidLengths_Undefined : (C_InvalidLengths == C_Undefined) = false)
    (s_InvalidMarks_Undefined : PySem.W.subIn K (.ref C_InvalidMarks) (.ref C_Undefined) = some false)
    (d_InvalidMarks_Undefined : (C_InvalidMarks == C_Undefined) = false)
    (s_InvalidNumber_Undefined : PySem.W.subIn K (.ref C_InvalidNumber) (.ref C_Undefined) = some false)
    (d_InvalidNumber_Undefined : (C_InvalidNumber == C_Undefined) = false)
    (s_InvalidQuestion_Undefined : PySem.W.subIn K (.ref C_InvalidQuestion) (.ref C_Undefined) = some false)
    (d_InvalidQuestion_Undefined : (C_InvalidQuestion == C_Undefined) = false)
    (s_InvalidRun_Undefined : PySem.W.subIn K (.ref C_InvalidRun) (.ref C_Undefined) = some false)
    (d_InvalidRun_Undefined : (C_InvalidRun == C_Undefined) = false)
    (s_InvalidTicks_Undefined : PySem.W.subIn K (.ref C_InvalidTicks) (.ref C_Undefined) = some false)
    (d_InvalidTicks_Undefined : (C_InvalidTicks == C_Undefined) = false)
    (s_InvalidTrace_Undefined : PySem.W.subIn K (.ref C_InvalidTrace) (.ref C_Undefined) = some false)
    (d_InvalidTrace_Undefined : (C_InvalidTrace == C_Undefined) = false)
    (s_InvalidWaits_Undefined : PySem.W.subIn K (.ref C_InvalidWaits) (.ref C_Undefined) = some false)
    (d_InvalidWaits_Undefined : (C_InvalidWaits == C_Undefined) = false)
    (s_NothingToUndo_Undefined : PySem.W.subIn K (.ref C_NothingToUndo) (.ref C_Undefined) = some false)
    (d_NothingToUndo_Undefined : (C_NothingToUndo == C_Undefined) = false)
    (s_Undefined_Undefined : PySem.W.subIn K (.ref C_Undefined) (.ref C_Undefined) = some true)
    (ehn : PySem.W.specialIn K (.builtin "object.__class__") "__get__" = some (some (.builtin "getset_descriptor.__get__")))
    (ehtk : PySem.W.takesIn K (.builtin "object.__class__") = some true)
    (eca_InvalidClaim : PySem.W.findIn K (.ref C_InvalidClaim) "__class__" = some (some (.builtin "object.__class__")))
    (ehm_InvalidClaim : PySem.W.mroIn K C_InvalidClaim (.type "object") = some true)
    (eca_InvalidEdge : PySem.W.findIn K (.ref C_InvalidEdge) "__class__" = some (some (.builtin "object.__class__")))
    (ehm_InvalidEdge : PySem.W.mroIn K C_InvalidEdge (.type "object") = some true)
    (eca_InvalidEdges : PySem.W.findIn K (.ref C_InvalidEdges) "__class__" = some (some (.builtin "object.__class__")))
    (ehm_InvalidEdges : PySem.W.mroIn K C_InvalidEdges (.type "object") = some true)
    (eca_InvalidLengths : PySem.W.findIn K (.ref C_InvalidLengths) "__class__" = some (some (.builtin "object.__class__")))
    (ehm_InvalidLengths : PySem.W.mroIn K C_InvalidLengths (.type "object") = some true)
    (eca_InvalidMarks : PySem.W.findIn K (.ref C_InvalidMarks) "__class__" = some (some (.builtin "object.__class__")))
    (ehm_InvalidMarks : PySem.W.mroIn K C_InvalidMarks (.type "object") = some true)
    (eca_InvalidNumber : PySem.W.findIn K (.ref C_InvalidNumber) "__class__" = some (some (.builtin "object.__class__")))
    (ehm_InvalidNumber : PySem.W.mroIn K C_InvalidNumber (.type "object") = some true)
    (eca_InvalidQuestion : PySem.W.findIn K (.ref C_InvalidQuestion) "__class__" = some (some (.builtin "object.__class__")))
    (ehm_InvalidQuestion : PySem.W.mroIn K C_InvalidQuestion (.type "object") = some true)
    (eca_InvalidRun : PySem.W.findIn K (.ref C_InvalidRun) "__class__" = some (some (.builtin "object.__class__")))
    (ehm_InvalidRun : PySem.W.mroIn K C_InvalidRun (.type "object") = some true)
    (eca_InvalidTicks : PySem.W.findIn K (.ref C_InvalidTicks) "__class__" = some (some (.builtin "object.__class__")))
    (ehm_InvalidTicks : PySem.W.mroIn K C_InvalidTicks (.type "object") = some true)
    (eca_InvalidTrace : PySem.W.findIn K (.ref C_InvalidTrace) "__class__" = some (some (.builtin "object.__class__")))
    (ehm_InvalidTrace : PySem.W.mroIn K C_InvalidTrace (.type "object") = some true)
    (eca_InvalidWaits : PySem.W.findIn K (.ref C_InvalidWaits) "__class__" = some (some (.builtin "object.__class__")))
    (ehm_InvalidWaits : PySem.W.mroIn K C_InvalidWaits (.type "object") = some true)
    (eca_NothingToUndo : PySem.W.findIn K (.ref C_NothingToUndo) "__class__" = some (some (.builtin "object.__class__")))
    (ehm_NothingToUndo : PySem.W.mroIn K C_NothingToUndo (.type "object") = some true)
    (eca_Undefined : PySem.W.findIn K (.ref C_Undefined) "__class__" = some (some (.builtin "object.__class__")))
    (ehm_Undefined : PySem.W.mroIn K C_Undefined (.type "object") = some true) :
    ∃ fd : FuncData, (∀ (s : Shared) (v : Value), BindsTo s fd ⟨[v], []⟩ [("script", v)]) ∧ ∀ base : Heap, K.In base → base.Ns mainGlobals mg → FnOk l.prog w K mg base (L2.CX l.prog w) 7 fa fd ["script"] (spD ⟨mg, K⟩ F_law) := by
  have e := hfa.symm.trans (PySem.W.mg_of X G a12)
  cases e
  have x_InvalidClaim' : ErrTxt l.prog K mg "InvalidClaim" "value" := by
    obtain ⟨m, p1, p2, q1, q2, q3, q4, q5, q6, r1, r2, r3, r4, j, t1, t2, t3, t4⟩ := tx_InvalidClaim
    rw [t1, t2, t3] at el_InvalidClaim
    exact ⟨⟨C_InvalidClaim, e_InvalidClaim, PySem.W.mg_of X G a_InvalidClaim, { cls := ⟨_, _, _, _, _, _, _, _, _, _, _, _, _, _, _, x_InvalidClaim, rv_InvalidClaim⟩, sa := esa_InvalidClaim, ga := ega_InvalidClaim, gg := egg_InvalidClaim, noN := eno_InvalidClaim, iC := ei_InvalidClaim, tC := et_InvalidClaim, kC := ekC_InvalidClaim, exC := eB_InvalidClaim, tyC := eT_InvalidClaim, hdC := ehd_InvalidClaim, te := exm_two eB_InvalidClaim eI_InvalidClaim eT_InvalidClaim s_InvalidClaim_InvalidClaim, sup := esup_InvalidClaim, sv := esv_InvalidClaim, op := opq, sub := emr_InvalidClaim, nsup := PySem.W.mg_none_of X G nsup, top := top_, fn := ⟨_, _, _, _, _, _, _, _, _, _, _, _, _, _, _, _, _, _, _, _, _, _, _, _, _, _, _, _, _, _, _, _, _, el_InvalidClaim, eco_InvalidClaim, ecd_InvalidClaim, ev2_InvalidClaim, efi_InvalidClaim, t4, ecc_InvalidClaim⟩ }⟩, plain_value, by decide +kernel⟩
  have x_InvalidEdge' : ErrTxt l.prog K mg "InvalidEdge" "value" := by
    obtain ⟨m, p1, p2, q1, q2, q3, q4, q5, q6, r1, r2, r3, r4, j, t1, t2, t3, t4⟩ := tx_InvalidEdge
    rw [t1, t2, t3] at el_InvalidEdge
    exact ⟨⟨C_InvalidEdge, e_InvalidEdge, PySem.W.mg_of X G a_InvalidEdge, { cls := ⟨_, _, _, _, _, _, _, _, _, _, _, _, _, _, _, x_InvalidEdge, rv_InvalidEdge⟩, sa := esa_InvalidEdge, ga := ega_InvalidEdge, gg := egg_InvalidEdge, noN := eno_InvalidEdge, iC := ei_InvalidEdge, tC := et_InvalidEdge, kC := ekC_InvalidEdge, exC := eB_InvalidEdge, tyC := eT_InvalidEdge, hdC := ehd_InvalidEdge, te := exm_two eB_InvalidEdge eI_InvalidEdge eT_InvalidEdge s_InvalidEdge_InvalidEdge, sup := esup_InvalidEdge, sv := esv_InvalidEdge, op := opq, sub := emr_InvalidEdge, nsup := PySem.W.mg_none_of X G nsup, top := top_, fn := ⟨_, _, _, _, _, _, _, _, _, _, _, _, _, _, _, _, _, _, _, _, _, _, _, _, _, _, _, _, _, _, _, _, _, el_InvalidEdge, eco_InvalidEdge, ecd_InvalidEdge, ev2_InvalidEdge, efi_InvalidEdge, t4, ecc_InvalidEdge⟩ }⟩, plain_value, by decide +kernel⟩
  have x_InvalidEdges' : ErrTxt l.prog K mg "InvalidEdges" "value" := by
    obtain ⟨m, p1, p2, q1, q2, q3, q4, q5, q6, r1, r2, r3, r4, j, t1, t2, t3, t4⟩ := tx_InvalidEdges
    rw [t1, t2, t3] at el_InvalidEdges
    exact ⟨⟨C_InvalidEdges, e_InvalidEdges, PySem.W.mg_of X G a_InvalidEdges, { cls := ⟨_, _, _, _, _, _, _, _, _, _, _, _, _, _, _, x_InvalidEdges, rv_InvalidEdges⟩, sa := esa_InvalidEdges, ga := ega_InvalidEdges, gg := egg_InvalidEdges, noN := eno_InvalidEdges, iC := ei_InvalidEdges, tC := et_InvalidEdges, kC := ekC_InvalidEdges, exC := eB_InvalidEdges, tyC := eT_InvalidEdges, hdC := ehd_InvalidEdges, te := exm_two eB_InvalidEdges eI_InvalidEdges eT_InvalidEdges s_InvalidEdges_InvalidEdges, sup := esup_InvalidEdges, sv := esv_InvalidEdges, op := opq, sub := emr_InvalidEdges, nsup := PySem.W.mg_none_of X G nsup, top := top_, fn := ⟨_, _, _, _, _, _, _, _, _, _, _, _, _, _, _, _, _, _, _, _, _, _, _, _, _, _, _, _, _, _, _, _, _, el_InvalidEdges, eco_InvalidEdges, ecd_InvalidEdges, ev2_InvalidEdges, efi_InvalidEdges, t4, ecc_InvalidEdges⟩ }⟩, plain_value, by decide +kernel⟩
  have x_InvalidLengths' : ErrTxt l.prog K mg "InvalidLengths" "value" := by
    obtain ⟨m, p1, p2, q1, q2, q3, q4, q5, q6, r1, r2, r3, r4, j, t1, t2, t3, t4⟩ := tx_InvalidLengths
    rw [t1, t2, t3] at el_InvalidLengths
    exact ⟨⟨C_InvalidLengths, e_InvalidLengths, PySem.W.mg_of X G a_InvalidLengths, { cls := ⟨_, _, _, _, _, _, _, _, _, _, _, _, _, _, _, x_InvalidLengths, rv_InvalidLengths⟩, sa := esa_InvalidLengths, ga := ega_InvalidLengths, gg := egg_InvalidLengths, noN := eno_InvalidLengths, iC := ei_InvalidLengths, tC := et_InvalidLengths, kC := ekC_InvalidLengths, exC := eB_InvalidLengths, tyC := eT_InvalidLengths, hdC := ehd_InvalidLengths, te := exm_two eB_InvalidLengths eI_InvalidLengths eT_InvalidLengths s_InvalidLengths_InvalidLengths, sup := esup_InvalidLengths, sv := esv_InvalidLengths, op := opq, sub := emr_InvalidLengths, nsup := PySem.W.mg_none_of X G nsup, top := top_, fn := ⟨_, _, _, _, _, _, _, _, _, _, _, _, _, _, _, _, _, _, _, _, _, _, _, _, _, _, _, _, _, _, _, _, _, el_InvalidLengths, eco_InvalidLengths, ecd_InvalidLengths, ev2_InvalidLengths, efi_InvalidLengths, t4, ecc_InvalidLengths⟩ }⟩, plain_value, by decide +kernel⟩
  have x_InvalidMarks' : ErrTxt l.prog K mg "InvalidMarks" "value" := by
    obtain ⟨m, p1, p2, q1, q2, q3, q4, q5, q6, r1, r2, r3, r4, j, t1, t2, t3, t4⟩ := tx_InvalidMarks
    rw [t1, t2, t3] at el_InvalidMarks
    exact ⟨⟨C_InvalidMarks, e_InvalidMarks, PySem.W.mg_of X G a_InvalidMarks, { cls := ⟨_, _, _, _, _, _, _, _, _, _, _, _, _, _, _, x_InvalidMarks, rv_InvalidMarks⟩, sa := esa_InvalidMarks, ga := ega_InvalidMarks, gg := egg_InvalidMarks, noN := eno_InvalidMarks, iC := ei_InvalidMarks, tC := et_InvalidMarks, kC := ekC_InvalidMarks, exC := eB_InvalidMarks, tyC := eT_InvalidMarks, hdC := ehd_InvalidMarks, te := exm_two eB_InvalidMarks eI_InvalidMarks eT_InvalidMarks s_InvalidMarks_InvalidMarks, sup := esup_InvalidMarks, sv := esv_InvalidMarks, op := opq, sub := emr_InvalidMarks, nsup := PySem.W.mg_none_of X G nsup, top := top_, fn := ⟨_, _, _, _, _, _, _, _, _, _, _, _, _, _, _, _, _, _, _, _, _, _, _, _, _, _, _, _, _, _, _, _, _, el_InvalidMarks, eco_InvalidMarks, ecd_InvalidMarks, ev2_InvalidMarks, efi_InvalidMarks, t4, ecc_InvalidMarks⟩ }⟩, plain_value, by decide +kernel⟩
  have x_InvalidNumber' : ErrTxt l.prog K mg "InvalidNumber" "value" := by
    obtain ⟨m, p1, p2, q1, q2, q3, q4, q5, q6, r1, r2, r3, r4, j, t1, t2, t3, t4⟩ := tx_InvalidNumber
    rw [t1, t2, t3] at el_InvalidNumber
    exact ⟨⟨C_InvalidNumber, e_InvalidNumber, PySem.W.mg_of X G a_InvalidNumber, { cls := ⟨_, _, _, _, _, _, _, _, _, _, _, _, _, _, _, x_InvalidNumber, rv_InvalidNumber⟩, sa := esa_InvalidNumber, ga := ega_InvalidNumber, gg := egg_InvalidNumber, noN := eno_InvalidNumber, iC := ei_InvalidNumber, tC := et_InvalidNumber, kC := ekC_InvalidNumber, exC := eB_InvalidNumber, tyC := eT_InvalidNumber, hdC := ehd_InvalidNumber, te := exm_two eB_InvalidNumber eI_InvalidNumber eT_InvalidNumber s_InvalidNumber_InvalidNumber, sup := esup_InvalidNumber, sv := esv_InvalidNumber, op := opq, sub := emr_InvalidNumber, nsup := PySem.W.mg_none_of X G nsup, top := top_, fn := ⟨_, _, _, _, _, _, _, _, _, _, _, _, _, _, _, _, _, _, _, _, _, _, _, _, _, _, _, _, _, _, _, _, _, el_InvalidNumber, eco_InvalidNumber, ecd_InvalidNumber, ev2_InvalidNumber, efi_InvalidNumber, t4, ecc_InvalidNumber⟩ }⟩, plain_value, by decide +kernel⟩
  have x_InvalidQuestion' : ErrTxt l.prog K mg "InvalidQuestion" "value" := by
    obtain ⟨m, p1, p2, q1, q2, q3, q4, q5, q6, r1, r2, r3, r4, j, t1, t2, t3, t4⟩ := tx_InvalidQuestion
    rw [t1, t2, t3] at el_InvalidQuestion
    exact ⟨⟨C_InvalidQuestion, e_InvalidQuestion, PySem.W.mg_of X G a_InvalidQuestion, { cls := ⟨_, _, _, _, _, _, _, _, _, _, _, _, _, _, _, x_InvalidQuestion, rv_InvalidQuestion⟩, sa := esa_InvalidQuestion, ga := ega_InvalidQuestion, gg := egg_InvalidQuestion, noN := eno_InvalidQuestion, iC := ei_InvalidQuestion, tC := et_InvalidQuestion, kC := ekC_InvalidQuestion, exC := eB_InvalidQuestion, tyC := eT_InvalidQuestion, hdC := ehd_InvalidQuestion, te := exm_two eB_InvalidQuestion eI_InvalidQuestion eT_InvalidQuestion s_InvalidQuestion_InvalidQuestion, sup := esup_InvalidQuestion, sv := esv_InvalidQuestion, op := opq, sub := emr_InvalidQuestion, nsup := PySem.W.mg_none_of X G nsup, top := top_, fn := ⟨_, _, _, _, _, _, _, _, _, _, _, _, _, _, _, _, _, _, _, _, _, _, _, _, _, _, _, _, _, _, _, _, _, el_InvalidQuestion, eco_InvalidQuestion, ecd_InvalidQuestion, ev2_InvalidQuestion, efi_InvalidQuestion, t4, ecc_InvalidQuestion⟩ }⟩, plain_value, by decide +kernel⟩
  have x_InvalidRun' : ErrTxt l.prog K mg "InvalidRun" "value" := by
    obtain ⟨m, p1, p2, q1, q2, q3, q4, q5, q6, r1, r2, r3, r4, j, t1, t2, t3, t4⟩ := tx_InvalidRun
    rw [t1, t2, t3] at el_InvalidRun
    exact ⟨⟨C_InvalidRun, e_InvalidRun, PySem.W.mg_of X G a_InvalidRun, { cls := ⟨_, _, _, _, _, _, _, _, _, _, _, _, _, _, _, x_InvalidRun, rv_InvalidRun⟩, sa := esa_InvalidRun, ga := ega_InvalidRun, gg := egg_InvalidRun, noN := eno_InvalidRun, iC := ei_InvalidRun, tC := et_InvalidRun, kC := ekC_InvalidRun, exC := eB_InvalidRun, tyC := eT_InvalidRun, hdC := ehd_InvalidRun, te := exm_two eB_InvalidRun eI_InvalidRun eT_InvalidRun s_InvalidRun_InvalidRun, sup := esup_InvalidRun, sv := esv_InvalidRun, op := opq, sub := emr_InvalidRun, nsup := PySem.W.mg_none_of X G nsup, top := top_, fn := ⟨_, _, _, _, _, _, _, _, _, _, _, _, _, _, _, _, _, _, _, _, _, _, _, _, _, _, _, _, _, _, _, _, _, el_InvalidRun, eco_InvalidRun, ecd_InvalidRun, ev2_InvalidRun, efi_InvalidRun, t4, ecc_InvalidRun⟩ }⟩, plain_value, by decide +kernel⟩
  have x_InvalidTicks' : ErrTxt l.prog K mg "InvalidTicks" "value" := by
    obtain ⟨m, p1, p2, q1, q2, q3, q4, q5, q6, r1, r2, r3, r4, j, t1, t2, t3, t4⟩ := tx_InvalidTicks
    rw [t1, t2, t3] at el_InvalidTicks
    exact ⟨⟨C_InvalidTicks, e_InvalidTicks, PySem.W.mg_of X G a_InvalidTicks, { cls := ⟨_, _, _, _, _, _, _, _, _, _, _, _, _, _, _, x_InvalidTicks, rv_InvalidTicks⟩, sa := esa_InvalidTicks, ga := ega_InvalidTicks, gg := egg_InvalidTicks, noN := eno_InvalidTicks, iC := ei_InvalidTicks, tC := et_InvalidTicks, kC := ekC_InvalidTicks, exC := eB_InvalidTicks, tyC := eT_InvalidTicks, hdC := ehd_InvalidTicks, te := exm_two eB_InvalidTicks eI_InvalidTicks eT_InvalidTicks s_InvalidTicks_InvalidTicks, sup := esup_InvalidTicks, sv := esv_InvalidTicks, op := opq, sub := emr_InvalidTicks, nsup := PySem.W.mg_none_of X G nsup, top := top_, fn := ⟨_, _, _, _, _, _, _, _, _, _, _, _, _, _, _, _, _, _, _, _, _, _, _, _, _, _, _, _, _, _, _, _, _, el_InvalidTicks, eco_InvalidTicks, ecd_InvalidTicks, ev2_InvalidTicks, efi_InvalidTicks, t4, ecc_InvalidTicks⟩ }⟩, plain_value, by decide +kernel⟩
  have x_InvalidTrace' : ErrTxt l.prog K mg "InvalidTrace" "value" := by
    obtain ⟨m, p1, p2, q1, q2, q3, q4, q5, q6, r1, r2, r3, r4, j, t1, t2, t3, t4⟩ := tx_InvalidTrace
    rw [t1, t2, t3] at el_InvalidTrace
    exact ⟨⟨C_InvalidTrace, e_InvalidTrace, PySem.W.mg_of X G a_InvalidTrace, { cls := ⟨_, _, _, _, _, _, _, _, _, _, _, _, _, _, _, x_InvalidTrace, rv_InvalidTrace⟩, sa := esa_InvalidTrace, ga := ega_InvalidTrace, gg := egg_InvalidTrace, noN := eno_InvalidTrace, iC := ei_InvalidTrace, tC := et_InvalidTrace, kC := ekC_InvalidTrace, exC := eB_InvalidTrace, tyC := eT_InvalidTrace, hdC := ehd_InvalidTrace, te := exm_two eB_InvalidTrace eI_InvalidTrace eT_InvalidTrace s_InvalidTrace_InvalidTrace, sup := esup_InvalidTrace, sv := esv_InvalidTrace, op := opq, sub := emr_InvalidTrace, nsup := PySem.W.mg_none_of X G nsup, top := top_, fn := ⟨_, _, _, _, _, _, _, _, _, _, _, _, _, _, _, _, _, _, _, _, _, _, _, _, _, _, _, _, _, _, _, _, _, el_InvalidTrace, eco_InvalidTrace, ecd_InvalidTrace, ev2_InvalidTrace, efi_InvalidTrace, t4, ecc_InvalidTrace⟩ }⟩, plain_value, by decide +kernel⟩
  have x_InvalidWaits' : ErrTxt l.prog K mg "InvalidWaits" "value" := by
    obtain ⟨m, p1, p2, q1, q2, q3, q4, q5, q6, r1, r2, r3, r4, j, t1, t2, t3, t4⟩ := tx_InvalidWaits
    rw [t1, t2, t3] at el_InvalidWaits
    exact ⟨⟨C_InvalidWaits, e_InvalidWaits, PySem.W.mg_of X G a_InvalidWaits, { cls := ⟨_, _, _, _, _, _, _, _, _, _, _, _, _, _, _, x_InvalidWaits, rv_InvalidWaits⟩, sa := esa_InvalidWaits, ga := ega_InvalidWaits, gg := egg_InvalidWaits, noN := eno_InvalidWaits, iC := ei_InvalidWaits, tC := et_InvalidWaits, kC := ekC_InvalidWaits, exC := eB_InvalidWaits, tyC := eT_InvalidWaits, hdC := ehd_InvalidWaits, te := exm_two eB_InvalidWaits eI_InvalidWaits eT_InvalidWaits s_InvalidWaits_InvalidWaits, sup := esup_InvalidWaits, sv := esv_InvalidWaits, op := opq, sub := emr_InvalidWaits, nsup := PySem.W.mg_none_of X G nsup, top := top_, fn := ⟨_, _, _, _, _, _, _, _, _, _, _, _, _, _, _, _, _, _, _, _, _, _, _, _, _, _, _, _, _, _, _, _, _, el_InvalidWaits, eco_InvalidWaits, ecd_InvalidWaits, ev2_InvalidWaits, efi_InvalidWaits, t4, ecc_InvalidWaits⟩ }⟩, plain_value, by decide +kernel⟩
  have x_NothingToUndo' : ErrTxt l.prog K mg "NothingToUndo" "word" := by
    obtain ⟨m, p1, p2, q1, q2, q3, q4, q5, q6, r1, r2, r3, r4, j, t1, t2, t3, t4⟩ := tx_NothingToUndo
    rw [t1, t2, t3] at el_NothingToUndo
    exact ⟨⟨C_NothingToUndo, e_NothingToUndo, PySem.W.mg_of X G a_NothingToUndo, { cls := ⟨_, _, _, _, _, _, _, _, _, _, _, _, _, _, _, x_NothingToUndo, rv_NothingToUndo⟩, sa := esa_NothingToUndo, ga := ega_NothingToUndo, gg := egg_NothingToUndo, noN := eno_NothingToUndo, iC := ei_NothingToUndo, tC := et_NothingToUndo, kC := ekC_NothingToUndo, exC := eB_NothingToUndo, tyC := eT_NothingToUndo, hdC := ehd_NothingToUndo, te := exm_two eB_NothingToUndo eI_NothingToUndo eT_NothingToUndo s_NothingToUndo_NothingToUndo, sup := esup_NothingToUndo, sv := esv_NothingToUndo, op := opq, sub := emr_NothingToUndo, nsup := PySem.W.mg_none_of X G nsup, top := top_, fn := ⟨_, _, _, _, _, _, _, _, _, _, _, _, _, _, _, _, _, _, _, _, _, _, _, _, _, _, _, _, _, _, _, _, _, el_NothingToUndo, eco_NothingToUndo, ecd_NothingToUndo, ev2_NothingToUndo, efi_NothingToUndo, t4, ecc_NothingToUndo⟩ }⟩, plain_word, by decide +kernel⟩
  have x_Undefined' : ErrTxt l.prog K mg "Undefined" "what" := by
    obtain ⟨m, p1, p2, q1, q2, q3, q4, q5, q6, r1, r2, r3, r4, j, t1, t2, t3, t4⟩ := tx_Undefined
    rw [t1, t2, t3] at el_Undefined
    exact ⟨⟨C_Undefined, e_Undefined, PySem.W.mg_of X G a_Undefined, { cls := ⟨_, _, _, _, _, _, _, _, _, _, _, _, _, _, _, x_Undefined, rv_Undefined⟩, sa := esa_Undefined, ga := ega_Undefined, gg := egg_Undefined, noN := eno_Undefined, iC := ei_Undefined, tC := et_Undefined, kC := ekC_Undefined, exC := eB_Undefined, tyC := eT_Undefined, hdC := ehd_Undefined, te := exm_two eB_Undefined eI_Undefined eT_Undefined s_Undefined_Undefined, sup := esup_Undefined, sv := esv_Undefined, op := opq, sub := emr_Undefined, nsup := PySem.W.mg_none_of X G nsup, top := top_, fn := ⟨_, _, _, _, _, _, _, _, _, _, _, _, _, _, _, _, _, _, _, _, _, _, _, _, _, _, _, _, _, _, _, _, _, el_Undefined, eco_Undefined, ecd_Undefined, ev2_Undefined, efi_Undefined, t4, ecc_Undefined⟩ }⟩, plain_what, by decide +kernel⟩
  have ise_InvalidClaim : IsE K C_InvalidClaim := ⟨eI_InvalidClaim, ega_InvalidClaim, egg_InvalidClaim, eB_InvalidClaim, eca_InvalidClaim, ehn, ehtk, ehm_InvalidClaim⟩
  have ise_InvalidEdge : IsE K C_InvalidEdge := ⟨eI_InvalidEdge, ega_InvalidEdge, egg_InvalidEdge, eB_InvalidEdge, eca_InvalidEdge, ehn, ehtk, ehm_InvalidEdge⟩
  have ise_InvalidEdges : IsE K C_InvalidEdges := ⟨eI_InvalidEdges, ega_InvalidEdges, egg_InvalidEdges, eB_InvalidEdges, eca_InvalidEdges, ehn, ehtk, ehm_InvalidEdges⟩
  have ise_InvalidLengths : IsE K C_InvalidLengths := ⟨eI_InvalidLengths, ega_InvalidLengths, egg_InvalidLengths, eB_InvalidLengths, eca_InvalidLengths, ehn, ehtk, ehm_InvalidLengths⟩
  have ise_InvalidMarks : IsE K C_InvalidMarks := ⟨eI_InvalidMarks, ega_InvalidMarks, egg_InvalidMarks, eB_InvalidMarks, eca_InvalidMarks, ehn, ehtk, ehm_InvalidMarks⟩
  have ise_InvalidNumber : IsE K C_InvalidNumber := ⟨eI_InvalidNumber, ega_InvalidNumber, egg_InvalidNumber, eB_InvalidNumber, eca_InvalidNumber, ehn, ehtk, ehm_InvalidNumber⟩
  have ise_InvalidQuestion : IsE K C_InvalidQuestion := ⟨eI_InvalidQuestion, ega_InvalidQuestion, egg_InvalidQuestion, eB_InvalidQuestion, eca_InvalidQuestion, ehn, ehtk, ehm_InvalidQuestion⟩
  have ise_InvalidRun : IsE K C_InvalidRun := ⟨eI_InvalidRun, ega_InvalidRun, egg_InvalidRun, eB_InvalidRun, eca_InvalidRun, ehn, ehtk, ehm_InvalidRun⟩
  have ise_InvalidTicks : IsE K C_InvalidTicks := ⟨eI_InvalidTicks, ega_InvalidTicks, egg_InvalidTicks, eB_InvalidTicks, eca_InvalidTicks, ehn, ehtk, ehm_InvalidTicks⟩
  have ise_InvalidTrace : IsE K C_InvalidTrace := ⟨eI_InvalidTrace, ega_InvalidTrace, egg_InvalidTrace, eB_InvalidTrace, eca_InvalidTrace, ehn, ehtk, ehm_InvalidTrace⟩
  have ise_InvalidWaits : IsE K C_InvalidWaits := ⟨eI_InvalidWaits, ega_InvalidWaits, egg_InvalidWaits, eB_InvalidWaits, eca_InvalidWaits, ehn, ehtk, ehm_InvalidWaits⟩
  have ise_NothingToUndo : IsE K C_NothingToUndo := ⟨eI_NothingToUndo, ega_NothingToUndo, egg_NothingToUndo, eB_NothingToUndo, eca_NothingToUndo, ehn, ehtk, ehm_NothingToUndo⟩
  have ise_Undefined : IsE K C_Undefined := ⟨eI_Undefined, ega_Undefined, egg_Undefined, eB_Undefined, eca_Undefined, ehn, ehtk, ehm_Undefined⟩
  have ie_InvalidClaim' : IsEs K mg ECs_all (.ref C_InvalidClaim) sub_InvalidClaim := ⟨fun y hy C hm => by
    have hy : y ∈ ECs_all := by simpa using hy
    simp only [ECs_all, List.mem_cons, List.not_mem_nil, or_false] at hy
    rcases hy with rfl | rfl | rfl | rfl | rfl | rfl | rfl | rfl | rfl | rfl | rfl | rfl | rfl
    · have e := hm.symm.trans (PySem.W.mg_of X G a_InvalidClaim)
      cases e
      exact ⟨ise_InvalidClaim, (kit_self).trans (congrArg some (by decide +kernel))⟩
    · have e := hm.symm.trans (PySem.W.mg_of X G a_InvalidEdge)
      cases e
      exact ⟨ise_InvalidEdge, (kit_ref eI_InvalidClaim eT_InvalidClaim s_InvalidEdge_InvalidClaim d_InvalidEdge_InvalidClaim).trans (congrArg some (by decide +kernel))⟩
    · have e := hm.symm.trans (PySem.W.mg_of X G a_InvalidEdges)
      cases e
      exact ⟨ise_InvalidEdges, (kit_ref eI_InvalidClaim eT_InvalidClaim s_InvalidEdges_InvalidClaim d_InvalidEdges_InvalidClaim).trans (congrArg some (by decide +kernel))⟩
    · have e := hm.symm.trans (PySem.W.mg_of X G a_InvalidLengths)
      cases e
      exact ⟨ise_InvalidLengths, (kit_ref eI_InvalidClaim eT_InvalidClaim s_InvalidLengths_InvalidClaim d_InvalidLengths_InvalidClaim).trans (congrArg some (by decide +kernel))⟩
    · have e := hm.symm.trans (PySem.W.mg_of X G a_InvalidMarks)
      cases e
      exact ⟨ise_InvalidMarks, (kit_ref eI_InvalidClaim eT_InvalidClaim s_InvalidMarks_InvalidClaim d_InvalidMarks_InvalidClaim).trans (congrArg some (by decide +kernel))⟩
    · have e := hm.symm.trans (PySem.W.mg_of X G a_InvalidNumber)
      cases e
      exact ⟨ise_InvalidNumber, (kit_ref eI_InvalidClaim eT_InvalidClaim s_InvalidNumber_InvalidClaim d_InvalidNumber_InvalidClaim).trans (congrArg some (by decide +kernel))⟩
    · have e := hm.symm.trans (PySem.W.mg_of X G a_InvalidQuestion)
      cases e
      exact ⟨ise_InvalidQuestion, (kit_ref eI_InvalidClaim eT_InvalidClaim s_InvalidQuestion_InvalidClaim d_InvalidQuestion_InvalidClaim).trans (congrArg some (by decide +kernel))⟩
    · have e := hm.symm.trans (PySem.W.mg_of X G a_InvalidRun)
      cases e
      exact ⟨ise_InvalidRun, (kit_ref eI_InvalidClaim eT_InvalidClaim s_InvalidRun_InvalidClaim d_InvalidRun_InvalidClaim).trans (congrArg some (by decide +kernel))⟩
    · have e := hm.symm.trans (PySem.W.mg_of X G a_InvalidTicks)
      cases e
      exact ⟨ise_InvalidTicks, (kit_ref eI_InvalidClaim eT_InvalidClaim s_InvalidTicks_InvalidClaim d_InvalidTicks_InvalidClaim).trans (congrArg some (by decide +kernel))⟩
    · have e := hm.symm.trans (PySem.W.mg_of X G a_InvalidTrace)
      cases e
      exact ⟨ise_InvalidTrace, (kit_ref eI_InvalidClaim eT_InvalidClaim s_InvalidTrace_InvalidClaim d_InvalidTrace_InvalidClaim).trans (congrArg some (by decide +kernel))⟩
    · have e := hm.symm.trans (PySem.W.mg_of X G a_InvalidWaits)
      cases e
      exact ⟨ise_InvalidWaits, (kit_ref eI_InvalidClaim eT_InvalidClaim s_InvalidWaits_InvalidClaim d_InvalidWaits_InvalidClaim).trans (congrArg some (by decide +kernel))⟩
    · have e := hm.symm.trans (PySem.W.mg_of X G a_NothingToUndo)
      cases e
      exact ⟨ise_NothingToUndo, (kit_ref eI_InvalidClaim eT_InvalidClaim s_NothingToUndo_InvalidClaim d_NothingToUndo_InvalidClaim).trans (congrArg some (by decide +kernel))⟩
    · have e := hm.symm.trans (PySem.W.mg_of X G a_Undefined)
      cases e
      exact ⟨ise_Undefined, (kit_ref eI_InvalidClaim eT_InvalidClaim s_Undefined_InvalidClaim d_Undefined_InvalidClaim).trans (congrArg some (by decide +kernel))⟩⟩
  have ie_InvalidEdge' : IsEs K mg ECs_all (.ref C_InvalidEdge) sub_InvalidEdge := ⟨fun y hy C hm => by
    have hy : y ∈ ECs_all := by simpa using hy
    simp only [ECs_all, List.mem_cons, List.not_mem_nil, or_false] at hy
    rcases hy with rfl | rfl | rfl | rfl | rfl | rfl | rfl | rfl | rfl | rfl | rfl | rfl | rfl
    · have e := hm.symm.trans (PySem.W.mg_of X G a_InvalidClaim)
      cases e
      exact ⟨ise_InvalidClaim, (kit_ref eI_InvalidEdge eT_InvalidEdge s_InvalidClaim_InvalidEdge d_InvalidClaim_InvalidEdge).trans (congrArg some (by decide +kernel))⟩
    · have e := hm.symm.trans (PySem.W.mg_of X G a_InvalidEdge)
      cases e
      exact ⟨ise_InvalidEdge, (kit_self).trans (congrArg some (by decide +kernel))⟩
    · have e := hm.symm.trans (PySem.W.mg_of X G a_InvalidEdges)
      cases e
      exact ⟨ise_InvalidEdges, (kit_ref eI_InvalidEdge eT_InvalidEdge s_InvalidEdges_InvalidEdge d_InvalidEdges_InvalidEdge).trans (congrArg some (by decide +kernel))⟩
    · have e := hm.symm.trans (PySem.W.mg_of X G a_InvalidLengths)
      cases e
      exact ⟨ise_InvalidLengths, (kit_ref eI_InvalidEdge eT_InvalidEdge s_InvalidLengths_InvalidEdge d_InvalidLengths_InvalidEdge).trans (congrArg some (by decide +kernel))⟩
    · have e := hm.symm.trans (PySem.W.mg_of X G a_InvalidMarks)
      cases e
      exact ⟨ise_InvalidMarks, (kit_ref eI_InvalidEdge eT_InvalidEdge s_InvalidMarks_InvalidEdge d_InvalidMarks_InvalidEdge).trans (congrArg some (by decide +kernel))⟩
    · have e := hm.symm.trans (PySem.W.mg_of X G a_InvalidNumber)
      cases e
      exact ⟨ise_InvalidNumber, (kit_ref eI_InvalidEdge eT_InvalidEdge s_InvalidNumber_InvalidEdge d_InvalidNumber_InvalidEdge).trans (congrArg some (by decide +kernel))⟩
    · have e := hm.symm.trans (PySem.W.mg_of X G a_InvalidQuestion)
      cases e
      exact ⟨ise_InvalidQuestion, (kit_ref eI_InvalidEdge eT_InvalidEdge s_InvalidQuestion_InvalidEdge d_InvalidQuestion_InvalidEdge).trans (congrArg some (by decide +kernel))⟩
    · have e := hm.symm.trans (PySem.W.mg_of X G a_InvalidRun)
      cases e
      exact ⟨ise_InvalidRun, (kit_ref eI_InvalidEdge eT_InvalidEdge s_InvalidRun_InvalidEdge d_InvalidRun_InvalidEdge).trans (congrArg some (by decide +kernel))⟩
    · have e := hm.symm.trans (PySem.W.mg_of X G a_InvalidTicks)
      cases e
      exact ⟨ise_InvalidTicks, (kit_ref eI_InvalidEdge eT_InvalidEdge s_InvalidTicks_InvalidEdge d_InvalidTicks_InvalidEdge).trans (congrArg some (by decide +kernel))⟩
    · have e := hm.symm.trans (PySem.W.mg_of X G a_InvalidTrace)
      cases e
      exact ⟨ise_InvalidTrace, (kit_ref eI_InvalidEdge eT_InvalidEdge s_InvalidTrace_InvalidEdge d_InvalidTrace_InvalidEdge).trans (congrArg some (by decide +kernel))⟩
    · have e := hm.symm.trans (PySem.W.mg_of X G a_InvalidWaits)
      cases e
      exact ⟨ise_InvalidWaits, (kit_ref eI_InvalidEdge eT_InvalidEdge s_InvalidWaits_InvalidEdge d_InvalidWaits_InvalidEdge).trans (congrArg some (by decide +kernel))⟩
    · have e := hm.symm.trans (PySem.W.mg_of X G a_NothingToUndo)
      cases e
      exact ⟨ise_NothingToUndo, (kit_ref eI_InvalidEdge eT_InvalidEdge s_NothingToUndo_InvalidEdge d_NothingToUndo_InvalidEdge).trans (congrArg some (by decide +kernel))⟩
    · have e := hm.symm.trans (PySem.W.mg_of X G a_Undefined)
      cases e
      exact ⟨ise_Undefined, (kit_ref eI_InvalidEdge eT_InvalidEdge s_Undefined_InvalidEdge d_Undefined_InvalidEdge).trans (congrArg some (by decide +kernel))⟩⟩
  have ie_InvalidEdges' : IsEs K mg ECs_all (.ref C_InvalidEdges) sub_InvalidEdges := ⟨fun y hy C hm => by
    have hy : y ∈ ECs_all := by simpa using hy
    simp only [ECs_all, List.mem_cons, List.not_mem_nil, or_false] at hy
    rcases hy with rfl | rfl | rfl | rfl | rfl | rfl | rfl | rfl | rfl | rfl | rfl | rfl | rfl
    · have e := hm.symm.trans (PySem.W.mg_of X G a_InvalidClaim)
      cases e
      exact ⟨ise_InvalidClaim, (kit_ref eI_InvalidEdges eT_InvalidEdges s_InvalidClaim_InvalidEdges d_InvalidClaim_InvalidEdges).trans (congrArg some (by decide +kernel))⟩
    · have e := hm.symm.trans (PySem.W.mg_of X G a_InvalidEdge)
      cases e
      exact ⟨ise_InvalidEdge, (kit_ref eI_InvalidEdges eT_InvalidEdges s_InvalidEdge_InvalidEdges d_InvalidEdge_InvalidEdges).trans (congrArg some (by decide +kernel))⟩
    · have e := hm.symm.trans (PySem.W.mg_of X G a_InvalidEdges)
      cases e
      exact ⟨ise_InvalidEdges, (kit_self).trans (congrArg some (by decide +kernel))⟩
    · have e := hm.symm.trans (PySem.W.mg_of X G a_InvalidLengths)
      cases e
      exact ⟨ise_InvalidLengths, (kit_ref eI_InvalidEdges eT_InvalidEdges s_InvalidLengths_InvalidEdges d_InvalidLengths_InvalidEdges).trans (congrArg some (by decide +kernel))⟩
    · have e := hm.symm.trans (PySem.W.mg_of X G a_InvalidMarks)
      cases e
      exact ⟨ise_InvalidMarks, (kit_ref eI_InvalidEdges eT_InvalidEdges s_InvalidMarks_InvalidEdges d_InvalidMarks_InvalidEdges).trans (congrArg some (by decide +kernel))⟩
    · have e := hm.symm.trans (PySem.W.mg_of X G a_InvalidNumber)
      cases e
      exact ⟨ise_InvalidNumber, (kit_ref eI_InvalidEdges eT_InvalidEdges s_InvalidNumber_InvalidEdges d_InvalidNumber_InvalidEdges).trans (congrArg some (by decide +kernel))⟩
    · have e := hm.symm.trans (PySem.W.mg_of X G a_InvalidQuestion)
      cases e
      exact ⟨ise_InvalidQuestion, (kit_ref eI_InvalidEdges eT_InvalidEdges s_InvalidQuestion_InvalidEdges d_InvalidQuestion_InvalidEdges).trans (congrArg some (by decide +kernel))⟩
    · have e := hm.symm.trans (PySem.W.mg_of X G a_InvalidRun)
      cases e
      exact ⟨ise_InvalidRun, (kit_ref eI_InvalidEdges eT_InvalidEdges s_InvalidRun_InvalidEdges d_InvalidRun_InvalidEdges).trans (congrArg some (by decide +kernel))⟩
    · have e := hm.symm.trans (PySem.W.mg_of X G a_InvalidTicks)
      cases e
      exact ⟨ise_InvalidTicks, (kit_ref eI_InvalidEdges eT_InvalidEdges s_InvalidTicks_InvalidEdges d_InvalidTicks_InvalidEdges).trans (congrArg some (by decide +kernel))⟩
    · have e := hm.symm.trans (PySem.W.mg_of X G a_InvalidTrace)
      cases e
      exact ⟨ise_InvalidTrace, (kit_ref eI_InvalidEdges eT_InvalidEdges s_InvalidTrace_InvalidEdges d_InvalidTrace_InvalidEdges).trans (congrArg some (by decide +kernel))⟩
    · have e := hm.symm.trans (PySem.W.mg_of X G a_InvalidWaits)
      cases e
      exact ⟨ise_InvalidWaits, (kit_ref eI_InvalidEdges eT_InvalidEdges s_InvalidWaits_InvalidEdges d_InvalidWaits_InvalidEdges).trans (congrArg some (by decide +kernel))⟩
    · have e := hm.symm.trans (PySem.W.mg_of X G a_NothingToUndo)
      cases e
      exact ⟨ise_NothingToUndo, (kit_ref eI_InvalidEdges eT_InvalidEdges s_NothingToUndo_InvalidEdges d_NothingToUndo_InvalidEdges).trans (congrArg some (by decide +kernel))⟩
    · have e := hm.symm.trans (PySem.W.mg_of X G a_Undefined)
      cases e
      exact ⟨ise_Undefined, (kit_ref eI_InvalidEdges eT_InvalidEdges s_Undefined_InvalidEdges d_Undefined_InvalidEdges).trans (congrArg some (by decide +kernel))⟩⟩
  have ie_InvalidLengths' : IsEs K mg ECs_all (.ref C_InvalidLengths) sub_InvalidLengths := ⟨fun y hy C hm => by
    have hy : y ∈ ECs_all := by simpa using hy
    simp only [ECs_all, List.mem_cons, List.not_mem_nil, or_false] at hy
    rcases hy with rfl | rfl | rfl | rfl | rfl | rfl | rfl | rfl | rfl | rfl | rfl | rfl | rfl
    · have e := hm.symm.trans (PySem.W.mg_of X G a_InvalidClaim)
      cases e
      exact ⟨ise_InvalidClaim, (kit_ref eI_InvalidLengths eT_InvalidLengths s_InvalidClaim_InvalidLengths d_InvalidClaim_InvalidLengths).trans (congrArg some (by decide +kernel))⟩
    · have e := hm.symm.trans (PySem.W.mg_of X G a_InvalidEdge)
      cases e
      exact ⟨ise_InvalidEdge, (kit_ref eI_InvalidLengths eT_InvalidLengths s_InvalidEdge_InvalidLengths d_InvalidEdge_InvalidLengths).trans (congrArg some (by decide +kernel))⟩
    · have e := hm.symm.trans (PySem.W.mg_of X G a_InvalidEdges)
      cases e
      exact ⟨ise_InvalidEdges, (kit_ref eI_InvalidLengths eT_InvalidLengths s_InvalidEdges_InvalidLengths d_InvalidEdges_InvalidLengths).trans (congrArg some (by decide +kernel))⟩
    · have e := hm.symm.trans (PySem.W.mg_of X G a_InvalidLengths)
      cases e
      exact ⟨ise_InvalidLengths, (kit_self).trans (congrArg some (by decide +kernel))⟩
    · have e := hm.symm.trans (PySem.W.mg_of X G a_InvalidMarks)
      cases e
      exact ⟨ise_InvalidMarks, (kit_ref eI_InvalidLengths eT_InvalidLengths s_InvalidMarks_InvalidLengths d_InvalidMarks_InvalidLengths).trans (congrArg some (by decide +kernel))⟩
    · have e := hm.symm.trans (PySem.W.mg_of X G a_InvalidNumber)
      cases e
      exact ⟨ise_InvalidNumber, (kit_ref eI_InvalidLengths eT_InvalidLengths s_InvalidNumber_InvalidLengths d_InvalidNumber_InvalidLengths).trans (congrArg some (by decide +kernel))⟩
    · have e := hm.symm.trans (PySem.W.mg_of X G a_InvalidQuestion)
      cases e
      exact ⟨ise_InvalidQuestion, (kit_ref eI_InvalidLengths eT_InvalidLengths s_InvalidQuestion_InvalidLengths d_InvalidQuestion_InvalidLengths).trans (congrArg some (by decide +kernel))⟩
    · have e := hm.symm.trans (PySem.W.mg_of X G a_InvalidRun)
      cases e
      exact ⟨ise_InvalidRun, (kit_ref eI_InvalidLengths eT_InvalidLengths s_InvalidRun_InvalidLengths d_InvalidRun_InvalidLengths).trans (congrArg some (by decide +kernel))⟩
    · have e := hm.symm.trans (PySem.W.mg_of X G a_InvalidTicks)
      cases e
      exact ⟨ise_InvalidTicks, (kit_ref eI_InvalidLengths eT_InvalidLengths s_InvalidTicks_InvalidLengths d_InvalidTicks_InvalidLengths).trans (congrArg some (by decide +kernel))⟩
    · have e := hm.symm.trans (PySem.W.mg_of X G a_InvalidTrace)
      cases e
      exact ⟨ise_InvalidTrace, (kit_ref eI_InvalidLengths eT_InvalidLengths s_InvalidTrace_InvalidLengths d_InvalidTrace_InvalidLengths).trans (congrArg some (by decide +kernel))⟩
    · have e := hm.symm.trans (PySem.W.mg_of X G a_InvalidWaits)
      cases e
      exact ⟨ise_InvalidWaits, (kit_ref eI_InvalidLengths eT_InvalidLengths s_InvalidWaits_InvalidLengths d_InvalidWaits_InvalidLengths).trans (congrArg some (by decide +kernel))⟩
    · have e := hm.symm.trans (PySem.W.mg_of X G a_NothingToUndo)
      cases e
      exact ⟨ise_NothingToUndo, (kit_ref eI_InvalidLengths eT_InvalidLengths s_NothingToUndo_InvalidLengths d_NothingToUndo_InvalidLengths).trans (congrArg some (by decide +kernel))⟩
    · have e := hm.symm.trans (PySem.W.mg_of X G a_Undefined)
      cases e
      exact ⟨ise_Undefined, (kit_ref eI_InvalidLengths eT_InvalidLengths s_Undefined_InvalidLengths d_Undefined_InvalidLengths).trans (congrArg some (by decide +kernel))⟩⟩
  have ie_InvalidMarks' : IsEs K mg ECs_all (.ref C_InvalidMarks) sub_InvalidMarks := ⟨fun y hy C hm => by
    have hy : y ∈ ECs_all := by simpa using hy
    simp only [ECs_all, List.mem_cons, List.not_mem_nil, or_false] at hy
    rcases hy with rfl | rfl | rfl | rfl | rfl | rfl | rfl | rfl | rfl | rfl | rfl | rfl | rfl
    · have e := hm.symm.trans (PySem.W.mg_of X G a_InvalidClaim)
      cases e
      exact ⟨ise_InvalidClaim, (kit_ref eI_InvalidMarks eT_InvalidMarks s_InvalidClaim_InvalidMarks d_InvalidClaim_InvalidMarks).trans (congrArg some (by decide +kernel))⟩
    · have e := hm.symm.trans (PySem.W.mg_of X G a_InvalidEdge)
      cases e
      exact ⟨ise_InvalidEdge, (kit_ref eI_InvalidMarks eT_InvalidMarks s_InvalidEdge_InvalidMarks d_InvalidEdge_InvalidMarks).trans (congrArg some (by decide +kernel))⟩
    · have e := hm.symm.trans (PySem.W.mg_of X G a_InvalidEdges)
      cases e
      exact ⟨ise_InvalidEdges, (kit_ref eI_InvalidMarks eT_InvalidMarks s_InvalidEdges_InvalidMarks d_InvalidEdges_InvalidMarks).trans (congrArg some (by decide +kernel))⟩
    · have e := hm.symm.trans (PySem.W.mg_of X G a_InvalidLengths)
      cases e
      exact ⟨ise_InvalidLengths, (kit_ref eI_InvalidMarks eT_InvalidMarks s_InvalidLengths_InvalidMarks d_InvalidLengths_InvalidMarks).trans (congrArg some (by decide +kernel))⟩
    · have e := hm.symm.trans (PySem.W.mg_of X G a_InvalidMarks)
      cases e
      exact ⟨ise_InvalidMarks, (kit_self).trans (congrArg some (by decide +kernel))⟩
    · have e := hm.symm.trans (PySem.W.mg_of X G a_InvalidNumber)
      cases e
      exact ⟨ise_InvalidNumber, (kit_ref eI_InvalidMarks eT_InvalidMarks s_InvalidNumber_InvalidMarks d_InvalidNumber_InvalidMarks).trans (congrArg some (by decide +kernel))⟩
    · have e := hm.symm.trans (PySem.W.mg_of X G a_InvalidQuestion)
      cases e
      exact ⟨ise_InvalidQuestion, (kit_ref eI_InvalidMarks eT_InvalidMarks s_InvalidQuestion_InvalidMarks d_InvalidQuestion_InvalidMarks).trans (congrArg some (by decide +kernel))⟩
    · have e := hm.symm.trans (PySem.W.mg_of X G a_InvalidRun)
      cases e
      exact ⟨ise_InvalidRun, (kit_ref eI_InvalidMarks eT_InvalidMarks s_InvalidRun_InvalidMarks d_InvalidRun_InvalidMarks).trans (congrArg some (by decide +kernel))⟩
    · have e := hm.symm.trans (PySem.W.mg_of X G a_InvalidTicks)
      cases e
      exact ⟨ise_InvalidTicks, (kit_ref eI_InvalidMarks eT_InvalidMarks s_InvalidTicks_InvalidMarks d_InvalidTicks_InvalidMarks).trans (congrArg some (by decide +kernel))⟩
    · have e := hm.symm.trans (PySem.W.mg_of X G a_InvalidTrace)
      cases e
      exact ⟨ise_InvalidTrace, (kit_ref eI_InvalidMarks eT_InvalidMarks s_InvalidTrace_InvalidMarks d_InvalidTrace_InvalidMarks).trans (congrArg some (by decide +kernel))⟩
    · have e := hm.symm.trans (PySem.W.mg_of X G a_InvalidWaits)
      cases e
      exact ⟨ise_InvalidWaits, (kit_ref eI_InvalidMarks eT_InvalidMarks s_InvalidWaits_InvalidMarks d_InvalidWaits_InvalidMarks).trans (congrArg some (by decide +kernel))⟩
    · have e := hm.symm.trans (PySem.W.mg_of X G a_NothingToUndo)
      cases e
      exact ⟨ise_NothingToUndo, (kit_ref eI_InvalidMarks eT_InvalidMarks s_NothingToUndo_InvalidMarks d_NothingToUndo_InvalidMarks).trans (congrArg some (by decide +kernel))⟩
    · have e := hm.symm.trans (PySem.W.mg_of X G a_Undefined)
      cases e
      exact ⟨ise_Undefined, (kit_ref eI_InvalidMarks eT_InvalidMarks s_Undefined_InvalidMarks d_Undefined_InvalidMarks).trans (congrArg some (by decide +kernel))⟩⟩
  have ie_InvalidNumber' : IsEs K mg ECs_all (.ref C_InvalidNumber) sub_InvalidNumber := ⟨fun y hy C hm => by
    have hy : y ∈ ECs_all := by simpa using hy
    simp only [ECs_all, List.mem_cons, List.not_mem_nil, or_false] at hy
    rcases hy with rfl | rfl | rfl | rfl | rfl | rfl | rfl | rfl | rfl | rfl | rfl | rfl | rfl
    · have e := hm.symm.trans (PySem.W.mg_of X G a_InvalidClaim)
      cases e
      exact ⟨ise_InvalidClaim, (kit_ref eI_InvalidNumber eT_InvalidNumber s_InvalidClaim_InvalidNumber d_InvalidClaim_InvalidNumber).trans (congrArg some (by decide +kernel))⟩
    · have e := hm.symm.trans (PySem.W.mg_of X G a_InvalidEdge)
      cases e
      exact ⟨ise_InvalidEdge, (kit_ref eI_InvalidNumber eT_InvalidNumber s_InvalidEdge_InvalidNumber d_InvalidEdge_InvalidNumber).trans (congrArg some (by decide +kernel))⟩
    · have e := hm.symm.trans (PySem.W.mg_of X G a_InvalidEdges)
      cases e
      exact ⟨ise_InvalidEdges, (kit_ref eI_InvalidNumber eT_InvalidNumber s_InvalidEdges_InvalidNumber d_InvalidEdges_InvalidNumber).trans (congrArg some (by decide +kernel))⟩
    · have e := hm.symm.trans (PySem.W.mg_of X G a_InvalidLengths)
      cases e
      exact ⟨ise_InvalidLengths, (kit_ref eI_InvalidNumber eT_InvalidNumber s_InvalidLengths_InvalidNumber d_InvalidLengths_InvalidNumber).trans (congrArg some (by decide +kernel))⟩
    · have e := hm.symm.trans (PySem.W.mg_of X G a_InvalidMarks)
      cases e
      exact ⟨ise_InvalidMarks, (kit_ref eI_InvalidNumber eT_InvalidNumber s_InvalidMarks_InvalidNumber d_InvalidMarks_InvalidNumber).trans (congrArg some (by decide +kernel))⟩
    · have e := hm.symm.trans (PySem.W.mg_of X G a_InvalidNumber)
      cases e
      exact ⟨ise_InvalidNumber, (kit_self).trans (congrArg some (by decide +kernel))⟩
    · have e := hm.symm.trans (PySem.W.mg_of X G a_InvalidQuestion)
      cases e
      exact ⟨ise_InvalidQuestion, (kit_ref eI_InvalidNumber eT_InvalidNumber s_InvalidQuestion_InvalidNumber d_InvalidQuestion_InvalidNumber).trans (congrArg some (by decide +kernel))⟩
    · have e := hm.symm.trans (PySem.W.mg_of X G a_InvalidRun)
      cases e
      exact ⟨ise_InvalidRun, (kit_ref eI_InvalidNumber eT_InvalidNumber s_InvalidRun_InvalidNumber d_InvalidRun_InvalidNumber).trans (congrArg some (by decide +kernel))⟩
    · have e := hm.symm.trans (PySem.W.mg_of X G a_InvalidTicks)
      cases e
      exact ⟨ise_InvalidTicks, (kit_ref eI_InvalidNumber eT_InvalidNumber s_InvalidTicks_InvalidNumber d_InvalidTicks_InvalidNumber).trans (congrArg some (by decide +kernel))⟩
    · have e := hm.symm.trans (PySem.W.mg_of X G a_InvalidTrace)
      cases e
      exact ⟨ise_InvalidTrace, (kit_ref eI_InvalidNumber eT_InvalidNumber s_InvalidTrace_InvalidNumber d_InvalidTrace_InvalidNumber).trans (congrArg some (by decide +kernel))⟩
    · have e := hm.symm.trans (PySem.W.mg_of X G a_InvalidWaits)
      cases e
      exact ⟨ise_InvalidWaits, (kit_ref eI_InvalidNumber eT_InvalidNumber s_InvalidWaits_InvalidNumber d_InvalidWaits_InvalidNumber).trans (congrArg some (by decide +kernel))⟩
    · have e := hm.symm.trans (PySem.W.mg_of X G a_NothingToUndo)
      cases e
      exact ⟨ise_NothingToUndo, (kit_ref eI_InvalidNumber eT_InvalidNumber s_NothingToUndo_InvalidNumber d_NothingToUndo_InvalidNumber).trans (congrArg some (by decide +kernel))⟩
    · have e := hm.symm.trans (PySem.W.mg_of X G a_Undefined)
      cases e
      exact ⟨ise_Undefined, (kit_ref eI_InvalidNumber eT_InvalidNumber s_Undefined_InvalidNumber d_Undefined_InvalidNumber).trans (congrArg some (by decide +kernel))⟩⟩
  have ie_InvalidQuestion' : IsEs K mg ECs_all (.ref C_InvalidQuestion) sub_InvalidQuestion := ⟨fun y hy C hm => by
    have hy : y ∈ ECs_all := by simpa using hy
    simp only [ECs_all, List.mem_cons, List.not_mem_nil, or_false] at hy
    rcases hy with rfl | rfl | rfl | rfl | rfl | rfl | rfl | rfl | rfl | rfl | rfl | rfl | rfl
    · have e := hm.symm.trans (PySem.W.mg_of X G a_InvalidClaim)
      cases e
      exact ⟨ise_InvalidClaim, (kit_ref eI_InvalidQuestion eT_InvalidQuestion s_InvalidClaim_InvalidQuestion d_InvalidClaim_InvalidQuestion).trans (congrArg some (by decide +kernel))⟩
    · have e := hm.symm.trans (PySem.W.mg_of X G a_InvalidEdge)
      cases e
      exact ⟨ise_InvalidEdge, (kit_ref eI_InvalidQuestion eT_InvalidQuestion s_InvalidEdge_InvalidQuestion d_InvalidEdge_InvalidQuestion).trans (congrArg some (by decide +kernel))⟩
    · have e := hm.symm.trans (PySem.W.mg_of X G a_InvalidEdges)
      cases e
      exact ⟨ise_InvalidEdges, (kit_ref eI_InvalidQuestion eT_InvalidQuestion s_InvalidEdges_InvalidQuestion d_InvalidEdges_InvalidQuestion).trans (congrArg some (by decide +kernel))⟩
    · have e := hm.symm.trans (PySem.W.mg_of X G a_InvalidLengths)
      cases e
      exact ⟨ise_InvalidLengths, (kit_ref eI_InvalidQuestion eT_InvalidQuestion s_InvalidLengths_InvalidQuestion d_InvalidLengths_InvalidQuestion).trans (congrArg some (by decide +kernel))⟩
    · have e := hm.symm.trans (PySem.W.mg_of X G a_InvalidMarks)
      cases e
      exact ⟨ise_InvalidMarks, (kit_ref eI_InvalidQuestion eT_InvalidQuestion s_InvalidMarks_InvalidQuestion d_InvalidMarks_InvalidQuestion).trans (congrArg some (by decide +kernel))⟩
    · have e := hm.symm.trans (PySem.W.mg_of X G a_InvalidNumber)
      cases e
      exact ⟨ise_InvalidNumber, (kit_ref eI_InvalidQuestion eT_InvalidQuestion s_InvalidNumber_InvalidQuestion d_InvalidNumber_InvalidQuestion).trans (congrArg some (by decide +kernel))⟩
    · have e := hm.symm.trans (PySem.W.mg_of X G a_InvalidQuestion)
      cases e
      exact ⟨ise_InvalidQuestion, (kit_self).trans (congrArg some (by decide +kernel))⟩
    · have e := hm.symm.trans (PySem.W.mg_of X G a_InvalidRun)
      cases e
      exact ⟨ise_InvalidRun, (kit_ref eI_InvalidQuestion eT_InvalidQuestion s_InvalidRun_InvalidQuestion d_InvalidRun_InvalidQuestion).trans (congrArg some (by decide +kernel))⟩
    · have e := hm.symm.trans (PySem.W.mg_of X G a_InvalidTicks)
      cases e
      exact ⟨ise_InvalidTicks, (kit_ref eI_InvalidQuestion eT_InvalidQuestion s_InvalidTicks_InvalidQuestion d_InvalidTicks_InvalidQuestion).trans (congrArg some (by decide +kernel))⟩
    · have e := hm.symm.trans (PySem.W.mg_of X G a_InvalidTrace)
      cases e
      exact ⟨ise_InvalidTrace, (kit_ref eI_InvalidQuestion eT_InvalidQuestion s_InvalidTrace_InvalidQuestion d_InvalidTrace_InvalidQuestion).trans (congrArg some (by decide +kernel))⟩
    · have e := hm.symm.trans (PySem.W.mg_of X G a_InvalidWaits)
      cases e
      exact ⟨ise_InvalidWaits, (kit_ref eI_InvalidQuestion eT_InvalidQuestion s_InvalidWaits_InvalidQuestion d_InvalidWaits_InvalidQuestion).trans (congrArg some (by decide +kernel))⟩
    · have e := hm.symm.trans (PySem.W.mg_of X G a_NothingToUndo)
      cases e
      exact ⟨ise_NothingToUndo, (kit_ref eI_InvalidQuestion eT_InvalidQuestion s_NothingToUndo_InvalidQuestion d_NothingToUndo_InvalidQuestion).trans (congrArg some (by decide +kernel))⟩
    · have e := hm.symm.trans (PySem.W.mg_of X G a_Undefined)
      cases e
      exact ⟨ise_Undefined, (kit_ref eI_InvalidQuestion eT_InvalidQuestion s_Undefined_InvalidQuestion d_Undefined_InvalidQuestion).trans (congrArg some (by decide +kernel))⟩⟩
  have ie_InvalidRun' : IsEs K mg ECs_all (.ref C_InvalidRun) sub_InvalidRun := ⟨fun y hy C hm => by
    have hy : y ∈ ECs_all := by simpa using hy
    simp only [ECs_all, List.mem_cons, List.not_mem_nil, or_false] at hy
    rcases hy with rfl | rfl | rfl | rfl | rfl | rfl | rfl | rfl | rfl | rfl | rfl | rfl | rfl
    · have e := hm.symm.trans (PySem.W.mg_of X G a_InvalidClaim)
      cases e
      exact ⟨ise_InvalidClaim, (kit_ref eI_InvalidRun eT_InvalidRun s_InvalidClaim_InvalidRun d_InvalidClaim_InvalidRun).trans (congrArg some (by decide +kernel))⟩
    · have e := hm.symm.trans (PySem.W.mg_of X G a_InvalidEdge)
      cases e
      exact ⟨ise_InvalidEdge, (kit_ref eI_InvalidRun eT_InvalidRun s_InvalidEdge_InvalidRun d_InvalidEdge_InvalidRun).trans (congrArg some (by decide +kernel))⟩
    · have e := hm.symm.trans (PySem.W.mg_of X G a_InvalidEdges)
      cases e
      exact ⟨ise_InvalidEdges, (kit_ref eI_InvalidRun eT_InvalidRun s_InvalidEdges_InvalidRun d_InvalidEdges_InvalidRun).trans (congrArg some (by decide +kernel))⟩
    · have e := hm.symm.trans (PySem.W.mg_of X G a_InvalidLengths)
      cases e
      exact ⟨ise_InvalidLengths, (kit_ref eI_InvalidRun eT_InvalidRun s_InvalidLengths_InvalidRun d_InvalidLengths_InvalidRun).trans (congrArg some (by decide +kernel))⟩
    · have e := hm.symm.trans (PySem.W.mg_of X G a_InvalidMarks)
      cases e
      exact ⟨ise_InvalidMarks, (kit_ref eI_InvalidRun eT_InvalidRun s_InvalidMarks_InvalidRun d_InvalidMarks_InvalidRun).trans (congrArg some (by decide +kernel))⟩
    · have e := hm.symm.trans (PySem.W.mg_of X G a_InvalidNumber)
      cases e
      exact ⟨ise_InvalidNumber, (kit_ref eI_InvalidRun eT_InvalidRun s_InvalidNumber_InvalidRun d_InvalidNumber_InvalidRun).trans (congrArg some (by decide +kernel))⟩
    · have e := hm.symm.trans (PySem.W.mg_of X G a_InvalidQuestion)
      cases e
      exact ⟨ise_InvalidQuestion, (kit_ref eI_InvalidRun eT_InvalidRun s_InvalidQuestion_InvalidRun d_InvalidQuestion_InvalidRun).trans (congrArg some (by decide +kernel))⟩
    · have e := hm.symm.trans (PySem.W.mg_of X G a_InvalidRun)
      cases e
      exact ⟨ise_InvalidRun, (kit_self).trans (congrArg some (by decide +kernel))⟩
    · have e := hm.symm.trans (PySem.W.mg_of X G a_InvalidTicks)
      cases e
      exact ⟨ise_InvalidTicks, (kit_ref eI_InvalidRun eT_InvalidRun s_InvalidTicks_InvalidRun d_InvalidTicks_InvalidRun).trans (congrArg some (by decide +kernel))⟩
    · have e := hm.symm.trans (PySem.W.mg_of X G a_InvalidTrace)
      cases e
      exact ⟨ise_InvalidTrace, (kit_ref eI_InvalidRun eT_InvalidRun s_InvalidTrace_InvalidRun d_InvalidTrace_InvalidRun).trans (congrArg some (by decide +kernel))⟩
    · have e := hm.symm.trans (PySem.W.mg_of X G a_InvalidWaits)
      cases e
      exact ⟨ise_InvalidWaits, (kit_ref eI_InvalidRun eT_InvalidRun s_InvalidWaits_InvalidRun d_InvalidWaits_InvalidRun).trans (congrArg some (by decide +kernel))⟩
    · have e := hm.symm.trans (PySem.W.mg_of X G a_NothingToUndo)
      cases e
      exact ⟨ise_NothingToUndo, (kit_ref eI_InvalidRun eT_InvalidRun s_NothingToUndo_InvalidRun d_NothingToUndo_InvalidRun).trans (congrArg some (by decide +kernel))⟩
    · have e := hm.symm.trans (PySem.W.mg_of X G a_Undefined)
      cases e
      exact ⟨ise_Undefined, (kit_ref eI_InvalidRun eT_InvalidRun s_Undefined_InvalidRun d_Undefined_InvalidRun).trans (congrArg some (by decide +kernel))⟩⟩
  have ie_InvalidTicks' : IsEs K mg ECs_all (.ref C_InvalidTicks) sub_InvalidTicks := ⟨fun y hy C hm => by
    have hy : y ∈ ECs_all := by simpa using hy
    simp only [ECs_all, List.mem_cons, List.not_mem_nil, or_false] at hy
    rcases hy with rfl | rfl | rfl | rfl | rfl | rfl | rfl | rfl | rfl | rfl | rfl | rfl | rfl
    · have e := hm.symm.trans (PySem.W.mg_of X G a_InvalidClaim)
      cases e
      exact ⟨ise_InvalidClaim, (kit_ref eI_InvalidTicks eT_InvalidTicks s_InvalidClaim_InvalidTicks d_InvalidClaim_InvalidTicks).trans (congrArg some (by decide +kernel))⟩
    · have e := hm.symm.trans (PySem.W.mg_of X G a_InvalidEdge)
      cases e
      exact ⟨ise_InvalidEdge, (kit_ref eI_InvalidTicks eT_InvalidTicks s_InvalidEdge_InvalidTicks d_InvalidEdge_InvalidTicks).trans (congrArg some (by decide +kernel))⟩
    · have e := hm.symm.trans (PySem.W.mg_of X G a_InvalidEdges)
      cases e
      exact ⟨ise_InvalidEdges, (kit_ref eI_InvalidTicks eT_InvalidTicks s_InvalidEdges_InvalidTicks d_InvalidEdges_InvalidTicks).trans (congrArg some (by decide +kernel))⟩
    · have e := hm.symm.trans (PySem.W.mg_of X G a_InvalidLengths)
      cases e
      exact ⟨ise_InvalidLengths, (kit_ref eI_InvalidTicks eT_InvalidTicks s_InvalidLengths_InvalidTicks d_InvalidLengths_InvalidTicks).trans (congrArg some (by decide +kernel))⟩
    · have e := hm.symm.trans (PySem.W.mg_of X G a_InvalidMarks)
      cases e
      exact ⟨ise_InvalidMarks, (kit_ref eI_InvalidTicks eT_InvalidTicks s_InvalidMarks_InvalidTicks d_InvalidMarks_InvalidTicks).trans (congrArg some (by decide +kernel))⟩
    · have e := hm.symm.trans (PySem.W.mg_of X G a_InvalidNumber)
      cases e
      exact ⟨ise_InvalidNumber, (kit_ref eI_InvalidTicks eT_InvalidTicks s_InvalidNumber_InvalidTicks d_InvalidNumber_InvalidTicks).trans (congrArg some (by decide +kernel))⟩
    · have e := hm.symm.trans (PySem.W.mg_of X G a_InvalidQuestion)
      cases e
      exact ⟨ise_InvalidQuestion, (kit_ref eI_InvalidTicks eT_InvalidTicks s_InvalidQuestion_InvalidTicks d_InvalidQuestion_InvalidTicks).trans (congrArg some (by decide +kernel))⟩
    · have e := hm.symm.trans (PySem.W.mg_of X G a_InvalidRun)
      cases e
      exact ⟨ise_InvalidRun, (kit_ref eI_InvalidTicks eT_InvalidTicks s_InvalidRun_InvalidTicks d_InvalidRun_InvalidTicks).trans (congrArg some (by decide +kernel))⟩
    · have e := hm.symm.trans (PySem.W.mg_of X G a_InvalidTicks)
      cases e
      exact ⟨ise_InvalidTicks, (kit_self).trans (congrArg some (by decide +kernel))⟩
    · have e := hm.symm.trans (PySem.W.mg_of X G a_InvalidTrace)
      cases e
      exact ⟨ise_InvalidTrace, (kit_ref eI_InvalidTicks eT_InvalidTicks s_InvalidTrace_InvalidTicks d_InvalidTrace_InvalidTicks).trans (congrArg some (by decide +kernel))⟩
    · have e := hm.symm.trans (PySem.W.mg_of X G a_InvalidWaits)
      cases e
      exact ⟨ise_InvalidWaits, (kit_ref eI_InvalidTicks eT_InvalidTicks s_InvalidWaits_InvalidTicks d_InvalidWaits_InvalidTicks).trans (congrArg some (by decide +kernel))⟩
    · have e := hm.symm.trans (PySem.W.mg_of X G a_NothingToUndo)
      cases e
      exact ⟨ise_NothingToUndo, (kit_ref eI_InvalidTicks eT_InvalidTicks s_NothingToUndo_InvalidTicks d_NothingToUndo_InvalidTicks).trans (congrArg some (by decide +kernel))⟩
    · have e := hm.symm.trans (PySem.W.mg_of X G a_Undefined)
      cases e
      exact ⟨ise_Undefined, (kit_ref eI_InvalidTicks eT_InvalidTicks s_Undefined_InvalidTicks d_Undefined_InvalidTicks).trans (congrArg some (by decide +kernel))⟩⟩
  have ie_InvalidTrace' : IsEs K mg ECs_all (.ref C_InvalidTrace) sub_InvalidTrace := ⟨fun y hy C hm => by
    have hy : y ∈ ECs_all := by simpa using hy
    simp only [ECs_all, List.mem_cons, List.not_mem_nil, or_false] at hy
    rcases hy with rfl | rfl | rfl | rfl | rfl | rfl | rfl | rfl | rfl | rfl | rfl | rfl | rfl
    · have e := hm.symm.trans (PySem.W.mg_of X G a_InvalidClaim)
      cases e
      exact ⟨ise_InvalidClaim, (kit_ref eI_InvalidTrace eT_InvalidTrace s_InvalidClaim_InvalidTrace d_InvalidClaim_InvalidTrace).trans (congrArg some (by decide +kernel))⟩
    · have e := hm.symm.trans (PySem.W.mg_of X G a_InvalidEdge)
      cases e
      exact ⟨ise_InvalidEdge, (kit_ref eI_InvalidTrace eT_InvalidTrace s_InvalidEdge_InvalidTrace d_InvalidEdge_InvalidTrace).trans (congrArg some (by decide +kernel))⟩
    · have e := hm.symm.trans (PySem.W.mg_of X G a_InvalidEdges)
      cases e
      exact ⟨ise_InvalidEdges, (kit_ref eI_InvalidTrace eT_InvalidTrace s_InvalidEdges_InvalidTrace d_InvalidEdges_InvalidTrace).trans (congrArg some (by decide +kernel))⟩
    · have e := hm.symm.trans (PySem.W.mg_of X G a_InvalidLengths)
      cases e
      exact ⟨ise_InvalidLengths, (kit_ref eI_InvalidTrace eT_InvalidTrace s_InvalidLengths_InvalidTrace d_InvalidLengths_InvalidTrace).trans (congrArg some (by decide +kernel))⟩
    · have e := hm.symm.trans (PySem.W.mg_of X G a_InvalidMarks)
      cases e
      exact ⟨ise_InvalidMarks, (kit_ref eI_InvalidTrace eT_InvalidTrace s_InvalidMarks_InvalidTrace d_InvalidMarks_InvalidTrace).trans (congrArg some (by decide +kernel))⟩
    · have e := hm.symm.trans (PySem.W.mg_of X G a_InvalidNumber)
      cases e
      exact ⟨ise_InvalidNumber, (kit_ref eI_InvalidTrace eT_InvalidTrace s_InvalidNumber_InvalidTrace d_InvalidNumber_InvalidTrace).trans (congrArg some (by decide +kernel))⟩
    · have e := hm.symm.trans (PySem.W.mg_of X G a_InvalidQuestion)
      cases e
      exact ⟨ise_InvalidQuestion, (kit_ref eI_InvalidTrace eT_InvalidTrace s_InvalidQuestion_InvalidTrace d_InvalidQuestion_InvalidTrace).trans (congrArg some (by decide +kernel))⟩
    · have e := hm.symm.trans (PySem.W.mg_of X G a_InvalidRun)
      cases e
      exact ⟨ise_InvalidRun, (kit_ref eI_InvalidTrace eT_InvalidTrace s_InvalidRun_InvalidTrace d_InvalidRun_InvalidTrace).trans (congrArg some (by decide +kernel))⟩
    · have e := hm.symm.trans (PySem.W.mg_of X G a_InvalidTicks)
      cases e
      exact ⟨ise_InvalidTicks, (kit_ref eI_InvalidTrace eT_InvalidTrace s_InvalidTicks_InvalidTrace d_InvalidTicks_InvalidTrace).trans (congrArg some (by decide +kernel))⟩
    · have e := hm.symm.trans (PySem.W.mg_of X G a_InvalidTrace)
      cases e
      exact ⟨ise_InvalidTrace, (kit_self).trans (congrArg some (by decide +kernel))⟩
    · have e := hm.symm.trans (PySem.W.mg_of X G a_InvalidWaits)
      cases e
      exact ⟨ise_InvalidWaits, (kit_ref eI_InvalidTrace eT_InvalidTrace s_InvalidWaits_InvalidTrace d_InvalidWaits_InvalidTrace).trans (congrArg some (by decide +kernel))⟩
    · have e := hm.symm.trans (PySem.W.mg_of X G a_NothingToUndo)
      cases e
      exact ⟨ise_NothingToUndo, (kit_ref eI_InvalidTrace eT_InvalidTrace s_NothingToUndo_InvalidTrace d_NothingToUndo_InvalidTrace).trans (congrArg some (by decide +kernel))⟩
    · have e := hm.symm.trans (PySem.W.mg_of X G a_Undefined)
      cases e
      exact ⟨ise_Undefined, (kit_ref eI_InvalidTrace eT_InvalidTrace s_Undefined_InvalidTrace d_Undefined_InvalidTrace).trans (congrArg some (by decide +kernel))⟩⟩
  have ie_InvalidWaits' : IsEs K mg ECs_all (.ref C_InvalidWaits) sub_InvalidWaits := ⟨fun y hy C hm => by
    have hy : y ∈ ECs_all := by simpa using hy
    simp only [ECs_all, List.mem_cons, List.not_mem_nil, or_false] at hy
    rcases hy with rfl | rfl | rfl | rfl | rfl | rfl | rfl | rfl | rfl | rfl | rfl | rfl | rfl
    · have e := hm.symm.trans (PySem.W.mg_of X G a_InvalidClaim)
      cases e
      exact ⟨ise_InvalidClaim, (kit_ref eI_InvalidWaits eT_InvalidWaits s_InvalidClaim_InvalidWaits d_InvalidClaim_InvalidWaits).trans (congrArg some (by decide +kernel))⟩
    · have e := hm.symm.trans (PySem.W.mg_of X G a_InvalidEdge)
      cases e
      exact ⟨ise_InvalidEdge, (kit_ref eI_InvalidWaits eT_InvalidWaits s_InvalidEdge_InvalidWaits d_InvalidEdge_InvalidWaits).trans (congrArg some (by decide +kernel))⟩
    · have e := hm.symm.trans (PySem.W.mg_of X G a_InvalidEdges)
      cases e
      exact ⟨ise_InvalidEdges, (kit_ref eI_InvalidWaits eT_InvalidWaits s_InvalidEdges_InvalidWaits d_InvalidEdges_InvalidWaits).trans (congrArg some (by decide +kernel))⟩
    · have e := hm.symm.trans (PySem.W.mg_of X G a_InvalidLengths)
      cases e
      exact ⟨ise_InvalidLengths, (kit_ref eI_InvalidWaits eT_InvalidWaits s_InvalidLengths_InvalidWaits d_InvalidLengths_InvalidWaits).trans (congrArg some (by decide +kernel))⟩
    · have e := hm.symm.trans (PySem.W.mg_of X G a_InvalidMarks)
      cases e
      exact ⟨ise_InvalidMarks, (kit_ref eI_InvalidWaits eT_InvalidWaits s_InvalidMarks_InvalidWaits d_InvalidMarks_InvalidWaits).trans (congrArg some (by decide +kernel))⟩
    · have e := hm.symm.trans (PySem.W.mg_of X G a_InvalidNumber)
      cases e
      exact ⟨ise_InvalidNumber, (kit_ref eI_InvalidWaits eT_InvalidWaits s_InvalidNumber_InvalidWaits d_InvalidNumber_InvalidWaits).trans (congrArg some (by decide +kernel))⟩
    · have e := hm.symm.trans (PySem.W.mg_of X G a_InvalidQuestion)
      cases e
      exact ⟨ise_InvalidQuestion, (kit_ref eI_InvalidWaits eT_InvalidWaits s_InvalidQuestion_InvalidWaits d_InvalidQuestion_InvalidWaits).trans (congrArg some (by decide +kernel))⟩
    · have e := hm.symm.trans (PySem.W.mg_of X G a_InvalidRun)
      cases e
      exact ⟨ise_InvalidRun, (kit_ref eI_InvalidWaits eT_InvalidWaits s_InvalidRun_InvalidWaits d_InvalidRun_InvalidWaits).trans (congrArg some (by decide +kernel))⟩
    · have e := hm.symm.trans (PySem.W.mg_of X G a_InvalidTicks)
      cases e
      exact ⟨ise_InvalidTicks, (kit_ref eI_InvalidWaits eT_InvalidWaits s_InvalidTicks_InvalidWaits d_InvalidTicks_InvalidWaits).trans (congrArg some (by decide +kernel))⟩
    · have e := hm.symm.trans (PySem.W.mg_of X G a_InvalidTrace)
      cases e
      exact ⟨ise_InvalidTrace, (kit_ref eI_InvalidWaits eT_InvalidWaits s_InvalidTrace_InvalidWaits d_InvalidTrace_InvalidWaits).trans (congrArg some (by decide +kernel))⟩
    · have e := hm.symm.trans (PySem.W.mg_of X G a_InvalidWaits)
      cases e
      exact ⟨ise_InvalidWaits, (kit_self).trans (congrArg some (by decide +kernel))⟩
    · have e := hm.symm.trans (PySem.W.mg_of X G a_NothingToUndo)
      cases e
      exact ⟨ise_NothingToUndo, (kit_ref eI_InvalidWaits eT_InvalidWaits s_NothingToUndo_InvalidWaits d_NothingToUndo_InvalidWaits).trans (congrArg some (by decide +kernel))⟩
    · have e := hm.symm.trans (PySem.W.mg_of X G a_Undefined)
      cases e
      exact ⟨ise_Undefined, (kit_ref eI_InvalidWaits eT_InvalidWaits s_Undefined_InvalidWaits d_Undefined_InvalidWaits).trans (congrArg some (by decide +kernel))⟩⟩
  have ie_NothingToUndo' : IsEs K mg ECs_all (.ref C_NothingToUndo) sub_NothingToUndo := ⟨fun y hy C hm => by
    have hy : y ∈ ECs_all := by simpa using hy
    simp only [ECs_all, List.mem_cons, List.not_mem_nil, or_false] at hy
    rcases hy with rfl | rfl | rfl | rfl | rfl | rfl | rfl | rfl | rfl | rfl | rfl | rfl | rfl
    · have e := hm.symm.trans (PySem.W.mg_of X G a_InvalidClaim)
      cases e
      exact ⟨ise_InvalidClaim, (kit_ref eI_NothingToUndo eT_NothingToUndo s_InvalidClaim_NothingToUndo d_InvalidClaim_NothingToUndo).trans (congrArg some (by decide +kernel))⟩
    · have e := hm.symm.trans (PySem.W.mg_of X G a_InvalidEdge)
      cases e
      exact ⟨ise_InvalidEdge, (kit_ref eI_NothingToUndo eT_NothingToUndo s_InvalidEdge_NothingToUndo d_InvalidEdge_NothingToUndo).trans (congrArg some (by decide +kernel))⟩
    · have e := hm.symm.trans (PySem.W.mg_of X G a_InvalidEdges)
      cases e
      exact ⟨ise_InvalidEdges, (kit_ref eI_NothingToUndo eT_NothingToUndo s_InvalidEdges_NothingToUndo d_InvalidEdges_NothingToUndo).trans (congrArg some (by decide +kernel))⟩
    · have e := hm.symm.trans (PySem.W.mg_of X G a_InvalidLengths)
      cases e
      exact ⟨ise_InvalidLengths, (kit_ref eI_NothingToUndo eT_NothingToUndo s_InvalidLengths_NothingToUndo d_InvalidLengths_NothingToUndo).trans (congrArg some (by decide +kernel))⟩
    · have e := hm.symm.trans (PySem.W.mg_of X G a_InvalidMarks)
      cases e
      exact ⟨ise_InvalidMarks, (kit_ref eI_NothingToUndo eT_NothingToUndo s_InvalidMarks_NothingToUndo d_InvalidMarks_NothingToUndo).trans (congrArg some (by decide +kernel))⟩
    · have e := hm.symm.trans (PySem.W.mg_of X G a_InvalidNumber)
      cases e
      exact ⟨ise_InvalidNumber, (kit_ref eI_NothingToUndo eT_NothingToUndo s_InvalidNumber_NothingToUndo d_InvalidNumber_NothingToUndo).trans (congrArg some (by decide +kernel))⟩
    · have e := hm.symm.trans (PySem.W.mg_of X G a_InvalidQuestion)
      cases e
      exact ⟨ise_InvalidQuestion, (kit_ref eI_NothingToUndo eT_NothingToUndo s_InvalidQuestion_NothingToUndo d_InvalidQuestion_NothingToUndo).trans (congrArg some (by decide +kernel))⟩
    · have e := hm.symm.trans (PySem.W.mg_of X G a_InvalidRun)
      cases e
      exact ⟨ise_InvalidRun, (kit_ref eI_NothingToUndo eT_NothingToUndo s_InvalidRun_NothingToUndo d_InvalidRun_NothingToUndo).trans (congrArg some (by decide +kernel))⟩
    · have e := hm.symm.trans (PySem.W.mg_of X G a_InvalidTicks)
      cases e
      exact ⟨ise_InvalidTicks, (kit_ref eI_NothingToUndo eT_NothingToUndo s_InvalidTicks_NothingToUndo d_InvalidTicks_NothingToUndo).trans (congrArg some (by decide +kernel))⟩
    · have e := hm.symm.trans (PySem.W.mg_of X G a_InvalidTrace)
      cases e
      exact ⟨ise_InvalidTrace, (kit_ref eI_NothingToUndo eT_NothingToUndo s_InvalidTrace_NothingToUndo d_InvalidTrace_NothingToUndo).trans (congrArg some (by decide +kernel))⟩
    · have e := hm.symm.trans (PySem.W.mg_of X G a_InvalidWaits)
      cases e
      exact ⟨ise_InvalidWaits, (kit_ref eI_NothingToUndo eT_NothingToUndo s_InvalidWaits_NothingToUndo d_InvalidWaits_NothingToUndo).trans (congrArg some (by decide +kernel))⟩
    · have e := hm.symm.trans (PySem.W.mg_of X G a_NothingToUndo)
      cases e
      exact ⟨ise_NothingToUndo, (kit_self).trans (congrArg some (by decide +kernel))⟩
    · have e := hm.symm.trans (PySem.W.mg_of X G a_Undefined)
      cases e
      exact ⟨ise_Undefined, (kit_ref eI_NothingToUndo eT_NothingToUndo s_Undefined_NothingToUndo d_Undefined_NothingToUndo).trans (congrArg some (by decide +kernel))⟩⟩
  have ie_TickError' : IsEs K mg ECs_all (.ref C_TickError) sub_TickError := ⟨fun y hy C hm => by
    have hy : y ∈ ECs_all := by simpa using hy
    simp only [ECs_all, List.mem_cons, List.not_mem_nil, or_false] at hy
    rcases hy with rfl | rfl | rfl | rfl | rfl | rfl | rfl | rfl | rfl | rfl | rfl | rfl | rfl
    · have e := hm.symm.trans (PySem.W.mg_of X G a_InvalidClaim)
      cases e
      exact ⟨ise_InvalidClaim, (kit_ref eI_TickError eT_TickError s_InvalidClaim_TickError d_InvalidClaim_TickError).trans (congrArg some (by decide +kernel))⟩
    · have e := hm.symm.trans (PySem.W.mg_of X G a_InvalidEdge)
      cases e
      exact ⟨ise_InvalidEdge, (kit_ref eI_TickError eT_TickError s_InvalidEdge_TickError d_InvalidEdge_TickError).trans (congrArg some (by decide +kernel))⟩
    · have e := hm.symm.trans (PySem.W.mg_of X G a_InvalidEdges)
      cases e
      exact ⟨ise_InvalidEdges, (kit_ref eI_TickError eT_TickError s_InvalidEdges_TickError d_InvalidEdges_TickError).trans (congrArg some (by decide +kernel))⟩
    · have e := hm.symm.trans (PySem.W.mg_of X G a_InvalidLengths)
      cases e
      exact ⟨ise_InvalidLengths, (kit_ref eI_TickError eT_TickError s_InvalidLengths_TickError d_InvalidLengths_TickError).trans (congrArg some (by decide +kernel))⟩
    · have e := hm.symm.trans (PySem.W.mg_of X G a_InvalidMarks)
      cases e
      exact ⟨ise_InvalidMarks, (kit_ref eI_TickError eT_TickError s_InvalidMarks_TickError d_InvalidMarks_TickError).trans (congrArg some (by decide +kernel))⟩
    · have e := hm.symm.trans (PySem.W.mg_of X G a_InvalidNumber)
      cases e
      exact ⟨ise_InvalidNumber, (kit_ref eI_TickError eT_TickError s_InvalidNumber_TickError d_InvalidNumber_TickError).trans (congrArg some (by decide +kernel))⟩
    · have e := hm.symm.trans (PySem.W.mg_of X G a_InvalidQuestion)
      cases e
      exact ⟨ise_InvalidQuestion, (kit_ref eI_TickError eT_TickError s_InvalidQuestion_TickError d_InvalidQuestion_TickError).trans (congrArg some (by decide +kernel))⟩
    · have e := hm.symm.trans (PySem.W.mg_of X G a_InvalidRun)
      cases e
      exact ⟨ise_InvalidRun, (kit_ref eI_TickError eT_TickError s_InvalidRun_TickError d_InvalidRun_TickError).trans (congrArg some (by decide +kernel))⟩
    · have e := hm.symm.trans (PySem.W.mg_of X G a_InvalidTicks)
      cases e
      exact ⟨ise_InvalidTicks, (kit_ref eI_TickError eT_TickError s_InvalidTicks_TickError d_InvalidTicks_TickError).trans (congrArg some (by decide +kernel))⟩
    · have e := hm.symm.trans (PySem.W.mg_of X G a_InvalidTrace)
      cases e
      exact ⟨ise_InvalidTrace, (kit_ref eI_TickError eT_TickError s_InvalidTrace_TickError d_InvalidTrace_TickError).trans (congrArg some (by decide +kernel))⟩
    · have e := hm.symm.trans (PySem.W.mg_of X G a_InvalidWaits)
      cases e
      exact ⟨ise_InvalidWaits, (kit_ref eI_TickError eT_TickError s_InvalidWaits_TickError d_InvalidWaits_TickError).trans (congrArg some (by decide +kernel))⟩
    · have e := hm.symm.trans (PySem.W.mg_of X G a_NothingToUndo)
      cases e
      exact ⟨ise_NothingToUndo, (kit_ref eI_TickError eT_TickError s_NothingToUndo_TickError d_NothingToUndo_TickError).trans (congrArg some (by decide +kernel))⟩
    · have e := hm.symm.trans (PySem.W.mg_of X G a_Undefined)
      cases e
      exact ⟨ise_Undefined, (kit_ref eI_TickError eT_TickError s_Undefined_TickError d_Undefined_TickError).trans (congrArg some (by decide +kernel))⟩⟩
  have ie_Undefined' : IsEs K mg ECs_all (.ref C_Undefined) sub_Undefined := ⟨fun y hy C hm => by
    have hy : y ∈ ECs_all := by simpa using hy
    simp only [ECs_all, List.mem_cons, List.not_mem_nil, or_false] at hy
    rcases hy with rfl | rfl | rfl | rfl | rfl | rfl | rfl | rfl | rfl | rfl | rfl | rfl | rfl
    · have e := hm.symm.trans (PySem.W.mg_of X G a_InvalidClaim)
      cases e
      exact ⟨ise_InvalidClaim, (kit_ref eI_Undefined eT_Undefined s_InvalidClaim_Undefined d_InvalidClaim_Undefined).trans (congrArg some (by decide +kernel))⟩
    · have e := hm.symm.trans (PySem.W.mg_of X G a_InvalidEdge)
      cases e
      exact ⟨ise_InvalidEdge, (kit_ref eI_Undefined eT_Undefined s_InvalidEdge_Undefined d_InvalidEdge_Undefined).trans (congrArg some (by decide +kernel))⟩
    · have e := hm.symm.trans (PySem.W.mg_of X G a_InvalidEdges)
      cases e
      exact ⟨ise_InvalidEdges, (kit_ref eI_Undefined eT_Undefined s_InvalidEdges_Undefined d_InvalidEdges_Undefined).trans (congrArg some (by decide +kernel))⟩
    · have e := hm.symm.trans (PySem.W.mg_of X G a_InvalidLengths)
      cases e
      exact ⟨ise_InvalidLengths, (kit_ref eI_Undefined eT_Undefined s_InvalidLengths_Undefined d_InvalidLengths_Undefined).trans (congrArg some (by decide +kernel))⟩
    · have e := hm.symm.trans (PySem.W.mg_of X G a_InvalidMarks)
      cases e
      exact ⟨ise_InvalidMarks, (kit_ref eI_Undefined eT_Undefined s_InvalidMarks_Undefined d_InvalidMarks_Undefined).trans (congrArg some (by decide +kernel))⟩
    · have e := hm.symm.trans (PySem.W.mg_of X G a_InvalidNumber)
      cases e
      exact ⟨ise_InvalidNumber, (kit_ref eI_Undefined eT_Undefined s_InvalidNumber_Undefined d_InvalidNumber_Undefined).trans (congrArg some (by decide +kernel))⟩
    · have e := hm.symm.trans (PySem.W.mg_of X G a_InvalidQuestion)
      cases e
      exact ⟨ise_InvalidQuestion, (kit_ref eI_Undefined eT_Undefined s_InvalidQuestion_Undefined d_InvalidQuestion_Undefined).trans (congrArg some (by decide +kernel))⟩
    · have e := hm.symm.trans (PySem.W.mg_of X G a_InvalidRun)
      cases e
      exact ⟨ise_InvalidRun, (kit_ref eI_Undefined eT_Undefined s_InvalidRun_Undefined d_InvalidRun_Undefined).trans (congrArg some (by decide +kernel))⟩
    · have e := hm.symm.trans (PySem.W.mg_of X G a_InvalidTicks)
      cases e
      exact ⟨ise_InvalidTicks, (kit_ref eI_Undefined eT_Undefined s_InvalidTicks_Undefined d_InvalidTicks_Undefined).trans (congrArg some (by decide +kernel))⟩
    · have e := hm.symm.trans (PySem.W.mg_of X G a_InvalidTrace)
      cases e
      exact ⟨ise_InvalidTrace, (kit_ref eI_Undefined eT_Undefined s_InvalidTrace_Undefined d_InvalidTrace_Undefined).trans (congrArg some (by decide +kernel))⟩
    · have e := hm.symm.trans (PySem.W.mg_of X G a_InvalidWaits)
      cases e
      exact ⟨ise_InvalidWaits, (kit_ref eI_Undefined eT_Undefined s_InvalidWaits_Undefined d_InvalidWaits_Undefined).trans (congrArg some (by decide +kernel))⟩
    · have e := hm.symm.trans (PySem.W.mg_of X G a_NothingToUndo)
      cases e
      exact ⟨ise_NothingToUndo, (kit_ref eI_Undefined eT_Undefined s_NothingToUndo_Undefined d_NothingToUndo_Undefined).trans (congrArg some (by decide +kernel))⟩
    · have e := hm.symm.trans (PySem.W.mg_of X G a_Undefined)
      cases e
      exact ⟨ise_Undefined, (kit_self).trans (congrArg some (by decide +kernel))⟩⟩
  have ie_ValueError' : IsEs K mg ECs_all (.type "ValueError") sub_ValueError := ⟨fun y hy C hm => by
    have hy : y ∈ ECs_all := by simpa using hy
    simp only [ECs_all, List.mem_cons, List.not_mem_nil, or_false] at hy
    rcases hy with rfl | rfl | rfl | rfl | rfl | rfl | rfl | rfl | rfl | rfl | rfl | rfl | rfl
    · have e := hm.symm.trans (PySem.W.mg_of X G a_InvalidClaim)
      cases e
      exact ⟨ise_InvalidClaim, (kit_vt esv_InvalidClaim (by decide +kernel)).trans (congrArg some (by decide +kernel))⟩
    · have e := hm.symm.trans (PySem.W.mg_of X G a_InvalidEdge)
      cases e
      exact ⟨ise_InvalidEdge, (kit_vt esv_InvalidEdge (by decide +kernel)).trans (congrArg some (by decide +kernel))⟩
    · have e := hm.symm.trans (PySem.W.mg_of X G a_InvalidEdges)
      cases e
      exact ⟨ise_InvalidEdges, (kit_vt esv_InvalidEdges (by decide +kernel)).trans (congrArg some (by decide +kernel))⟩
    · have e := hm.symm.trans (PySem.W.mg_of X G a_InvalidLengths)
      cases e
      exact ⟨ise_InvalidLengths, (kit_vt esv_InvalidLengths (by decide +kernel)).trans (congrArg some (by decide +kernel))⟩
    · have e := hm.symm.trans (PySem.W.mg_of X G a_InvalidMarks)
      cases e
      exact ⟨ise_InvalidMarks, (kit_vt esv_InvalidMarks (by decide +kernel)).trans (congrArg some (by decide +kernel))⟩
    · have e := hm.symm.trans (PySem.W.mg_of X G a_InvalidNumber)
      cases e
      exact ⟨ise_InvalidNumber, (kit_vt esv_InvalidNumber (by decide +kernel)).trans (congrArg some (by decide +kernel))⟩
    · have e := hm.symm.trans (PySem.W.mg_of X G a_InvalidQuestion)
      cases e
      exact ⟨ise_InvalidQuestion, (kit_vt esv_InvalidQuestion (by decide +kernel)).trans (congrArg some (by decide +kernel))⟩
    · have e := hm.symm.trans (PySem.W.mg_of X G a_InvalidRun)
      cases e
      exact ⟨ise_InvalidRun, (kit_vt esv_InvalidRun (by decide +kernel)).trans (congrArg some (by decide +kernel))⟩
    · have e := hm.symm.trans (PySem.W.mg_of X G a_InvalidTicks)
      cases e
      exact ⟨ise_InvalidTicks, (kit_vt esv_InvalidTicks (by decide +kernel)).trans (congrArg some (by decide +kernel))⟩
    · have e := hm.symm.trans (PySem.W.mg_of X G a_InvalidTrace)
      cases e
      exact ⟨ise_InvalidTrace, (kit_vt esv_InvalidTrace (by decide +kernel)).trans (congrArg some (by decide +kernel))⟩
    · have e := hm.symm.trans (PySem.W.mg_of X G a_InvalidWaits)
      cases e
      exact ⟨ise_InvalidWaits, (kit_vt esv_InvalidWaits (by decide +kernel)).trans (congrArg some (by decide +kernel))⟩
    · have e := hm.symm.trans (PySem.W.mg_of X G a_NothingToUndo)
      cases e
      exact ⟨ise_NothingToUndo, (kit_vt esv_NothingToUndo (by decide +kernel)).trans (congrArg some (by decide +kernel))⟩
    · have e := hm.symm.trans (PySem.W.mg_of X G a_Undefined)
      cases e
      exact ⟨ise_Undefined, (kit_vt esv_Undefined (by decide +kernel)).trans (congrArg some (by decide +kernel))⟩⟩
  have iv_InvalidNumber' : IsEs K mg ECs_value (.ref C_InvalidNumber) sub_InvalidNumber := ⟨fun y hy C hm => by
    have hy : y ∈ ECs_value := by simpa using hy
    simp only [ECs_value, List.mem_cons, List.not_mem_nil, or_false] at hy
    rcases hy with rfl | rfl | rfl | rfl | rfl | rfl | rfl | rfl | rfl | rfl | rfl
    · have e := hm.symm.trans (PySem.W.mg_of X G a_InvalidClaim)
      cases e
      exact ⟨ise_InvalidClaim, (kit_ref eI_InvalidNumber eT_InvalidNumber s_InvalidClaim_InvalidNumber d_InvalidClaim_InvalidNumber).trans (congrArg some (by decide +kernel))⟩
    · have e := hm.symm.trans (PySem.W.mg_of X G a_InvalidEdge)
      cases e
      exact ⟨ise_InvalidEdge, (kit_ref eI_InvalidNumber eT_InvalidNumber s_InvalidEdge_InvalidNumber d_InvalidEdge_InvalidNumber).trans (congrArg some (by decide +kernel))⟩
    · have e := hm.symm.trans (PySem.W.mg_of X G a_InvalidEdges)
      cases e
      exact ⟨ise_InvalidEdges, (kit_ref eI_InvalidNumber eT_InvalidNumber s_InvalidEdges_InvalidNumber d_InvalidEdges_InvalidNumber).trans (congrArg some (by decide +kernel))⟩
    · have e := hm.symm.trans (PySem.W.mg_of X G a_InvalidLengths)
      cases e
      exact ⟨ise_InvalidLengths, (kit_ref eI_InvalidNumber eT_InvalidNumber s_InvalidLengths_InvalidNumber d_InvalidLengths_InvalidNumber).trans (congrArg some (by decide +kernel))⟩
    · have e := hm.symm.trans (PySem.W.mg_of X G a_InvalidMarks)
      cases e
      exact ⟨ise_InvalidMarks, (kit_ref eI_InvalidNumber eT_InvalidNumber s_InvalidMarks_InvalidNumber d_InvalidMarks_InvalidNumber).trans (congrArg some (by decide +kernel))⟩
    · have e := hm.symm.trans (PySem.W.mg_of X G a_InvalidNumber)
      cases e
      exact ⟨ise_InvalidNumber, (kit_self).trans (congrArg some (by decide +kernel))⟩
    · have e := hm.symm.trans (PySem.W.mg_of X G a_InvalidQuestion)
      cases e
      exact ⟨ise_InvalidQuestion, (kit_ref eI_InvalidNumber eT_InvalidNumber s_InvalidQuestion_InvalidNumber d_InvalidQuestion_InvalidNumber).trans (congrArg some (by decide +kernel))⟩
    · have e := hm.symm.trans (PySem.W.mg_of X G a_InvalidRun)
      cases e
      exact ⟨ise_InvalidRun, (kit_ref eI_InvalidNumber eT_InvalidNumber s_InvalidRun_InvalidNumber d_InvalidRun_InvalidNumber).trans (congrArg some (by decide +kernel))⟩
    · have e := hm.symm.trans (PySem.W.mg_of X G a_InvalidTicks)
      cases e
      exact ⟨ise_InvalidTicks, (kit_ref eI_InvalidNumber eT_InvalidNumber s_InvalidTicks_InvalidNumber d_InvalidTicks_InvalidNumber).trans (congrArg some (by decide +kernel))⟩
    · have e := hm.symm.trans (PySem.W.mg_of X G a_InvalidTrace)
      cases e
      exact ⟨ise_InvalidTrace, (kit_ref eI_InvalidNumber eT_InvalidNumber s_InvalidTrace_InvalidNumber d_InvalidTrace_InvalidNumber).trans (congrArg some (by decide +kernel))⟩
    · have e := hm.symm.trans (PySem.W.mg_of X G a_InvalidWaits)
      cases e
      exact ⟨ise_InvalidWaits, (kit_ref eI_InvalidNumber eT_InvalidNumber s_InvalidWaits_InvalidNumber d_InvalidWaits_InvalidNumber).trans (congrArg some (by decide +kernel))⟩⟩
  have ct_TickError' : CatchAll K mg ECs_value "TickError" := ⟨⟨C_TickError, PySem.W.mg_of X G a_TickError, fun y hy Cy hm => by
    have hy : y ∈ ECs_value := by simpa using hy
    simp only [ECs_value, List.mem_cons, List.not_mem_nil, or_false] at hy
    rcases hy with rfl | rfl | rfl | rfl | rfl | rfl | rfl | rfl | rfl | rfl | rfl
    · have e := hm.symm.trans (PySem.W.mg_of X G a_InvalidClaim)
      cases e
      exact exm_two eB_TickError eI_TickError eT_TickError s_InvalidClaim_TickError
    · have e := hm.symm.trans (PySem.W.mg_of X G a_InvalidEdge)
      cases e
      exact exm_two eB_TickError eI_TickError eT_TickError s_InvalidEdge_TickError
    · have e := hm.symm.trans (PySem.W.mg_of X G a_InvalidEdges)
      cases e
      exact exm_two eB_TickError eI_TickError eT_TickError s_InvalidEdges_TickError
    · have e := hm.symm.trans (PySem.W.mg_of X G a_InvalidLengths)
      cases e
      exact exm_two eB_TickError eI_TickError eT_TickError s_InvalidLengths_TickError
    · have e := hm.symm.trans (PySem.W.mg_of X G a_InvalidMarks)
      cases e
      exact exm_two eB_TickError eI_TickError eT_TickError s_InvalidMarks_TickError
    · have e := hm.symm.trans (PySem.W.mg_of X G a_InvalidNumber)
      cases e
      exact exm_two eB_TickError eI_TickError eT_TickError s_InvalidNumber_TickError
    · have e := hm.symm.trans (PySem.W.mg_of X G a_InvalidQuestion)
      cases e
      exact exm_two eB_TickError eI_TickError eT_TickError s_InvalidQuestion_TickError
    · have e := hm.symm.trans (PySem.W.mg_of X G a_InvalidRun)
      cases e
      exact exm_two eB_TickError eI_TickError eT_TickError s_InvalidRun_TickError
    · have e := hm.symm.trans (PySem.W.mg_of X G a_InvalidTicks)
      cases e
      exact exm_two eB_TickError eI_TickError eT_TickError s_InvalidTicks_TickError
    · have e := hm.symm.trans (PySem.W.mg_of X G a_InvalidTrace)
      cases e
      exact exm_two eB_TickError eI_TickError eT_TickError s_InvalidTrace_TickError
    · have e := hm.symm.trans (PySem.W.mg_of X G a_InvalidWaits)
      cases e
      exact exm_two eB_TickError eI_TickError eT_TickError s_InvalidWaits_TickError⟩⟩
  have e_value' : ∀ y, ECs_value.contains y = true → ErrTxt l.prog K mg y "value" := fun y hy => by
    have hy : y ∈ ECs_value := by simpa using hy
    simp only [ECs_value, List.mem_cons, List.not_mem_nil, or_false] at hy
    rcases hy with rfl | rfl | rfl | rfl | rfl | rfl | rfl | rfl | rfl | rfl | rfl
    · exact x_InvalidClaim'
    · exact x_InvalidEdge'
    · exact x_InvalidEdges'
    · exact x_InvalidLengths'
    · exact x_InvalidMarks'
    · exact x_InvalidNumber'
    · exact x_InvalidQuestion'
    · exact x_InvalidRun'
    · exact x_InvalidTicks'
    · exact x_InvalidTrace'
    · exact x_InvalidWaits'
  have e_what' : ∀ y, ECs_what.contains y = true → ErrTxt l.prog K mg y "what" := fun y hy => by
    have hy : y ∈ ECs_what := by simpa using hy
    simp only [ECs_what, List.mem_cons, List.not_mem_nil, or_false] at hy
    rcases hy with rfl
    · exact x_Undefined'
  have e_word' : ∀ y, ECs_word.contains y = true → ErrTxt l.prog K mg y "word" := fun y hy => by
    have hy : y ∈ ECs_word := by simpa using hy
    simp only [ECs_word, List.mem_cons, List.not_mem_nil, or_false] at hy
    rcases hy with rfl
    · exact x_NothingToUndo'
  have cl_Calls : Cls K C_Calls := ⟨pg_Calls, hd_Calls, po_Calls, sa_Calls⟩
  have T : Txt l.prog K mg C_Calls C_InvalidClaim C_InvalidEdge C_InvalidEdges C_InvalidLengths C_InvalidMarks C_InvalidNumber C_InvalidQuestion C_InvalidRun C_InvalidTicks C_InvalidTrace C_InvalidWaits C_NothingToUndo C_TickError C_Undefined := { b_ValueError := PySem.W.mg_none_of X G b_ValueError, b_abs := PySem.W.mg_none_of X G b_abs, b_all := PySem.W.mg_none_of X G b_all, b_bool := PySem.W.mg_none_of X G b_bool, b_int := PySem.W.mg_none_of X G b_int, b_isinstance := PySem.W.mg_none_of X G b_isinstance, b_len := PySem.W.mg_none_of X G b_len, b_range := PySem.W.mg_none_of X G b_range, b_str := PySem.W.mg_none_of X G b_str, b_tuple := PySem.W.mg_none_of X G b_tuple, b_zip := PySem.W.mg_none_of X G b_zip, c_MOST_FUNCTIONS := ⟨_, PySem.W.mg_of X G g_MOST_FUNCTIONS⟩, g_Calls := PySem.W.mg_of X G a_Calls, cl_Calls := cl_Calls, mk_Calls := ⟨mk_Calls, kp_Calls⟩, is_Calls := ⟨cl_Calls, ca_Calls, hn_Calls, tk_Calls, mr_Calls, kit_self, kit_own ic_Calls tc_Calls kit_non_Calls, kit_own ic_Calls tc_Calls kit_bl_Calls, kit_own ic_Calls tc_Calls kit_int_Calls, kit_own ic_Calls tc_Calls kit_str_Calls, kit_own ic_Calls tc_Calls kit_lst_Calls, kit_own ic_Calls tc_Calls kit_tup_Calls⟩, n_Calls_edges := n_Calls_edges, n_Calls_functions := n_Calls_functions, x_InvalidClaim := x_InvalidClaim', x_InvalidEdge := x_InvalidEdge', x_InvalidEdges := x_InvalidEdges', x_InvalidLengths := x_InvalidLengths', x_InvalidMarks := x_InvalidMarks', x_InvalidNumber := x_InvalidNumber', x_InvalidQuestion := x_InvalidQuestion', x_InvalidRun := x_InvalidRun', x_InvalidTicks := x_InvalidTicks', x_InvalidTrace := x_InvalidTrace', x_InvalidWaits := x_InvalidWaits', x_NothingToUndo := x_NothingToUndo', x_Undefined := x_Undefined', e_value := e_value', e_what := e_what', e_word := e_word', g_InvalidClaim := PySem.W.mg_of X G a_InvalidClaim, ie_InvalidClaim := ie_InvalidClaim', g_InvalidEdge := PySem.W.mg_of X G a_InvalidEdge, ie_InvalidEdge := ie_InvalidEdge', g_InvalidEdges := PySem.W.mg_of X G a_InvalidEdges, ie_InvalidEdges := ie_InvalidEdges', g_InvalidLengths := PySem.W.mg_of X G a_InvalidLengths, ie_InvalidLengths := ie_InvalidLengths', g_InvalidMarks := PySem.W.mg_of X G a_InvalidMarks, ie_InvalidMarks := ie_InvalidMarks', g_InvalidNumber := PySem.W.mg_of X G a_InvalidNumber, ie_InvalidNumber := ie_InvalidNumber', g_InvalidQuestion := PySem.W.mg_of X G a_InvalidQuestion, ie_InvalidQuestion := ie_InvalidQuestion', g_InvalidRun := PySem.W.mg_of X G a_InvalidRun, ie_InvalidRun := ie_InvalidRun', g_InvalidTicks := PySem.W.mg_of X G a_InvalidTicks, ie_InvalidTicks := ie_InvalidTicks', g_InvalidTrace := PySem.W.mg_of X G a_InvalidTrace, ie_InvalidTrace := ie_InvalidTrace', g_InvalidWaits := PySem.W.mg_of X G a_InvalidWaits, ie_InvalidWaits := ie_InvalidWaits', g_NothingToUndo := PySem.W.mg_of X G a_NothingToUndo, ie_NothingToUndo := ie_NothingToUndo', g_TickError := PySem.W.mg_of X G a_TickError, ie_TickError := ie_TickError', g_Undefined := PySem.W.mg_of X G a_Undefined, ie_Undefined := ie_Undefined', ie_ValueError := ie_ValueError', ct_TickError := ct_TickError', iv_InvalidNumber := iv_InvalidNumber' }
  have F0 := fun_mk (st := s__law_box) l0 c0 k0
  have b0 := F0.binds (ps := ["script", "k"]) fun _ _ _ _ _ _ us hl => match us, hl with | [_, _], _ => rfl
  have F1 := fun_mk (st := s__law_take) l1 c1 k1
  have b1 := F1.binds (ps := ["box", "many"]) fun _ _ _ _ _ _ us hl => match us, hl with | [_, _], _ => rfl
  have F2 := fun_mk (st := s__law_pick) l2 c2 k2
  have b2 := F2.binds (ps := ["box", "some"]) fun _ _ _ _ _ _ us hl => match us, hl with | [_, _], _ => rfl
  have F3 := fun_mk (st := s__law_ones) l3 c3 k3
  have b3 := F3.binds (ps := ["v"]) fun _ _ _ _ _ _ us hl => match us, hl with | [_], _ => rfl
  have F4 := fun_mk (st := s_is_integer) l4 c4 k4
  have b4 := F4.binds (ps := ["value"]) fun _ _ _ _ _ _ us hl => match us, hl with | [_], _ => rfl
  have F5 := fun_mk (st := s_is_integer_in) l5 c5 k5
  have b5 := F5.binds (ps := ["value", "low", "high"]) fun _ _ _ _ _ _ us hl => match us, hl with | [_, _, _], _ => rfl
  have F6 := fun_mk (st := s_is_ascending) l6 c6 k6
  have b6 := F6.binds (ps := ["members"]) fun _ _ _ _ _ _ us hl => match us, hl with | [_], _ => rfl
  have F7 := fun_mk (st := s_is_pair) l7 c7 k7
  have b7 := F7.binds (ps := ["value"]) fun _ _ _ _ _ _ us hl => match us, hl with | [_], _ => rfl
  have F8 := fun_mk (st := s_is_upward_pair) l8 c8 k8
  have b8 := F8.binds (ps := ["many", "value"]) fun _ _ _ _ _ _ us hl => match us, hl with | [_, _], _ => rfl
  have F9 := fun_mk (st := s_are_upward_pairs) l9 c9 k9
  have b9 := F9.binds (ps := ["many", "value"]) fun _ _ _ _ _ _ us hl => match us, hl with | [_, _], _ => rfl
  have F10 := fun_mk (st := s_m_Callsdd_initdd) l10 c10 k10
  have b10 := F10.binds (ps := ["self", "functions", "edges"]) fun _ _ _ _ _ _ us hl => match us, hl with | [_, _, _], _ => rfl
  have F11 := fun_mk (st := s__law_kinds) l11 c11 k11
  have b11 := F11.binds (ps := ["e"]) fun _ _ _ _ _ _ us hl => match us, hl with | [_], _ => rfl
  have F12 := fun_mk (st := s_law) l12 c12 k12
  refine ⟨PySem.W.fnOf "law" "law" (defArgs s_law) (defBody s_law) (defScope s_law) .none kV12 dc12 pm12 an12 cd12 ct12, fun s v => .of_eq rfl, fun base _ _ => ?_⟩
  have D0 := d__law_box (w := w) (base := base) T ⟨⟨_, _, PySem.W.mg_of X G a0, F0, b0⟩⟩
  have D1 := d__law_take (w := w) (base := base) T ⟨⟨_, _, PySem.W.mg_of X G a1, F1, b1⟩⟩
  have D2 := d__law_pick (w := w) (base := base) T ⟨⟨_, _, PySem.W.mg_of X G a2, F2, b2⟩⟩ D1
  have D3 := d__law_ones (w := w) (base := base) T ⟨⟨_, _, PySem.W.mg_of X G a3, F3, b3⟩⟩
  have D4 := d_is_integer (w := w) (base := base) T ⟨⟨_, _, PySem.W.mg_of X G a4, F4, b4⟩⟩
  have D5 := d_is_integer_in (w := w) (base := base) T ⟨⟨_, _, PySem.W.mg_of X G a5, F5, b5⟩⟩ D4
  have D6 := d_is_ascending (w := w) (base := base) T ⟨⟨_, _, PySem.W.mg_of X G a6, F6, b6⟩⟩
  have D7 := d_is_pair (w := w) (base := base) T ⟨⟨_, _, PySem.W.mg_of X G a7, F7, b7⟩⟩
  have D8 := d_is_upward_pair (w := w) (base := base) T ⟨⟨_, _, PySem.W.mg_of X G a8, F8, b8⟩⟩ D5 D7
  have D9 := d_are_upward_pairs (w := w) (base := base) T ⟨⟨_, _, PySem.W.mg_of X G a9, F9, b9⟩⟩ D6 D8
  have D10 := d_m_Callsdd_initdd (w := w) (base := base) T ⟨⟨_, _, a10, i10, F10, b10⟩⟩ D9 D5
  have D11 := d__law_kinds (w := w) (base := base) T ⟨⟨_, _, PySem.W.mg_of X G a11, F11, b11⟩⟩
  exact fn_law T F12 D10 D11 D3 D2 D1 D0
theorem only_rep {mg : Str → Option Value} {K : PySem.W.Frag} {H : Hp} : Rep ⟨mg, K⟩ ⟨K, fun _ => none, H, []⟩ H [] :=
  ⟨rfl, fun _ _ e => (by cases e), Same.refl _, fun _ _ e => (by cases e), rfl, List.nodup_nil, fun _ _ _ e => (by simp at e)⟩
/-- a law over a script: how it is asked -/
def spS (K : PySem.W.Frag) : Sp := fun vs H Q E => ∃ (a : Addr) (ns : List Int), vs = [.ref a] ∧ SqL K H a (ns.map V.int) ∧ ns.length ≤ 63 ∧ (∀ z ∈ ns, Builtin.Int.intBits z ≤ 1048576) ∧ ∀ H', Q (.bl true) H'
theorem spS_imp {mg : Str → Option Value} {K : PySem.W.Frag} {F : List D → M D} (hF : ∀ ns : List Int, ns.length ≤ 63 → (∀ z ∈ ns, Builtin.Int.intBits z ≤ 1048576) → ∃ S, F [.s ns] [] = .ok (.p (.bool true)) S) (vs : List V) (H : Hp) (Q : VK) (E : XK) (h : spS K vs H Q E) : spD ⟨mg, K⟩ F vs H Q E := by
  obtain ⟨a, ns, rfl, hs, hl, hb, q⟩ := h
  obtain ⟨S, e⟩ := hF ns hl hb
  refine ⟨_, [.s ns], [], only_rep, .cons ⟨a, rfl, hs⟩ .nil, ?_⟩
  rw [e]
  intro w' H' g R v hv
  cases hv
  exact q H'
theorem walk {l : PySem.W.OpenLaw} {q : Program} {loose : List Str} {XP : (Str → Option Value) → Heap → Prop} {YP : World → Heap → Prop} {d : DefRec} {K : Params → PySem.W.Frag} (hn : l.most = some 63) (hdf : d.params.defaults = [])
    (hY : ∀ (w : World) (h : Heap), YP w h → (K w.params).In h)
    (F : ∀ (w : World) (mg : Str → Option Value) (fa : Addr) (h : Heap), (K w.params).In h → h.Ns mainGlobals mg → mg d.name = some (.ref fa) →
      ∃ fd : FuncData, (∀ (s : Shared) (u : Value), BindsTo s fd ⟨[u], []⟩ [("script", u)]) ∧ ∀ base : Heap, (K w.params).In base → base.Ns mainGlobals mg → FnOk l.prog w (K w.params) mg base (L2.CX l.prog w) 7 fa fd ["script"] (spD ⟨mg, K w.params⟩ F_law)) :
    PySem.W.WalkO q loose XP YP l.row.toRowW d [] (fun f vs => PySem.call f vs) :=
  L2.walk_ofB (n := 63) (k := 7) (x := "script") (CX := fun w => L2.CX l.prog w) (sp := fun w => spS (K w.params)) hn (by decide) hdf ⟨by decide, by decide, by decide⟩ hY (fun w mg fa h KX G hm => let ⟨fd, b, f⟩ := F w mg fa h KX G hm; ⟨fd, b, fun base X Y => (f base X Y).imp (spS_imp law_trueB)⟩)
    (fun w H a ns hl hb _ hS => ⟨a, ns, rfl, hS, hl, hb, fun _ => rfl⟩) fun _ _ _ _ _ ⟨_, _, _, _, _, _, _, _, _, _, _, _, z⟩ => z

end LK
open PySem PySem.W PyProof.Rows in
set_option maxRecDepth 100000 in
set_option maxHeartbeats 0 in
theorem PySem.Challenge.cw_sureticks_k01_errors_holds : PySem.Challenge.rw_sureticks_k01_errors.Holds := by
  w_on; o_law; k_head; (case hw => w_witness2)
  k_fill
  refine LK.walk (l := PySem.Challenge.rw_sureticks_k01_errors) rfl rfl (fun w h Y => PySem.W.kIn_of Y) ?F
  case F =>
    intro w mg fa h KX G hmg
    refine' LK.all_mk (l := PySem.Challenge.rw_sureticks_k01_errors) KX G hmg ?a0 ?l0 ?c0 ?k0 ?a1 ?l1 ?c1 ?k1 ?a2 ?l2 ?c2 ?k2 ?a3 ?l3 ?c3 ?k3 ?a4 ?l4 ?c4 ?k4 ?a5 ?l5 ?c5 ?k5 ?a6 ?l6 ?c6 ?k6 ?a7 ?l7 ?c7 ?k7 ?a8 ?l8 ?c8 ?k8 ?a9 ?l9 ?c9 ?k9 ?a10 ?i10 ?l10 ?c10 ?k10 ?a11 ?l11 ?c11 ?k11 ?a12 ?l12 ?c12 ?k12 ?b_ValueError ?b_abs ?b_all ?b_bool ?b_int ?b_isinstance ?b_len ?b_range ?b_str ?b_tuple ?b_zip ?g_MOST_FUNCTIONS ?a_Calls ?pg_Calls ?hd_Calls ?po_Calls ?sa_Calls ?mk_Calls ?kp_Calls ?ca_Calls ?hn_Calls ?tk_Calls ?mr_Calls ?ic_Calls ?tc_Calls ?kit_non_Calls ?kit_bl_Calls ?kit_int_Calls ?kit_str_Calls ?kit_lst_Calls ?kit_tup_Calls ?n_Calls_edges ?n_Calls_functions ?a_InvalidClaim ?a_InvalidEdge ?a_InvalidEdges ?a_InvalidLengths ?a_InvalidMarks ?a_InvalidNumber ?a_InvalidQuestion ?a_InvalidRun ?a_InvalidTicks ?a_InvalidTrace ?a_InvalidWaits ?a_NothingToUndo ?a_TickError ?a_Undefined ?nsup ?x_InvalidClaim ?rv_InvalidClaim ?esa_InvalidClaim ?ega_InvalidClaim ?egg_InvalidClaim ?eno_InvalidClaim ?ei_InvalidClaim ?et_InvalidClaim ?ekC_InvalidClaim ?ehd_InvalidClaim ?esup_InvalidClaim ?esv_InvalidClaim ?emr_InvalidClaim ?el_InvalidClaim ?eco_InvalidClaim ?ecd_InvalidClaim ?ev2_InvalidClaim ?efi_InvalidClaim ?ecc_InvalidClaim ?x_InvalidEdge ?rv_InvalidEdge ?esa_InvalidEdge ?ega_InvalidEdge ?egg_InvalidEdge ?eno_InvalidEdge ?ei_InvalidEdge ?et_InvalidEdge ?ekC_InvalidEdge ?ehd_InvalidEdge ?esup_InvalidEdge ?esv_InvalidEdge ?emr_InvalidEdge ?el_InvalidEdge ?eco_InvalidEdge ?ecd_InvalidEdge ?ev2_InvalidEdge ?efi_InvalidEdge ?ecc_InvalidEdge ?x_InvalidEdges ?rv_InvalidEdges ?esa_InvalidEdges ?ega_InvalidEdges ?egg_InvalidEdges ?eno_InvalidEdges ?ei_InvalidEdges ?et_InvalidEdges ?ekC_InvalidEdges ?ehd_InvalidEdges ?esup_InvalidEdges ?esv_InvalidEdges ?emr_InvalidEdges ?el_InvalidEdges ?eco_InvalidEdges ?ecd_InvalidEdges ?ev2_InvalidEdges ?efi_InvalidEdges ?ecc_InvalidEdges ?x_InvalidLengths ?rv_InvalidLengths ?esa_InvalidLengths ?ega_InvalidLengths ?egg_InvalidLengths ?eno_InvalidLengths ?ei_InvalidLengths ?et_InvalidLengths ?ekC_InvalidLengths ?ehd_InvalidLengths ?esup_InvalidLengths ?esv_InvalidLengths ?emr_InvalidLengths ?el_InvalidLengths ?eco_InvalidLengths ?ecd_InvalidLengths ?ev2_InvalidLengths ?efi_InvalidLengths ?ecc_InvalidLengths ?x_InvalidMarks ?rv_InvalidMarks ?esa_InvalidMarks ?ega_InvalidMarks ?egg_InvalidMarks ?eno_InvalidMarks ?ei_InvalidMarks ?et_InvalidMarks ?ekC_InvalidMarks ?ehd_InvalidMarks ?esup_InvalidMarks ?esv_InvalidMarks ?emr_InvalidMarks ?el_InvalidMarks ?eco_InvalidMarks ?ecd_InvalidMarks ?ev2_InvalidMarks ?efi_InvalidMarks ?ecc_InvalidMarks ?x_InvalidNumber ?rv_InvalidNumber ?esa_InvalidNumber ?ega_InvalidNumber ?egg_InvalidNumber ?eno_InvalidNumber ?ei_InvalidNumber ?et_InvalidNumber ?ekC_InvalidNumber ?ehd_InvalidNumber ?esup_InvalidNumber ?esv_InvalidNumber ?emr_InvalidNumber ?el_InvalidNumber ?eco_InvalidNumber ?ecd_InvalidNumber ?ev2_InvalidNumber ?efi_InvalidNumber ?ecc_InvalidNumber ?x_InvalidQuestion ?rv_InvalidQuestion ?esa_InvalidQuestion ?ega_InvalidQuestion ?egg_InvalidQuestion ?eno_InvalidQuestion ?ei_InvalidQuestion ?et_InvalidQuestion ?ekC_InvalidQuestion ?ehd_InvalidQuestion ?esup_InvalidQuestion ?esv_InvalidQuestion ?emr_InvalidQuestion ?el_InvalidQuestion ?eco_InvalidQuestion ?ecd_InvalidQuestion ?ev2_InvalidQuestion ?efi_InvalidQuestion ?ecc_InvalidQuestion ?x_InvalidRun ?rv_InvalidRun ?esa_InvalidRun ?ega_InvalidRun ?egg_InvalidRun ?eno_InvalidRun ?ei_InvalidRun ?et_InvalidRun ?ekC_InvalidRun ?ehd_InvalidRun ?esup_InvalidRun ?esv_InvalidRun ?emr_InvalidRun ?el_InvalidRun ?eco_InvalidRun ?ecd_InvalidRun ?ev2_InvalidRun ?efi_InvalidRun ?ecc_InvalidRun ?x_InvalidTicks ?rv_InvalidTicks ?esa_InvalidTicks ?ega_InvalidTicks ?egg_InvalidTicks ?eno_InvalidTicks ?ei_InvalidTicks ?et_InvalidTicks ?ekC_InvalidTicks ?ehd_InvalidTicks ?esup_InvalidTicks ?esv_InvalidTicks ?emr_InvalidTicks ?el_InvalidTicks ?eco_InvalidTicks ?ecd_InvalidTicks ?ev2_InvalidTicks ?efi_InvalidTicks ?ecc_InvalidTicks ?x_InvalidTrace ?rv_InvalidTrace ?esa_InvalidTrace ?ega_InvalidTrace ?egg_InvalidTrace ?eno_InvalidTrace ?ei_InvalidTrace ?et_InvalidTrace ?ekC_InvalidTrace ?ehd_InvalidTrace ?esup_InvalidTrace ?esv_InvalidTrace ?emr_InvalidTrace ?el_InvalidTrace ?eco_InvalidTrace ?ecd_InvalidTrace ?ev2_InvalidTrace ?efi_InvalidTrace ?ecc_InvalidTrace ?x_InvalidWaits ?rv_InvalidWaits ?esa_InvalidWaits ?ega_InvalidWaits ?egg_InvalidWaits ?eno_InvalidWaits ?ei_InvalidWaits ?et_InvalidWaits ?ekC_InvalidWaits ?ehd_InvalidWaits ?esup_InvalidWaits ?esv_InvalidWaits ?emr_InvalidWaits ?el_InvalidWaits ?eco_InvalidWaits ?ecd_InvalidWaits ?ev2_InvalidWaits ?efi_InvalidWaits ?ecc_InvalidWaits ?x_NothingToUndo ?rv_NothingToUndo ?esa_NothingToUndo ?ega_NothingToUndo ?egg_NothingToUndo ?eno_NothingToUndo ?ei_NothingToUndo ?et_NothingToUndo ?ekC_NothingToUndo ?ehd_NothingToUndo ?esup_NothingToUndo ?esv_NothingToUndo ?emr_NothingToUndo ?el_NothingToUndo ?eco_NothingToUndo ?ecd_NothingToUndo ?ev2_NothingToUndo ?efi_NothingToUndo ?ecc_NothingToUndo ?x_Undefined ?rv_Undefined ?esa_Undefined ?ega_Undefined ?egg_Undefined ?eno_Undefined ?ei_Undefined ?et_Undefined ?ekC_Undefined ?ehd_Undefined ?esup_Undefined ?esv_Undefined ?emr_Undefined ?el_Undefined ?eco_Undefined ?ecd_Undefined ?ev2_Undefined ?efi_Undefined ?ecc_Undefined ?top_ ?opq ?eB_InvalidClaim ?eT_InvalidClaim ?eI_InvalidClaim ?s_InvalidClaim_InvalidClaim ?s_InvalidEdge_InvalidClaim ?d_InvalidEdge_InvalidClaim ?s_InvalidEdges_InvalidClaim ?d_InvalidEdges_InvalidClaim ?s_InvalidLengths_InvalidClaim ?d_InvalidLengths_InvalidClaim ?s_InvalidMarks_InvalidClaim ?d_InvalidMarks_InvalidClaim ?s_InvalidNumber_InvalidClaim ?d_InvalidNumber_InvalidClaim ?s_InvalidQuestion_InvalidClaim ?d_InvalidQuestion_InvalidClaim ?s_InvalidRun_InvalidClaim ?d_InvalidRun_InvalidClaim ?s_InvalidTicks_InvalidClaim ?d_InvalidTicks_InvalidClaim ?s_InvalidTrace_InvalidClaim ?d_InvalidTrace_InvalidClaim ?s_InvalidWaits_InvalidClaim ?d_InvalidWaits_InvalidClaim ?s_NothingToUndo_InvalidClaim ?d_NothingToUndo_InvalidClaim ?s_Undefined_InvalidClaim ?d_Undefined_InvalidClaim ?eB_InvalidEdge ?eT_InvalidEdge ?eI_InvalidEdge ?s_InvalidClaim_InvalidEdge ?d_InvalidClaim_InvalidEdge ?s_InvalidEdge_InvalidEdge ?s_InvalidEdges_InvalidEdge ?d_InvalidEdges_InvalidEdge ?s_InvalidLengths_InvalidEdge ?d_InvalidLengths_InvalidEdge ?s_InvalidMarks_InvalidEdge ?d_InvalidMarks_InvalidEdge ?s_InvalidNumber_InvalidEdge ?d_InvalidNumber_InvalidEdge ?s_InvalidQuestion_InvalidEdge ?d_InvalidQuestion_InvalidEdge ?s_InvalidRun_InvalidEdge ?d_InvalidRun_InvalidEdge ?s_InvalidTicks_InvalidEdge ?d_InvalidTicks_InvalidEdge ?s_InvalidTrace_InvalidEdge ?d_InvalidTrace_InvalidEdge ?s_InvalidWaits_InvalidEdge ?d_InvalidWaits_InvalidEdge ?s_NothingToUndo_InvalidEdge ?d_NothingToUndo_InvalidEdge ?s_Undefined_InvalidEdge ?d_Undefined_InvalidEdge ?eB_InvalidEdges ?eT_InvalidEdges ?eI_InvalidEdges ?s_InvalidClaim_InvalidEdges ?d_InvalidClaim_InvalidEdges ?s_InvalidEdge_InvalidEdges ?d_InvalidEdge_InvalidEdges ?s_InvalidEdges_InvalidEdges ?s_InvalidLengths_InvalidEdges ?d_InvalidLengths_InvalidEdges ?s_InvalidMarks_InvalidEdges ?d_InvalidMarks_InvalidEdges ?s_InvalidNumber_InvalidEdges ?d_InvalidNumber_InvalidEdges ?s_InvalidQuestion_InvalidEdges ?d_InvalidQuestion_InvalidEdges ?s_InvalidRun_InvalidEdges ?d_InvalidRun_InvalidEdges ?s_InvalidTicks_InvalidEdges ?d_InvalidTicks_InvalidEdges ?s_InvalidTrace_InvalidEdges ?d_InvalidTrace_InvalidEdges ?s_InvalidWaits_InvalidEdges ?d_InvalidWaits_InvalidEdges ?s_NothingToUndo_InvalidEdges ?d_NothingToUndo_InvalidEdges ?s_Undefined_InvalidEdges ?d_Undefined_InvalidEdges ?eB_InvalidLengths ?eT_InvalidLengths ?eI_InvalidLengths ?s_InvalidClaim_InvalidLengths ?d_InvalidClaim_InvalidLengths ?s_InvalidEdge_InvalidLengths ?d_InvalidEdge_InvalidLengths ?s_InvalidEdges_InvalidLengths ?d_InvalidEdges_InvalidLengths ?s_InvalidLengths_InvalidLengths ?s_InvalidMarks_InvalidLengths ?d_InvalidMarks_InvalidLengths ?s_InvalidNumber_InvalidLengths ?d_InvalidNumber_InvalidLengths ?s_InvalidQuestion_InvalidLengths ?d_InvalidQuestion_InvalidLengths ?s_InvalidRun_InvalidLengths ?d_InvalidRun_InvalidLengths ?s_InvalidTicks_InvalidLengths ?d_InvalidTicks_InvalidLengths ?s_InvalidTrace_InvalidLengths ?d_InvalidTrace_InvalidLengths ?s_InvalidWaits_InvalidLengths ?d_InvalidWaits_InvalidLengths ?s_NothingToUndo_InvalidLengths ?d_NothingToUndo_InvalidLengths ?s_Undefined_InvalidLengths ?d_Undefined_InvalidLengths ?eB_InvalidMarks ?eT_InvalidMarks ?eI_InvalidMarks ?s_InvalidClaim_InvalidMarks ?d_InvalidClaim_InvalidMarks ?s_InvalidEdge_InvalidMarks ?d_InvalidEdge_InvalidMarks ?s_InvalidEdges_InvalidMarks ?d_InvalidEdges_InvalidMarks ?s_InvalidLengths_InvalidMarks ?d_InvalidLengths_InvalidMarks ?s_InvalidMarks_InvalidMarks ?s_InvalidNumber_InvalidMarks ?d_InvalidNumber_InvalidMarks ?s_InvalidQuestion_InvalidMarks ?d_InvalidQuestion_InvalidMarks ?s_InvalidRun_InvalidMarks ?d_InvalidRun_InvalidMarks ?s_InvalidTicks_InvalidMarks ?d_InvalidTicks_InvalidMarks ?s_InvalidTrace_InvalidMarks ?d_InvalidTrace_InvalidMarks ?s_InvalidWaits_InvalidMarks ?d_InvalidWaits_InvalidMarks ?s_NothingToUndo_InvalidMarks ?d_NothingToUndo_InvalidMarks ?s_Undefined_InvalidMarks ?d_Undefined_InvalidMarks ?eB_InvalidNumber ?eT_InvalidNumber ?eI_InvalidNumber ?s_InvalidClaim_InvalidNumber ?d_InvalidClaim_InvalidNumber ?s_InvalidEdge_InvalidNumber ?d_InvalidEdge_InvalidNumber ?s_InvalidEdges_InvalidNumber ?d_InvalidEdges_InvalidNumber ?s_InvalidLengths_InvalidNumber ?d_InvalidLengths_InvalidNumber ?s_InvalidMarks_InvalidNumber ?d_InvalidMarks_InvalidNumber ?s_InvalidNumber_InvalidNumber ?s_InvalidQuestion_InvalidNumber ?d_InvalidQuestion_InvalidNumber ?s_InvalidRun_InvalidNumber ?d_InvalidRun_InvalidNumber ?s_InvalidTicks_InvalidNumber ?d_InvalidTicks_InvalidNumber ?s_InvalidTrace_InvalidNumber ?d_InvalidTrace_InvalidNumber ?s_InvalidWaits_InvalidNumber ?d_InvalidWaits_InvalidNumber ?s_NothingToUndo_InvalidNumber ?d_NothingToUndo_InvalidNumber ?s_Undefined_InvalidNumber ?d_Undefined_InvalidNumber ?eB_InvalidQuestion ?eT_InvalidQuestion ?eI_InvalidQuestion ?s_InvalidClaim_InvalidQuestion ?d_InvalidClaim_InvalidQuestion ?s_InvalidEdge_InvalidQuestion ?d_InvalidEdge_InvalidQuestion ?s_InvalidEdges_InvalidQuestion ?d_InvalidEdges_InvalidQuestion ?s_InvalidLengths_InvalidQuestion ?d_InvalidLengths_InvalidQuestion ?s_InvalidMarks_InvalidQuestion ?d_InvalidMarks_InvalidQuestion ?s_InvalidNumber_InvalidQuestion ?d_InvalidNumber_InvalidQuestion ?s_InvalidQuestion_InvalidQuestion ?s_InvalidRun_InvalidQuestion ?d_InvalidRun_InvalidQuestion ?s_InvalidTicks_InvalidQuestion ?d_InvalidTicks_InvalidQuestion ?s_InvalidTrace_InvalidQuestion ?d_InvalidTrace_InvalidQuestion ?s_InvalidWaits_InvalidQuestion ?d_InvalidWaits_InvalidQuestion ?s_NothingToUndo_InvalidQuestion ?d_NothingToUndo_InvalidQuestion ?s_Undefined_InvalidQuestion ?d_Undefined_InvalidQuestion ?eB_InvalidRun ?eT_InvalidRun ?eI_InvalidRun ?s_InvalidClaim_InvalidRun ?d_InvalidClaim_InvalidRun ?s_InvalidEdge_InvalidRun ?d_InvalidEdge_InvalidRun ?s_InvalidEdges_InvalidRun ?d_InvalidEdges_InvalidRun ?s_InvalidLengths_InvalidRun ?d_InvalidLengths_InvalidRun ?s_InvalidMarks_InvalidRun ?d_InvalidMarks_InvalidRun ?s_InvalidNumber_InvalidRun ?d_InvalidNumber_InvalidRun ?s_InvalidQuestion_InvalidRun ?d_InvalidQuestion_InvalidRun ?s_InvalidRun_InvalidRun ?s_InvalidTicks_InvalidRun ?d_InvalidTicks_InvalidRun ?s_InvalidTrace_InvalidRun ?d_InvalidTrace_InvalidRun ?s_InvalidWaits_InvalidRun ?d_InvalidWaits_InvalidRun ?s_NothingToUndo_InvalidRun ?d_NothingToUndo_InvalidRun ?s_Undefined_InvalidRun ?d_Undefined_InvalidRun ?eB_InvalidTicks ?eT_InvalidTicks ?eI_InvalidTicks ?s_InvalidClaim_InvalidTicks ?d_InvalidClaim_InvalidTicks ?s_InvalidEdge_InvalidTicks ?d_InvalidEdge_InvalidTicks ?s_InvalidEdges_InvalidTicks ?d_InvalidEdges_InvalidTicks ?s_InvalidLengths_InvalidTicks ?d_InvalidLengths_InvalidTicks ?s_InvalidMarks_InvalidTicks ?d_InvalidMarks_InvalidTicks ?s_InvalidNumber_InvalidTicks ?d_InvalidNumber_InvalidTicks ?s_InvalidQuestion_InvalidTicks ?d_InvalidQuestion_InvalidTicks ?s_InvalidRun_InvalidTicks ?d_InvalidRun_InvalidTicks ?s_InvalidTicks_InvalidTicks ?s_InvalidTrace_InvalidTicks ?d_InvalidTrace_InvalidTicks ?s_InvalidWaits_InvalidTicks ?d_InvalidWaits_InvalidTicks ?s_NothingToUndo_InvalidTicks ?d_NothingToUndo_InvalidTicks ?s_Undefined_InvalidTicks ?d_Undefined_InvalidTicks ?eB_InvalidTrace ?eT_InvalidTrace ?eI_InvalidTrace ?s_InvalidClaim_InvalidTrace ?d_InvalidClaim_InvalidTrace ?s_InvalidEdge_InvalidTrace ?d_InvalidEdge_InvalidTrace ?s_InvalidEdges_InvalidTrace ?d_InvalidEdges_InvalidTrace ?s_InvalidLengths_InvalidTrace ?d_InvalidLengths_InvalidTrace ?s_InvalidMarks_InvalidTrace ?d_InvalidMarks_InvalidTrace ?s_InvalidNumber_InvalidTrace ?d_InvalidNumber_InvalidTrace ?s_InvalidQuestion_InvalidTrace ?d_InvalidQuestion_InvalidTrace ?s_InvalidRun_InvalidTrace ?d_InvalidRun_InvalidTrace ?s_InvalidTicks_InvalidTrace ?d_InvalidTicks_InvalidTrace ?s_InvalidTrace_InvalidTrace ?s_InvalidWaits_InvalidTrace ?d_InvalidWaits_InvalidTrace ?s_NothingToUndo_InvalidTrace ?d_NothingToUndo_InvalidTrace ?s_Undefined_InvalidTrace ?d_Undefined_InvalidTrace ?eB_InvalidWaits ?eT_InvalidWaits ?eI_InvalidWaits ?s_InvalidClaim_InvalidWaits ?d_InvalidClaim_InvalidWaits ?s_InvalidEdge_InvalidWaits ?d_InvalidEdge_InvalidWaits ?s_InvalidEdges_InvalidWaits ?d_InvalidEdges_InvalidWaits ?s_InvalidLengths_InvalidWaits ?d_InvalidLengths_InvalidWaits ?s_InvalidMarks_InvalidWaits ?d_InvalidMarks_InvalidWaits ?s_InvalidNumber_InvalidWaits ?d_InvalidNumber_InvalidWaits ?s_InvalidQuestion_InvalidWaits ?d_InvalidQuestion_InvalidWaits ?s_InvalidRun_InvalidWaits ?d_InvalidRun_InvalidWaits ?s_InvalidTicks_InvalidWaits ?d_InvalidTicks_InvalidWaits ?s_InvalidTrace_InvalidWaits ?d_InvalidTrace_InvalidWaits ?s_InvalidWaits_InvalidWaits ?s_NothingToUndo_InvalidWaits ?d_NothingToUndo_InvalidWaits ?s_Undefined_InvalidWaits ?d_Undefined_InvalidWaits ?eB_NothingToUndo ?eT_NothingToUndo ?eI_NothingToUndo ?s_InvalidClaim_NothingToUndo ?d_InvalidClaim_NothingToUndo ?s_InvalidEdge_NothingToUndo ?d_InvalidEdge_NothingToUndo ?s_InvalidEdges_NothingToUndo ?d_InvalidEdges_NothingToUndo ?s_InvalidLengths_NothingToUndo ?d_InvalidLengths_NothingToUndo ?s_InvalidMarks_NothingToUndo ?d_InvalidMarks_NothingToUndo ?s_InvalidNumber_NothingToUndo ?d_InvalidNumber_NothingToUndo ?s_InvalidQuestion_NothingToUndo ?d_InvalidQuestion_NothingToUndo ?s_InvalidRun_NothingToUndo ?d_InvalidRun_NothingToUndo ?s_InvalidTicks_NothingToUndo ?d_InvalidTicks_NothingToUndo ?s_InvalidTrace_NothingToUndo ?d_InvalidTrace_NothingToUndo ?s_InvalidWaits_NothingToUndo ?d_InvalidWaits_NothingToUndo ?s_NothingToUndo_NothingToUndo ?s_Undefined_NothingToUndo ?d_Undefined_NothingToUndo ?eB_TickError ?eT_TickError ?eI_TickError ?s_InvalidClaim_TickError ?d_InvalidClaim_TickError ?s_InvalidEdge_TickError ?d_InvalidEdge_TickError ?s_InvalidEdges_TickError ?d_InvalidEdges_TickError ?s_InvalidLengths_TickError ?d_InvalidLengths_TickError ?s_InvalidMarks_TickError ?d_InvalidMarks_TickError ?s_InvalidNumber_TickError ?d_InvalidNumber_TickError ?s_InvalidQuestion_TickError ?d_InvalidQuestion_TickError ?s_InvalidRun_TickError ?d_InvalidRun_TickError ?s_InvalidTicks_TickError ?d_InvalidTicks_TickError ?s_InvalidTrace_TickError ?d_InvalidTrace_TickError ?s_InvalidWaits_TickError ?d_InvalidWaits_TickError ?s_NothingToUndo_TickError ?d_NothingToUndo_TickError ?s_Undefined_TickError ?d_Undefined_TickError ?eB_Undefined ?eT_Undefined ?eI_Undefined ?s_InvalidClaim_Undefined ?d_InvalidClaim_Undefined ?s_InvalidEdge_Undefined ?d_InvalidEdge_Undefined ?s_InvalidEdges_Undefined ?d_InvalidEdges_Undefined ?s_InvalidLengths_Undefined ?d_InvalidLengths_Undefined ?s_InvalidMarks_Undefined ?d_InvalidMarks_Undefined ?s_InvalidNumber_Undefined ?d_InvalidNumber_Undefined ?s_InvalidQuestion_Undefined ?d_InvalidQuestion_Undefined ?s_InvalidRun_Undefined ?d_InvalidRun_Undefined ?s_InvalidTicks_Undefined ?d_InvalidTicks_Undefined ?s_InvalidTrace_Undefined ?d_InvalidTrace_Undefined ?s_InvalidWaits_Undefined ?d_InvalidWaits_Undefined ?s_NothingToUndo_Undefined ?d_NothingToUndo_Undefined ?s_Undefined_Undefined ?ehn ?ehtk ?eca_InvalidClaim ?ehm_InvalidClaim ?eca_InvalidEdge ?ehm_InvalidEdge ?eca_InvalidEdges ?ehm_InvalidEdges ?eca_InvalidLengths ?ehm_InvalidLengths ?eca_InvalidMarks ?ehm_InvalidMarks ?eca_InvalidNumber ?ehm_InvalidNumber ?eca_InvalidQuestion ?ehm_InvalidQuestion ?eca_InvalidRun ?ehm_InvalidRun ?eca_InvalidTicks ?ehm_InvalidTicks ?eca_InvalidTrace ?ehm_InvalidTrace ?eca_InvalidWaits ?ehm_InvalidWaits ?eca_NothingToUndo ?ehm_NothingToUndo ?eca_Undefined ?ehm_Undefined
    (case a_Calls => k_is)
    (case a_InvalidClaim => k_is)
    (case a_InvalidEdge => k_is)
    (case a_InvalidEdges => k_is)
    (case a_InvalidLengths => k_is)
    (case a_InvalidMarks => k_is)
    (case a_InvalidNumber => k_is)
    (case a_InvalidQuestion => k_is)
    (case a_InvalidRun => k_is)
    (case a_InvalidTicks => k_is)
    (case a_InvalidTrace => k_is)
    (case a_InvalidWaits => k_is)
    (case a_NothingToUndo => k_is)
    (case a_TickError => k_is)
    (case a_Undefined => k_is)
    (case a0 => k_is)
    (case l0 => k_is)
    (case c0 => k_is)
    (case k0 => k_is)
    (case a1 => k_is)
    (case l1 => k_is)
    (case c1 => k_is)
    (case k1 => k_is)
    (case a2 => k_is)
    (case l2 => k_is)
    (case c2 => k_is)
    (case k2 => k_is)
    (case a3 => k_is)
    (case l3 => k_is)
    (case c3 => k_is)
    (case k3 => k_is)
    (case a4 => k_is)
    (case l4 => k_is)
    (case c4 => k_is)
    (case k4 => k_is)
    (case a5 => k_is)
    (case l5 => k_is)
    (case c5 => k_is)
    (case k5 => k_is)
    (case a6 => k_is)
    (case l6 => k_is)
    (case c6 => k_is)
    (case k6 => k_is)
    (case a7 => k_is)
    (case l7 => k_is)
    (case c7 => k_is)
    (case k7 => k_is)
    (case a8 => k_is)
    (case l8 => k_is)
    (case c8 => k_is)
    (case k8 => k_is)
    (case a9 => k_is)
    (case l9 => k_is)
    (case c9 => k_is)
    (case k9 => k_is)
    (case a10 => k_is)
    (case i10 => k_is)
    (case l10 => k_is)
    (case c10 => k_is)
    (case k10 => k_is)
    (case a11 => k_is)
    (case l11 => k_is)
    (case c11 => k_is)
    (case k11 => k_is)
    (case a12 => k_is)
    (case l12 => k_is)
    (case c12 => k_is)
    (case k12 => k_is)
    (case b_ValueError => k_is)
    (case b_abs => k_is)
    (case b_all => k_is)
    (case b_bool => k_is)
    (case b_int => k_is)
    (case b_isinstance => k_is)
    (case b_len => k_is)
    (case b_range => k_is)
    (case b_str => k_is)
    (case b_tuple => k_is)
    (case b_zip => k_is)
    (case g_MOST_FUNCTIONS => k_is)
    (case pg_Calls => k_is)
    (case hd_Calls => k_is)
    (case po_Calls => k_is)
    (case sa_Calls => k_is)
    (case mk_Calls => k_is)
    (case kp_Calls => k_is)
    (case ca_Calls => k_is)
    (case hn_Calls => k_is)
    (case tk_Calls => k_is)
    (case mr_Calls => k_is)
    (case ic_Calls => k_is)
    (case tc_Calls => k_is)
    (case kit_non_Calls => first | k_is | rfl | kernel_rfl | decide +kernel)
    (case kit_bl_Calls => first | k_is | rfl | kernel_rfl | decide +kernel)
    (case kit_int_Calls => first | k_is | rfl | kernel_rfl | decide +kernel)
    (case kit_str_Calls => first | k_is | rfl | kernel_rfl | decide +kernel)
    (case kit_lst_Calls => first | k_is | rfl | kernel_rfl | decide +kernel)
    (case kit_tup_Calls => first | k_is | rfl | kernel_rfl | decide +kernel)
    (case n_Calls_edges => k_is)
    (case n_Calls_functions => k_is)
    (case nsup => k_is)
    (case x_InvalidClaim => k_is)
    (case rv_InvalidClaim => decide +kernel)
    (case esa_InvalidClaim => k_is)
    (case ega_InvalidClaim => k_is)
    (case egg_InvalidClaim => k_is)
    (case eno_InvalidClaim => k_is)
    (case ei_InvalidClaim => k_is)
    (case et_InvalidClaim => k_is)
    (case ekC_InvalidClaim => k_is)
    (case ehd_InvalidClaim => k_is)
    (case esup_InvalidClaim => ks_is)
    (case esv_InvalidClaim => k_is)
    (case emr_InvalidClaim => first | k_is | rfl)
    (case el_InvalidClaim => k_is)
    (case eco_InvalidClaim => k_is)
    (case ecd_InvalidClaim => k_is)
    (case ev2_InvalidClaim => rfl)
    (case efi_InvalidClaim => first | rfl | decide +kernel)
    (case ecc_InvalidClaim => k_is)
    (case x_InvalidEdge => k_is)
    (case rv_InvalidEdge => decide +kernel)
    (case esa_InvalidEdge => k_is)
    (case ega_InvalidEdge => k_is)
    (case egg_InvalidEdge => k_is)
    (case eno_InvalidEdge => k_is)
    (case ei_InvalidEdge => k_is)
    (case et_InvalidEdge => k_is)
    (case ekC_InvalidEdge => k_is)
    (case ehd_InvalidEdge => k_is)
    (case esup_InvalidEdge => ks_is)
    (case esv_InvalidEdge => k_is)
    (case emr_InvalidEdge => first | k_is | rfl)
    (case el_InvalidEdge => k_is)
    (case eco_InvalidEdge => k_is)
    (case ecd_InvalidEdge => k_is)
    (case ev2_InvalidEdge => rfl)
    (case efi_InvalidEdge => first | rfl | decide +kernel)
    (case ecc_InvalidEdge => k_is)
    (case x_InvalidEdges => k_is)
    (case rv_InvalidEdges => decide +kernel)
    (case esa_InvalidEdges => k_is)
    (case ega_InvalidEdges => k_is)
    (case egg_InvalidEdges => k_is)
    (case eno_InvalidEdges => k_is)
    (case ei_InvalidEdges => k_is)
    (case et_InvalidEdges => k_is)
    (case ekC_InvalidEdges => k_is)
    (case ehd_InvalidEdges => k_is)
    (case esup_InvalidEdges => ks_is)
    (case esv_InvalidEdges => k_is)
    (case emr_InvalidEdges => first | k_is | rfl)
    (case el_InvalidEdges => k_is)
    (case eco_InvalidEdges => k_is)
    (case ecd_InvalidEdges => k_is)
    (case ev2_InvalidEdges => rfl)
    (case efi_InvalidEdges => first | rfl | decide +kernel)
    (case ecc_InvalidEdges => k_is)
    (case x_InvalidLengths => k_is)
    (case rv_InvalidLengths => decide +kernel)
    (case esa_InvalidLengths => k_is)
    (case ega_InvalidLengths => k_is)
    (case egg_InvalidLengths => k_is)
    (case eno_InvalidLengths => k_is)
    (case ei_InvalidLengths => k_is)
    (case et_InvalidLengths => k_is)
    (case ekC_InvalidLengths => k_is)
    (case ehd_InvalidLengths => k_is)
    (case esup_InvalidLengths => ks_is)
    (case esv_InvalidLengths => k_is)
    (case emr_InvalidLengths => first | k_is | rfl)
    (case el_InvalidLengths => k_is)
    (case eco_InvalidLengths => k_is)
    (case ecd_InvalidLengths => k_is)
    (case ev2_InvalidLengths => rfl)
    (case efi_InvalidLengths => first | rfl | decide +kernel)
    (case ecc_InvalidLengths => k_is)
    (case x_InvalidMarks => k_is)
    (case rv_InvalidMarks => decide +kernel)
    (case esa_InvalidMarks => k_is)
    (case ega_InvalidMarks => k_is)
    (case egg_InvalidMarks => k_is)
    (case eno_InvalidMarks => k_is)
    (case ei_InvalidMarks => k_is)
    (case et_InvalidMarks => k_is)
    (case ekC_InvalidMarks => k_is)
    (case ehd_InvalidMarks => k_is)
    (case esup_InvalidMarks => ks_is)
    (case esv_InvalidMarks => k_is)
    (case emr_InvalidMarks => first | k_is | rfl)
    (case el_InvalidMarks => k_is)
    (case eco_InvalidMarks => k_is)
    (case ecd_InvalidMarks => k_is)
    (case ev2_InvalidMarks => rfl)
    (case efi_InvalidMarks => first | rfl | decide +kernel)
    (case ecc_InvalidMarks => k_is)
    (case x_InvalidNumber => k_is)
    (case rv_InvalidNumber => decide +kernel)
    (case esa_InvalidNumber => k_is)
    (case ega_InvalidNumber => k_is)
    (case egg_InvalidNumber => k_is)
    (case eno_InvalidNumber => k_is)
    (case ei_InvalidNumber => k_is)
    (case et_InvalidNumber => k_is)
    (case ekC_InvalidNumber => k_is)
    (case ehd_InvalidNumber => k_is)
    (case esup_InvalidNumber => ks_is)
    (case esv_InvalidNumber => k_is)
    (case emr_InvalidNumber => first | k_is | rfl)
    (case el_InvalidNumber => k_is)
    (case eco_InvalidNumber => k_is)
    (case ecd_InvalidNumber => k_is)
    (case ev2_InvalidNumber => rfl)
    (case efi_InvalidNumber => first | rfl | decide +kernel)
    (case ecc_InvalidNumber => k_is)
    (case x_InvalidQuestion => k_is)
    (case rv_InvalidQuestion => decide +kernel)
    (case esa_InvalidQuestion => k_is)
    (case ega_InvalidQuestion => k_is)
    (case egg_InvalidQuestion => k_is)
    (case eno_InvalidQuestion => k_is)
    (case ei_InvalidQuestion => k_is)
    (case et_InvalidQuestion => k_is)
    (case ekC_InvalidQuestion => k_is)
    (case ehd_InvalidQuestion => k_is)
    (case esup_InvalidQuestion => ks_is)
    (case esv_InvalidQuestion => k_is)
    (case emr_InvalidQuestion => first | k_is | rfl)
    (case el_InvalidQuestion => k_is)
    (case eco_InvalidQuestion => k_is)
    (case ecd_InvalidQuestion => k_is)
    (case ev2_InvalidQuestion => rfl)
    (case efi_InvalidQuestion => first | rfl | decide +kernel)
    (case ecc_InvalidQuestion => k_is)
    (case x_InvalidRun => k_is)
    (case rv_InvalidRun => decide +kernel)
    (case esa_InvalidRun => k_is)
    (case ega_InvalidRun => k_is)
    (case egg_InvalidRun => k_is)
    (case eno_InvalidRun => k_is)
    (case ei_InvalidRun => k_is)
    (case et_InvalidRun => k_is)
    (case ekC_InvalidRun => k_is)
    (case ehd_InvalidRun => k_is)
    (case esup_InvalidRun => ks_is)
    (case esv_InvalidRun => k_is)
    (case emr_InvalidRun => first | k_is | rfl)
    (case el_InvalidRun => k_is)
    (case eco_InvalidRun => k_is)
    (case ecd_InvalidRun => k_is)
    (case ev2_InvalidRun => rfl)
    (case efi_InvalidRun => first | rfl | decide +kernel)
    (case ecc_InvalidRun => k_is)
    (case x_InvalidTicks => k_is)
    (case rv_InvalidTicks => decide +kernel)
    (case esa_InvalidTicks => k_is)
    (case ega_InvalidTicks => k_is)
    (case egg_InvalidTicks => k_is)
    (case eno_InvalidTicks => k_is)
    (case ei_InvalidTicks => k_is)
    (case et_InvalidTicks => k_is)
    (case ekC_InvalidTicks => k_is)
    (case ehd_InvalidTicks => k_is)
    (case esup_InvalidTicks => ks_is)
    (case esv_InvalidTicks => k_is)
    (case emr_InvalidTicks => first | k_is | rfl)
    (case el_InvalidTicks => k_is)
    (case eco_InvalidTicks => k_is)
    (case ecd_InvalidTicks => k_is)
    (case ev2_InvalidTicks => rfl)
    (case efi_InvalidTicks => first | rfl | decide +kernel)
    (case ecc_InvalidTicks => k_is)
    (case x_InvalidTrace => k_is)
    (case rv_InvalidTrace => decide +kernel)
    (case esa_InvalidTrace => k_is)
    (case ega_InvalidTrace => k_is)
    (case egg_InvalidTrace => k_is)
    (case eno_InvalidTrace => k_is)
    (case ei_InvalidTrace => k_is)
    (case et_InvalidTrace => k_is)
    (case ekC_InvalidTrace => k_is)
    (case ehd_InvalidTrace => k_is)
    (case esup_InvalidTrace => ks_is)
    (case esv_InvalidTrace => k_is)
    (case emr_InvalidTrace => first | k_is | rfl)
    (case el_InvalidTrace => k_is)
    (case eco_InvalidTrace => k_is)
    (case ecd_InvalidTrace => k_is)
    (case ev2_InvalidTrace => rfl)
    (case efi_InvalidTrace => first | rfl | decide +kernel)
    (case ecc_InvalidTrace => k_is)
    (case x_InvalidWaits => k_is)
    (case rv_InvalidWaits => decide +kernel)
    (case esa_InvalidWaits => k_is)
    (case ega_InvalidWaits => k_is)
    (case egg_InvalidWaits => k_is)
    (case eno_InvalidWaits => k_is)
    (case ei_InvalidWaits => k_is)
    (case et_InvalidWaits => k_is)
    (case ekC_InvalidWaits => k_is)
    (case ehd_InvalidWaits => k_is)
    (case esup_InvalidWaits => ks_is)
    (case esv_InvalidWaits => k_is)
    (case emr_InvalidWaits => first | k_is | rfl)
    (case el_InvalidWaits => k_is)
    (case eco_InvalidWaits => k_is)
    (case ecd_InvalidWaits => k_is)
    (case ev2_InvalidWaits => rfl)
    (case efi_InvalidWaits => first | rfl | decide +kernel)
    (case ecc_InvalidWaits => k_is)
    (case x_NothingToUndo => k_is)
    (case rv_NothingToUndo => decide +kernel)
    (case esa_NothingToUndo => k_is)
    (case ega_NothingToUndo => k_is)
    (case egg_NothingToUndo => k_is)
    (case eno_NothingToUndo => k_is)
    (case ei_NothingToUndo => k_is)
    (case et_NothingToUndo => k_is)
    (case ekC_NothingToUndo => k_is)
    (case ehd_NothingToUndo => k_is)
    (case esup_NothingToUndo => ks_is)
    (case esv_NothingToUndo => k_is)
    (case emr_NothingToUndo => first | k_is | rfl)
    (case el_NothingToUndo => k_is)
    (case eco_NothingToUndo => k_is)
    (case ecd_NothingToUndo => k_is)
    (case ev2_NothingToUndo => rfl)
    (case efi_NothingToUndo => first | rfl | decide +kernel)
    (case ecc_NothingToUndo => k_is)
    (case x_Undefined => k_is)
    (case rv_Undefined => decide +kernel)
    (case esa_Undefined => k_is)
    (case ega_Undefined => k_is)
    (case egg_Undefined => k_is)
    (case eno_Undefined => k_is)
    (case ei_Undefined => k_is)
    (case et_Undefined => k_is)
    (case ekC_Undefined => k_is)
    (case ehd_Undefined => k_is)
    (case esup_Undefined => ks_is)
    (case esv_Undefined => k_is)
    (case emr_Undefined => first | k_is | rfl)
    (case el_Undefined => k_is)
    (case eco_Undefined => k_is)
    (case ecd_Undefined => k_is)
    (case ev2_Undefined => rfl)
    (case efi_Undefined => first | rfl | decide +kernel)
    (case ecc_Undefined => k_is)
    (case top_ => decide +kernel)
    (case opq => k_is)
    (case eB_InvalidClaim => k_is)
    (case eT_InvalidClaim => k_is)
    (case eI_InvalidClaim => k_is)
    (case s_InvalidClaim_InvalidClaim => first | rfl | k_is)
    (case s_InvalidEdge_InvalidClaim => first | rfl | k_is)
    (case d_InvalidEdge_InvalidClaim => rfl)
    (case s_InvalidEdges_InvalidClaim => first | rfl | k_is)
    (case d_InvalidEdges_InvalidClaim => rfl)
    (case s_InvalidLengths_InvalidClaim => first | rfl | k_is)
    (case d_InvalidLengths_InvalidClaim => rfl)
    (case s_InvalidMarks_InvalidClaim => first | rfl | k_is)
    (case d_InvalidMarks_InvalidClaim => rfl)
    (case s_InvalidNumber_InvalidClaim => first | rfl | k_is)
    (case d_InvalidNumber_InvalidClaim => rfl)
    (case s_InvalidQuestion_InvalidClaim => first | rfl | k_is)
    (case d_InvalidQuestion_InvalidClaim => rfl)
    (case s_InvalidRun_InvalidClaim => first | rfl | k_is)
    (case d_InvalidRun_InvalidClaim => rfl)
    (case s_InvalidTicks_InvalidClaim => first | rfl | k_is)
    (case d_InvalidTicks_InvalidClaim => rfl)
    (case s_InvalidTrace_InvalidClaim => first | rfl | k_is)
    (case d_InvalidTrace_InvalidClaim => rfl)
    (case s_InvalidWaits_InvalidClaim => first | rfl | k_is)
    (case d_InvalidWaits_InvalidClaim => rfl)
    (case s_NothingToUndo_InvalidClaim => first | rfl | k_is)
    (case d_NothingToUndo_InvalidClaim => rfl)
    (case s_Undefined_InvalidClaim => first | rfl | k_is)
    (case d_Undefined_InvalidClaim => rfl)
    (case eB_InvalidEdge => k_is)
    (case eT_InvalidEdge => k_is)
    (case eI_InvalidEdge => k_is)
    (case s_InvalidClaim_InvalidEdge => first | rfl | k_is)
    (case d_InvalidClaim_InvalidEdge => rfl)
    (case s_InvalidEdge_InvalidEdge => first | rfl | k_is)
    (case s_InvalidEdges_InvalidEdge => first | rfl | k_is)
    (case d_InvalidEdges_InvalidEdge => rfl)
    (case s_InvalidLengths_InvalidEdge => first | rfl | k_is)
    (case d_InvalidLengths_InvalidEdge => rfl)
    (case s_InvalidMarks_InvalidEdge => first | rfl | k_is)
    (case d_InvalidMarks_InvalidEdge => rfl)
    (case s_InvalidNumber_InvalidEdge => first | rfl | k_is)
    (case d_InvalidNumber_InvalidEdge => rfl)
    (case s_InvalidQuestion_InvalidEdge => first | rfl | k_is)
    (case d_InvalidQuestion_InvalidEdge => rfl)
    (case s_InvalidRun_InvalidEdge => first | rfl | k_is)
    (case d_InvalidRun_InvalidEdge => rfl)
    (case s_InvalidTicks_InvalidEdge => first | rfl | k_is)
    (case d_InvalidTicks_InvalidEdge => rfl)
    (case s_InvalidTrace_InvalidEdge => first | rfl | k_is)
    (case d_InvalidTrace_InvalidEdge => rfl)
    (case s_InvalidWaits_InvalidEdge => first | rfl | k_is)
    (case d_InvalidWaits_InvalidEdge => rfl)
    (case s_NothingToUndo_InvalidEdge => first | rfl | k_is)
    (case d_NothingToUndo_InvalidEdge => rfl)
    (case s_Undefined_InvalidEdge => first | rfl | k_is)
    (case d_Undefined_InvalidEdge => rfl)
    (case eB_InvalidEdges => k_is)
    (case eT_InvalidEdges => k_is)
    (case eI_InvalidEdges => k_is)
    (case s_InvalidClaim_InvalidEdges => first | rfl | k_is)
    (case d_InvalidClaim_InvalidEdges => rfl)
    (case s_InvalidEdge_InvalidEdges => first | rfl | k_is)
    (case d_InvalidEdge_InvalidEdges => rfl)
    (case s_InvalidEdges_InvalidEdges => first | rfl | k_is)
    (case s_InvalidLengths_InvalidEdges => first | rfl | k_is)
    (case d_InvalidLengths_InvalidEdges => rfl)
    (case s_InvalidMarks_InvalidEdges => first | rfl | k_is)
    (case d_InvalidMarks_InvalidEdges => rfl)
    (case s_InvalidNumber_InvalidEdges => first | rfl | k_is)
    (case d_InvalidNumber_InvalidEdges => rfl)
    (case s_InvalidQuestion_InvalidEdges => first | rfl | k_is)
    (case d_InvalidQuestion_InvalidEdges => rfl)
    (case s_InvalidRun_InvalidEdges => first | rfl | k_is)
    (case d_InvalidRun_InvalidEdges => rfl)
    (case s_InvalidTicks_InvalidEdges => first | rfl | k_is)
    (case d_InvalidTicks_InvalidEdges => rfl)
    (case s_InvalidTrace_InvalidEdges => first | rfl | k_is)
    (case d_InvalidTrace_InvalidEdges => rfl)
    (case s_InvalidWaits_InvalidEdges => first | rfl | k_is)
    (case d_InvalidWaits_InvalidEdges => rfl)
    (case s_NothingToUndo_InvalidEdges => first | rfl | k_is)
    (case d_NothingToUndo_InvalidEdges => rfl)
    (case s_Undefined_InvalidEdges => first | rfl | k_is)
    (case d_Undefined_InvalidEdges => rfl)
    (case eB_InvalidLengths => k_is)
    (case eT_InvalidLengths => k_is)
    (case eI_InvalidLengths => k_is)
    (case s_InvalidClaim_InvalidLengths => first | rfl | k_is)
    (case d_InvalidClaim_InvalidLengths => rfl)
    (case s_InvalidEdge_InvalidLengths => first | rfl | k_is)
    (case d_InvalidEdge_InvalidLengths => rfl)
    (case s_InvalidEdges_InvalidLengths => first | rfl | k_is)
    (case d_InvalidEdges_InvalidLengths => rfl)
    (case s_InvalidLengths_InvalidLengths => first | rfl | k_is)
    (case s_InvalidMarks_InvalidLengths => first | rfl | k_is)
    (case d_InvalidMarks_InvalidLengths => rfl)
    (case s_InvalidNumber_InvalidLengths => first | rfl | k_is)
    (case d_InvalidNumber_InvalidLengths => rfl)
    (case s_InvalidQuestion_InvalidLengths => first | rfl | k_is)
    (case d_InvalidQuestion_InvalidLengths => rfl)
    (case s_InvalidRun_InvalidLengths => first | rfl | k_is)
    (case d_InvalidRun_InvalidLengths => rfl)
    (case s_InvalidTicks_InvalidLengths => first | rfl | k_is)
    (case d_InvalidTicks_InvalidLengths => rfl)
    (case s_InvalidTrace_InvalidLengths => first | rfl | k_is)
    (case d_InvalidTrace_InvalidLengths => rfl)
    (case s_InvalidWaits_InvalidLengths => first | rfl | k_is)
    (case d_InvalidWaits_InvalidLengths => rfl)
    (case s_NothingToUndo_InvalidLengths => first | rfl | k_is)
    (case d_NothingToUndo_InvalidLengths => rfl)
    (case s_Undefined_InvalidLengths => first | rfl | k_is)
    (case d_Undefined_InvalidLengths => rfl)
    (case eB_InvalidMarks => k_is)
    (case eT_InvalidMarks => k_is)
    (case eI_InvalidMarks => k_is)
    (case s_InvalidClaim_InvalidMarks => first | rfl | k_is)
    (case d_InvalidClaim_InvalidMarks => rfl)
    (case s_InvalidEdge_InvalidMarks => first | rfl | k_is)
    (case d_InvalidEdge_InvalidMarks => rfl)
    (case s_InvalidEdges_InvalidMarks => first | rfl | k_is)
    (case d_InvalidEdges_InvalidMarks => rfl)
    (case s_InvalidLengths_InvalidMarks => first | rfl | k_is)
    (case d_InvalidLengths_InvalidMarks => rfl)
    (case s_InvalidMarks_InvalidMarks => first | rfl | k_is)
    (case s_InvalidNumber_InvalidMarks => first | rfl | k_is)
    (case d_InvalidNumber_InvalidMarks => rfl)
    (case s_InvalidQuestion_InvalidMarks => first | rfl | k_is)
    (case d_InvalidQuestion_InvalidMarks => rfl)
    (case s_InvalidRun_InvalidMarks => first | rfl | k_is)
    (case d_InvalidRun_InvalidMarks => rfl)
    (case s_InvalidTicks_InvalidMarks => first | rfl | k_is)
    (case d_InvalidTicks_InvalidMarks => rfl)
    (case s_InvalidTrace_InvalidMarks => first | rfl | k_is)
    (case d_InvalidTrace_InvalidMarks => rfl)
    (case s_InvalidWaits_InvalidMarks => first | rfl | k_is)
    (case d_InvalidWaits_InvalidMarks => rfl)
    (case s_NothingToUndo_InvalidMarks => first | rfl | k_is)
    (case d_NothingToUndo_InvalidMarks => rfl)
    (case s_Undefined_InvalidMarks => first | rfl | k_is)
    (case d_Undefined_InvalidMarks => rfl)
    (case eB_InvalidNumber => k_is)
    (case eT_InvalidNumber => k_is)
    (case eI_InvalidNumber => k_is)
    (case s_InvalidClaim_InvalidNumber => first | rfl | k_is)
    (case d_InvalidClaim_InvalidNumber => rfl)
    (case s_InvalidEdge_InvalidNumber => first | rfl | k_is)
    (case d_InvalidEdge_InvalidNumber => rfl)
    (case s_InvalidEdges_InvalidNumber => first | rfl | k_is)
    (case d_InvalidEdges_InvalidNumber => rfl)
    (case s_InvalidLengths_InvalidNumber => first | rfl | k_is)
    (case d_InvalidLengths_InvalidNumber => rfl)
    (case s_InvalidMarks_InvalidNumber => first | rfl | k_is)
    (case d_InvalidMarks_InvalidNumber => rfl)
    (case s_InvalidNumber_InvalidNumber => first | rfl | k_is)
    (case s_InvalidQuestion_InvalidNumber => first | rfl | k_is)
    (case d_InvalidQuestion_InvalidNumber => rfl)
    (case s_InvalidRun_InvalidNumber => first | rfl | k_is)
    (case d_InvalidRun_InvalidNumber => rfl)
    (case s_InvalidTicks_InvalidNumber => first | rfl | k_is)
    (case d_InvalidTicks_InvalidNumber => rfl)
    (case s_InvalidTrace_InvalidNumber => first | rfl | k_is)
    (case d_InvalidTrace_InvalidNumber => rfl)
    (case s_InvalidWaits_InvalidNumber => first | rfl | k_is)
    (case d_InvalidWaits_InvalidNumber => rfl)
    (case s_NothingToUndo_InvalidNumber => first | rfl | k_is)
    (case d_NothingToUndo_InvalidNumber => rfl)
    (case s_Undefined_InvalidNumber => first | rfl | k_is)
    (case d_Undefined_InvalidNumber => rfl)
    (case eB_InvalidQuestion => k_is)
    (case eT_InvalidQuestion => k_is)
    (case eI_InvalidQuestion => k_is)
    (case s_InvalidClaim_InvalidQuestion => first | rfl | k_is)
    (case d_InvalidClaim_InvalidQuestion => rfl)
    (case s_InvalidEdge_InvalidQuestion => first | rfl | k_is)
    (case d_InvalidEdge_InvalidQuestion => rfl)
    (case s_InvalidEdges_InvalidQuestion => first | rfl | k_is)
    (case d_InvalidEdges_InvalidQuestion => rfl)
    (case s_InvalidLengths_InvalidQuestion => first | rfl | k_is)
    (case d_InvalidLengths_InvalidQuestion => rfl)
    (case s_InvalidMarks_InvalidQuestion => first | rfl | k_is)
    (case d_InvalidMarks_InvalidQuestion => rfl)
    (case s_InvalidNumber_InvalidQuestion => first | rfl | k_is)
    (case d_InvalidNumber_InvalidQuestion => rfl)
    (case s_InvalidQuestion_InvalidQuestion => first | rfl | k_is)
    (case s_InvalidRun_InvalidQuestion => first | rfl | k_is)
    (case d_InvalidRun_InvalidQuestion => rfl)
    (case s_InvalidTicks_InvalidQuestion => first | rfl | k_is)
    (case d_InvalidTicks_InvalidQuestion => rfl)
    (case s_InvalidTrace_InvalidQuestion => first | rfl | k_is)
    (case d_InvalidTrace_InvalidQuestion => rfl)
    (case s_InvalidWaits_InvalidQuestion => first | rfl | k_is)
    (case d_InvalidWaits_InvalidQuestion => rfl)
    (case s_NothingToUndo_InvalidQuestion => first | rfl | k_is)
    (case d_NothingToUndo_InvalidQuestion => rfl)
    (case s_Undefined_InvalidQuestion => first | rfl | k_is)
    (case d_Undefined_InvalidQuestion => rfl)
    (case eB_InvalidRun => k_is)
    (case eT_InvalidRun => k_is)
    (case eI_InvalidRun => k_is)
    (case s_InvalidClaim_InvalidRun => first | rfl | k_is)
    (case d_InvalidClaim_InvalidRun => rfl)
    (case s_InvalidEdge_InvalidRun => first | rfl | k_is)
    (case d_InvalidEdge_InvalidRun => rfl)
    (case s_InvalidEdges_InvalidRun => first | rfl | k_is)
    (case d_InvalidEdges_InvalidRun => rfl)
    (case s_InvalidLengths_InvalidRun => first | rfl | k_is)
    (case d_InvalidLengths_InvalidRun => rfl)
    (case s_InvalidMarks_InvalidRun => first | rfl | k_is)
    (case d_InvalidMarks_InvalidRun => rfl)
    (case s_InvalidNumber_InvalidRun => first | rfl | k_is)
    (case d_InvalidNumber_InvalidRun => rfl)
    (case s_InvalidQuestion_InvalidRun => first | rfl | k_is)
    (case d_InvalidQuestion_InvalidRun => rfl)
    (case s_InvalidRun_InvalidRun => first | rfl | k_is)
    (case s_InvalidTicks_InvalidRun => first | rfl | k_is)
    (case d_InvalidTicks_InvalidRun => rfl)
    (case s_InvalidTrace_InvalidRun => first | rfl | k_is)
    (case d_InvalidTrace_InvalidRun => rfl)
    (case s_InvalidWaits_InvalidRun => first | rfl | k_is)
    (case d_InvalidWaits_InvalidRun => rfl)
    (case s_NothingToUndo_InvalidRun => first | rfl | k_is)
    (case d_NothingToUndo_InvalidRun => rfl)
    (case s_Undefined_InvalidRun => first | rfl | k_is)
    (case d_Undefined_InvalidRun => rfl)
    (case eB_InvalidTicks => k_is)
    (case eT_InvalidTicks => k_is)
    (case eI_InvalidTicks => k_is)
    (case s_InvalidClaim_InvalidTicks => first | rfl | k_is)
    (case d_InvalidClaim_InvalidTicks => rfl)
    (case s_InvalidEdge_InvalidTicks => first | rfl | k_is)
    (case d_InvalidEdge_InvalidTicks => rfl)
    (case s_InvalidEdges_InvalidTicks => first | rfl | k_is)
    (case d_InvalidEdges_InvalidTicks => rfl)
    (case s_InvalidLengths_InvalidTicks => first | rfl | k_is)
    (case d_InvalidLengths_InvalidTicks => rfl)
    (case s_InvalidMarks_InvalidTicks => first | rfl | k_is)
    (case d_InvalidMarks_InvalidTicks => rfl)
    (case s_InvalidNumber_InvalidTicks => first | rfl | k_is)
    (case d_InvalidNumber_InvalidTicks => rfl)
    (case s_InvalidQuestion_InvalidTicks => first | rfl | k_is)
    (case d_InvalidQuestion_InvalidTicks => rfl)
    (case s_InvalidRun_InvalidTicks => first | rfl | k_is)
    (case d_InvalidRun_InvalidTicks => rfl)
    (case s_InvalidTicks_InvalidTicks => first | rfl | k_is)
    (case s_InvalidTrace_InvalidTicks => first | rfl | k_is)
    (case d_InvalidTrace_InvalidTicks => rfl)
    (case s_InvalidWaits_InvalidTicks => first | rfl | k_is)
    (case d_InvalidWaits_InvalidTicks => rfl)
    (case s_NothingToUndo_InvalidTicks => first | rfl | k_is)
    (case d_NothingToUndo_InvalidTicks => rfl)
    (case s_Undefined_InvalidTicks => first | rfl | k_is)
    (case d_Undefined_InvalidTicks => rfl)
    (case eB_InvalidTrace => k_is)
    (case eT_InvalidTrace => k_is)
    (case eI_InvalidTrace => k_is)
    (case s_InvalidClaim_InvalidTrace => first | rfl | k_is)
    (case d_InvalidClaim_InvalidTrace => rfl)
    (case s_InvalidEdge_InvalidTrace => first | rfl | k_is)
    (case d_InvalidEdge_InvalidTrace => rfl)
    (case s_InvalidEdges_InvalidTrace => first | rfl | k_is)
    (case d_InvalidEdges_InvalidTrace => rfl)
    (case s_InvalidLengths_InvalidTrace => first | rfl | k_is)
    (case d_InvalidLengths_InvalidTrace => rfl)
    (case s_InvalidMarks_InvalidTrace => first | rfl | k_is)
    (case d_InvalidMarks_InvalidTrace => rfl)
    (case s_InvalidNumber_InvalidTrace => first | rfl | k_is)
    (case d_InvalidNumber_InvalidTrace => rfl)
    (case s_InvalidQuestion_InvalidTrace => first | rfl | k_is)
    (case d_InvalidQuestion_InvalidTrace => rfl)
    (case s_InvalidRun_InvalidTrace => first | rfl | k_is)
    (case d_InvalidRun_InvalidTrace => rfl)
    (case s_InvalidTicks_InvalidTrace => first | rfl | k_is)
    (case d_InvalidTicks_InvalidTrace => rfl)
    (case s_InvalidTrace_InvalidTrace => first | rfl | k_is)
    (case s_InvalidWaits_InvalidTrace => first | rfl | k_is)
    (case d_InvalidWaits_InvalidTrace => rfl)
    (case s_NothingToUndo_InvalidTrace => first | rfl | k_is)
    (case d_NothingToUndo_InvalidTrace => rfl)
    (case s_Undefined_InvalidTrace => first | rfl | k_is)
    (case d_Undefined_InvalidTrace => rfl)
    (case eB_InvalidWaits => k_is)
    (case eT_InvalidWaits => k_is)
    (case eI_InvalidWaits => k_is)
    (case s_InvalidClaim_InvalidWaits => first | rfl | k_is)
    (case d_InvalidClaim_InvalidWaits => rfl)
    (case s_InvalidEdge_InvalidWaits => first | rfl | k_is)
    (case d_InvalidEdge_InvalidWaits => rfl)
    (case s_InvalidEdges_InvalidWaits => first | rfl | k_is)
    (case d_InvalidEdges_InvalidWaits => rfl)
    (case s_InvalidLengths_InvalidWaits => first | rfl | k_is)
    (case d_InvalidLengths_InvalidWaits => rfl)
    (case s_InvalidMarks_InvalidWaits => first | rfl | k_is)
    (case d_InvalidMarks_InvalidWaits => rfl)
    (case s_InvalidNumber_InvalidWaits => first | rfl | k_is)
    (case d_InvalidNumber_InvalidWaits => rfl)
    (case s_InvalidQuestion_InvalidWaits => first | rfl | k_is)
    (case d_InvalidQuestion_InvalidWaits => rfl)
    (case s_InvalidRun_InvalidWaits => first | rfl | k_is)
    (case d_InvalidRun_InvalidWaits => rfl)
    (case s_InvalidTicks_InvalidWaits => first | rfl | k_is)
    (case d_InvalidTicks_InvalidWaits => rfl)
    (case s_InvalidTrace_InvalidWaits => first | rfl | k_is)
    (case d_InvalidTrace_InvalidWaits => rfl)
    (case s_InvalidWaits_InvalidWaits => first | rfl | k_is)
    (case s_NothingToUndo_InvalidWaits => first | rfl | k_is)
    (case d_NothingToUndo_InvalidWaits => rfl)
    (case s_Undefined_InvalidWaits => first | rfl | k_is)
    (case d_Undefined_InvalidWaits => rfl)
    (case eB_NothingToUndo => k_is)
    (case eT_NothingToUndo => k_is)
    (case eI_NothingToUndo => k_is)
    (case s_InvalidClaim_NothingToUndo => first | rfl | k_is)
    (case d_InvalidClaim_NothingToUndo => rfl)
    (case s_InvalidEdge_NothingToUndo => first | rfl | k_is)
    (case d_InvalidEdge_NothingToUndo => rfl)
    (case s_InvalidEdges_NothingToUndo => first | rfl | k_is)
    (case d_InvalidEdges_NothingToUndo => rfl)
    (case s_InvalidLengths_NothingToUndo => first | rfl | k_is)
    (case d_InvalidLengths_NothingToUndo => rfl)
    (case s_InvalidMarks_NothingToUndo => first | rfl | k_is)
    (case d_InvalidMarks_NothingToUndo => rfl)
    (case s_InvalidNumber_NothingToUndo => first | rfl | k_is)
    (case d_InvalidNumber_NothingToUndo => rfl)
    (case s_InvalidQuestion_NothingToUndo => first | rfl | k_is)
    (case d_InvalidQuestion_NothingToUndo => rfl)
    (case s_InvalidRun_NothingToUndo => first | rfl | k_is)
    (case d_InvalidRun_NothingToUndo => rfl)
    (case s_InvalidTicks_NothingToUndo => first | rfl | k_is)
    (case d_InvalidTicks_NothingToUndo => rfl)
    (case s_InvalidTrace_NothingToUndo => first | rfl | k_is)
    (case d_InvalidTrace_NothingToUndo => rfl)
    (case s_InvalidWaits_NothingToUndo => first | rfl | k_is)
    (case d_InvalidWaits_NothingToUndo => rfl)
    (case s_NothingToUndo_NothingToUndo => first | rfl | k_is)
    (case s_Undefined_NothingToUndo => first | rfl | k_is)
    (case d_Undefined_NothingToUndo => rfl)
    (case eB_TickError => k_is)
    (case eT_TickError => k_is)
    (case eI_TickError => k_is)
    (case s_InvalidClaim_TickError => first | rfl | k_is)
    (case d_InvalidClaim_TickError => rfl)
    (case s_InvalidEdge_TickError => first | rfl | k_is)
    (case d_InvalidEdge_TickError => rfl)
    (case s_InvalidEdges_TickError => first | rfl | k_is)
    (case d_InvalidEdges_TickError => rfl)
    (case s_InvalidLengths_TickError => first | rfl | k_is)
    (case d_InvalidLengths_TickError => rfl)
    (case s_InvalidMarks_TickError => first | rfl | k_is)
    (case d_InvalidMarks_TickError => rfl)
    (case s_InvalidNumber_TickError => first | rfl | k_is)
    (case d_InvalidNumber_TickError => rfl)
    (case s_InvalidQuestion_TickError => first | rfl | k_is)
    (case d_InvalidQuestion_TickError => rfl)
    (case s_InvalidRun_TickError => first | rfl | k_is)
    (case d_InvalidRun_TickError => rfl)
    (case s_InvalidTicks_TickError => first | rfl | k_is)
    (case d_InvalidTicks_TickError => rfl)
    (case s_InvalidTrace_TickError => first | rfl | k_is)
    (case d_InvalidTrace_TickError => rfl)
    (case s_InvalidWaits_TickError => first | rfl | k_is)
    (case d_InvalidWaits_TickError => rfl)
    (case s_NothingToUndo_TickError => first | rfl | k_is)
    (case d_NothingToUndo_TickError => rfl)
    (case s_Undefined_TickError => first | rfl | k_is)
    (case d_Undefined_TickError => rfl)
    (case eB_Undefined => k_is)
    (case eT_Undefined => k_is)
    (case eI_Undefined => k_is)
    (case s_InvalidClaim_Undefined => first | rfl | k_is)
    (case d_InvalidClaim_Undefined => rfl)
    (case s_InvalidEdge_Undefined => first | rfl | k_is)
    (case d_InvalidEdge_Undefined => rfl)
    (case s_InvalidEdges_Undefined => first | rfl | k_is)
    (case d_InvalidEdges_Undefined => rfl)
    (case s_InvalidLengths_Undefined => first | rfl | k_is)
    (case d_InvalidLengths_Undefined => rfl)
    (case s_InvalidMarks_Undefined => first | rfl | k_is)
    (case d_InvalidMarks_Undefined => rfl)
    (case s_InvalidNumber_Undefined => first | rfl | k_is)
    (case d_InvalidNumber_Undefined => rfl)
    (case s_InvalidQuestion_Undefined => first | rfl | k_is)
    (case d_InvalidQuestion_Undefined => rfl)
    (case s_InvalidRun_Undefined => first | rfl | k_is)
    (case d_InvalidRun_Undefined => rfl)
    (case s_InvalidTicks_Undefined => first | rfl | k_is)
    (case d_InvalidTicks_Undefined => rfl)
    (case s_InvalidTrace_Undefined => first | rfl | k_is)
    (case d_InvalidTrace_Undefined => rfl)
    (case s_InvalidWaits_Undefined => first | rfl | k_is)
    (case d_InvalidWaits_Undefined => rfl)
    (case s_NothingToUndo_Undefined => first | rfl | k_is)
    (case d_NothingToUndo_Undefined => rfl)
    (case s_Undefined_Undefined => first | rfl | k_is)
    (case ehn => k_is)
    (case ehtk => k_is)
    (case eca_InvalidClaim => k_is)
    (case ehm_InvalidClaim => k_is)
    (case eca_InvalidEdge => k_is)
    (case ehm_InvalidEdge => k_is)
    (case eca_InvalidEdges => k_is)
    (case ehm_InvalidEdges => k_is)
    (case eca_InvalidLengths => k_is)
    (case ehm_InvalidLengths => k_is)
    (case eca_InvalidMarks => k_is)
    (case ehm_InvalidMarks => k_is)
    (case eca_InvalidNumber => k_is)
    (case ehm_InvalidNumber => k_is)
    (case eca_InvalidQuestion => k_is)
    (case ehm_InvalidQuestion => k_is)
    (case eca_InvalidRun => k_is)
    (case ehm_InvalidRun => k_is)
    (case eca_InvalidTicks => k_is)
    (case ehm_InvalidTicks => k_is)
    (case eca_InvalidTrace => k_is)
    (case ehm_InvalidTrace => k_is)
    (case eca_InvalidWaits => k_is)
    (case ehm_InvalidWaits => k_is)
    (case eca_NothingToUndo => k_is)
    (case ehm_NothingToUndo => k_is)
    (case eca_Undefined => k_is)
    (case ehm_Undefined => k_is)
