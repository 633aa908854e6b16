import PyProof.Rows.All
import Wide.All
import OpenK.AllK
import Wide.FinOn
import HandS.ForMost
import HandS.More
import HandS.TupAny
import HandS.SortInts
import HandS.Steps
import HandS.SetFor
import HandS.Strs
import PySem.Challenge.RW_everydue_k06_faults_of_daysets
set_option Elab.async false
set_option linter.all false
set_option maxRecDepth 100000
/-! Pure readings: what a reading asks, said over data and not over the heap. -/
namespace Pu
open PySem L2

/-! ### what a heap holds, seen by itself and through a veil -/
def Grow (A H : Hp) : Prop := ∀ a o, A a = some o → H a = some o
theorem Grow.refl (H : Hp) : Grow H H := fun _ _ h => h
theorem Grow.trans {A B C : Hp} (f : Grow A B) (g : Grow B C) : Grow A C := fun a o h => g a o (f a o h)
theorem grow_rd {A H : Hp} {a : Addr} {u : HO} (g : Grow A H) (h : Rd A a u) : Rd H a u := by
  rcases h with h | ⟨o, h⟩
  · exact .inl (g a _ h)
  · exact .inr ⟨o, g a _ h⟩
theorem grow_l {K : PySem.W.Frag} {A H : Hp} {a : Addr} {xs : List V} (g : Grow A H) (h : SqL K A a xs) : SqL K H a xs := h.elim (fun z => .inl (grow_rd g z)) .inr
theorem grow_t {K : PySem.W.Frag} {A H : Hp} {a : Addr} {xs : List V} (g : Grow A H) (h : SqT K A a xs) : SqT K H a xs := h.elim (fun z => .inl (grow_rd g z)) .inr
def keyD : Key → PyData
  | .inl n => .int n
  | .inr z => .str z
mutual
/-- a value is this datum; its lists and dicts stand in the heap by themselves -/
inductive Dq (K : PySem.W.Frag) (H : Hp) : V → PyData → Prop
  | non : Dq K H .non .none
  | bl (b : Bool) : Dq K H (.bl b) (.bool b)
  | int (i : Int) : Dq K H (.int i) (.int i)
  | str (x : Str) : Dq K H (.str x) (.str x)
  | lst {a : Addr} {xs : List V} {ds : List PyData} (h : H a = some (.lst xs)) (r : Dqs K H xs ds) : Dq K H (.ref a) (.list ds)
  | tup {a : Addr} {xs : List V} {ds : List PyData} (h : SqT K H a xs) (r : Dqs K H xs ds) : Dq K H (.ref a) (.tuple ds)
  | dct {a : Addr} {ws : List (Key × V)} {kvs : List (PyData × PyData)} (h : H a = some (.dK ws)) (r : Dks K H ws kvs) : Dq K H (.ref a) (.dict kvs)
inductive Dqs (K : PySem.W.Frag) (H : Hp) : List V → List PyData → Prop
  | nil : Dqs K H [] []
  | cons {v : V} {vs : List V} {d : PyData} {ds : List PyData} (h : Dq K H v d) (r : Dqs K H vs ds) : Dqs K H (v :: vs) (d :: ds)
inductive Dks (K : PySem.W.Frag) (H : Hp) : List (Key × V) → List (PyData × PyData) → Prop
  | nil : Dks K H [] []
  | cons {k : Key} {v : V} {d : PyData} {ws : List (Key × V)} {kvs : List (PyData × PyData)} (h : Dq K H v d) (r : Dks K H ws kvs) : Dks K H ((k, v) :: ws) ((keyD k, d) :: kvs)
end
mutual
theorem dq_up {K : PySem.W.Frag} {A H : Hp} (g : Grow A H) : ∀ {d : PyData} {v : V}, Dq K A v d → Dq K H v d
  | _, _, .non => .non
  | _, _, .bl b => .bl b
  | _, _, .int i => .int i
  | _, _, .str x => .str x
  | _, _, .lst hs ha => .lst (g _ _ hs) (dqs_up g ha)
  | _, _, .tup hs ha => .tup (grow_t g hs) (dqs_up g ha)
  | _, _, .dct hs ha => .dct (g _ _ hs) (dks_up g ha)
theorem dqs_up {K : PySem.W.Frag} {A H : Hp} (g : Grow A H) : ∀ {ds : List PyData} {vs : List V}, Dqs K A vs ds → Dqs K H vs ds
  | _, _, .nil => .nil
  | _, _, .cons h1 h2 => .cons (dq_up g h1) (dqs_up g h2)
theorem dks_up {K : PySem.W.Frag} {A H : Hp} (g : Grow A H) : ∀ {kvs : List (PyData × PyData)} {ws : List (Key × V)}, Dks K A ws kvs → Dks K H ws kvs
  | _, _, .nil => .nil
  | _, _, .cons h1 h2 => .cons (dq_up g h1) (dks_up g h2)
end
theorem dp_grow {K : PySem.W.Frag} {A H : Hp} (g : Grow A H) (d : PyData) (v : V) (h : Dq K A v d) : Dq K H v d := dq_up g h
theorem dps_grow {K : PySem.W.Frag} {A H : Hp} (g : Grow A H) (ds : List PyData) (vs : List V) (h : Dqs K A vs ds) : Dqs K H vs ds := dqs_up g h
/-! no dict in it -/
mutual
def noD : PyData → Bool
  | .dict _ => false
  | .list ds => noDs ds
  | .tuple ds => noDs ds
  | .none => true
  | .bool _ => true
  | .int _ => true
  | .str _ => true
def noDs : List PyData → Bool
  | [] => true
  | d :: ds => noD d && noDs ds
end
def shq (d : PyData) : Bool := noD d && SeqAt.shaped d
mutual
theorem dq_dp {K : PySem.W.Frag} {H : Hp} : ∀ (d : PyData) (v : V), noD d = true → Dq K H v d → Dp K H v d
  | .none, _, _, .non => .non
  | .bool _, _, _, .bl b => .bl b
  | .int _, _, _, .int i => .int i
  | .str _, _, _, .str x => .str x
  | .list ds, _, n, .lst hs ha => .lst (.of hs) (dqs_dps ds _ n ha)
  | .tuple ds, _, n, .tup hs ha => .tup hs (dqs_dps ds _ n ha)
  | .dict _, _, n, _ => by cases n
theorem dqs_dps {K : PySem.W.Frag} {H : Hp} : ∀ (ds : List PyData) (vs : List V), noDs ds = true → Dqs K H vs ds → DpAll K H vs ds
  | [], _, _, .nil => .nil
  | d :: ds, _, n, .cons h1 h2 => by
    have n : (noD d && noDs ds) = true := n
    rw [Bool.and_eq_true] at n
    exact .cons (dq_dp d _ n.1 h1) (dqs_dps ds _ n.2 h2)
end
section
variable {K : PySem.W.Frag} {H : Hp}
theorem dqs_len : ∀ {vs : List V} {ds : List PyData}, Dqs K H vs ds → vs.length = ds.length
  | _, _, .nil => rfl
  | _, _, .cons _ r => congrArg (· + 1) (dqs_len r)
theorem dqs_app : ∀ {vs ws : List V} {ds es : List PyData}, Dqs K H vs ds → Dqs K H ws es → Dqs K H (vs ++ ws) (ds ++ es)
  | _, _, _, _, .nil, h => h
  | _, _, _, _, .cons a r, h => .cons a (dqs_app r h)
theorem dqs_get : ∀ {vs : List V} {ds : List PyData} {i : Nat} {d : PyData}, Dqs K H vs ds → ds[i]? = some d → ∃ v, vs[i]? = some v ∧ Dq K H v d
  | _, _, _, _, .nil, e => by simp at e
  | _, _, 0, _, .cons h _, e => ⟨_, rfl, by simp at e; subst e; exact h⟩
  | _, _, i + 1, _, .cons _ r, e => dqs_get (i := i) r (by simpa using e)
theorem dqs_got : ∀ {vs : List V} {ds : List PyData} {i : Nat} {v : V}, Dqs K H vs ds → vs[i]? = some v → ∃ d, ds[i]? = some d ∧ Dq K H v d
  | _, _, _, _, .nil, e => by simp at e
  | _, _, 0, _, .cons h _, e => ⟨_, rfl, by simp at e; subst e; exact h⟩
  | _, _, i + 1, _, .cons _ r, e => dqs_got (i := i) r (by simpa using e)
theorem dqs_take : ∀ {vs : List V} {ds : List PyData} (n : Nat), Dqs K H vs ds → Dqs K H (vs.take n) (ds.take n)
  | _, _, 0, _ => .nil
  | _, _, _ + 1, .nil => .nil
  | _, _, n + 1, .cons h r => .cons h (dqs_take n r)
theorem dqs_drop : ∀ {vs : List V} {ds : List PyData} (n : Nat), Dqs K H vs ds → Dqs K H (vs.drop n) (ds.drop n)
  | _, _, 0, r => r
  | _, _, _ + 1, .nil => .nil
  | _, _, n + 1, .cons _ r => dqs_drop n r
theorem dqs_set : ∀ {vs : List V} {ds : List PyData} {v : V} {d : PyData} (n : Nat), Dq K H v d → Dqs K H vs ds → Dqs K H (vs.set n v) (ds.set n d)
  | _, _, _, _, _, _, .nil => .nil
  | _, _, _, _, 0, k, .cons _ r => .cons k r
  | _, _, _, _, n + 1, k, .cons h r => .cons h (dqs_set n k r)
theorem dqs_ints : ∀ {ns : List Int}, Dqs K H (ns.map V.int) (ns.map PyData.int)
  | [] => .nil
  | n :: ns => .cons (.int n) (dqs_ints (ns := ns))
theorem dqs_of_ints : ∀ {vs : List V} {ns : List Int}, Dqs K H vs (ns.map PyData.int) → vs = ns.map V.int
  | _, [], .nil => rfl
  | _, n :: ns, .cons (.int _) r => congrArg (V.int n :: ·) (dqs_of_ints r)
end

/-! ### the veil: what changes hands is not read through -/
open Classical in
noncomputable def veil (Z : Addr → Prop) (H : Hp) : Hp := fun a => if Z a then none else H a
theorem veil_off {Z : Addr → Prop} {H : Hp} {a : Addr} {o : HO} (h : veil Z H a = some o) : ¬ Z a ∧ H a = some o := by
  unfold veil at h
  by_cases z : Z a
  · rw [if_pos z] at h
    cases h
  · rw [if_neg z] at h
    exact ⟨z, h⟩
theorem veil_on {Z : Addr → Prop} {H : Hp} {a : Addr} {o : HO} (z : ¬ Z a) (h : H a = some o) : veil Z H a = some o := by
  unfold veil
  rw [if_neg z]
  exact h
theorem veil_grow (Z : Addr → Prop) (H : Hp) : Grow (veil Z H) H := fun _ _ h => (veil_off h).2
theorem veil_none {Z : Addr → Prop} {H : Hp} {a : Addr} (h : H a = none) : veil Z H a = none := by
  unfold veil
  by_cases z : Z a
  · rw [if_pos z]
  · rw [if_neg z]
    exact h

/-- a dict with int keys -/
inductive Kvs (K : PySem.W.Frag) (H : Hp) : List (Key × V) → List (Int × PyData) → Prop
  | nil : Kvs K H [] []
  | cons {n : Int} {v : V} {d : PyData} {ws : List (Key × V)} {kvs : List (Int × PyData)} (h : Dq K H v d) (r : Kvs K H ws kvs) : Kvs K H ((.inl n, v) :: ws) ((n, d) :: kvs)
theorem kvs_grow {K : PySem.W.Frag} {A H : Hp} (g : Grow A H) : ∀ {ws : List (Key × V)} {kvs : List (Int × PyData)}, Kvs K A ws kvs → Kvs K H ws kvs
  | _, _, .nil => .nil
  | _, _, .cons h r => .cons (dp_grow g _ _ h) (kvs_grow g r)
theorem kvs_len {K : PySem.W.Frag} {H : Hp} : ∀ {ws : List (Key × V)} {kvs : List (Int × PyData)}, Kvs K H ws kvs → ws.length = kvs.length
  | _, _, .nil => rfl
  | _, _, .cons _ r => congrArg (· + 1) (kvs_len r)
/-- the attributes of an object -/
inductive Fds (K : PySem.W.Frag) (H : Hp) : List (Str × V) → List (Str × PyData) → Prop
  | nil : Fds K H [] []
  | cons {f : Str} {v : V} {d : PyData} {ws : List (Str × V)} {fs : List (Str × PyData)} (h : Dq K H v d) (r : Fds K H ws fs) : Fds K H ((f, v) :: ws) ((f, d) :: fs)
theorem fds_grow {K : PySem.W.Frag} {A H : Hp} (g : Grow A H) : ∀ {ws : List (Str × V)} {fs : List (Str × PyData)}, Fds K A ws fs → Fds K H ws fs
  | _, _, .nil => .nil
  | _, _, .cons h r => .cons (dp_grow g _ _ h) (fds_grow g r)
/-- the class with a name -/
def ClsNm (K : PySem.W.Frag) (nm : Str) (C : Addr) : Prop := PySem.W.nsIn K mainGlobals nm = some (some (.ref C))
/-! ### places -/
inductive Cell where
  | no
  | d (x : PyData)
  | own (xs : List PyData)
  | dct (kvs : List (Int × PyData))
  | box
  | obj (nm : Str) (fs : List (Str × PyData))
abbrev En := List Cell

/-- the veil of a body: what its caller hides (Z), and what its own places own (M) -/
def hid (Z : Addr → Prop) (M : Nat → Option Addr) : Addr → Prop := fun a => Z a ∨ ∃ i, M i = some a
/-- the box of draws at b -/
def BoxAt (K : PySem.W.Frag) (Z : Addr → Prop) (H : Hp) (b : Addr) : Prop :=
  ∃ (r : Addr) (rows : List Int) (at_ : Int), H b = some (.dK [(.inr "row", .ref r), (.inr "at", .int at_)]) ∧ 0 ≤ at_ ∧ veil Z H r = some (.lst (rows.map V.int)) ∧
    0 < rows.length ∧ rows.length ≤ 1000 ∧ ∀ x ∈ rows, 0 ≤ x ∧ x < 1000003
def CellR (K : PySem.W.Frag) (Z : Addr → Prop) (M : Nat → Option Addr) (H : Hp) (i : Nat) (o : Option V) : Cell → Prop
  | .no => True
  | .d x => ∃ v, o = some v ∧ Dq K (veil (hid Z M) H) v x
  | .own xs => ∃ l vs, o = some (.ref l) ∧ M i = some l ∧ H l = some (.lst vs) ∧ Dqs K (veil (hid Z M) H) vs xs
  | .dct kvs => ∃ l ws, o = some (.ref l) ∧ M i = some l ∧ H l = some (.dK ws) ∧ Kvs K (veil (hid Z M) H) ws kvs
  | .box => ∃ b, o = some (.ref b) ∧ M i = some b ∧ BoxAt K (hid Z M) H b
  | .obj nm fs => ∃ l C dx ws, o = some (.ref l) ∧ M i = some l ∧ ClsNm K nm C ∧ H l = some (.ins C dx ws) ∧ Fds K (veil (hid Z M) H) ws fs

/-- B: what may change of what stood at the entry (H0); A: what stays (under the veil) -/
structure EnvR (K : PySem.W.Frag) (B Z : Addr → Prop) (A H0 : Hp) (M : Nat → Option Addr) (σ : St) (H : Hp) (ρ : En) : Prop where
  len : σ.length = ρ.length
  inj : ∀ i j l, M i = some l → M j = some l → i = j
  live : ∀ i l, M i = some l → H l ≠ none
  off : ∀ i l, M i = some l → ¬ Z l
  zl : ∀ a, Z a → H a ≠ none
  ext : ∀ a o, ¬ B a → H0 a = some o → H a = some o
  own : ∀ i l, M i = some l → B l ∨ H0 l = none
  m0 : ∀ b, B b → M 0 = some b
  anch : Grow A (veil (hid Z M) H)
  cell : ∀ i c, ρ[i]? = some c → CellR K Z M H i (σ[i]?.join) c

/-- what an expression's reading is worth: p asks over data -/
abbrev PE' := En → (PyData → En → Prop) → Prop
abbrev PT' := En → (Bool → En → Prop) → Prop
abbrev PA' := En → (List PyData → En → Prop) → Prop
structure PEnds where
  nx : En → Prop
  rt : PyData → En → Prop
  bk : En → Prop := fun _ => False
  ct : En → Prop := fun _ => False
abbrev PS' := PEnds → En → Prop

def Sim (K : PySem.W.Frag) (te : TE) (p : PE') : Prop := ∀ B Z A H0 M σ H ρ R, EnvR K B Z A H0 M σ H ρ → p ρ R →
  ∀ Q : VK, (∀ v d ρ' H2, R d ρ' → EnvR K B Z A H0 M σ H2 ρ' → Dq K (veil (hid Z M) H2) v d → Q v H2) → te σ H Q
def SimT (K : PySem.W.Frag) (tt : TT) (p : PT') : Prop := ∀ B Z A H0 M σ H ρ R, EnvR K B Z A H0 M σ H ρ → p ρ R →
  ∀ Q : Bool → Hp → Prop, (∀ b ρ' H2, R b ρ' → EnvR K B Z A H0 M σ H2 ρ' → Q b H2) → tt σ H Q
def SimA (K : PySem.W.Frag) (ta : TA) (p : PA') : Prop := ∀ B Z A H0 M σ H ρ R, EnvR K B Z A H0 M σ H ρ → p ρ R →
  ∀ Q : List V → Hp → Prop, (∀ vs ds ρ' H2, R ds ρ' → EnvR K B Z A H0 M σ H2 ρ' → Dqs K (veil (hid Z M) H2) vs ds → Q vs H2) → ta σ H Q
/-- a new list -/
def SimL (K : PySem.W.Frag) (te : TE) (p : PA') : Prop := ∀ B Z A H0 M σ H ρ R, EnvR K B Z A H0 M σ H ρ → p ρ R →
  ∀ Q : VK, (∀ l vs ds ρ' H2, R ds ρ' → EnvR K B Z A H0 M σ H2 ρ' → H2 l = none → Dqs K (veil (hid Z M) H2) vs ds → Q (.ref l) (upd H2 l (.lst vs))) → te σ H Q

/-- the ends of a statement -/
structure Comp (K : PySem.W.Frag) (B Z : Addr → Prop) (A H0 : Hp) (D : Ends) (G : PEnds) : Prop where
  nx : ∀ M σ H ρ, EnvR K B Z A H0 M σ H ρ → G.nx ρ → D.nx σ H
  bk : ∀ M σ H ρ, EnvR K B Z A H0 M σ H ρ → G.bk ρ → D.bk σ H
  ct : ∀ M σ H ρ, EnvR K B Z A H0 M σ H ρ → G.ct ρ → D.ct σ H
  rt : ∀ M σ H ρ v d, EnvR K B Z A H0 M σ H ρ → G.rt d ρ → Dq K (veil (fun a => Z a ∨ B a) H) v d → D.rt v H
def SimS (K : PySem.W.Frag) (ts : TS) (p : PS') : Prop := ∀ B Z A H0 M σ H ρ D G, EnvR K B Z A H0 M σ H ρ → p G ρ → Comp K B Z A H0 D G → ts D σ H

/-! ### the environment through changes -/
section
variable {K : PySem.W.Frag} {B Z : Addr → Prop} {A A' H0 H H2 : Hp} {M : Nat → Option Addr} {σ : St} {ρ : En}
theorem CellR.grow {i : Nat} {o : Option V} {c : Cell} (g : Grow (veil (hid Z M) H) (veil (hid Z M) H2)) (k : ∀ l, M i = some l → ∀ u, H l = some u → H2 l = some u) (h : CellR K Z M H i o c) : CellR K Z M H2 i o c := by
  cases c with
  | no => trivial
  | d x =>
    obtain ⟨v, e, h⟩ := h
    exact ⟨v, e, dp_grow g _ _ h⟩
  | own xs =>
    obtain ⟨l, vs, e, m, hl, h⟩ := h
    exact ⟨l, vs, e, m, k l m _ hl, dps_grow g _ _ h⟩
  | dct kvs =>
    obtain ⟨l, ws, e, m, hl, h⟩ := h
    exact ⟨l, ws, e, m, k l m _ hl, kvs_grow g h⟩
  | box =>
    obtain ⟨b, e, m, r, rows, at_, hb, h0, hr, h1, h2, h3⟩ := h
    exact ⟨b, e, m, r, rows, at_, k b m _ hb, h0, g _ _ hr, h1, h2, h3⟩
  | obj nm fs =>
    obtain ⟨l, C, dx, ws, e, m, hc, hl, h⟩ := h
    exact ⟨l, C, dx, ws, e, m, hc, k l m _ hl, fds_grow g h⟩
theorem EnvR.anchor (E : EnvR K B Z A H0 M σ H ρ) : EnvR K B Z (veil (hid Z M) H) H0 M σ H ρ := { E with anch := Grow.refl _ }
theorem EnvR.weak (g : Grow A' A) (E : EnvR K B Z A H0 M σ H ρ) : EnvR K B Z A' H0 M σ H ρ := { E with anch := g.trans E.anch }
/-- the heap has grown, nothing has changed -/
theorem EnvR.grown (E : EnvR K B Z A H0 M σ H ρ) (g : Grow H H2) : EnvR K B Z A H0 M σ H2 ρ := by
  have gv : Grow (veil (hid Z M) H) (veil (hid Z M) H2) := fun a o h => veil_on (veil_off h).1 (g _ _ (veil_off h).2)
  have nn : ∀ a, H a ≠ none → H2 a ≠ none := fun a h e => by
    cases q : H a with
    | none => exact h q
    | some o =>
      rw [g a o q] at e
      cases e
  exact ⟨E.len, E.inj, fun i l m => nn l (E.live i l m), E.off, fun a z => nn a (E.zl a z), fun a o b h => g _ _ (E.ext a o b h), E.own, E.m0, E.anch.trans gv, fun i c h => (E.cell i c h).grow gv fun l _ u hu => g _ _ hu⟩
theorem EnvR.veiled (E : EnvR K B Z A H0 M σ H ρ) {p : Addr} (h : H p = none) : ¬ hid Z M p := by
  rintro (z | ⟨i, m⟩)
  · exact E.zl p z h
  · exact E.live i p m h
theorem grow_new {p : Addr} {o : HO} (h : H p = none) : Grow H (upd H p o) := fun a u e => by
  rw [upd_ne (ne_of_none e h)]
  exact e
theorem grow_veil (g : Grow H H2) : Grow (veil Z H) (veil Z H2) := fun a o h => veil_on (veil_off h).1 (g _ _ (veil_off h).2)
theorem veil_less {Y : Addr → Prop} (h : ∀ a, Z a → Y a) : Grow (veil Y H) (veil Z H) := fun a o e => veil_on (fun z => (veil_off e).1 (h a z)) (veil_off e).2
end
end Pu
namespace Pu
open PySem L2

/-! ### asking a datum what it is -/
def asI : PyData → (Int → Prop) → Prop
  | .int i, k => k i
  | _, _ => False
def asB : PyData → (Bool → Prop) → Prop
  | .bool b, k => k b
  | _, _ => False
def asT : PyData → (List PyData → Prop) → Prop
  | .tuple ds, k => k ds
  | _, _ => False
def asL : PyData → (List PyData → Prop) → Prop
  | .list ds, k => k ds
  | _, _ => False
def asS : PyData → (List PyData → Prop) → Prop
  | .list ds, k => k ds
  | .tuple ds, k => k ds
  | _, _ => False
theorem asI_of {d : PyData} {k : Int → Prop} (h : asI d k) : ∃ i, d = .int i ∧ k i := by
  cases d <;> first | exact ⟨_, rfl, h⟩ | exact h.elim
theorem asB_of {d : PyData} {k : Bool → Prop} (h : asB d k) : ∃ i, d = .bool i ∧ k i := by
  cases d <;> first | exact ⟨_, rfl, h⟩ | exact h.elim
theorem asT_of {d : PyData} {k : List PyData → Prop} (h : asT d k) : ∃ i, d = .tuple i ∧ k i := by
  cases d <;> first | exact ⟨_, rfl, h⟩ | exact h.elim
theorem asL_of {d : PyData} {k : List PyData → Prop} (h : asL d k) : ∃ i, d = .list i ∧ k i := by
  cases d <;> first | exact ⟨_, rfl, h⟩ | exact h.elim
def isN : PyData → Bool
  | .none => true
  | _ => false
def isBl (b : Bool) : PyData → Bool
  | .bool c => decide (c = b)
  | _ => false
def tyN : PyData → String
  | .none => "NoneType"
  | .bool _ => "bool"
  | .int _ => "int"
  | .str _ => "str"
  | .list _ => "list"
  | .tuple _ => "tuple"
  | .dict _ => "dict"
/-- a value without parts, as a datum -/
def dv : V → PyData
  | .bl b => .bool b
  | .int i => .int i
  | .str x => .str x
  | _ => .none
def sv : V → Bool
  | .non => true
  | .bl _ => true
  | .int _ => true
  | .str _ => true
  | _ => false
theorem dv_q {K : PySem.W.Frag} {H : Hp} {v : V} (h : sv v = true) : Dq K H v (dv v) := by
  cases v <;> first | exact .non | exact .bl _ | exact .int _ | exact .str _ | cases h
def asO : Option PyData → (PyData → Prop) → Prop
  | some d, k => k d
  | none, _ => False
theorem asO_of {o : Option PyData} {k : PyData → Prop} (h : asO o k) : ∃ d, o = some d ∧ k d := by
  cases o <;> first | exact ⟨_, rfl, h⟩ | exact h.elim

def cellAt : En → Nat → Cell
  | [], _ => .no
  | c :: _, 0 => c
  | _ :: r, i + 1 => cellAt r i
def cellSet : En → Nat → Cell → En
  | [], _, _ => []
  | _ :: r, 0, c => c :: r
  | x :: r, i + 1, c => x :: cellSet r i c
theorem cellAt_some : ∀ {ρ : En} {i : Nat} {c : Cell}, cellAt ρ i = c → c ≠ .no → ρ[i]? = some c
  | [], _, _, h, n => absurd h.symm n
  | c :: _, 0, _, h, _ => congrArg some h
  | _ :: r, i + 1, _, h, n => by simpa using cellAt_some (ρ := r) (i := i) h n
theorem cellSet_eq : ∀ (ρ : En) (i : Nat) (c : Cell), cellSet ρ i c = ρ.set i c
  | [], _, _ => rfl
  | _ :: _, 0, _ => rfl
  | x :: r, i + 1, c => congrArg (x :: ·) (cellSet_eq r i c)
def asD : Cell → (PyData → Prop) → Prop
  | .d x, k => k x
  | _, _ => False
def asOwn : Cell → (List PyData → Prop) → Prop
  | .own x, k => k x
  | _, _ => False
theorem asD_of {c : Cell} {k : PyData → Prop} (h : asD c k) : ∃ x, c = .d x ∧ k x := by
  cases c <;> first | exact ⟨_, rfl, h⟩ | exact h.elim
theorem asOwn_of {c : Cell} {k : List PyData → Prop} (h : asOwn c k) : ∃ x, c = .own x ∧ k x := by
  cases c <;> first | exact ⟨_, rfl, h⟩ | exact h.elim

def flipB : Bool → Bool → Bool
  | true, b => !b
  | false, b => b
/-! ### the pure readings of expressions -/
def pVar (i : Nat) : PE' := fun ρ R => asD (cellAt ρ i) fun x => R x ρ
def pC (d : PyData) : PE' := fun ρ R => R d ρ
def pII (f : Int → Int → PyData) (pa pb : PE') : PE' := fun ρ R => pa ρ fun x ρ1 => pb ρ1 fun y ρ2 => asI x fun i => asI y fun j => R (f i j) ρ2
def pIIc (C : Int → Int → Prop) (f : Int → Int → PyData) (pa pb : PE') : PE' := fun ρ R => pa ρ fun x ρ1 => pb ρ1 fun y ρ2 => asI x fun i => asI y fun j => C i j ∧ R (f i j) ρ2
def pI (f : Int → PyData) (pa : PE') : PE' := fun ρ R => pa ρ fun x ρ1 => asI x fun i => R (f i) ρ1
def pEqD (neg : Bool) (pa pb : PE') : PE' := fun ρ R => pa ρ fun x ρ1 => pb ρ1 fun y ρ2 => shq x = true ∧ shq y = true ∧ R (.bool (flipB neg (PyData.eqv x y))) ρ2
def pIsN (neg : Bool) (pa : PE') : PE' := fun ρ R => pa ρ fun x ρ1 => R (.bool (flipB neg (isN x))) ρ1
def pIsB (b : Bool) (pa : PE') : PE' := fun ρ R => pa ρ fun x ρ1 => R (.bool (isBl b x)) ρ1
def pIsTy (T : String) (pa : PE') : PE' := fun ρ R => pa ρ fun x ρ1 => R (.bool (decide (tyN x = T))) ρ1
def pChain (f g : Int → Int → Bool) (pa pb pc : PE') : PE' := fun ρ R => pa ρ fun x ρ1 => pb ρ1 fun y ρ2 => asI x fun i => asI y fun j => if f i j = true then pc ρ2 fun z ρ3 => asI z fun k => R (.bool (g j k)) ρ3 else R (.bool false) ρ2
def pTup (pa : PA') : PE' := fun ρ R => pa ρ fun ds ρ1 => ds.length ≤ 100000 ∧ R (.tuple ds) ρ1
def pLst (pa : PA') : PA' := fun ρ R => pa ρ fun ds ρ1 => ds.length ≤ 100000 ∧ R ds ρ1
def pNew (pa : PA') : PE' := fun ρ R => pa ρ fun ds ρ1 => R (.list ds) ρ1
def pNil : PA' := fun ρ R => R [] ρ
def pCons (pa : PE') (pr : PA') : PA' := fun ρ R => pa ρ fun x ρ1 => pr ρ1 fun xs ρ2 => R (x :: xs) ρ2
def pIx (pa pb : PE') : PE' := fun ρ R => pa ρ fun x ρ1 => pb ρ1 fun y ρ2 => asS x fun ds => asI y fun i => asO (atI ds i) fun d => R d ρ2
def pAndV (pa pb : PE') : PE' := fun ρ R => pa ρ fun x ρ1 => asB x fun c => if c = true then pb ρ1 R else R (.bool false) ρ1
def pOrV (pa pb : PE') : PE' := fun ρ R => pa ρ fun x ρ1 => asB x fun c => if c = true then R (.bool true) ρ1 else pb ρ1 R
def pNotV (pa : PE') : PE' := fun ρ R => pa ρ fun x ρ1 => asB x fun c => R (.bool (!c)) ρ1
def pIfE (pt : PT') (pa pb : PE') : PE' := fun ρ R => pt ρ fun c ρ1 => if c = true then pa ρ1 R else pb ρ1 R
/-! tests -/
def pTst (pa : PE') : PT' := fun ρ R => pa ρ fun x ρ1 => asB x fun c => R c ρ1
def pAnd (pa pb : PT') : PT' := fun ρ R => pa ρ fun c ρ1 => if c = true then pb ρ1 R else R false ρ1
def pOr (pa pb : PT') : PT' := fun ρ R => pa ρ fun c ρ1 => if c = true then R true ρ1 else pb ρ1 R
def pNot (pa : PT') : PT' := fun ρ R => pa ρ fun c ρ1 => R (!c) ρ1
def truD : PyData → Option Bool
  | .none => some false
  | .bool b => some b
  | .int i => some (i != 0)
  | .list ds => some (!ds.isEmpty)
  | .tuple ds => some (!ds.isEmpty)
  | _ => none
def pTru (pa : PE') : PT' := fun ρ R => pa ρ fun x ρ1 => ∃ b, truD x = some b ∧ R b ρ1
/-! calls -/
abbrev FS := List PyData → (PyData → Prop) → Prop
def pCall (n : Nat) (S : FS) (pa : PA') : PE' := fun ρ R => pa ρ fun ds ρ1 => ds.length = n ∧ S ds fun d => R d ρ1
def pCallB (n : Nat) (S : FS) (i : Nat) (pa : PA') : PE' := fun ρ R => cellAt ρ i = .box ∧ pa ρ fun ds ρ1 => cellAt ρ1 i = .box ∧ ds.length = n ∧ S ds fun d => R d ρ1
/-- a built-in by its data -/
def pFn (f : List PyData → (PyData → Prop) → Prop) (pa : PA') : PE' := fun ρ R => pa ρ fun ds ρ1 => f ds fun d => R d ρ1

/-! statements -/
def pNext : PS' := fun G ρ => G.nx ρ
def pSeq (p q : PS') : PS' := fun G ρ => p { G with nx := q G } ρ
def pIfS (pt : PT') (p q : PS') : PS' := fun G ρ => pt ρ fun c ρ1 => if c = true then p G ρ1 else q G ρ1
def pRet (pa : PE') : PS' := fun G ρ => pa ρ fun d ρ1 => G.rt d ρ1
def pRetL (pa : PA') : PS' := fun G ρ => pa ρ fun d ρ1 => G.rt (.list d) ρ1
def pRetO (i : Nat) : PS' := fun G ρ => asOwn (cellAt ρ i) fun ds => G.rt (.list ds) ρ
def pRetN : PS' := fun G ρ => G.rt .none ρ
abbrev PG' := PyData → En → (En → Prop) → Prop
def pgN (i : Nat) : PG' := fun d ρ R => R (cellSet ρ i (.d d))
def setAll : En → List Nat → List PyData → En
  | ρ, i :: is, d :: ds => setAll (cellSet ρ i (.d d)) is ds
  | ρ, _, _ => ρ
def pgT (is : List Nat) : PG' := fun d ρ R => asT d fun ds => ds.length = is.length ∧ R (setAll ρ is ds)
def pAsg (pa : PE') (pg : PG') : PS' := fun G ρ => pa ρ fun d ρ1 => pg d ρ1 G.nx
def pAsgO (pa : PA') (i : Nat) : PS' := fun G ρ => i ≠ 0 ∧ pa ρ fun d ρ1 => G.nx (cellSet ρ1 i (.own d))
def pBrk : PS' := fun G ρ => G.bk ρ
def pCnt : PS' := fun G ρ => G.ct ρ
def pDrop (pa : PE') : PS' := fun G ρ => pa ρ fun _ ρ1 => G.nx ρ1
def pApp (i : Nat) (pa : PE') : PS' := fun G ρ => asOwn (cellAt ρ i) fun _ => pa ρ fun d ρ1 => asOwn (cellAt ρ1 i) fun ds => ds.length < 100000 ∧ G.nx (cellSet ρ1 i (.own (ds ++ [d])))
/-- a for over a list or a tuple of data -/
def pFor (pl : PE') (pg : PG') (pb : PS') : PS' := fun G ρ => pl ρ fun x ρ1 => asS x fun ds => ∃ I : Nat → En → Prop, I 0 ρ1 ∧
  (∀ i d ρ', ds[i]? = some d → I i ρ' → pg d ρ' fun ρ2 => pb { G with nx := I (i + 1), ct := I (i + 1), bk := G.nx } ρ2) ∧ ∀ ρ', I ds.length ρ' → G.nx ρ'
/-- for i in range(a, b) -/
def pRng (pa : PA') (pg : PG') (pb : PS') : PS' := fun G ρ => pa ρ fun x ρ1 => ∃ lo hi : Int, ((x = [.int hi] ∧ lo = 0) ∨ x = [.int lo, .int hi]) ∧ (-(2 ^ 62) ≤ lo ∧ lo < 2 ^ 62 ∧ -(2 ^ 62) ≤ hi ∧ hi < 2 ^ 62) ∧ ∃ I : Nat → En → Prop, I 0 ρ1 ∧
  (∀ (i : Nat) ρ', lo + (i : Int) < hi → I i ρ' → pg (.int (lo + (i : Int))) ρ' fun ρ2 => pb { G with nx := I (i + 1), ct := I (i + 1), bk := G.nx } ρ2) ∧ ∀ ρ', I (hi - lo).toNat ρ' → G.nx ρ'
def pWhile (pt : PT') (pb : PS') : PS' := fun G ρ => ∃ W : Nat → En → Prop, (∃ m, W m ρ) ∧ ∀ m ρ', W m ρ' → pt ρ' fun c ρ1 =>
  if c = true then pb { G with nx := fun ρ2 => ∃ m', m' < m ∧ W m' ρ2, ct := fun ρ2 => ∃ m', m' < m ∧ W m' ρ2, bk := G.nx } ρ1 else G.nx ρ1
/-- comprehensions -/
def pLcS (vs is : List Nat) (pl : PE') (pg : PG') (pt : PT') (pe : PE') : PA' := fun ρ R => (∀ v ∈ vs, cellAt ρ v = .no) ∧ pl ρ fun x ρ1 => ρ1 = ρ ∧ asS x fun ds => ∃ I : Nat → List PyData → Prop, I 0 [] ∧
  (∀ i d acc, ds[i]? = some d → I i acc → pg d ρ fun ρ2 => pt ρ2 fun b ρ3 => ρ3 = ρ2 ∧ if b = true then pe ρ2 fun y ρ4 => ρ4 = ρ2 ∧ acc.length < 100000 ∧ I (i + 1) (acc ++ [y]) else I (i + 1) acc) ∧ ∀ acc, I ds.length acc → R acc ρ
def pLcR (vs is : List Nat) (pa : PA') (pg : PG') (pt : PT') (pe : PE') : PA' := fun ρ R => (∀ v ∈ vs, cellAt ρ v = .no) ∧ pa ρ fun x ρ1 => ρ1 = ρ ∧ ∃ lo hi : Int, ((x = [.int hi] ∧ lo = 0) ∨ x = [.int lo, .int hi]) ∧ (-(2 ^ 62) ≤ lo ∧ lo < 2 ^ 62 ∧ -(2 ^ 62) ≤ hi ∧ hi < 2 ^ 62) ∧
  ∃ I : Nat → List PyData → Prop, I 0 [] ∧
  (∀ (i : Nat) acc, lo + (i : Int) < hi → I i acc → pg (.int (lo + (i : Int))) ρ fun ρ2 => pt ρ2 fun b ρ3 => ρ3 = ρ2 ∧ if b = true then pe ρ2 fun y ρ4 => ρ4 = ρ2 ∧ acc.length < 100000 ∧ I (i + 1) (acc ++ [y]) else I (i + 1) acc) ∧ ∀ acc, I (hi - lo).toNat acc → R acc ρ
def pTO (pl : PE') : PE' := fun ρ R => pl ρ fun x ρ1 => asT x fun ds => R (.tuple ds) ρ1
def pLO (pl : PE') : PE' := fun ρ R => pl ρ fun x ρ1 => asL x fun ds => R (.list ds) ρ1
def pYes : PT' := fun ρ R => R true ρ

section
variable {K : PySem.W.Frag}
/-! ### expressions -/
theorem sim_var {i : Nat} : Sim K (tVar i) (pVar i) := fun B Z A H0 M σ H ρ R E h Q q => by
  obtain ⟨x, hx, h⟩ := asD_of h
  obtain ⟨v, hv, hd⟩ := E.cell i _ (cellAt_some hx (by intro z; cases z))
  refine ⟨v, ?_, q v x ρ H h E hd⟩
  cases e : σ[i]? with
  | none =>
    rw [e] at hv
    cases hv
  | some o =>
    rw [e] at hv
    exact congrArg some hv
theorem sim_c {v : V} (s : sv v = true) : Sim K (tC v) (pC (dv v)) := fun B Z A H0 M σ H ρ R E h Q q => q v (dv v) ρ H h E (dv_q s)
theorem sim_k {v : V} {d : PyData} (s : ∀ H, Dq K H v d) : Sim K (tC v) (pC d) := fun B Z A H0 M σ H ρ R E h Q q => q v d ρ H h E (s _)
/-- two operands in turn: the first one stays through the second one's making -/
theorem two {ta tb : TE} {pa pb : PE'} (sa : Sim K ta pa) (sb : Sim K tb pb) {B Z : Addr → Prop} {A H0 : Hp} {M : Nat → Option Addr} {σ : St} {H : Hp} {ρ : En} {R : PyData → PyData → En → Prop} (E : EnvR K B Z A H0 M σ H ρ)
    (h : pa ρ fun x ρ1 => pb ρ1 fun y ρ2 => R x y ρ2) {Q : V → V → Hp → Prop} (q : ∀ v w x y ρ' H2, R x y ρ' → EnvR K B Z A H0 M σ H2 ρ' → Dq K (veil (hid Z M) H2) v x → Dq K (veil (hid Z M) H2) w y → Q v w H2) :
    ta σ H fun v H1 => tb σ H1 fun w H2 => Q v w H2 :=
  sa B Z A H0 M σ H ρ _ E h _ fun v x ρ1 H1 h1 E1 d1 => sb B Z _ H0 M σ H1 ρ1 _ E1.anchor h1 _ fun w y ρ2 H2 h2 E2 d2 =>
    q v w x y ρ2 H2 h2 (E2.weak E1.anch) (dp_grow E2.anch _ _ d1) d2
theorem of_int {H : Hp} {v : V} {i : Int} (h : Dq K H v (.int i)) : v = .int i := by cases h; rfl
theorem of_bl {H : Hp} {v : V} {i : Bool} (h : Dq K H v (.bool i)) : v = .bl i := by cases h; rfl
theorem sim_ii {g : Int → Int → V} {ta tb : TE} {pa pb : PE'} (sa : Sim K ta pa) (sb : Sim K tb pb) (hg : ∀ i j, sv (g i j) = true) : Sim K (tOp (rI0 g) ta tb) (pII (fun i j => dv (g i j)) pa pb) := fun B Z A H0 M σ H ρ R E h Q q =>
  two sa sb E h fun v w x y ρ2 H2 h2 E2 d1 d2 => by
    obtain ⟨i, rfl, h3⟩ := asI_of h2
    obtain ⟨j, rfl, h4⟩ := asI_of h3
    rw [of_int d1, of_int d2]
    exact ⟨i, j, rfl, rfl, q _ _ _ _ h4 E2 (dv_q (hg i j))⟩
theorem sim_iic {C : Int → Int → Prop} {g : Int → Int → V} {ta tb : TE} {pa pb : PE'} (sa : Sim K ta pa) (sb : Sim K tb pb) (hg : ∀ i j, sv (g i j) = true) : Sim K (tOp (rI C g) ta tb) (pIIc C (fun i j => dv (g i j)) pa pb) := fun B Z A H0 M σ H ρ R E h Q q =>
  two sa sb E h fun v w x y ρ2 H2 h2 E2 d1 d2 => by
    obtain ⟨i, rfl, h3⟩ := asI_of h2
    obtain ⟨j, rfl, h4⟩ := asI_of h3
    rw [of_int d1, of_int d2]
    exact ⟨i, j, rfl, rfl, h4.1, q _ _ _ _ h4.2 E2 (dv_q (hg i j))⟩
theorem sim_u {g : Int → V} {ta : TE} {pa : PE'} (sa : Sim K ta pa) (hg : ∀ i, sv (g i) = true) : Sim K (tUn (rU g) ta) (pI (fun i => dv (g i)) pa) := fun B Z A H0 M σ H ρ R E h Q q =>
  sa B Z A H0 M σ H ρ _ E h _ fun v x ρ1 H1 h1 E1 d1 => by
    obtain ⟨i, rfl, h1⟩ := asI_of h1
    rw [of_int d1]
    exact ⟨i, rfl, q _ _ _ _ h1 E1 (dv_q (hg i))⟩
theorem veil_dp {Z : Addr → Prop} {H : Hp} {v : V} {d : PyData} (n : noD d = true) (h : Dq K (veil Z H) v d) : Dp K H v d := dq_dp _ _ n (dp_grow (veil_grow _ _) _ _ h)
theorem shq_of {d : PyData} (h : shq d = true) : noD d = true ∧ SeqAt.shaped d = true := by
  unfold shq at h
  rwa [Bool.and_eq_true] at h
theorem sim_eqD {ta tb : TE} {pa pb : PE'} (sa : Sim K ta pa) (sb : Sim K tb pb) : Sim K (tOp (rEqD K) ta tb) (pEqD false pa pb) := fun B Z A H0 M σ H ρ R E h Q q =>
  two sa sb E h fun v w x y ρ2 H2 h2 E2 d1 d2 => ⟨x, y, veil_dp (shq_of h2.1).1 d1, veil_dp (shq_of h2.2.1).1 d2, (shq_of h2.1).2, (shq_of h2.2.1).2, q _ _ _ _ h2.2.2 E2 (.bl _)⟩
theorem sim_neD {ta tb : TE} {pa pb : PE'} (sa : Sim K ta pa) (sb : Sim K tb pb) : Sim K (tOp (rNeD K) ta tb) (pEqD true pa pb) := fun B Z A H0 M σ H ρ R E h Q q =>
  two sa sb E h fun v w x y ρ2 H2 h2 E2 d1 d2 => ⟨x, y, veil_dp (shq_of h2.1).1 d1, veil_dp (shq_of h2.2.1).1 d2, (shq_of h2.1).2, (shq_of h2.2.1).2, q _ _ _ _ h2.2.2 E2 (.bl _)⟩
theorem isN_v {H : Hp} {v : V} {d : PyData} (h : Dq K H v d) : decide (v = .non) = isN d := by
  cases h <;> simp [isN]
theorem sim_isN {ta : TE} {pa : PE'} (sa : Sim K ta pa) : Sim K (tOp rIsN ta (tC .non)) (pIsN false pa) := fun B Z A H0 M σ H ρ R E h Q q =>
  sa B Z A H0 M σ H ρ _ E h _ fun v x ρ1 H1 h1 E1 d1 => ⟨rfl, by rw [isN_v d1]; exact q _ _ _ _ h1 E1 (.bl _)⟩
theorem sim_notN {ta : TE} {pa : PE'} (sa : Sim K ta pa) : Sim K (tOp rNotN ta (tC .non)) (pIsN true pa) := fun B Z A H0 M σ H ρ R E h Q q =>
  sa B Z A H0 M σ H ρ _ E h _ fun v x ρ1 H1 h1 E1 d1 => ⟨rfl, by rw [isN_v d1]; exact q _ _ _ _ h1 E1 (.bl _)⟩
/-- is True, is False, of whatever -/
def rIsBA : R2 := fun x y H Q => ∃ b, y = .bl b ∧ Q (.bl (decide (x = .bl b))) H
theorem op_isBA {X : Cx} : OpR X (compareOp .Is) rIsBA := by
  intro pins s σ H x y v u Q I rx ry h
  obtain ⟨b, rfl, q⟩ := h
  cases (show u = Value.bool b from ry)
  by_cases e : x = .bl b
  · subst e
    cases (show v = Value.bool b from rx)
    exact wpAny_is_self rfl ⟨.bl true, H, I, rfl, by simpa using q⟩
  · have ne : v ≠ Value.bool b := by
      intro z
      subst z
      cases x <;> first
        | (cases rx; exact e rfl)
        | (cases rx; done)
        | (obtain ⟨t, z⟩ := rx; cases z)
    exact wpAny_is_other (by cases x <;> first | (cases rx; rfl) | (obtain ⟨t, z⟩ := rx; cases z; rfl)) ne ⟨.bl false, H, I, rfl, by simpa [e] using q⟩
theorem isB_v {H : Hp} {v : V} {d : PyData} {b : Bool} (h : Dq K H v d) : decide (v = .bl b) = isBl b d := by
  cases h <;> simp [isBl]
theorem sim_isB {ta : TE} {pa : PE'} {b : Bool} (sa : Sim K ta pa) : Sim K (tOp rIsBA ta (tC (.bl b))) (pIsB b pa) := fun B Z A H0 M σ H ρ R E h Q q =>
  sa B Z A H0 M σ H ρ _ E h _ fun v x ρ1 H1 h1 E1 d1 => ⟨b, rfl, by rw [isB_v d1]; exact q _ _ _ _ h1 E1 (.bl _)⟩
/-- type(x) is T -/
def rIsT2 : R2 := fun x y H Q => ∃ a b, x = .ty a ∧ y = .ty b ∧ Q (.bl (decide (a = b))) H
theorem op_isT2 {X : Cx} : OpR X (compareOp .Is) rIsT2 := op_isTyB
theorem tyB_of {Z : Addr → Prop} {H : Hp} {v : V} {d : PyData} (h : Dq K (veil Z H) v d) : TyB K H v (tyN d) := by
  cases h with
  | non => exact .non
  | bl b => exact .bl b
  | int i => exact .int i
  | str x => exact .str x
  | lst h r => exact .lst (.of (veil_grow _ _ _ _ h))
  | tup h r => exact .tup (grow_t (veil_grow _ _) h)
  | dct h r => exact .dK (veil_grow _ _ _ _ h)
theorem sim_isTy {ta : TE} {pa : PE'} {T : String} (sa : Sim K ta pa) : Sim K (tOp rIsT2 (tCB (rTyp K) (tCons ta tNil)) (tC (.ty T))) (pIsTy T pa) := fun B Z A H0 M σ H ρ R E h Q q =>
  sa B Z A H0 M σ H ρ _ E h _ fun v x ρ1 H1 h1 E1 d1 => ⟨v, tyN x, rfl, tyB_of d1, tyN x, T, rfl, rfl, q _ _ _ _ h1 E1 (.bl _)⟩
theorem sim_chain {f g : Int → Int → Bool} {ta tb tc : TE} {pa pb pc : PE'} (sa : Sim K ta pa) (sb : Sim K tb pb) (sc : Sim K tc pc) :
    Sim K (tChain (rI0 fun i j => .bl (f i j)) (rI0 fun i j => .bl (g i j)) ta tb tc) (pChain f g pa pb pc) := fun B Z A H0 M σ H ρ R E h Q q =>
  two sa sb E h fun v w x y ρ2 H2 h2 E2 d1 d2 => by
    obtain ⟨i, rfl, h3⟩ := asI_of h2
    obtain ⟨j, rfl, h4⟩ := asI_of h3
    clear h2 h3
    have h2 := h4
    rw [of_int d1, of_int d2]
    refine ⟨i, j, rfl, rfl, f i j, rfl, ?_⟩
    cases hf : f i j with
    | true =>
      rw [if_pos hf] at h2
      rw [if_pos rfl]
      refine sc B Z A H0 M σ H2 ρ2 _ E2 h2 _ fun v3 z ρ3 H3 h3 E3 d3 => ?_
      obtain ⟨k, rfl, h3⟩ := asI_of h3
      rw [of_int d3]
      exact ⟨j, k, rfl, rfl, q _ _ _ _ h3 E3 (.bl _)⟩
    | false =>
      rw [hf, if_neg Bool.false_ne_true] at h2
      rw [if_neg Bool.false_ne_true]
      exact q _ _ _ _ h2 E2 (.bl _)
theorem sim_nil : SimA K tNil pNil := fun B Z A H0 M σ H ρ R E h Q q => q [] [] ρ H h E .nil
theorem sim_cons {ta : TE} {tr : TA} {pa : PE'} {pr : PA'} (sa : Sim K ta pa) (sr : SimA K tr pr) : SimA K (tCons ta tr) (pCons pa pr) := fun B Z A H0 M σ H ρ R E h Q q =>
  sa B Z A H0 M σ H ρ _ E h _ fun v x ρ1 H1 h1 E1 d1 => sr B Z _ H0 M σ H1 ρ1 _ E1.anchor h1 _ fun vs ds ρ2 H2 h2 E2 d2 =>
    q _ _ ρ2 H2 h2 (E2.weak E1.anch) (.cons (dp_grow E2.anch _ _ d1) d2)
theorem Dq.new {Z : Addr → Prop} {H : Hp} {p : Addr} {vs : List V} {ds : List PyData} (hz : ¬ Z p) (h : H p = none) (r : Dqs K (veil Z H) vs ds) : Dq K (veil Z (upd H p (.tup vs))) (.ref p) (.tuple ds) :=
  .tup (.of (veil_on hz upd_same)) (dps_grow (grow_veil (grow_new h)) _ _ r)
theorem Dq.newL {Z : Addr → Prop} {H : Hp} {p : Addr} {vs : List V} {ds : List PyData} (hz : ¬ Z p) (h : H p = none) (r : Dqs K (veil Z H) vs ds) : Dq K (veil Z (upd H p (.lst vs))) (.ref p) (.list ds) :=
  .lst (veil_on hz upd_same) (dps_grow (grow_veil (grow_new h)) _ _ r)
theorem sz5 {n : Nat} (h : n ≤ 100000) : n ≤ sizeLine := Nat.le_trans h (by decide)
theorem sim_tup {ta : TA} {pa : PA'} (sa : SimA K ta pa) : Sim K (tTup ta) (pTup pa) := fun B Z A H0 M σ H ρ R E h Q q =>
  sa B Z A H0 M σ H ρ _ E h _ fun vs ds ρ1 H1 h1 E1 d1 => ⟨sz5 (by rw [dqs_len d1]; exact h1.1), fun p hp => q _ _ _ _ h1.2 (E1.grown (grow_new hp)) (.new (E1.veiled hp) hp d1)⟩
theorem sim_lst {ta : TA} {pa : PA'} (sa : SimA K ta pa) : SimL K (tLst ta) (pLst pa) := fun B Z A H0 M σ H ρ R E h Q q =>
  sa B Z A H0 M σ H ρ _ E h _ fun vs ds ρ1 H1 h1 E1 d1 => ⟨sz5 (by rw [dqs_len d1]; exact h1.1), fun p hp => q p vs ds ρ1 H1 h1.2 E1 hp d1⟩
theorem sim_new {te : TE} {pa : PA'} (sa : SimL K te pa) : Sim K te (pNew pa) := fun B Z A H0 M σ H ρ R E h Q q =>
  sa B Z A H0 M σ H ρ _ E h _ fun l vs ds ρ1 H1 h1 E1 hl d1 => q _ _ _ _ h1 (E1.grown (grow_new hl)) (.newL (E1.veiled hl) hl d1)
theorem at_dq {H : Hp} {vs : List V} {ds : List PyData} {i : Int} {d : PyData} (r : Dqs K H vs ds) (h : atI ds i = some d) : ∃ v, atI vs i = some v ∧ Dq K H v d := by
  unfold atI at h ⊢
  rw [dqs_len r]
  cases e : ixN ds.length i with
  | none =>
    rw [e] at h
    cases h
  | some j =>
    rw [e] at h
    exact dqs_get r h
theorem sim_ix {ta tb : TE} {pa pb : PE'} (sa : Sim K ta pa) (sb : Sim K tb pb) : Sim K (tOp (rIx K) ta tb) (pIx pa pb) := fun B Z A H0 M σ H ρ R E h Q q =>
  two sa sb E h fun v w x y ρ2 H2 h2 E2 d1 d2 => by
    cases x with
    | list ds =>
      obtain ⟨i, rfl, h2⟩ := asI_of h2
      obtain ⟨d, hd, h2⟩ := asO_of h2
      rw [of_int d2]
      cases d1 with
      | lst hl r =>
        obtain ⟨u, hu, du⟩ := at_dq r hd
        exact .inl ⟨_, _, i, u, rfl, rfl, .of (veil_grow _ _ _ _ hl), hu, q _ _ _ _ h2 E2 du⟩
    | tuple ds =>
      obtain ⟨i, rfl, h2⟩ := asI_of h2
      obtain ⟨d, hd, h2⟩ := asO_of h2
      rw [of_int d2]
      cases d1 with
      | tup hl r =>
        obtain ⟨u, hu, du⟩ := at_dq r hd
        exact .inr (.inl ⟨_, _, i, u, rfl, rfl, grow_t (veil_grow _ _) hl, hu, q _ _ _ _ h2 E2 du⟩)
    | _ => exact h2.elim
theorem sim_andV {ta tb : TE} {pa pb : PE'} (sa : Sim K ta pa) (sb : Sim K tb pb) : Sim K (tAndV ta tb) (pAndV pa pb) := fun B Z A H0 M σ H ρ R E h Q q =>
  sa B Z A H0 M σ H ρ _ E h _ fun v x ρ1 H1 h1 E1 d1 => by
    obtain ⟨c, rfl, h1⟩ := asB_of h1
    refine ⟨c, of_bl d1, ?_⟩
    cases c with
    | true => exact sb B Z A H0 M σ H1 ρ1 _ E1 h1 _ q
    | false => exact q _ _ _ _ h1 E1 (.bl _)
theorem sim_orV {ta tb : TE} {pa pb : PE'} (sa : Sim K ta pa) (sb : Sim K tb pb) : Sim K (tOrV ta tb) (pOrV pa pb) := fun B Z A H0 M σ H ρ R E h Q q =>
  sa B Z A H0 M σ H ρ _ E h _ fun v x ρ1 H1 h1 E1 d1 => by
    obtain ⟨c, rfl, h1⟩ := asB_of h1
    refine ⟨c, of_bl d1, ?_⟩
    cases c with
    | true => exact q _ _ _ _ h1 E1 (.bl _)
    | false => exact sb B Z A H0 M σ H1 ρ1 _ E1 h1 _ q
theorem sim_notV {ta : TE} {pa : PE'} (sa : Sim K ta pa) : Sim K (tNotV ta) (pNotV pa) := fun B Z A H0 M σ H ρ R E h Q q =>
  sa B Z A H0 M σ H ρ _ E h _ fun v x ρ1 H1 h1 E1 d1 => by
    obtain ⟨c, rfl, h1⟩ := asB_of h1
    exact ⟨c, of_bl d1, q _ _ _ _ h1 E1 (.bl _)⟩
theorem sim_ifE {tt : TT} {ta tb : TE} {pt : PT'} {pa pb : PE'} (st : SimT K tt pt) (sa : Sim K ta pa) (sb : Sim K tb pb) : Sim K (tIf tt ta tb) (pIfE pt pa pb) := fun B Z A H0 M σ H ρ R E h Q q =>
  st B Z A H0 M σ H ρ _ E h _ fun c ρ1 H1 h1 E1 => by
    cases c with
    | true => exact sa B Z A H0 M σ H1 ρ1 _ E1 h1 _ q
    | false => exact sb B Z A H0 M σ H1 ρ1 _ E1 h1 _ q
theorem sim_tst {ta : TE} {pa : PE'} (sa : Sim K ta pa) : SimT K (tTest ta) (pTst pa) := fun B Z A H0 M σ H ρ R E h Q q =>
  sa B Z A H0 M σ H ρ _ E h _ fun v x ρ1 H1 h1 E1 d1 => by
    obtain ⟨c, rfl, h1⟩ := asB_of h1
    exact ⟨c, of_bl d1, q _ _ _ h1 E1⟩
theorem sim_tB {ta : TE} {pa : PE'} (sa : Sim K ta pa) : SimT K (tB ta) (pTst pa) := fun B Z A H0 M σ H ρ R E h Q q =>
  sa B Z A H0 M σ H ρ _ E h _ fun v x ρ1 H1 h1 E1 d1 => by
    obtain ⟨c, rfl, h1⟩ := asB_of h1
    exact ⟨c, of_bl d1, q _ _ _ h1 E1⟩
theorem sim_and {ta tb : TT} {pa pb : PT'} (sa : SimT K ta pa) (sb : SimT K tb pb) : SimT K (tAnd ta tb) (pAnd pa pb) := fun B Z A H0 M σ H ρ R E h Q q =>
  sa B Z A H0 M σ H ρ _ E h _ fun c ρ1 H1 h1 E1 => by
    cases c with
    | true => exact sb B Z A H0 M σ H1 ρ1 _ E1 h1 _ q
    | false => exact q _ _ _ h1 E1
theorem sim_or {ta tb : TT} {pa pb : PT'} (sa : SimT K ta pa) (sb : SimT K tb pb) : SimT K (tOr ta tb) (pOr pa pb) := fun B Z A H0 M σ H ρ R E h Q q =>
  sa B Z A H0 M σ H ρ _ E h _ fun c ρ1 H1 h1 E1 => by
    cases c with
    | true => exact q _ _ _ h1 E1
    | false => exact sb B Z A H0 M σ H1 ρ1 _ E1 h1 _ q
theorem sim_not {ta : TT} {pa : PT'} (sa : SimT K ta pa) : SimT K (tNot ta) (pNot pa) := fun B Z A H0 M σ H ρ R E h Q q =>
  sa B Z A H0 M σ H ρ _ E h _ fun c ρ1 H1 h1 E1 => q _ _ _ h1 E1
theorem sim_tru {ta : TE} {pa : PE'} (sa : Sim K ta pa) : SimT K (tTru K ta) (pTru pa) := fun B Z A H0 M σ H ρ R E h Q q =>
  sa B Z A H0 M σ H ρ _ E h _ fun v x ρ1 H1 ⟨b, hb, h1⟩ E1 d1 => by
    refine ⟨b, ?_, q _ _ _ h1 E1⟩
    cases d1 with
    | non => cases hb; rfl
    | bl c => cases hb; rfl
    | int i => cases hb; rfl
    | str z => cases hb
    | @lst a vs ds hl r =>
      cases hb
      refine .inl ⟨vs, .of (veil_grow _ _ _ _ hl), ?_⟩
      cases r <;> rfl
    | @tup a vs ds hl r =>
      cases hb
      refine .inr (.inl ⟨vs, grow_t (veil_grow _ _) hl, ?_⟩)
      cases r <;> rfl
    | dct hl r => cases hb
end
end Pu
namespace Pu
open PySem L2
section
variable {K : PySem.W.Frag} {B Z : Addr → Prop} {A H0 H : Hp} {M : Nat → Option Addr} {σ : St} {ρ : En}

/-! ### the environment behind a store -/
theorem join_set {σ : St} {i : Nat} {v : V} (h : i < σ.length) : ((σ.set i (some v))[i]?).join = some v := by
  rw [List.getElem?_set_self h]
  rfl
theorem join_ne {σ : St} {i j : Nat} {o : Option V} (h : i ≠ j) : ((σ.set i o)[j]?).join = (σ[j]?).join := by
  rw [List.getElem?_set_ne h]
theorem set_at {ρ : En} {i j : Nat} {c c' : Cell} (h : (ρ.set i c)[j]? = some c') : (i = j ∧ i < ρ.length ∧ c' = c) ∨ (i ≠ j ∧ ρ[j]? = some c') := by
  by_cases e : i = j
  · subst e
    have hl : i < ρ.length := by
      have := (List.getElem?_eq_some_iff.mp h).1
      rwa [List.length_set] at this
    rw [List.getElem?_set_self hl] at h
    exact .inl ⟨rfl, hl, (Option.some.inj h).symm⟩
  · rw [List.getElem?_set_ne e] at h
    exact .inr ⟨e, h⟩
theorem EnvR.setD (E : EnvR K B Z A H0 M σ H ρ) {i : Nat} {v : V} {d : PyData} (h : Dq K (veil (hid Z M) H) v d) : EnvR K B Z A H0 M (σ.set i (some v)) H (cellSet ρ i (.d d)) := by
  rw [cellSet_eq]
  refine { E with len := by rw [List.length_set, List.length_set]; exact E.len, cell := fun j c hc => ?_ }
  rcases set_at hc with ⟨rfl, hl, rfl⟩ | ⟨ne, hc⟩
  · rw [join_set (by rw [E.len]; exact hl)]
    exact ⟨v, rfl, h⟩
  · rw [join_ne ne]
    exact E.cell j c hc
/-- a place gets a new list for its own -/
theorem EnvR.setO (E : EnvR K B Z A H0 M σ H ρ) {i : Nat} {l : Addr} {vs : List V} {ds : List PyData} (hi : i ≠ 0) (hl : H l = none) (r : Dqs K (veil (hid Z M) H) vs ds) :
    EnvR K B Z A H0 (fun j => if j = i then some l else M j) (σ.set i (some (.ref l))) (upd H l (.lst vs)) (cellSet ρ i (.own ds)) := by
  rw [cellSet_eq]
  have nM : ∀ j, M j ≠ some l := fun j m => E.live j l m hl
  have nZ : ¬ Z l := fun z => E.zl l z hl
  have keep : ∀ a, H a ≠ none → (upd H l (.lst vs)) a = H a := fun a h => upd_ne (fun e => h (e ▸ hl))
  have gv : Grow (veil (hid Z M) H) (veil (hid Z fun j => if j = i then some l else M j) (upd H l (.lst vs))) := fun a o h => by
    obtain ⟨h1, h2⟩ := veil_off h
    refine veil_on ?_ ((keep a (by rw [h2]; intro z; cases z)).trans h2)
    rintro (z | ⟨j, m⟩)
    · exact h1 (.inl z)
    · have m : (if j = i then some l else M j) = some a := m
      by_cases e : j = i
      · rw [if_pos e] at m
        cases m
        rw [hl] at h2
        cases h2
      · rw [if_neg e] at m
        exact h1 (.inr ⟨j, m⟩)
  refine ⟨by rw [List.length_set, List.length_set]; exact E.len, fun a b u h1 h2 => ?_, fun j u m => ?_, fun j u m => ?_, fun a z => ?_, fun a o nb h => ?_, fun j u m => ?_, fun b hb => ?_, E.anch.trans gv, fun j c hc => ?_⟩
  · by_cases ea : a = i
    · by_cases eb : b = i
      · rw [ea, eb]
      · rw [if_pos ea] at h1
        rw [if_neg eb] at h2
        cases h1
        exact absurd h2 (nM b)
    · by_cases eb : b = i
      · rw [if_neg ea] at h1
        rw [if_pos eb] at h2
        cases h2
        exact absurd h1 (nM a)
      · rw [if_neg ea] at h1
        rw [if_neg eb] at h2
        exact E.inj a b u h1 h2
  · by_cases e : j = i
    · rw [if_pos e] at m
      cases m
      rw [upd_same]
      intro z; cases z
    · rw [if_neg e] at m
      rw [keep u (E.live j u m)]
      exact E.live j u m
  · by_cases e : j = i
    · rw [if_pos e] at m
      cases m
      exact nZ
    · rw [if_neg e] at m
      exact E.off j u m
  · rw [keep a (E.zl a z)]
    exact E.zl a z
  · have q := E.ext a o nb h
    rw [keep a (by rw [q]; intro z; cases z)]
    exact q
  · by_cases e : j = i
    · rw [if_pos e] at m
      cases m
      by_cases nb : B l
      · exact .inl nb
      · refine .inr ?_
        cases q : H0 l with
        | none => rfl
        | some o =>
          rw [E.ext l o nb q] at hl
          cases hl
    · rw [if_neg e] at m
      exact E.own j u m
  · rw [if_neg (Ne.symm hi)]
    exact E.m0 b hb
  · rcases set_at hc with ⟨rfl, hk, rfl⟩ | ⟨ne, hc⟩
    · rw [join_set (by rw [E.len]; exact hk)]
      exact ⟨l, vs, rfl, if_pos rfl, upd_same, dps_grow gv _ _ r⟩
    · rw [join_ne ne]
      have h := E.cell j c hc
      have mj : (fun j => if j = i then some l else M j) j = M j := if_neg (Ne.symm ne)
      cases c with
      | no => trivial
      | d x =>
        obtain ⟨v, e, h⟩ := h
        exact ⟨v, e, dp_grow gv _ _ h⟩
      | own xs =>
        obtain ⟨u, ws, e, m, hu, h⟩ := h
        exact ⟨u, ws, e, mj.trans m, (keep u (by rw [hu]; intro z; cases z)).trans hu, dps_grow gv _ _ h⟩
      | dct kvs =>
        obtain ⟨u, ws, e, m, hu, h⟩ := h
        exact ⟨u, ws, e, mj.trans m, (keep u (by rw [hu]; intro z; cases z)).trans hu, kvs_grow gv h⟩
      | box =>
        obtain ⟨b, e, m, r, rows, at_, hb, h0, hr, h1, h2, h3⟩ := h
        exact ⟨b, e, mj.trans m, r, rows, at_, (keep b (by rw [hb]; intro z; cases z)).trans hb, h0, gv _ _ hr, h1, h2, h3⟩
      | obj nm fs =>
        obtain ⟨u, C, dx, ws, e, m, hc, hu, h⟩ := h
        exact ⟨u, C, dx, ws, e, mj.trans m, hc, (keep u (by rw [hu]; intro z; cases z)).trans hu, fds_grow gv h⟩
/-- what a place owns has changed -/
theorem EnvR.putO (E : EnvR K B Z A H0 M σ H ρ) {i : Nat} {l : Addr} {vs : List V} {ds : List PyData} (hs : (σ[i]?).join = some (.ref l)) (hm : M i = some l) (r : Dqs K (veil (hid Z M) H) vs ds) (k : cellAt ρ i ≠ .box) :
    EnvR K B Z A H0 M σ (upd H l (.lst vs)) (cellSet ρ i (.own ds)) := by
  rw [cellSet_eq]
  have hd : hid Z M l := .inr ⟨i, hm⟩
  have gv : Grow (veil (hid Z M) H) (veil (hid Z M) (upd H l (.lst vs))) := fun a o h => by
    obtain ⟨h1, h2⟩ := veil_off h
    exact veil_on h1 ((upd_ne fun e => h1 (by rw [e]; exact hd)).trans h2)
  have nn : ∀ a, H a ≠ none → (upd H l (.lst vs)) a ≠ none := fun a h => by
    by_cases e : a = l
    · rw [e, upd_same]
      intro z; cases z
    · rw [upd_ne e]
      exact h
  refine ⟨by rw [List.length_set]; exact E.len, E.inj, fun j u m => nn u (E.live j u m), E.off, fun a z => nn a (E.zl a z), fun a o nb h => ?_, E.own, E.m0, E.anch.trans gv, fun j c hc => ?_⟩
  · have ne : a ≠ l := fun e => by
      rcases E.own i l hm with b | n
      · exact nb (e ▸ b)
      · rw [e, n] at h
        cases h
    rw [upd_ne ne]
    exact E.ext a o nb h
  · rcases set_at hc with ⟨rfl, hk, rfl⟩ | ⟨ne, hc⟩
    · exact ⟨l, vs, hs, hm, upd_same, dps_grow gv _ _ r⟩
    · have other : ∀ u, M j = some u → u ≠ l := fun u m e => ne (E.inj i j l hm (e ▸ m))
      exact (E.cell j c hc).grow gv fun u m o ho => (upd_ne (other u m)).trans ho
theorem own_at (E : EnvR K B Z A H0 M σ H ρ) {i : Nat} {ds : List PyData} (h : cellAt ρ i = .own ds) : ∃ l vs, σ[i]? = some (some (.ref l)) ∧ M i = some l ∧ H l = some (.lst vs) ∧ Dqs K (veil (hid Z M) H) vs ds := by
  obtain ⟨l, vs, e, m, hl, r⟩ := E.cell i _ (cellAt_some h (by intro z; cases z))
  refine ⟨l, vs, ?_, m, hl, r⟩
  cases q : σ[i]? with
  | none =>
    rw [q] at e
    cases e
  | some o =>
    rw [q] at e
    exact congrArg some e
end

section
variable {K : PySem.W.Frag}
/-! ### statements -/
theorem s_next : SimS K tNext pNext := fun B Z A H0 M σ H ρ D G E h C => C.nx M σ H ρ E h
theorem s_seq {t u : TS} {p q : PS'} (st : SimS K t p) (su : SimS K u q) : SimS K (tSeq t u) (pSeq p q) := fun B Z A H0 M σ H ρ D G E h C =>
  st B Z A H0 M σ H ρ _ _ E h ⟨fun M σ H ρ E h => su B Z A H0 M σ H ρ D G E h C, C.bk, C.ct, C.rt⟩
theorem s_if {tt : TT} {t u : TS} {pt : PT'} {p q : PS'} (sc : SimT K tt pt) (st : SimS K t p) (su : SimS K u q) : SimS K (tIfS tt t u) (pIfS pt p q) := fun B Z A H0 M σ H ρ D G E h C =>
  sc B Z A H0 M σ H ρ _ E h _ fun c ρ1 H1 h1 E1 => by
    cases c with
    | true => exact st B Z A H0 M σ H1 ρ1 D G E1 h1 C
    | false => exact su B Z A H0 M σ H1 ρ1 D G E1 h1 C
theorem hid_z {Z : Addr → Prop} {M : Nat → Option Addr} {H : Hp} : Grow (veil (hid Z M) H) (veil Z H) := veil_less fun _ z => .inl z
theorem hid_zb (E : EnvR K B Z A H0 M σ H ρ) : Grow (veil (hid Z M) H) (veil (fun a => Z a ∨ B a) H) :=
  veil_less fun a z => z.elim Or.inl fun b => Or.inr ⟨0, E.m0 a b⟩
theorem s_ret {te : TE} {pa : PE'} (sa : Sim K te pa) : SimS K (tRet te) (pRet pa) := fun B Z A H0 M σ H ρ D G E h C =>
  sa B Z A H0 M σ H ρ _ E h _ fun v d ρ1 H1 h1 E1 d1 => C.rt M σ H1 ρ1 v d E1 h1 (dp_grow (hid_zb E1) _ _ d1)
theorem s_retN : SimS K tRetN pRetN := fun B Z A H0 M σ H ρ D G E h C => C.rt M σ H ρ .non .none E h .non
theorem s_retO {i : Nat} (hi : i ≠ 0 := by decide) : SimS K (tRet (tVar i)) (pRetO i) := fun B Z A H0 M σ H ρ D G E h C => by
  obtain ⟨ds, hc, h⟩ := asOwn_of h
  obtain ⟨l, vs, e, m, hl, r⟩ := own_at E hc
  exact ⟨.ref l, e, C.rt M σ H ρ _ _ E h (.lst (veil_on (fun z => z.elim (E.off i l m) fun b => hi (E.inj i 0 l m (E.m0 l b))) hl) (dps_grow (hid_zb E) _ _ r))⟩
theorem s_brk : SimS K tBreak pBrk := fun B Z A H0 M σ H ρ D G E h C => C.bk M σ H ρ E h
theorem s_cnt : SimS K tCont pCnt := fun B Z A H0 M σ H ρ D G E h C => C.ct M σ H ρ E h
theorem s_drop {te : TE} {pa : PE'} (sa : Sim K te pa) : SimS K (tDrop te) (pDrop pa) := fun B Z A H0 M σ H ρ D G E h C =>
  sa B Z A H0 M σ H ρ _ E h _ fun v d ρ1 H1 h1 E1 d1 => C.nx M σ H1 ρ1 E1 h1
/-! targets -/
def SimG (K : PySem.W.Frag) (g : TG) (pg : PG') : Prop := ∀ B Z A H0 M σ H ρ v d R, EnvR K B Z A H0 M σ H ρ → Dq K (veil (hid Z M) H) v d → pg d ρ R →
  ∀ Q : St → Hp → Prop, (∀ σ' ρ', R ρ' → EnvR K B Z A H0 M σ' H ρ' → Q σ' H) → g v σ H Q
theorem g_name {i : Nat} : SimG K (gName i) (pgN i) := fun B Z A H0 M σ H ρ v d R E hd h Q q => q _ _ h (E.setD hd)
def SimGs (K : PySem.W.Frag) (g : TGs) (is : List Nat) : Prop := ∀ B Z A H0 M σ H ρ vs ds, EnvR K B Z A H0 M σ H ρ → Dqs K (veil (hid Z M) H) vs ds → ds.length = is.length →
  ∀ Q : St → Hp → Prop, (∀ σ', EnvR K B Z A H0 M σ' H (setAll ρ is ds) → Q σ' H) → g vs σ H Q
theorem gs_nil : SimGs K gNil [] := fun B Z A H0 M σ H ρ vs ds E r hl Q q => by
  cases r with
  | nil => exact ⟨rfl, q _ E⟩
  | cons _ _ => cases hl
theorem gs_cons {i : Nat} {u : TGs} {is : List Nat} (su : SimGs K u is) : SimGs K (gCons (gName i) u) (i :: is) := fun B Z A H0 M σ H ρ vs ds E r hl Q q => by
  cases r with
  | nil => cases hl
  | cons h r => exact ⟨_, _, rfl, su B Z A H0 M _ H _ _ _ (E.setD h) r (by simpa using hl) Q q⟩
theorem g_tup {n : Nat} {u : TGs} {is : List Nat} (su : SimGs K u is) (hn : is.length = n) : SimG K (gTup K n u) (pgT is) := fun B Z A H0 M σ H ρ v d R E hd h Q q => by
  obtain ⟨ds, rfl, hl, h⟩ := asT_of h
  cases hd with
  | tup ht r => exact ⟨_, _, rfl, grow_t (veil_grow _ _) ht, by rw [dqs_len r, hl, hn], su B Z A H0 M σ H ρ _ ds E r hl Q fun σ' E' => q σ' _ h E'⟩
theorem s_asg {te : TE} {pa : PE'} {g : TG} {pg : PG'} (sa : Sim K te pa) (sg : SimG K g pg) : SimS K (tAsg te g) (pAsg pa pg) := fun B Z A H0 M σ H ρ D G E h C =>
  sa B Z A H0 M σ H ρ _ E h _ fun v d ρ1 H1 h1 E1 d1 => sg B Z A H0 M σ H1 ρ1 v d _ E1 d1 h1 _ fun σ' ρ' hR E' => C.nx M σ' H1 ρ' E' hR
theorem s_asgO {te : TE} {pa : PA'} {i : Nat} (sa : SimL K te pa) : SimS K (tAsg te (gName i)) (pAsgO pa i) := fun B Z A H0 M σ H ρ D G E h C =>
  sa B Z A H0 M σ H ρ _ E h.2 _ fun l vs ds ρ1 H1 h1 E1 hl d1 => C.nx _ _ _ _ (E1.setO h.1 hl d1) h1
theorem s_app {i : Nat} {te : TE} {pa : PE'} (sa : Sim K te pa) : SimS K (tDrop (tBM K "list" rAppend (tVar i) (tCons te tNil))) (pApp i pa) := fun B Z A H0 M σ H ρ D G E h C => by
  obtain ⟨ds, hc, h⟩ := asOwn_of h
  obtain ⟨l, vs, e, m, hl, r⟩ := own_at E hc
  refine ⟨.ref l, e, .inl ⟨rfl, vs, .of hl⟩, sa B Z A H0 M σ H ρ _ E h _ fun v d ρ1 H1 h1 E1 d1 => ?_⟩
  obtain ⟨ds1, hc1, h2, h3⟩ := asOwn_of h1
  obtain ⟨l1, vs1, e1, m1, hl1, r1⟩ := own_at E1 hc1
  rw [m] at m1
  cases m1
  refine ⟨l, vs1, v, rfl, rfl, hl1, Nat.lt_of_lt_of_le (by rw [dqs_len r1]; exact h2) (by decide), ?_⟩
  refine C.nx M σ _ _ (E1.putO (by rw [e1]; rfl) m (dqs_app r1 (.cons d1 .nil)) (by rw [hc1]; intro z; cases z)) h3
/-! loops -/
theorem s_forL {tl : TE} {g : TG} {tb : TS} {pl : PE'} {pg : PG'} {pb : PS'} (sl : Sim K tl pl) (sg : SimG K g pg) (sb : SimS K tb pb) :
    SimS K (tFor (iList K tl) g tb) (pFor (pLO pl) pg pb) := fun B Z A H0 M σ H ρ D G E h C =>
  sl B Z A H0 M σ H ρ _ E h _ fun v x ρ1 H1 h1 E1 d1 => by
    obtain ⟨ds, rfl, I, i0, is, ie⟩ := asL_of h1
    cases d1 with
    | @lst a vs _ hs r =>
      refine ⟨a, rfl, ⟨vs, .of (veil_grow _ _ _ _ hs)⟩, for_list (fun i σ' H' => ∃ M' ρ', EnvR K B Z (veil (hid Z M) H1) H0 M' σ' H' ρ' ∧ I i ρ') ⟨M, ρ1, E1.anchor, i0⟩
        (fun i σ' H' _ ⟨M', ρ', E', _⟩ => .of (veil_grow _ _ _ _ (E'.anch _ _ hs))) (fun i y σ' H' hy ⟨M', ρ', E', hI⟩ => ?_) fun σ' H' ⟨M', ρ', E', hI⟩ => C.nx M' σ' H' ρ' (E'.weak E1.anch) (ie ρ' (dqs_len r ▸ hI))⟩
      obtain ⟨d, hd, dd⟩ := dqs_got r hy
      exact sg B Z _ H0 M' σ' H' ρ' y d _ E' (dp_grow E'.anch _ _ dd) (is i d ρ' hd hI) _ fun σ2 ρ2 hR E2 => sb B Z _ H0 M' σ2 H' ρ2 _ _ E2 hR
        ⟨fun M σ H ρ E h => ⟨M, ρ, E, h⟩, fun M σ H ρ E h => C.nx M σ H ρ (E.weak E1.anch) h, fun M σ H ρ E h => ⟨M, ρ, E, h⟩, fun M σ H ρ v d E h k => C.rt M σ H ρ v d (E.weak E1.anch) h k⟩
theorem s_forT {tl : TE} {g : TG} {tb : TS} {pl : PE'} {pg : PG'} {pb : PS'} (sl : Sim K tl pl) (sg : SimG K g pg) (sb : SimS K tb pb) :
    SimS K (tFor (iTup K tl) g tb) (pFor (pTO pl) pg pb) := fun B Z A H0 M σ H ρ D G E h C =>
  sl B Z A H0 M σ H ρ _ E h _ fun v x ρ1 H1 h1 E1 d1 => by
    obtain ⟨ds, rfl, I, i0, is, ie⟩ := asT_of h1
    cases d1 with
    | @tup a vs _ hs r =>
      refine ⟨a, rfl, ⟨vs, grow_t (veil_grow _ _) hs⟩, for_tup (fun i σ' H' => ∃ M' ρ', EnvR K B Z (veil (hid Z M) H1) H0 M' σ' H' ρ' ∧ I i ρ') ⟨M, ρ1, E1.anchor, i0⟩
        (fun i σ' H' _ ⟨M', ρ', E', _⟩ => grow_t (veil_grow _ _) (grow_t E'.anch hs)) (fun i y σ' H' hy ⟨M', ρ', E', hI⟩ => ?_) fun σ' H' ⟨M', ρ', E', hI⟩ => C.nx M' σ' H' ρ' (E'.weak E1.anch) (ie ρ' (dqs_len r ▸ hI))⟩
      obtain ⟨d, hd, dd⟩ := dqs_got r hy
      exact sg B Z _ H0 M' σ' H' ρ' y d _ E' (dp_grow E'.anch _ _ dd) (is i d ρ' hd hI) _ fun σ2 ρ2 hR E2 => sb B Z _ H0 M' σ2 H' ρ2 _ _ E2 hR
        ⟨fun M σ H ρ E h => ⟨M, ρ, E, h⟩, fun M σ H ρ E h => C.nx M σ H ρ (E.weak E1.anch) h, fun M σ H ρ E h => ⟨M, ρ, E, h⟩, fun M σ H ρ v d E h k => C.rt M σ H ρ v d (E.weak E1.anch) h k⟩
theorem s_rng1 {ta : TA} {g : TG} {tb : TS} {pa : PA'} {pg : PG'} {pb : PS'} (sa : SimA K ta pa) (sg : SimG K g pg) (sb : SimS K tb pb) (hn : ∀ ρ R, pa ρ R → pa ρ fun x ρ1 => x.length = 1 ∧ R x ρ1) : SimS K (tFor (iRng1 ta) g tb) (pRng pa pg pb) := fun B Z A H0 M σ H ρ D G E h C =>
  sa B Z A H0 M σ H ρ _ E (hn _ _ h) _ fun vs x ρ1 H1 ⟨hx, lo, hi, hx2, hb, I, i0, is, ie⟩ E1 d1 => by
    rcases hx2 with ⟨rfl, rfl⟩ | rfl
    · have e : vs = [.int hi] := dqs_of_ints (ns := [hi]) d1
      subst e
      refine ⟨hi, rfl, hb.2.2.1, hb.2.2.2, for_range (lo := 0) (n := hi.toNat) (fun i σ' H' => ∃ M' ρ', EnvR K B Z (veil (hid Z M) H1) H0 M' σ' H' ρ' ∧ I i ρ') ⟨M, ρ1, E1.anchor, i0⟩ (fun i σ' H' hlt ⟨M', ρ', E', hI⟩ => ?_)
        fun σ' H' ⟨M', ρ', E', hI⟩ => C.nx M' σ' H' ρ' (E'.weak E1.anch) (ie ρ' (by rw [Int.sub_zero]; exact hI))⟩
      exact sg B Z _ H0 M' σ' H' ρ' _ _ _ E' (.int _) (is i ρ' (by omega) hI) _ fun σ2 ρ2 hR E2 => sb B Z _ H0 M' σ2 H' ρ2 _ _ E2 hR
        ⟨fun M σ H ρ E h => ⟨M, ρ, E, h⟩, fun M σ H ρ E h => C.nx M σ H ρ (E.weak E1.anch) h, fun M σ H ρ E h => ⟨M, ρ, E, h⟩, fun M σ H ρ v d E h k => C.rt M σ H ρ v d (E.weak E1.anch) h k⟩
    · exact absurd hx (by simp)
theorem s_rng2 {ta : TA} {g : TG} {tb : TS} {pa : PA'} {pg : PG'} {pb : PS'} (sa : SimA K ta pa) (sg : SimG K g pg) (sb : SimS K tb pb) (hn : ∀ ρ R, pa ρ R → pa ρ fun x ρ1 => x.length = 2 ∧ R x ρ1) : SimS K (tFor (iRng2 ta) g tb) (pRng pa pg pb) := fun B Z A H0 M σ H ρ D G E h C =>
  sa B Z A H0 M σ H ρ _ E (hn _ _ h) _ fun vs x ρ1 H1 ⟨hx, lo, hi, hx2, hb, I, i0, is, ie⟩ E1 d1 => by
    rcases hx2 with ⟨rfl, rfl⟩ | rfl
    · exact absurd hx (by simp)
    · have e : vs = [.int lo, .int hi] := dqs_of_ints (ns := [lo, hi]) d1
      subst e
      refine ⟨lo, hi, rfl, hb, for_range (lo := lo) (n := (hi - lo).toNat) (fun i σ' H' => ∃ M' ρ', EnvR K B Z (veil (hid Z M) H1) H0 M' σ' H' ρ' ∧ I i ρ') ⟨M, ρ1, E1.anchor, i0⟩ (fun i σ' H' hlt ⟨M', ρ', E', hI⟩ => ?_)
        fun σ' H' ⟨M', ρ', E', hI⟩ => C.nx M' σ' H' ρ' (E'.weak E1.anch) (ie ρ' hI)⟩
      exact sg B Z _ H0 M' σ' H' ρ' _ _ _ E' (.int _) (is i ρ' (by omega) hI) _ fun σ2 ρ2 hR E2 => sb B Z _ H0 M' σ2 H' ρ2 _ _ E2 hR
        ⟨fun M σ H ρ E h => ⟨M, ρ, E, h⟩, fun M σ H ρ E h => C.nx M σ H ρ (E.weak E1.anch) h, fun M σ H ρ E h => ⟨M, ρ, E, h⟩, fun M σ H ρ v d E h k => C.rt M σ H ρ v d (E.weak E1.anch) h k⟩
theorem s_while {tt : TT} {tb : TS} {pt : PT'} {pb : PS'} (st : SimT K tt pt) (sb : SimS K tb pb) : SimS K (tWhile tt tb) (pWhile pt pb) := fun B Z A H0 M σ H ρ D G E ⟨W, ⟨m, w0⟩, ws⟩ C => by
  refine ⟨fun n σ' H' => ∃ M' ρ', EnvR K B Z A H0 M' σ' H' ρ' ∧ W n ρ', ⟨m, M, ρ, E, w0⟩, fun n σ' H' ⟨M', ρ', E', w⟩ => ?_⟩
  refine st B Z A H0 M' σ' H' ρ' _ E' (ws n ρ' w) _ fun c ρ1 H1 h1 E1 => ?_
  cases c with
  | false => exact C.nx M' σ' H1 ρ1 E1 h1
  | true =>
    refine ⟨fun σ2 H2 => ∃ m', m' < n ∧ ∃ M' ρ', EnvR K B Z A H0 M' σ2 H2 ρ' ∧ W m' ρ', fun _ _ h => h, ?_⟩
    exact sb B Z A H0 M' σ' H1 ρ1 _ _ E1 h1 ⟨fun M σ H ρ E ⟨m', l, w⟩ => ⟨m', l, M, ρ, E, w⟩, fun M σ H ρ E h => C.nx M σ H ρ E h, fun M σ H ρ E ⟨m', l, w⟩ => ⟨m', l, M, ρ, E, w⟩, C.rt⟩
end
end Pu
namespace Pu
open PySem L2
/-! ### promises over data -/
def plus (Z : Addr → Prop) (b : Addr) : Addr → Prop := fun a => Z a ∨ a = b
/-- a def of data: n arguments -/
def spP (K : PySem.W.Frag) (n : Nat) (S : FS) : Sp := fun vs H Q _ => vs.length = n ∧ ∃ (Z : Addr → Prop) (ds : List PyData) (k : PyData → Prop), (∀ a, Z a → H a ≠ none) ∧ Dqs K (veil Z H) vs ds ∧
  S ds k ∧ ∀ d v H', k d → Grow H H' → Dq K (veil Z H') v d → Q v H'
/-- a def that draws: the box, then n arguments -/
def spB (K : PySem.W.Frag) (n : Nat) (S : FS) : Sp := fun vs H Q _ => ∃ (b : Addr) (us : List V), vs = .ref b :: us ∧ us.length = n ∧ ∃ (Z : Addr → Prop) (ds : List PyData) (k : PyData → Prop), ¬ Z b ∧ (∀ a, Z a → H a ≠ none) ∧
  BoxAt K (plus Z b) H b ∧ Dqs K (veil (plus Z b) H) us ds ∧
  S ds k ∧ ∀ d v H', k d → (∀ a o, a ≠ b → H a = some o → H' a = some o) → BoxAt K (plus Z b) H' b → Dq K (veil (plus Z b) H') v d → Q v H'
section
variable {K : PySem.W.Frag}
theorem sim_call {n : Nat} {S : FS} {E : XK} {ta : TA} {pa : PA'} (sa : SimA K ta pa) : Sim K (tCall (spP K n S) [] E ta) (pCall n S pa) := fun B Z A H0 M σ H ρ R EE h Q q =>
  sa B Z A H0 M σ H ρ _ EE h _ fun vs ds ρ1 H1 h1 E1 d1 => by
    rw [List.append_nil]
    refine ⟨by rw [dqs_len d1]; exact h1.1, hid Z M, ds, _, ?_, d1, h1.2, fun d v H' k g dv => q v d ρ1 H' k (E1.grown g) dv⟩
    rintro a (z | ⟨i, m⟩)
    · exact E1.zl a z
    · exact E1.live i a m
theorem hid_plus {Z : Addr → Prop} {M : Nat → Option Addr} {i : Nat} {b : Addr} (m : M i = some b) : plus (fun a => hid Z M a ∧ a ≠ b) b = hid Z M := by
  funext a
  apply propext
  constructor
  · rintro (⟨h, _⟩ | e)
    · exact h
    · exact .inr ⟨i, e ▸ m⟩
  · intro h
    by_cases e : a = b
    · exact .inr e
    · exact .inl ⟨h, e⟩
/-- behind a draw -/
theorem EnvR.drawn {B Z : Addr → Prop} {A H0 H H' : Hp} {M : Nat → Option Addr} {σ : L2.St} {ρ : En} (E : EnvR K B Z A H0 M σ H ρ) {i : Nat} {b : Addr} (m : M i = some b) (hc : cellAt ρ i = .box) (g : ∀ a o, a ≠ b → H a = some o → H' a = some o) (hb : BoxAt K (hid Z M) H' b) :
    EnvR K B Z A H0 M σ H' ρ := by
  have nb : H' b ≠ none := by
    obtain ⟨r, rows, at_, h, _⟩ := hb
    rw [h]
    intro z; cases z
  have nn : ∀ a, H a ≠ none → H' a ≠ none := fun a h => by
    by_cases e : a = b
    · rw [e]; exact nb
    · cases q : H a with
      | none => exact absurd q h
      | some o =>
        rw [g a o e q]
        intro z; cases z
  have gv : Grow (veil (hid Z M) H) (veil (hid Z M) H') := fun a o h => by
    obtain ⟨h1, h2⟩ := veil_off h
    exact veil_on h1 (g a o (fun e => h1 (.inr ⟨i, by rw [e]; exact m⟩)) h2)
  refine ⟨E.len, E.inj, fun j u k => nn u (E.live j u k), E.off, fun a z => nn a (E.zl a z), fun a o nB h => ?_, E.own, E.m0, E.anch.trans gv, fun j c h => ?_⟩
  · refine g a o (fun e => ?_) (E.ext a o nB h)
    rcases E.own i b m with x | x
    · exact nB (by rw [e]; exact x)
    · rw [e, x] at h
      cases h
  · by_cases e : j = i
    · subst e
      have h2 := cellAt_some hc (by intro z; cases z)
      rw [h2] at h
      cases h
      obtain ⟨b', e1, m1, _⟩ := E.cell j _ h2
      rw [m] at m1
      cases m1
      exact ⟨b, e1, m, hb⟩
    · exact (E.cell j c h).grow gv fun u mu o ho => g u o (fun z => e (E.inj j i b (by rw [← z]; exact mu) m)) ho
theorem box_at {B Z : Addr → Prop} {A H0 H : Hp} {M : Nat → Option Addr} {σ : L2.St} {ρ : En} (E : EnvR K B Z A H0 M σ H ρ) {i : Nat} (hc : cellAt ρ i = .box) : ∃ b, σ[i]? = some (some (.ref b)) ∧ M i = some b ∧ BoxAt K (hid Z M) H b := by
  obtain ⟨b, e, m, h⟩ := E.cell i _ (cellAt_some hc (by intro z; cases z))
  refine ⟨b, ?_, m, h⟩
  cases q : σ[i]? with
  | none =>
    rw [q] at e
    cases e
  | some o =>
    rw [q] at e
    exact congrArg some e
theorem sim_callB {n i : Nat} {S : FS} {E : XK} {ta : TA} {pa : PA'} (sa : SimA K ta pa) : Sim K (tCall (spB K n S) [] E (tCons (tVar i) ta)) (pCallB n S i pa) := fun B Z A H0 M σ H ρ R EE ⟨hc, h⟩ Q q => by
  obtain ⟨b, e, m, _⟩ := box_at EE hc
  refine ⟨.ref b, e, sa B Z A H0 M σ H ρ _ EE h _ fun vs ds ρ1 H1 h1 E1 d1 => ?_⟩
  obtain ⟨b1, e1, m1, hb⟩ := box_at E1 h1.1
  rw [m] at m1
  cases m1
  rw [List.append_nil]
  refine ⟨b, vs, rfl, by rw [dqs_len d1]; exact h1.2.1, fun a => hid Z M a ∧ a ≠ b, ds, _, fun z => z.2 rfl, ?_, by rw [hid_plus m]; exact hb, by rw [hid_plus m]; exact d1, h1.2.2, fun d v H' k g hb' dv => ?_⟩
  · rintro a ⟨z | ⟨j, mj⟩, _⟩
    · exact E1.zl a z
    · exact E1.live j a mj
  · rw [hid_plus m] at hb' dv
    exact q v d ρ1 H' k (E1.drawn m h1.1 g hb') dv
end

/-! ### a def keeps its promise -/
def startE (N : List Str) (ds : List PyData) : En := ds.map Cell.d ++ List.replicate (N.length - ds.length) .no
theorem no_hid {Z : Addr → Prop} : hid Z (fun _ => none) = Z := by
  funext a
  exact propext ⟨fun h => h.elim id fun ⟨_, z⟩ => (nomatch z), fun h => Or.inl h⟩
theorem one_hid {Z : Addr → Prop} {b : Addr} : hid Z (fun i => if i = 0 then some b else none) = plus Z b := by
  funext a
  refine propext ⟨fun h => h.elim Or.inl fun ⟨i, z⟩ => ?_, fun h => h.elim Or.inl fun e => Or.inr ⟨0, by rw [e]; rfl⟩⟩
  have z : (if i = 0 then some b else none) = some a := z
  by_cases e : i = 0
  · rw [if_pos e] at z
    cases z
    exact .inr rfl
  · rw [if_neg e] at z
    cases z
section
variable {K : PySem.W.Frag}
theorem start_len {N : List Str} {vs : List V} (h : vs.length ≤ N.length) : (L2.start N vs).length = N.length := by
  unfold L2.start
  rw [List.length_append, List.length_map, List.length_replicate]
  omega
theorem startE_len {N : List Str} {vs : List PyData} (h : vs.length ≤ N.length) : (startE N vs).length = N.length := by
  unfold startE
  rw [List.length_append, List.length_map, List.length_replicate]
  omega
theorem start_cell {N : List Str} {H : Hp} {vs : List V} {ds : List PyData} (r : Dqs K H vs ds) {i : Nat} {c : Cell} (h : (startE N ds)[i]? = some c) : c = .no ∨ ∃ v d, c = .d d ∧ ((L2.start N vs)[i]?).join = some v ∧ Dq K H v d := by
  unfold startE at h
  by_cases hi : i < ds.length
  · rw [List.getElem?_append_left (by rw [List.length_map]; exact hi), List.getElem?_map, List.getElem?_eq_getElem hi] at h
    obtain ⟨v, hv, dv⟩ := dqs_get r (List.getElem?_eq_getElem hi)
    refine .inr ⟨v, ds[i], (Option.some.inj h).symm, ?_, dv⟩
    unfold L2.start
    rw [List.getElem?_append_left (by rw [List.length_map, dqs_len r]; exact hi), List.getElem?_map, hv]
    rfl
  · rw [List.getElem?_append_right (by rw [List.length_map]; omega), List.getElem?_replicate] at h
    split at h
    · exact .inl (Option.some.inj h).symm
    · cases h
section
variable {P : Program} {w : World} {mg : Str → Option Value} {base : Heap}
/-- the body of a def as a term, its pure reading -/
def Body (P : Program) (w : World) (K : PySem.W.Frag) (mg : Str → Option Value) (base : Heap) (N : List Str) (qual : Str) (st : Stmt) (f : Addr) (k : Nat) (go : PS' → Prop) : Prop :=
  ∀ (cdv : Value) (A : Around) (outer : List Env) (s : Shared) (H : Hp) (E : XK), Room k (A.deeper (PyProof.Rows.envOfC qual (defScope st) s.heap.objs.size f cdv)) →
    ∃ t p, PSs (cxOf CX0 P w K mg base N qual (defScope st) f cdv A outer s H E).nox (defBody st) t ∧ SimS K t p ∧ go p
theorem ok_P {x qual : Str} {st : Stmt} {f : Addr} {fd : FuncData} {N ps : List Str} {k n : Nat} {S : FS} (F : Fun K x qual st f fd) (Sc : FnScope N ps (defScope st)) (hn : ps.length = n)
    (hb : Body P w K mg base N qual st f k fun p => ∀ ds c, ds.length = n → S ds c → p ⟨fun _ => c .none, fun d _ => c d, fun _ => False, fun _ => False⟩ (startE N ds)) : FnOk P w K mg base CX0 (k + 1) f fd ps (spP K n S) := by
  refine F.ok Sc (fun vs H Q E h => by rw [h.1, hn]) (fun cdv A outer s H vs Q E hr h => ?_)
  obtain ⟨hl, Z, ds, c, hz, r, hS, q⟩ := h
  obtain ⟨t, p, ht, hs, hp⟩ := hb cdv A outer s H E hr
  have hnl : ps.length ≤ N.length := by
    have := congrArg List.length Sc.pre
    rw [List.length_take] at this
    omega
  have dl := dqs_len r
  refine ⟨t, ht, hs (fun _ => False) Z (fun _ => none) H (fun _ => none) _ H (startE N ds) _ _ ?_ (hp ds c (by omega) hS) ?_⟩
  · refine ⟨by rw [start_len (by omega), startE_len (by omega)], fun _ _ _ z => (nomatch z), fun _ _ z => (nomatch z), fun _ _ z => (nomatch z), hz, fun _ _ _ h => h, fun _ _ z => (nomatch z), fun _ z => False.elim z, fun _ _ z => (nomatch z), fun i cc hc => ?_⟩
    rcases start_cell r hc with rfl | ⟨v, d, rfl, e, dv⟩
    · trivial
    · refine ⟨v, e, ?_⟩
      rw [no_hid]
      exact dv
  · refine ⟨fun M σ H' ρ E' k => q .none .non H' k (fun a o e => E'.ext a o id e) .non, fun _ _ _ _ _ z => z.elim, fun _ _ _ _ _ z => z.elim, fun M σ H' ρ v d E' k dv => q d v H' k (fun a o e => E'.ext a o id e) (dp_grow (veil_less fun _ z => .inl z) _ _ dv)⟩
theorem ok_B {x qual : Str} {st : Stmt} {f : Addr} {fd : FuncData} {N ps : List Str} {k n : Nat} {S : FS} (F : Fun K x qual st f fd) (Sc : FnScope N ps (defScope st)) (hn : ps.length = n + 1)
    (hb : Body P w K mg base N qual st f k fun p => ∀ ds c, ds.length = n → S ds c → p ⟨fun ρ => cellAt ρ 0 = .box ∧ c .none, fun d ρ => cellAt ρ 0 = .box ∧ c d, fun _ => False, fun _ => False⟩ (.box :: startE N.tail ds)) : FnOk P w K mg base CX0 (k + 1) f fd ps (spB K n S) := by
  refine F.ok Sc (fun vs H Q E h => ?_) (fun cdv A outer s H vs Q E hr h => ?_)
  · obtain ⟨b, us, rfl, hl, _⟩ := h
    rw [List.length_cons, hl, hn]
  obtain ⟨b, us, rfl, hl, Z, ds, c, nz, hz, box, r, hS, q⟩ := h
  obtain ⟨t, p, ht, hs, hp⟩ := hb cdv A outer s H E hr
  have hnl : ps.length ≤ N.length := by
    have := congrArg List.length Sc.pre
    rw [List.length_take] at this
    omega
  have dl := dqs_len r
  have nb : H b ≠ none := by
    obtain ⟨r, rows, at_, h, _⟩ := box
    rw [h]
    intro z; cases z
  have s0 : L2.start N (.ref b :: us) = some (.ref b) :: L2.start N.tail us := by
    unfold L2.start
    rw [List.map_cons, List.length_cons, List.length_tail, List.cons_append]
    congr 3
    omega
  have fin : ∀ M σ H' ρ, EnvR K (fun a => a = b) Z (fun _ => none) H M σ H' ρ → cellAt ρ 0 = .box → ∀ v d, c d → Dq K (veil (plus Z b) H') v d → Q v H' := fun M σ H' ρ E' hc v d k dv => by
    obtain ⟨b', e1, m1, hb'⟩ := box_at E' hc
    have m := E'.m0 b rfl
    rw [m] at m1
    cases m1
    obtain ⟨r, rows, at_, h, h0, hr, h1, h2, h3⟩ := hb'
    refine q d v H' k (fun a o ne e => E'.ext a o ne e) ⟨r, rows, at_, h, h0, ?_, h1, h2, h3⟩ dv
    refine veil_less ?_ _ _ hr
    rintro a (z | e)
    · exact .inl z
    · exact .inr ⟨0, by rw [e]; exact m⟩
  refine ⟨t, ht, hs (fun a => a = b) Z (fun _ => none) H (fun i => if i = 0 then some b else none) _ H (.box :: startE N.tail ds) _ _ ?_ (hp ds c (by omega) hS) ?_⟩
  · rw [s0]
    refine ⟨?_, fun i j l h1 h2 => ?_, fun i l h => ?_, fun i l h => ?_, hz, fun _ _ _ h => h, fun i l h => ?_, fun b' e => (by rw [e]; rfl), fun _ _ z => (nomatch z), fun i cc hc => ?_⟩
    · rw [List.length_cons, List.length_cons, start_len (by rw [List.length_tail]; omega), startE_len (by rw [List.length_tail]; omega)]
    · by_cases ei : i = 0
      · by_cases ej : j = 0
        · rw [ei, ej]
        · rw [if_neg ej] at h2; cases h2
      · rw [if_neg ei] at h1; cases h1
    · by_cases ei : i = 0
      · rw [if_pos ei] at h; cases h; exact nb
      · rw [if_neg ei] at h; cases h
    · by_cases ei : i = 0
      · rw [if_pos ei] at h; cases h; exact nz
      · rw [if_neg ei] at h; cases h
    · by_cases ei : i = 0
      · rw [if_pos ei] at h; cases h; exact .inl rfl
      · rw [if_neg ei] at h; cases h
    · cases i with
      | zero =>
        have e : cc = .box := (Option.some.inj hc).symm
        rw [e]
        exact ⟨b, rfl, rfl, by rw [one_hid]; exact box⟩
      | succ i =>
        rw [List.getElem?_cons_succ] at hc ⊢
        rcases start_cell r hc with rfl | ⟨v, d, rfl, e, dv⟩
        · trivial
        · refine ⟨v, e, ?_⟩
          rw [one_hid]
          exact dv
  · exact ⟨fun M σ H' ρ E' k => fin M σ H' ρ E' k.1 .non .none k.2 .non, fun _ _ _ _ _ z => z.elim, fun _ _ _ _ _ z => z.elim, fun M σ H' ρ v d E' k dv => fin M σ H' ρ E' k.1 v d k.2 dv⟩
end
end
end Pu
namespace Pu
open PySem L2
section
variable {X : Cx}
theorem either {f : Value → Value → Sem Value} {r r' : R2} (h : OpR X f r) (h' : OpR X f r') : OpR X f fun x y H Q => r x y H Q ∨ r' x y H Q := fun pins s σ H x y v u Q I rx ry q =>
  q.elim (h pins s σ H x y v u Q I rx ry) (h' pins s σ H x y v u Q I rx ry)
/-- + of two ints, tuples, lists -/
def rPlus (K : PySem.W.Frag) : R2 := fun x y H Q => rI0 (fun i j => .int (i + j)) x y H Q ∨ rCatA K x y H Q ∨ rCat x y H Q
theorem op_plus : OpR X (binaryOp .Add) (rPlus X.K) := either op_add (either op_catA op_cat)
/-- a slice of a list or a tuple -/
def rCut (K : PySem.W.Frag) : V → Option Int → Option Int → Hp → VK → Prop := fun x lo hi H Q => rSlL K x lo hi H Q ∨ rSlA K x lo hi H Q
theorem sl_cut : SlR X (rCut X.K) := SlR.or sl_list sl_tupA
def rLen (K : PySem.W.Frag) : List V → Hp → VK → Prop := fun xs H Q => ∃ x n, xs = [x] ∧ LenV K x H n ∧ Q (.int (n : Nat)) H
theorem c_len : CallR X (.builtin "len") (rLen X.K) := call_len
def rTupOf (K : PySem.W.Frag) : List V → Hp → VK → Prop := fun xs H Q => ∃ p ys, xs = [.ref p] ∧ ((SqL K H p ys ∧ ∀ l, H l = none → Q (.ref l) (upd H l (.tup ys))) ∨ (SqT K H p ys ∧ Q (.ref p) H))
theorem c_tuple : CallR X (.type "tuple") (rTupOf X.K) := call_tuple_of
def rInt1 : List V → Hp → VK → Prop := fun xs H Q => (∃ i, xs = [.int i] ∧ Q (.int i) H) ∨ ∃ k, xs = [.bl k] ∧ Q (.int (if k then 1 else 0)) H
theorem c_int : CallR X (.type "int") rInt1 := call_int1
end

def lenD : PyData → Option Nat
  | .list ds => some ds.length
  | .tuple ds => some ds.length
  | _ => none
def fLen : FS := fun ds k => match ds with
  | [d] => ∃ n, lenD d = some n ∧ k (.int (n : Nat))
  | _ => False
def fTuple : FS := fun ds k => match ds with
  | [d] => asS d fun xs => k (.tuple xs)
  | _ => False
def fInt : FS := fun ds k => match ds with
  | [.int i] => k (.int i)
  | [.bool b] => k (.int (if b then 1 else 0))
  | _ => False
def fSorted : FS := fun ds k => match ds with
  | [d] => ∃ ns : List Int, (d = .list (ns.map PyData.int) ∨ d = .tuple (ns.map PyData.int)) ∧ ∀ ns' : List Int, ns'.Perm ns → ns'.Pairwise (· ≤ ·) → k (.list (ns'.map PyData.int))
  | _ => False
theorem fLen_of {ds : List PyData} {k : PyData → Prop} (h : fLen ds k) : ∃ d n, ds = [d] ∧ lenD d = some n ∧ k (.int (n : Nat)) := by
  unfold fLen at h
  split at h
  · obtain ⟨n, h1, h2⟩ := h
    exact ⟨_, n, rfl, h1, h2⟩
  · exact h.elim
theorem fTuple_of {ds : List PyData} {k : PyData → Prop} (h : fTuple ds k) : ∃ xs, (ds = [.list xs] ∨ ds = [.tuple xs]) ∧ k (.tuple xs) := by
  unfold fTuple at h
  split at h
  · rename_i d
    cases d <;> first | exact ⟨_, .inl rfl, h⟩ | exact ⟨_, .inr rfl, h⟩ | exact h.elim
  · exact h.elim
theorem fInt_of {ds : List PyData} {k : PyData → Prop} (h : fInt ds k) : (∃ i, ds = [.int i] ∧ k (.int i)) ∨ ∃ b : Bool, ds = [.bool b] ∧ k (.int (if b then 1 else 0)) := by
  unfold fInt at h
  split at h
  · exact .inl ⟨_, rfl, h⟩
  · exact .inr ⟨_, rfl, h⟩
  · exact h.elim
def pSorted (pa : PA') : PA' := fun ρ R => pa ρ fun ds ρ1 => ∃ ns : List Int, ds = [.list (ns.map PyData.int)] ∧ ∀ ns' : List Int, ns'.Perm ns → ns'.Pairwise (· ≤ ·) → R (ns'.map PyData.int) ρ1
abbrev PO' := En → (Option Int → En → Prop) → Prop
def pNoP : PO' := fun ρ R => R none ρ
def pPart (pa : PE') : PO' := fun ρ R => pa ρ fun x ρ1 => asI x fun i => R (some i) ρ1
def cutP (xs : List PyData) (lo hi : Option Int) : List PyData := (xs.drop (HT.sIx xs.length 0 lo)).take (HT.sIx xs.length xs.length hi - HT.sIx xs.length 0 lo)
def cutD (d : PyData) (lo hi : Option Int) (k : PyData → Prop) : Prop := match d with
  | .list xs => k (.list (cutP xs lo hi))
  | .tuple xs => k (.tuple (cutP xs lo hi))
  | _ => False
def pCut (pa : PE') (pl ph : PO') : PE' := fun ρ R => pa ρ fun x ρ1 => pl ρ1 fun l ρ2 => ph ρ2 fun h ρ3 => cutD x l h fun d => R d ρ3
def addD (x y : PyData) (k : PyData → Prop) : Prop := match x, y with
  | .int i, .int j => k (.int (i + j))
  | .tuple xs, .tuple ys => xs.length + ys.length ≤ 100000 ∧ k (.tuple (xs ++ ys))
  | .list xs, .list ys => xs.length + ys.length ≤ 100000 ∧ k (.list (xs ++ ys))
  | _, _ => False
def pPlus (pa pb : PE') : PE' := fun ρ R => pa ρ fun x ρ1 => pb ρ1 fun y ρ2 => addD x y fun d => R d ρ2
/-- a flat datum as a value -/
def vd : PyData → V
  | .bool b => .bl b
  | .int i => .int i
  | .str x => .str x
  | _ => .non
def flatD : PyData → Bool
  | .none => true
  | .bool _ => true
  | .int _ => true
  | .str _ => true
  | _ => false
def pInD (neg : Bool) (pa pb : PE') : PE' := fun ρ R => pa ρ fun x ρ1 => pb ρ1 fun y ρ2 => asS y fun ds => flatD x = true ∧ ds.all flatD = true ∧ R (.bool (if neg then !inV (vd x) (ds.map vd) else inV (vd x) (ds.map vd))) ρ2

section
variable {K : PySem.W.Frag}
def SimO (K : PySem.W.Frag) (to : TO) (p : PO') : Prop := ∀ B Z A H0 M σ H ρ R, EnvR K B Z A H0 M σ H ρ → p ρ R →
  ∀ Q : Option Int → Hp → Prop, (∀ o ρ' H2, R o ρ' → EnvR K B Z A H0 M σ H2 ρ' → Q o H2) → to σ H Q
theorem o_none : SimO K tNoPart pNoP := fun B Z A H0 M σ H ρ R E h Q q => q none ρ H h E
theorem o_some {ta : TE} {pa : PE'} (sa : Sim K ta pa) : SimO K (tPart ta) (pPart pa) := fun B Z A H0 M σ H ρ R E h Q q =>
  sa B Z A H0 M σ H ρ _ E h _ fun v x ρ1 H1 h1 E1 d1 => by
    obtain ⟨i, rfl, h2⟩ := asI_of h1
    exact ⟨i, of_int d1, q _ _ _ h2 E1⟩
theorem cut_dq {H : Hp} {vs : List V} {ds : List PyData} (r : Dqs K H vs ds) (lo hi : Option Int) : Dqs K H (cutV vs lo hi) (cutP ds lo hi) := by
  unfold cutV cutP
  rw [dqs_len r]
  exact dqs_take _ (dqs_drop _ r)
theorem cut_whole {ds : List PyData} {lo hi : Option Int} (h : HT.sIx ds.length 0 lo = 0 ∧ HT.sIx ds.length ds.length hi = ds.length) : cutP ds lo hi = ds := by
  unfold cutP
  rw [h.1, h.2]
  simp
theorem sim_cut {ta : TE} {tl th : TO} {pa : PE'} {pl ph : PO'} (sa : Sim K ta pa) (sl : SimO K tl pl) (sh : SimO K th ph) : Sim K (tSl (rCut K) ta tl th) (pCut pa pl ph) := fun B Z A H0 M σ H ρ R E h Q q =>
  sa B Z A H0 M σ H ρ _ E h _ fun v x ρ1 H1 h1 E1 d1 => sl B Z _ H0 M σ H1 ρ1 _ E1.anchor h1 _ fun l ρ2 H2 h2 E2 => sh B Z _ H0 M σ H2 ρ2 _ E2.anchor h2 _ fun u ρ3 H3 h3 E3 => by
    have d3 := dp_grow (E2.anch.trans E3.anch) _ _ d1
    have E4 := (E3.weak E2.anch).weak E1.anch
    cases x with
    | list ds =>
      cases d3 with
      | lst hl r => exact .inl ⟨_, _, rfl, .of (veil_grow _ _ _ _ hl), fun p hp => q _ _ _ _ h3 (E4.grown (grow_new hp)) (.newL (E4.veiled hp) hp (cut_dq r l u))⟩
    | tuple ds =>
      cases d3 with
      | @tup a vs _ hl r =>
        refine .inr ⟨a, vs, rfl, grow_t (veil_grow _ _) hl, fun w => ?_, fun w p hp => ?_⟩
        · rw [dqs_len r] at w
          have h5 : R (.tuple (cutP ds l u)) ρ3 := h3
          rw [cut_whole w] at h5
          exact q _ _ _ _ h5 E4 (.tup hl r)
        · exact q _ _ _ _ h3 (E4.grown (grow_new hp)) (.new (E4.veiled hp) hp (cut_dq r l u))
    | _ => exact h3.elim
theorem nil_of {H : Hp} {ds : List PyData} (r : Dqs K H [] ds) : ds = [] := by cases r; rfl
theorem nil_to {H : Hp} {vs : List V} (r : Dqs K H vs []) : vs = [] := by cases r; rfl
theorem sim_plus {ta tb : TE} {pa pb : PE'} (sa : Sim K ta pa) (sb : Sim K tb pb) : Sim K (tOp (rPlus K) ta tb) (pPlus pa pb) := fun B Z A H0 M σ H ρ R E h Q q =>
  two sa sb E h fun v w x y ρ2 H2 h2 E2 d1 d2 => by
    cases x with
    | int i =>
      cases y with
      | int j =>
        rw [of_int d1, of_int d2]
        exact .inl ⟨i, j, rfl, rfl, q _ _ _ _ h2 E2 (.int _)⟩
      | _ => exact h2.elim
    | list xs =>
      cases y with
      | list ys =>
        cases d1 with
        | lst hl r =>
          cases d2 with
          | lst hl2 r2 =>
            exact .inr (.inr ⟨_, _, _, _, rfl, rfl, veil_grow _ _ _ _ hl, veil_grow _ _ _ _ hl2, sz5 (by rw [dqs_len r, dqs_len r2]; exact h2.1), fun p hp => q _ _ _ _ h2.2 (E2.grown (grow_new hp)) (.newL (E2.veiled hp) hp (dqs_app r r2))⟩)
      | _ => exact h2.elim
    | tuple xs =>
      cases y with
      | tuple ys =>
        cases d1 with
        | @tup a vs _ hl r =>
          cases d2 with
          | @tup b ws _ hl2 r2 =>
            refine .inr (.inl ⟨a, b, vs, ws, rfl, rfl, grow_t (veil_grow _ _) hl, grow_t (veil_grow _ _) hl2, sz5 (by rw [dqs_len r, dqs_len r2]; exact h2.1), fun e => ?_, fun _ e => ?_, fun _ _ p hp => ?_⟩)
            · subst e
              have ex := nil_of r
              subst ex
              exact q _ _ _ _ h2.2 E2 (.tup hl2 r2)
            · subst e
              have ey := nil_of r2
              subst ey
              have h5 := h2.2
              rw [List.append_nil] at h5
              exact q _ _ _ _ h5 E2 (.tup hl r)
            · exact q _ _ _ _ h2.2 (E2.grown (grow_new hp)) (.new (E2.veiled hp) hp (dqs_app r r2))
      | _ => exact h2.elim
    | _ => exact h2.elim
theorem vd_of {H : Hp} {v : V} {d : PyData} (h : Dq K H v d) (f : flatD d = true) : v = vd d ∧ flatV v = true := by
  cases h <;> first | exact ⟨rfl, rfl⟩ | cases f
theorem vds_of {H : Hp} : ∀ {vs : List V} {ds : List PyData}, Dqs K H vs ds → ds.all flatD = true → vs = ds.map vd ∧ vs.all flatV = true
  | _, _, .nil, _ => ⟨rfl, rfl⟩
  | _, _, .cons h r, f => by
    rw [List.all_cons, Bool.and_eq_true] at f
    obtain ⟨e1, f1⟩ := vd_of h f.1
    obtain ⟨e2, f2⟩ := vds_of r f.2
    exact ⟨by rw [e1, e2]; rfl, by rw [List.all_cons, f1, f2]; rfl⟩
theorem sim_inD {neg : Bool} {ta tb : TE} {pa pb : PE'} (sa : Sim K ta pa) (sb : Sim K tb pb) : Sim K (tOp (rIn K neg) ta tb) (pInD neg pa pb) := fun B Z A H0 M σ H ρ R E h Q q =>
  two sa sb E h fun v w x y ρ2 H2 h2 E2 d1 d2 => by
    cases y with
    | list ds =>
      obtain ⟨fx, fs, h3⟩ := h2
      cases d2 with
      | lst hl r =>
        obtain ⟨e1, f1⟩ := vd_of d1 fx
        obtain ⟨e2, f2⟩ := vds_of r fs
        exact ⟨_, _, rfl, .inl (.of (veil_grow _ _ _ _ hl)), f1, f2, by rw [e1, e2]; exact q _ _ _ _ h3 E2 (.bl _)⟩
    | tuple ds =>
      obtain ⟨fx, fs, h3⟩ := h2
      cases d2 with
      | tup hl r =>
        obtain ⟨e1, f1⟩ := vd_of d1 fx
        obtain ⟨e2, f2⟩ := vds_of r fs
        exact ⟨_, _, rfl, .inr (grow_t (veil_grow _ _) hl), f1, f2, by rw [e1, e2]; exact q _ _ _ _ h3 E2 (.bl _)⟩
    | _ => exact h2.elim
/-! built-ins -/
theorem one_of {H : Hp} {vs : List V} {d : PyData} (r : Dqs K H vs [d]) : ∃ v, vs = [v] ∧ Dq K H v d := by
  cases r with
  | cons h r => cases r; exact ⟨_, rfl, h⟩
theorem sim_len {ta : TA} {pa : PA'} (sa : SimA K ta pa) : Sim K (tCB (rLen K) ta) (pFn fLen pa) := fun B Z A H0 M σ H ρ R E h Q q =>
  sa B Z A H0 M σ H ρ _ E h _ fun vs ds ρ1 H1 h1 E1 d1 => by
    obtain ⟨d, n, rfl, hn, h2⟩ := fLen_of h1
    obtain ⟨v, rfl, dv⟩ := one_of d1
    refine ⟨v, n, rfl, ?_, q _ _ _ _ h2 E1 (.int _)⟩
    cases dv with
    | @lst a xs ds hl r => exact .inl ⟨xs, .of (veil_grow _ _ _ _ hl), by rw [dqs_len r]; exact (Option.some.inj hn).symm⟩
    | @tup a xs ds hl r => exact .inr ⟨xs, grow_t (veil_grow _ _) hl, by rw [dqs_len r]; exact (Option.some.inj hn).symm⟩
    | _ => cases hn
theorem sim_tuple {ta : TA} {pa : PA'} (sa : SimA K ta pa) : Sim K (tCB (rTupOf K) ta) (pFn fTuple pa) := fun B Z A H0 M σ H ρ R E h Q q =>
  sa B Z A H0 M σ H ρ _ E h _ fun vs ds ρ1 H1 h1 E1 d1 => by
    obtain ⟨xs, rfl | rfl, h2⟩ := fTuple_of h1
    · obtain ⟨v, rfl, dv⟩ := one_of d1
      cases dv with
      | lst hl r => exact ⟨_, _, rfl, .inl ⟨.of (veil_grow _ _ _ _ hl), fun p hp => q _ _ _ _ h2 (E1.grown (grow_new hp)) (.new (E1.veiled hp) hp r)⟩⟩
    · obtain ⟨v, rfl, dv⟩ := one_of d1
      cases dv with
      | tup hl r => exact ⟨_, _, rfl, .inr ⟨grow_t (veil_grow _ _) hl, q _ _ _ _ h2 E1 (.tup hl r)⟩⟩
theorem sim_int {ta : TA} {pa : PA'} (sa : SimA K ta pa) : Sim K (tCB rInt1 ta) (pFn fInt pa) := fun B Z A H0 M σ H ρ R E h Q q =>
  sa B Z A H0 M σ H ρ _ E h _ fun vs ds ρ1 H1 h1 E1 d1 => by
    rcases fInt_of h1 with ⟨i, rfl, h2⟩ | ⟨b, rfl, h2⟩
    · obtain ⟨v, rfl, dv⟩ := one_of d1
      rw [of_int dv]
      exact .inl ⟨i, rfl, q _ _ _ _ h2 E1 (.int _)⟩
    · obtain ⟨v, rfl, dv⟩ := one_of d1
      rw [of_bl dv]
      exact .inr ⟨b, rfl, q _ _ _ _ h2 E1 (.int _)⟩
theorem sim_sorted {ta : TA} {pa : PA'} (sa : SimA K ta pa) : SimL K (tCB (rSortedI K) ta) (pSorted pa) := fun B Z A H0 M σ H ρ R E h Q q =>
  sa B Z A H0 M σ H ρ _ E h _ fun vs ds ρ1 H1 ⟨ns, e, h2⟩ E1 d1 => by
    subst e
    obtain ⟨v, rfl, dv⟩ := one_of d1
    cases dv with
    | lst hl r =>
      have e := dqs_of_ints r
      subst e
      exact ⟨_, ns, rfl, .of (veil_grow _ _ _ _ hl), fun ns' p pm pw hp => q p _ _ ρ1 H1 (h2 ns' pm pw) E1 hp dqs_ints⟩
end
end Pu
namespace Pu
open PySem L2
section
variable {K : PySem.W.Frag} {B Z : Addr → Prop} {A A1 H0 H H1 : Hp} {M : Nat → Option Addr} {σ σ2 : St} {ρ ρ2 : En} {D : Addr} {vs : List Nat} {u : HO}
/-! ### a list that grows beside the places -/
def wiped (H : Hp) (D : Addr) : Hp := fun a => if a = D then none else H a
theorem wiped_at : wiped H D D = none := if_pos rfl
theorem wiped_ne {a : Addr} (h : a ≠ D) : wiped H D a = H a := if_neg h
theorem wiped_upd (h : H D = some u) : upd (wiped H D) D u = H := by
  funext a
  by_cases e : a = D
  · rw [e, upd_same, h]
  · rw [upd_ne e, wiped_ne e]
theorem hid_ne {a : Addr} (h : a ≠ D) : hid (plus Z D) M a ↔ hid Z M a :=
  ⟨fun z => z.elim (fun y => y.elim Or.inl fun e => absurd e h) Or.inr, fun z => z.elim (fun y => Or.inl (Or.inl y)) Or.inr⟩
theorem veil_in : Grow (veil (hid (plus Z D) M) H) (veil (hid Z M) (wiped H D)) := fun a o h => by
  obtain ⟨h1, h2⟩ := veil_off h
  have ne : a ≠ D := fun e => h1 (.inl (.inr e))
  exact veil_on (fun z => h1 ((hid_ne ne).mpr z)) ((wiped_ne ne).trans h2)
theorem veil_out : Grow (veil (hid Z M) (wiped H D)) (veil (hid (plus Z D) M) H) := fun a o h => by
  obtain ⟨h1, h2⟩ := veil_off h
  have ne : a ≠ D := fun e => by
    rw [e, wiped_at] at h2
    cases h2
  exact veil_on (fun z => h1 ((hid_ne ne).mp z)) ((wiped_ne ne).symm.trans h2)
theorem wiped_none (h : H D = none) : wiped (upd H D u) D = H := by
  funext a
  by_cases e : a = D
  · rw [e, wiped_at, h]
  · rw [wiped_ne e, upd_ne e]
theorem wipe_out {i : Nat} : ∀ {vs : List Nat}, i ∉ vs → (wipe σ vs)[i]? = σ[i]?
  | [], _ => rfl
  | v :: vs, h => by
    unfold wipe
    rw [List.getElem?_set_ne (fun e => h (by rw [e]; exact List.mem_cons_self)), wipe_out fun m => h (List.mem_cons_of_mem _ m)]
theorem wipe_join {i : Nat} {v : V} (h : ((wipe σ vs)[i]?).join = some v) : (σ[i]?).join = some v := by
  cases q : (wipe σ vs)[i]? with
  | none =>
    rw [q] at h
    cases h
  | some o =>
    rw [q] at h
    have h : o = some v := h
    subst h
    rw [(wipe_some q).1]
    rfl
theorem cell_more {i : Nat} {o o' : Option V} {c : Cell} (k : ∀ v, o = some v → o' = some v) (h : CellR K Z M H i o c) : CellR K Z M H i o' c := by
  cases c with
  | no => trivial
  | d x =>
    obtain ⟨v, e, h⟩ := h
    exact ⟨v, k v e, h⟩
  | own xs =>
    obtain ⟨l, vs, e, h⟩ := h
    exact ⟨l, vs, k _ e, h⟩
  | dct kvs =>
    obtain ⟨l, ws, e, h⟩ := h
    exact ⟨l, ws, k _ e, h⟩
  | box =>
    obtain ⟨b, e, h⟩ := h
    exact ⟨b, k _ e, h⟩
  | obj nm fs =>
    obtain ⟨l, C, dx, ws, e, h⟩ := h
    exact ⟨l, C, dx, ws, k _ e, h⟩
theorem cellAt_get : ∀ {ρ : En} {i : Nat} {c : Cell}, ρ[i]? = some c → cellAt ρ i = c
  | [], _, _, h => by simp at h
  | c :: _, 0, _, h => Option.some.inj h
  | _ :: r, i + 1, _, h => cellAt_get (ρ := r) (i := i) (by simpa using h)
/-- the cell of a hidden one and back -/
theorem cell_in {i : Nat} {o : Option V} {c : Cell} (nd : ∀ l, M i = some l → l ≠ D) (h : CellR K Z M (wiped H D) i o c) : CellR K (plus Z D) M H i o c := by
  cases c with
  | no => trivial
  | d x =>
    obtain ⟨v, e, h⟩ := h
    exact ⟨v, e, dp_grow veil_out _ _ h⟩
  | own xs =>
    obtain ⟨l, vs, e, m, hl, h⟩ := h
    exact ⟨l, vs, e, m, (wiped_ne (nd l m)).symm.trans hl, dps_grow veil_out _ _ h⟩
  | dct kvs =>
    obtain ⟨l, ws, e, m, hl, h⟩ := h
    exact ⟨l, ws, e, m, (wiped_ne (nd l m)).symm.trans hl, kvs_grow veil_out h⟩
  | box =>
    obtain ⟨b, e, m, r, rows, at_, hb, h0, hr, h1, h2, h3⟩ := h
    exact ⟨b, e, m, r, rows, at_, (wiped_ne (nd b m)).symm.trans hb, h0, veil_out _ _ hr, h1, h2, h3⟩
  | obj nm fs =>
    obtain ⟨l, C, dx, ws, e, m, hc, hl, h⟩ := h
    exact ⟨l, C, dx, ws, e, m, hc, (wiped_ne (nd l m)).symm.trans hl, fds_grow veil_out h⟩
theorem cell_ex {i : Nat} {o : Option V} {c : Cell} (nd : ∀ l, M i = some l → l ≠ D) (h : CellR K (plus Z D) M H i o c) : CellR K Z M (wiped H D) i o c := by
  cases c with
  | no => trivial
  | d x =>
    obtain ⟨v, e, h⟩ := h
    exact ⟨v, e, dp_grow veil_in _ _ h⟩
  | own xs =>
    obtain ⟨l, vs, e, m, hl, h⟩ := h
    exact ⟨l, vs, e, m, (wiped_ne (nd l m)).trans hl, dps_grow veil_in _ _ h⟩
  | dct kvs =>
    obtain ⟨l, ws, e, m, hl, h⟩ := h
    exact ⟨l, ws, e, m, (wiped_ne (nd l m)).trans hl, kvs_grow veil_in h⟩
  | box =>
    obtain ⟨b, e, m, r, rows, at_, hb, h0, hr, h1, h2, h3⟩ := h
    exact ⟨b, e, m, r, rows, at_, (wiped_ne (nd b m)).trans hb, h0, veil_in _ _ hr, h1, h2, h3⟩
  | obj nm fs =>
    obtain ⟨l, C, dx, ws, e, m, hc, hl, h⟩ := h
    exact ⟨l, C, dx, ws, e, m, hc, (wiped_ne (nd l m)).trans hl, fds_grow veil_in h⟩
/-- a comprehension's block begins: its own places forgotten, its list at D -/
theorem EnvR.enter (E : EnvR K B Z A H0 M σ H ρ) (hv : ∀ v ∈ vs, cellAt ρ v = .no) (hD : H D = none) : EnvR K B (plus Z D) (veil (hid Z M) H) H0 M (wipe σ vs) (upd H D u) ρ := by
  have nM : ∀ i l, M i = some l → l ≠ D := fun i l m e => E.live i l m (by rw [e]; exact hD)
  have keep : ∀ a, H a ≠ none → upd H D u a = H a := fun a h => upd_ne fun e => h (by rw [e]; exact hD)
  refine ⟨by rw [wipe_length]; exact E.len, E.inj, fun i l m => by rw [keep l (E.live i l m)]; exact E.live i l m, fun i l m z => z.elim (E.off i l m) (nM i l m), fun a z => ?_, fun a o nb h => ?_, E.own, E.m0, ?_, fun i c hc => ?_⟩
  · rcases z with z | e
    · rw [keep a (E.zl a z)]
      exact E.zl a z
    · rw [e, upd_same]
      intro z; cases z
  · have q := E.ext a o nb h
    rw [keep a (by rw [q]; intro z; cases z)]
    exact q
  · have g := veil_out (Z := Z) (M := M) (H := upd H D u) (D := D)
    rw [wiped_none hD] at g
    exact g
  · have h := E.cell i c hc
    by_cases hi : i ∈ vs
    · have e := hv i hi
      rw [cellAt_get hc] at e
      rw [e]
      trivial
    · rw [wipe_out hi]
      refine cell_in (nM i) ?_
      rw [wiped_none hD]
      exact h
/-- .. it ends -/
theorem EnvR.leave (E : EnvR K B (plus Z D) A1 H0 M (wipe σ vs) H ρ) (g : Grow A A1) (h0 : H0 D = none) (nZ : ¬ Z D) : EnvR K B Z A H0 M σ (wiped H D) ρ := by
  have nM : ∀ i l, M i = some l → l ≠ D := fun i l m e => E.off i l m (.inr e)
  refine ⟨by rw [← E.len, wipe_length], E.inj, fun i l m => by rw [wiped_ne (nM i l m)]; exact E.live i l m, fun i l m z => E.off i l m (.inl z), fun a z => ?_, fun a o nb h => ?_, E.own, E.m0, (g.trans E.anch).trans veil_in, fun i c hc => cell_more (fun v => wipe_join) (cell_ex (nM i) (E.cell i c hc))⟩
  · rw [wiped_ne (fun e => nZ (by rw [← e]; exact z))]
    exact E.zl a (.inl z)
  · rw [wiped_ne (fun e => by rw [e, h0] at h; cases h)]
    exact E.ext a o nb h
/-- for a turn: what stands at D stays -/
theorem EnvR.hold (E : EnvR K B Z A H0 M σ H ρ) (h : H D = some u) (nM : ∀ i l, M i = some l → l ≠ D) : EnvR K B Z A (upd H0 D u) M σ H ρ := by
  refine { E with ext := fun a o nb k => ?_, own := fun i l m => ?_ }
  · by_cases e : a = D
    · rw [e, upd_same] at k
      rw [e, h]
      exact k
    · rw [upd_ne e] at k
      exact E.ext a o nb k
  · rw [upd_ne (nM i l m)]
    exact E.own i l m
theorem EnvR.unhold (E : EnvR K B Z A (upd H0 D u) M σ H ρ) (h0 : H0 D = none) (nM : ∀ i l, M i = some l → l ≠ D) : EnvR K B Z A H0 M σ H ρ := by
  refine { E with ext := fun a o nb k => E.ext a o nb ?_, own := fun i l m => ?_ }
  · rw [upd_ne (fun e => by rw [e, h0] at k; cases k)]
    exact k
  · have q := E.own i l m
    rw [upd_ne (nM i l m)] at q
    exact q
/-- what stands at D changes -/
theorem EnvR.turn (E : EnvR K B (plus Z D) A H0 M σ H ρ) (h0 : H0 D = none) : EnvR K B (plus Z D) A H0 M σ (upd H D u) ρ := by
  have nM : ∀ i l, M i = some l → l ≠ D := fun i l m e => E.off i l m (.inr e)
  have gv : Grow (veil (hid (plus Z D) M) H) (veil (hid (plus Z D) M) (upd H D u)) := fun a o h => by
    obtain ⟨h1, h2⟩ := veil_off h
    exact veil_on h1 ((upd_ne fun e => h1 (.inl (.inr e))).trans h2)
  refine ⟨E.len, E.inj, fun i l m => by rw [upd_ne (nM i l m)]; exact E.live i l m, E.off, fun a z => ?_, fun a o nb h => ?_, E.own, E.m0, E.anch.trans gv, fun i c hc => (E.cell i c hc).grow gv fun l m w hw => (upd_ne (nM i l m)).trans hw⟩
  · by_cases e : a = D
    · rw [e, upd_same]
      intro z; cases z
    · rw [upd_ne e]
      exact E.zl a z
  · rw [upd_ne (fun e => by rw [e, h0] at h; cases h)]
    exact E.ext a o nb h
/-- the turn's own places forgotten -/
theorem EnvR.back (E : EnvR K B Z A H0 M σ2 H ρ2) (hw : wipe σ2 vs = wipe σ vs) (hl : ρ2.length = ρ.length) (ho : ∀ i, i ∉ vs → cellAt ρ2 i = cellAt ρ i) (hv : ∀ v ∈ vs, cellAt ρ v = .no) : EnvR K B Z A H0 M (wipe σ vs) H ρ := by
  refine { E with len := by rw [← hw, wipe_length, E.len, hl], cell := fun i c hc => ?_ }
  by_cases hi : i ∈ vs
  · have e := hv i hi
    rw [cellAt_get hc] at e
    rw [e]
    trivial
  · have e := ho i hi
    rw [cellAt_get hc] at e
    cases c with
    | no => trivial
    | _ =>
      have h := E.cell i _ (cellAt_some e (by intro z; cases z))
      rw [← hw, wipe_out hi]
      exact h
end

/-! ### comprehensions -/
section
variable {K : PySem.W.Frag}
/-- a target whose places are all in vs -/
def SimGV (K : PySem.W.Frag) (vs : List Nat) (g : TG) (pg : PG') : Prop := ∀ B Z A H0 M σ H ρ v d R, EnvR K B Z A H0 M σ H ρ → Dq K (veil (hid Z M) H) v d → pg d ρ R →
  ∀ Q : St → Hp → Prop, (∀ σ' ρ', R ρ' → EnvR K B Z A H0 M σ' H ρ' → wipe σ' vs = wipe σ vs → ρ'.length = ρ.length → (∀ i, i ∉ vs → cellAt ρ' i = cellAt ρ i) → Q σ' H) → g v σ H Q
theorem wipe_set {σ : St} {j : Nat} {o : Option V} : ∀ {vs : List Nat}, j ∈ vs → wipe (σ.set j o) vs = wipe σ vs
  | v :: vs, h => by
    unfold wipe
    by_cases e : j ∈ vs
    · rw [wipe_set e]
    · have ev : j = v := (List.mem_cons.mp h).resolve_right e
      subst ev
      have q : ∀ {ws : List Nat}, j ∉ ws → wipe (σ.set j o) ws = (wipe σ ws).set j o := fun {ws} => by
        induction ws with
        | nil => intro _; rfl
        | cons w ws ih =>
          intro h
          unfold wipe
          rw [ih fun m => h (List.mem_cons_of_mem _ m), List.set_comm _ _ (fun z => h (by rw [z]; exact List.mem_cons_self))]
      rw [q e, List.set_set]
theorem cellSet_ne : ∀ {ρ : En} {i j : Nat} {c : Cell}, i ≠ j → cellAt (cellSet ρ i c) j = cellAt ρ j
  | [], _, _, _, _ => rfl
  | _ :: _, 0, 0, _, h => absurd rfl h
  | _ :: _, 0, _ + 1, _, _ => rfl
  | _ :: _, _ + 1, 0, _, _ => rfl
  | _ :: r, i + 1, j + 1, _, h => cellSet_ne (ρ := r) (i := i) (j := j) fun e => h (congrArg (· + 1) e)
theorem cellSet_len {ρ : En} {i : Nat} {c : Cell} : (cellSet ρ i c).length = ρ.length := by
  rw [cellSet_eq, List.length_set]
theorem gv_name {vs : List Nat} {i : Nat} (h : i ∈ vs) : SimGV K vs (gName i) (pgN i) := fun B Z A H0 M σ H ρ v d R E hd hR Q q =>
  q _ _ hR (E.setD hd) (wipe_set h) cellSet_len fun j hj => cellSet_ne fun e => hj (by rw [← e]; exact h)
def SimGsV (K : PySem.W.Frag) (vs : List Nat) (g : TGs) (is : List Nat) : Prop := ∀ B Z A H0 M σ H ρ us ds, EnvR K B Z A H0 M σ H ρ → Dqs K (veil (hid Z M) H) us ds → ds.length = is.length →
  ∀ Q : St → Hp → Prop, (∀ σ', EnvR K B Z A H0 M σ' H (setAll ρ is ds) → wipe σ' vs = wipe σ vs → (setAll ρ is ds).length = ρ.length → (∀ i, i ∉ vs → cellAt (setAll ρ is ds) i = cellAt ρ i) → Q σ' H) → g us σ H Q
theorem gsv_nil {vs : List Nat} : SimGsV K vs gNil [] := fun B Z A H0 M σ H ρ us ds E r hl Q q => by
  cases r with
  | nil => exact ⟨rfl, q _ E rfl rfl fun _ _ => rfl⟩
  | cons _ _ => cases hl
theorem gsv_cons {vs : List Nat} {i : Nat} {u : TGs} {is : List Nat} (h : i ∈ vs) (su : SimGsV K vs u is) : SimGsV K vs (gCons (gName i) u) (i :: is) := fun B Z A H0 M σ H ρ us ds E r hl Q q => by
  cases r with
  | nil => cases hl
  | cons hd r => exact ⟨_, _, rfl, su B Z A H0 M _ H _ _ _ (E.setD hd) r (by simpa using hl) Q fun σ' E' w l o => q σ' E' (w.trans (wipe_set h)) (l.trans cellSet_len) fun j hj => (o j hj).trans (cellSet_ne fun e => hj (by rw [← e]; exact h))⟩
theorem gv_tup {vs : List Nat} {n : Nat} {u : TGs} {is : List Nat} (su : SimGsV K vs u is) (hn : is.length = n) : SimGV K vs (gTup K n u) (pgT is) := fun B Z A H0 M σ H ρ v d R E hd h Q q => by
  obtain ⟨ds, rfl, hl, h⟩ := asT_of h
  cases hd with
  | tup ht r => exact ⟨_, _, rfl, grow_t (veil_grow _ _) ht, by rw [dqs_len r, hl, hn], su B Z A H0 M σ H ρ _ ds E r hl Q fun σ' E' w l o => q σ' _ h E' w l o⟩
def SimP (K : PySem.W.Frag) (tt : TT) (p : PT') : Prop := SimT K tt p
theorem t_yes : SimT K tYes pYes := fun B Z A H0 M σ H ρ R E h Q q => q true ρ H h E
/-- one turn -/
theorem lc_turn {B Z : Addr → Prop} {A H0 H : Hp} {M : Nat → Option Addr} {σ : St} {ρ : En} {D : Addr} {vs : List Nat} {g : TG} {pg : PG'} {tt : TT} {pt : PT'} {te : TE} {pe : PE'} {v : V} {d : PyData} {va : List V} {acc : List PyData} {yes : List PyData → Prop}
    (sg : SimGV K vs g pg) (st : SimT K tt pt) (se : Sim K te pe) (E : EnvR K B (plus Z D) A H0 M (wipe σ vs) H ρ) (hv : ∀ v ∈ vs, cellAt ρ v = .no) (hD : H D = some (.lst va)) (h0 : H0 D = none) (nB : ¬ B D) (dv : Dq K (veil (hid (plus Z D) M) H) v d)
    (ra : Dqs K (veil (hid (plus Z D) M) H) va acc) (hw : wipe (wipe σ vs) vs = wipe σ vs)
    (h : pg d ρ fun ρ2 => pt ρ2 fun b ρ3 => ρ3 = ρ2 ∧ if b = true then pe ρ2 fun y ρ4 => ρ4 = ρ2 ∧ acc.length < 100000 ∧ yes (acc ++ [y]) else yes acc) {Pv : Hp → Prop}
    (hP : ∀ H' va' acc', EnvR K B (plus Z D) A H0 M (wipe σ vs) H' ρ → H' D = some (.lst va') → Dqs K (veil (hid (plus Z D) M) H') va' acc' → yes acc' → Pv H') :
    g v (wipe σ vs) H fun σ2 H2 => wipe σ2 vs = wipe σ vs ∧ tt σ2 H2 fun b H3 => if b = true then te σ2 H3 fun y H4 => ∃ acc, H4 D = some (.lst acc) ∧ acc.length < sizeLine ∧ Pv (upd H4 D (.lst (acc ++ [y]))) else Pv H3 := by
  have nM : ∀ i l, M i = some l → l ≠ D := fun i l m e => E.off i l m (.inr e)
  have E' := (E.anchor.hold hD nM)
  refine sg B _ _ _ M _ H ρ v d _ E' dv h _ fun σ2 ρ2 h2 E2 w2 l2 o2 => ⟨w2.trans hw, ?_⟩
  refine st B _ _ _ M σ2 H ρ2 _ E2 h2 _ fun b ρ3 H3 ⟨e3, h3⟩ E3 => ?_
  subst e3
  have d3 : H3 D = some (.lst va) := E3.ext D _ nB upd_same
  have fin : ∀ {H5 : Hp}, EnvR K B (plus Z D) (veil (hid (plus Z D) M) H) (upd H0 D (.lst va)) M σ2 H5 ρ3 → EnvR K B (plus Z D) A H0 M (wipe σ vs) H5 ρ := fun {H5} E5 =>
    ((E5.unhold h0 nM).weak E.anch).back (w2.trans hw) l2 o2 hv
  cases b with
  | false => exact hP H3 va acc (fin E3) d3 (dps_grow E3.anch _ _ ra) h3
  | true =>
    refine se B _ _ _ M σ2 H3 ρ3 _ E3 h3 _ fun y z ρ4 H4 ⟨e4, hz, h4⟩ E4 dz => ?_
    subst e4
    have d4 : H4 D = some (.lst va) := E4.ext D _ nB upd_same
    have ra4 := dps_grow E4.anch _ _ ra
    have gv : Grow (veil (hid (plus Z D) M) H4) (veil (hid (plus Z D) M) (upd H4 D (.lst (va ++ [y])))) := fun a o h => by
      obtain ⟨h1, h2⟩ := veil_off h
      exact veil_on h1 ((upd_ne fun e => h1 (.inl (.inr e))).trans h2)
    exact ⟨va, d4, Nat.lt_of_lt_of_le (by rw [dqs_len ra]; exact hz) (by decide), hP _ (va ++ [y]) _ ((fin E4).turn h0) upd_same (dps_grow gv _ _ (dqs_app ra4 (.cons dz .nil))) h4⟩
theorem wipe_wipe {σ : St} : ∀ {vs : List Nat}, wipe (wipe σ vs) vs = wipe σ vs := fun {vs} => by
  have q : ∀ ws : List Nat, (∀ v ∈ ws, v ∈ vs) → wipe (wipe σ ws) vs = wipe σ vs := fun ws => by
    induction ws with
    | nil => intro _; rfl
    | cons w ws ih =>
      intro h
      show wipe ((wipe σ ws).set w none) vs = wipe σ vs
      rw [wipe_set (h w List.mem_cons_self), ih fun v m => h v (List.mem_cons_of_mem _ m)]
  exact q vs fun _ m => m
/-- the end of the whole -/
theorem lc_start {B Z : Addr → Prop} {A H0 H : Hp} {M : Nat → Option Addr} {σ : St} {ρ : En} {D : Addr} (E : EnvR K B Z A H0 M σ H ρ) (hD : H D = none) : H0 D = none ∧ ¬ B D ∧ ¬ Z D := by
  have nB : ¬ B D := fun b => E.live 0 D (E.m0 D b) hD
  refine ⟨?_, nB, fun z => E.zl D z hD⟩
  cases q : H0 D with
  | none => rfl
  | some o =>
    have := E.ext D o nB q
    rw [hD] at this
    cases this
theorem sim_lcR1 {ta : TA} {g : TG} {tt : TT} {te : TE} {vs is : List Nat} {pa : PA'} {pg : PG'} {pt : PT'} {pe : PE'} (sa : SimA K ta pa) (sg : SimGV K vs g pg) (st : SimT K tt pt) (se : Sim K te pe) (hn : ∀ ρ R, pa ρ R → pa ρ fun x ρ1 => x.length = 1 ∧ R x ρ1) :
    SimL K (tLc (iRng1 ta) g tt te vs) (pLcR vs is pa pg pt pe) := fun B Z A H0 M σ H ρ R E ⟨hv, h⟩ Q q =>
  sa B Z A H0 M σ H ρ _ E (hn _ _ h) _ fun us x ρ1 H1 ⟨hx, e1, lo, hi, hx2, hb, I, i0, is, ie⟩ E1 d1 => by
    subst e1
    rcases hx2 with ⟨rfl, rfl⟩ | rfl
    · have e : us = [.int hi] := dqs_of_ints (ns := [hi]) d1
      subst e
      refine ⟨hi, rfl, hb.2.2.1, hb.2.2.2, fun D hD => ?_⟩
      obtain ⟨h0, nB, nZ⟩ := lc_start E1 hD
      refine lc_range (lo := 0) (n := hi.toNat) (fun i H' => ∃ va acc, EnvR K B (plus Z D) (veil (hid Z M) H1) H0 M (wipe σ vs) H' ρ1 ∧ H' D = some (.lst va) ∧ Dqs K (veil (hid (plus Z D) M) H') va acc ∧ I i acc) ⟨[], [], E1.enter hv hD, upd_same, .nil, i0⟩
        (fun i H' hlt ⟨va, acc, E', hd', ra, hI⟩ => lc_turn sg st se E' hv hd' h0 nB (.int _) ra wipe_wipe (is i acc (by omega) hI) fun H2 va' acc' E2 h2 r2 y2 => ⟨va', acc', E2, h2, r2, y2⟩) fun H' ⟨va, acc, E', hd', ra, hI⟩ => ?_
      have hI : I (hi - 0).toNat acc := by rw [Int.sub_zero]; exact hI
      have z := q D va acc ρ1 (wiped H' D) (ie acc hI) (E'.leave E1.anch h0 nZ) wiped_at (dps_grow veil_in _ _ ra)
      rw [wiped_upd hd'] at z
      exact z
    · exact absurd hx (by simp)
theorem sim_lcT {tl : TE} {g : TG} {tt : TT} {te : TE} {vs is : List Nat} {pl : PE'} {pg : PG'} {pt : PT'} {pe : PE'} (sl : Sim K tl pl) (sg : SimGV K vs g pg) (st : SimT K tt pt) (se : Sim K te pe) :
    SimL K (tLc (iTup K tl) g tt te vs) (pLcS vs is (pTO pl) pg pt pe) := fun B Z A H0 M σ H ρ R E ⟨hv, h⟩ Q q =>
  sl B Z A H0 M σ H ρ _ E h _ fun u x ρ1 H1 h1 E1 d1 => by
    obtain ⟨ds, rfl, e1, I, i0, is, ie⟩ := asT_of h1
    subst e1
    cases d1 with
    | @tup a us _ hs r =>
      refine ⟨a, rfl, ⟨us, grow_t (veil_grow _ _) hs⟩, fun D hD => ?_⟩
      obtain ⟨h0, nB, nZ⟩ := lc_start E1 hD
      refine lc_tup (xs := us) (fun i H' => ∃ va acc, EnvR K B (plus Z D) (veil (hid Z M) H1) H0 M (wipe σ vs) H' ρ1 ∧ H' D = some (.lst va) ∧ Dqs K (veil (hid (plus Z D) M) H') va acc ∧ I i acc) ⟨[], [], E1.enter hv hD, upd_same, .nil, i0⟩
        (fun i H' _ ⟨va, acc, E', _⟩ => grow_t (veil_grow _ _) (grow_t E'.anch hs)) (fun i y H' hy ⟨va, acc, E', hd', ra, hI⟩ => ?_) fun H' ⟨va, acc, E', hd', ra, hI⟩ => ?_
      · obtain ⟨d, hd, dd⟩ := dqs_got r hy
        exact lc_turn sg st se E' hv hd' h0 nB (dp_grow E'.anch _ _ dd) ra wipe_wipe (is i d acc hd hI) fun H2 va' acc' E2 h2 r2 y2 => ⟨va', acc', E2, h2, r2, y2⟩
      · have z := q D va acc ρ1 (wiped H' D) (ie acc (dqs_len r ▸ hI)) (E'.leave E1.anch h0 nZ) wiped_at (dps_grow veil_in _ _ ra)
        rw [wiped_upd hd'] at z
        exact z
theorem sim_lcL {tl : TE} {g : TG} {tt : TT} {te : TE} {vs is : List Nat} {pl : PE'} {pg : PG'} {pt : PT'} {pe : PE'} (sl : Sim K tl pl) (sg : SimGV K vs g pg) (st : SimT K tt pt) (se : Sim K te pe) :
    SimL K (tLc (iList K tl) g tt te vs) (pLcS vs is (pLO pl) pg pt pe) := fun B Z A H0 M σ H ρ R E ⟨hv, h⟩ Q q =>
  sl B Z A H0 M σ H ρ _ E h _ fun u x ρ1 H1 h1 E1 d1 => by
    obtain ⟨ds, rfl, e1, I, i0, is, ie⟩ := asL_of h1
    subst e1
    cases d1 with
    | @lst a us _ hs r =>
      refine ⟨a, rfl, ⟨us, .of (veil_grow _ _ _ _ hs)⟩, fun D hD => ?_⟩
      obtain ⟨h0, nB, nZ⟩ := lc_start E1 hD
      refine lc_list (xs := us) (fun i H' => ∃ va acc, EnvR K B (plus Z D) (veil (hid Z M) H1) H0 M (wipe σ vs) H' ρ1 ∧ H' D = some (.lst va) ∧ Dqs K (veil (hid (plus Z D) M) H') va acc ∧ I i acc) ⟨[], [], E1.enter hv hD, upd_same, .nil, i0⟩
        (fun i H' _ ⟨va, acc, E', _⟩ => .of (veil_grow _ _ _ _ (E'.anch _ _ hs))) (fun i y H' hy ⟨va, acc, E', hd', ra, hI⟩ => ?_) fun H' ⟨va, acc, E', hd', ra, hI⟩ => ?_
      · obtain ⟨d, hd, dd⟩ := dqs_got r hy
        exact lc_turn sg st se E' hv hd' h0 nB (dp_grow E'.anch _ _ dd) ra wipe_wipe (is i d acc hd hI) fun H2 va' acc' E2 h2 r2 y2 => ⟨va', acc', E2, h2, r2, y2⟩
      · have z := q D va acc ρ1 (wiped H' D) (ie acc (dqs_len r ▸ hI)) (E'.leave E1.anch h0 nZ) wiped_at (dps_grow veil_in _ _ ra)
        rw [wiped_upd hd'] at z
        exact z
end
end Pu
namespace Pu
open PySem PySem.Spec PyProof.Rows L2
/-! ### set(xs), xs a list of ints; sorted of it -/
abbrev bare (w : World) : Obj := { cls := .type "set", dict := none, data := .set #[] 0 (.fresh 0 0 (!w.params.followText "set-order")) }
section
variable {P : Program} {w : World} {A : Around} {E : Value → Shared → Prop} {s : Shared}
theorem in_lst {xs : Array Value} {ns : List Int} (hi : IntsAre xs.toList ns) (i : Nat) (v : Value) (hv : xs[i]? = some v) : ∃ k t, ns[i]? = some k ∧ v = .int k t := by
  have hz : xs.size = ns.length := by simpa using IntsAre.length hi
  have lt : i < ns.length := hz ▸ (Array.getElem?_eq_some_iff.mp hv).1
  obtain ⟨t, e⟩ := IntsAre.int_at hi i v (by simpa using hv)
  exact ⟨ns[i], t, by simp [lt], by simpa [List.getD_eq_getElem?_getD, lt] using e⟩
/-- what set(xs) has laid: a set of the ints at S, all else as before -/
def Laid (w : World) (S : Addr) (ns : List Int) (s₀ : Shared) (r : Value) (s' : Shared) : Prop := r = .none ∧ ∃ (g : Heap) (tk c : Nat), s' = { s₀ with heap := g, toks := tk } ∧
  SetR w g S (fun j => decide (j ∈ ns)) c ∧ c ≤ ns.length ∧ ∀ b o, s₀.heap.get? b = some o → g.get? b = some o
set_option maxHeartbeats 3200000 in
theorem call_set_lst {l : Addr} {xs : Array Value} (ns : List Int) {Q : Value → Shared → Prop} (hA : A.handled = none) (hl : s.heap.IsList l xs) (hi : IntsAre xs.toList ns) (room : ns.length + 1 < scanBound)
    (h : ∀ (g : Heap) (tk c : Nat), SetR w g s.heap.objs.size (fun j => decide (j ∈ ns)) c → c ≤ ns.length → (∀ b o, s.heap.get? b = some o → g.get? b = some o) → Q (.ref s.heap.objs.size) { s with heap := g, toks := tk }) :
    wpAny (model P w) A (call (.type "set") [.ref l]) Q E s := by
  have hz : xs.size = ns.length := by simpa using IntsAre.length hi
  obtain ⟨_, _, m1⟩ := F.called_set.mro
  have m2 := F.called_set.made
  have m3 := F.called_set.sub
  have m4 := F.called_set.notType
  have m5 := F.called_set.canCreate
  have m6 := F.typeCall_set_1 (.ref l)
  refine wpAny_call <| codeAny_of_tree ?_
  show wpAny _ _ (callAny (.type "set") _) _ _ _
  refine wpAny_pure ⟨Code.quiet_builtin _ (by decide +kernel), codeAny_builtin F.entry_type_call ?_⟩
  rw [Around.under_plain (weight_type_call_type "set" [.ref l] []) rfl]
  repeat any_goals first | assumption | wp_step
  refine codeAny_mono (code_set_led1 (.ref l) (E := E)
    (Q₁ := fun r t => r = .ref s.heap.objs.size ∧ t = { s with heap := s.heap.push (bare w) }) ⟨rfl, rfl⟩) fun r t ht => ?_
  cases r with
  | error _ => exact ht
  | ok fl =>
    cases fl with
    | ret _ =>
      obtain ⟨rfl, rfl⟩ := ht
      have at0 : (s.heap.push (bare w)).get? s.heap.objs.size = some (bare w) := Heap.get?_push_size _ rfl
      have ty0 : Shared.TypeIs { s with heap := s.heap.push (bare w) } (.ref s.heap.objs.size) "set" := ⟨_, at0, rfl⟩
      have i1 := F.called_set.init.lookup
      have i2 := F.called_set.init.bind (.ref s.heap.objs.size)
      repeat any_goals first | assumption | wp_step
      refine codeAny_mono (codeAny_call_builtin (R := wants (Laid w s.heap.objs.size ns s) E) F.called_set.init.plain F.entry_set_init (check_set_init_1 ty0 ?_)) fun r2 t2 ht2 => ?_
      · have l1 : (s.heap.push (bare w)).IsList l xs := hl.push _
        obtain ⟨⟨k1, k2, k3, k4⟩, ho, kc, n, kd⟩ := hl
        obtain rfl : k1 = .type "list" := kc
        obtain rfl : k3 = .seq xs n := kd
        have ho1 : (s.heap.push (bare w)).get? l = some { cls := .type "list", dict := k2, data := .seq xs n, slots := k4 } := Heap.get?_push_of_some _ ho
        have q1 := F.sub_list_set
        have q2 := F.sub_list_frozenset
        have q3 : (Value.type "list" == Value.type "dict") = false := by decide
        unfold Builtin.«set.__init__» noKeywords Builtin.Frozenset.updateFrom
        generalize hIt : pyIter = IT
        wp_walk
        subst hIt
        refine wpAny_pyIter_list l1 (wpAny_bind (wpAny_runValue ?_))
        have l0 : l < s.heap.objs.size := Heap.lt_size ho
        have hA3 : A.in1.in1.in1.handled = none := by simp [hA]
        have z1 : (s.heap.push (bare w)).objs.size = s.heap.objs.size + 1 := Heap.size_push ..
        have neI : l ≠ (s.heap.push (bare w)).objs.size := Nat.ne_of_lt (z1 ▸ Nat.lt_succ_of_lt l0)
        have off : s.heap.objs.size ∉ [(s.heap.push (bare w)).objs.size, l] := by
          intro m
          rcases List.mem_cons.mp m with e | m
          · exact Nat.ne_of_lt (z1 ▸ Nat.lt_succ_self _) e
          · exact Nat.ne_of_gt l0 (List.mem_singleton.mp m)
        refine set_update_ints (Walks.list hA3 _ l neI xs).toS s.heap.objs.size off ns hz room (in_lst hi) (xs.size - 0) 0 _ (by omega) (Nat.zero_le _) ⟨⟨_, Heap.get?_push_size _ rfl, rfl, rfl⟩, l1.push _⟩ ?begin ?finish
        case begin => exact ⟨0, Nat.le_refl 0, setR_new_at (Heap.get?_push_of_some _ at0)⟩
        case finish =>
          rintro ⟨g, gs, dr, tk, os⟩ c mv hc hS
          obtain rfl : gs = s.gens := mv.gens
          obtain rfl : dr = s.drawn := mv.drawn
          obtain rfl : os = s.os := mv.os
          show wpAny _ _ _ _ _ _
          refine wpAny_pure ?_
          show wpAny _ _ (ret Value.none) _ _ _
          refine wpAny_pure ⟨rfl, g, tk, c, rfl, hS, hz ▸ hc, fun b o e => ?_⟩
          have b0 : b < s.heap.objs.size := Heap.lt_size e
          refine mv.heap b o (fun m => ?_) (Heap.get?_push_of_some _ (Heap.get?_push_of_some _ e))
          rcases List.mem_cons.mp m with e | m
          · exact Nat.ne_of_lt b0 e
          · exact Nat.ne_of_lt (z1 ▸ Nat.lt_succ_of_lt b0) (List.mem_singleton.mp m)
      · cases r2 with
        | error _ => exact ht2
        | ok fl2 =>
          cases fl2 with
          | ret _ =>
            obtain ⟨rfl, g, tk, c, rfl, hS, hc, hk⟩ := ht2
            repeat any_goals first | assumption | wp_step
            exact h g tk c hS hc hk
          | _ => exact ht2.elim
    | _ => exact ht.elim
end
/-- set(xs) -/
def rSetL (K : PySem.W.Frag) (w : World) : List V → Hp → VK → Prop := fun vs H Q => ∃ (p : Addr) (ns : List Int), vs = [.ref p] ∧ SqL K H p (ns.map V.int) ∧ ns.length < 60 ∧
  ∀ (a : Addr) (c : Nat), c ≤ ns.length → H a = none → Q (.ref a) (upd H a (SetO w a (fun j => decide (j ∈ ns)) c))
theorem c_setL {X : Cx} (hc : X.calm = true) : CallR X (.type "set") (rSetL X.K X.w) := by
  intro pins s σ H vs us Q I r h
  obtain ⟨p, ns, rfl, hp, hl, q⟩ := h
  rw [Vals.ref1 r]
  obtain ⟨its, rv, pl, _⟩ := I.list hp
  refine call_set_lst ns (I.ok.hd hc) pl.isList (ints_of_vals rv) (by unfold scanBound; omega) fun g tk c R1 hcn k => ?_
  exact ⟨.ref _, _, I.laid (t' := tk) k (Nat.le_refl _) (setO_new R1), rfl, q _ c hcn (I.hok.fresh (Nat.le_refl _))⟩
def pSortSet (pa : PA') : PA' := fun ρ R => pa ρ fun ds ρ1 => ∃ ns : List Int, ds = [.list (ns.map PyData.int)] ∧ ns.length < 60 ∧
    ∀ ns' : List Int, ns'.Pairwise (· < ·) → (∀ k, k ∈ ns' ↔ k ∈ ns) → ns'.length ≤ ns.length → R (ns'.map PyData.int) ρ1
section
variable {K : PySem.W.Frag}
theorem sim_sortSet {w : World} {ta : TA} {pa : PA'} (sa : SimA K ta pa) : SimL K (tCB (rSortedSet w) (tCons (tCB (rSetL K w) ta) tNil)) (pSortSet pa) := fun B Z A H0 M σ H ρ R E h Q q =>
  sa B Z A H0 M σ H ρ _ E h _ fun vs ds ρ1 H1 ⟨ns, e, hl, h2⟩ E1 d1 => by
    subst e
    obtain ⟨v, rfl, dv⟩ := one_of d1
    cases dv with
    | lst hl0 r =>
      have e := dqs_of_ints r
      subst e
      refine ⟨_, ns, rfl, .of (veil_grow _ _ _ _ hl0), hl, fun a c hc ha => ⟨a, _, c, rfl, upd_same, by omega, fun ns' p pw mem len hp => ?_⟩⟩
      exact q p _ _ ρ1 _ (h2 ns' pw (fun k => (mem k).trans decide_eq_true_iff) (by omega)) (E1.grown (grow_new ha)) hp dqs_ints
end
end Pu
namespace Pu
open PySem L2
/-! ### what a place owns, read -/
def pLenO (i : Nat) : PE' := fun ρ R => asOwn (cellAt ρ i) fun ds => R (.int (ds.length : Nat)) ρ
def pIxO (i : Nat) (pb : PE') : PE' := fun ρ R => asOwn (cellAt ρ i) fun _ => pb ρ fun y ρ1 => asOwn (cellAt ρ1 i) fun ds => asI y fun j => asO (atI ds j) fun d => R d ρ1
def pTupO (i : Nat) : PE' := fun ρ R => asOwn (cellAt ρ i) fun ds => R (.tuple ds) ρ
def pTruO (i : Nat) : PT' := fun ρ R => asOwn (cellAt ρ i) fun ds => R (!ds.isEmpty) ρ
/-- an int's place changed by an operator -/
def pAug (i : Nat) (f : Int → Int → Int) (pa : PE') : PS' := fun G ρ => asD (cellAt ρ i) fun x => asI x fun a => pa ρ fun y ρ1 => asI y fun b => G.nx (cellSet ρ1 i (.d (.int (f a b))))
section
variable {K : PySem.W.Frag}
theorem sim_lenO {i : Nat} : Sim K (tCB (rLen K) (tCons (tVar i) tNil)) (pLenO i) := fun B Z A H0 M σ H ρ R E h Q q => by
  obtain ⟨ds, hc, h⟩ := asOwn_of h
  obtain ⟨l, vs, e, m, hl, r⟩ := own_at E hc
  exact ⟨.ref l, e, .ref l, vs.length, rfl, .inl ⟨vs, .of hl, rfl⟩, by rw [dqs_len r]; exact q _ _ _ _ h E (.int _)⟩
theorem sim_ixO {i : Nat} {tb : TE} {pb : PE'} (sb : Sim K tb pb) : Sim K (tOp (rIx K) (tVar i) tb) (pIxO i pb) := fun B Z A H0 M σ H ρ R E h Q q => by
  obtain ⟨ds, hc, h⟩ := asOwn_of h
  obtain ⟨l, vs, e, m, hl, r⟩ := own_at E hc
  refine ⟨.ref l, e, sb B Z A H0 M σ H ρ _ E h _ fun w y ρ1 H1 h1 E1 d1 => ?_⟩
  obtain ⟨ds1, hc1, h2⟩ := asOwn_of h1
  obtain ⟨l1, vs1, e1, m1, hl1, r1⟩ := own_at E1 hc1
  rw [m] at m1
  cases m1
  obtain ⟨j, rfl, h3⟩ := asI_of h2
  obtain ⟨d, hd, h4⟩ := asO_of h3
  rw [of_int d1]
  obtain ⟨u, hu, du⟩ := at_dq r1 hd
  exact .inl ⟨l, vs1, j, u, rfl, rfl, .of hl1, hu, q _ _ _ _ h4 E1 du⟩
theorem sim_tupO {i : Nat} : Sim K (tCB (rTupOf K) (tCons (tVar i) tNil)) (pTupO i) := fun B Z A H0 M σ H ρ R E h Q q => by
  obtain ⟨ds, hc, h⟩ := asOwn_of h
  obtain ⟨l, vs, e, m, hl, r⟩ := own_at E hc
  exact ⟨.ref l, e, l, vs, rfl, .inl ⟨.of hl, fun p hp => q _ _ _ _ h (E.grown (grow_new hp)) (.new (E.veiled hp) hp r)⟩⟩
theorem sim_truO {i : Nat} : SimT K (tTru K (tVar i)) (pTruO i) := fun B Z A H0 M σ H ρ R E h Q q => by
  obtain ⟨ds, hc, h⟩ := asOwn_of h
  obtain ⟨l, vs, e, m, hl, r⟩ := own_at E hc
  refine ⟨.ref l, e, !ds.isEmpty, .inl ⟨vs, .of hl, ?_⟩, q _ _ _ h E⟩
  cases r <;> rfl
theorem s_aug {i : Nat} {te : TE} {pa : PE'} {f : Int → Int → Int} (sa : Sim K te pa) : SimS K (tAug i te (ipI f)) (pAug i f pa) := fun B Z A H0 M σ H ρ D G E h C => by
  obtain ⟨x, hx, h⟩ := asD_of h
  obtain ⟨a, rfl, h⟩ := asI_of h
  obtain ⟨v, hv, hd⟩ := E.cell i _ (cellAt_some hx (by intro z; cases z))
  rw [of_int hd] at hv
  refine ⟨.int a, ?_, sa B Z A H0 M σ H ρ _ E h _ fun w y ρ1 H1 h1 E1 d1 => ?_⟩
  · cases e : σ[i]? with
    | none =>
      rw [e] at hv
      cases hv
    | some o =>
      rw [e] at hv
      exact congrArg some hv
  · obtain ⟨b, rfl, h2⟩ := asI_of h1
    rw [of_int d1]
    exact ⟨a, b, rfl, rfl, C.nx M _ H1 _ (E1.setD (.int _)) h2⟩
end
theorem pcons_len1 {pa : PE'} {ρ : En} {R : List PyData → En → Prop} (h : pCons pa pNil ρ R) : pCons pa pNil ρ fun x ρ1 => x.length = 1 ∧ R x ρ1 := by
  have e : (fun x ρ1 => ([x] : List PyData).length = 1 ∧ R [x] ρ1) = fun x ρ1 => R [x] ρ1 := by
    funext x ρ1
    simp
  show pa ρ fun x ρ1 => ([x] : List PyData).length = 1 ∧ R [x] ρ1
  rw [e]
  exact h
theorem pcons_len2 {pa pb : PE'} {ρ : En} {R : List PyData → En → Prop} (h : pCons pa (pCons pb pNil) ρ R) : pCons pa (pCons pb pNil) ρ fun x ρ1 => x.length = 2 ∧ R x ρ1 := by
  have e : (fun x ρ1 => pb ρ1 fun y ρ2 => ([x, y] : List PyData).length = 2 ∧ R [x, y] ρ2) = fun x ρ1 => pb ρ1 fun y ρ2 => R [x, y] ρ2 := by
    funext x ρ1
    congr 1
    funext y ρ2
    simp
  show pa ρ fun x ρ1 => pb ρ1 fun y ρ2 => ([x, y] : List PyData).length = 2 ∧ R [x, y] ρ2
  rw [e]
  exact h
theorem hu65 {k : Nat} {A : Around} (hr : Room k A) : A.units + 64 < cLine := by
  have := hr.un
  omega
/-! functions of data -/
def fn1 (f : PyData → PyData) : FS := fun ds k => match ds with
  | [a] => k (f a)
  | _ => False
section
variable {X : Cx}
theorem pt_tru {a : Expr} {ta : TE} (ha : PE X a ta) (he : ∀ whole, isTrue a X.env whole = (do let v ← whole; standAt a.pos; holding [v] (truthy v)) := by intro _; rfl) : PT X a (tTru X.K ta) := pt_truth ha he
end
end Pu
namespace Pr
open PySem L2 Pu
local macro_rules | `(tactic| walk_at "pu") => `(tactic| simp only [pVar, pC, pII, pIIc, pI, pEqD, pIsN, pIsB, pIsTy, pChain, pTup, pLst, pNew, pNil, pCons, pIx, pAndV, pOrV, pNotV, pIfE, pTst, pAnd, pOr, pNot, pTru, pCall, pCallB, pFn, pNext, pSeq, pIfS, pRet, pRetL, pRetO, pRetN, pAsg, pAsgO, pgN, pgT, pBrk, pCnt, pDrop, pApp, pTO, pLO, pYes, pLenO, pIxO, pTupO, pTruO, pCut, pPlus, pInD, pNoP, pPart, pSorted, pSortSet, Pu.cellAt, Pu.cellSet, Pu.setAll, asI, asB, asT, asL, asS, asD, asOwn, asO, addD, lenD, fLen, fTuple, fInt, cutD, fn1])
/-! ### what a datum is -/
def isI : PyData → Bool
  | .int _ => true
  | _ => false
def isF : PyData → Bool
  | .bool _ => true
  | _ => false
def isT : PyData → Bool
  | .tuple _ => true
  | _ => false
def inR : PyData → Int → Int → Bool
  | .int i, lo, hi => decide (lo ≤ i) && decide (i ≤ hi)
  | _, _, _ => false
def lenT : PyData → Nat
  | .tuple ds => ds.length
  | _ => 0
def S_is_whole : FS := fn1 fun d => .bool (isI d)
def S_is_flag : FS := fn1 fun d => .bool (isF d)
def S_is_tuple : FS := fn1 fun d => .bool (isT d)
def S_is_from_to : FS := fun ds k => match ds with
  | [v, .int lo, .int hi] => k (.bool (inR v lo hi))
  | _ => False
def S_is_tuple_of : FS := fun ds k => match ds with
  | [v, .int n] => k (.bool (isT v && decide ((lenT v : Int) = n)))
  | _ => False
def asc : Int → Int → List PyData → Bool
  | _, _, [] => true
  | lo, hi, .int i :: r => decide (lo ≤ i) && decide (i ≤ hi) && asc (i + 1) hi r
  | _, _, _ => false
def bordersOk (p : Int) : PyData → Bool
  | .tuple bs => decide (bs.length ≤ 40000) && decide (bs.length % 2 = 0) && asc 0 (p - 1) bs
  | _ => false
def side2 (b i : PyData) : PyData → Bool
  | .int p => decide (1 ≤ p) && decide (p ≤ 1000000000000) && isF i && bordersOk p b
  | _ => false
def side3 : List PyData → Bool
  | [p, b, i] => side2 b i p
  | _ => false
def sideOk : PyData → Bool
  | .tuple l => side3 l
  | _ => false
def S_is_side : FS := fn1 fun d => .bool (sideOk d)
def pairL : List PyData → Option (Int × Int)
  | [b, e] => match b, e with
    | .int b, .int e => some (b, e)
    | _, _ => none
  | _ => none
def pairOf : PyData → Option (Int × Int)
  | .tuple l => pairL l
  | _ => none
def runs1 : Int → List PyData → Bool
  | _, [] => true
  | least, d :: r => match pairOf d with
    | some (b, e) => decide (least ≤ b) && decide (b < e) && runs1 (e + 1) r
    | none => false
def runsOk (low : Int) : PyData → Bool
  | .tuple rs => decide (rs.length ≤ 40000) && runs1 low rs
  | _ => false
def S_are_runs : FS := fun ds k => match ds with
  | [r, .int low] => k (.bool (runsOk low r))
  | _ => False
def k_MOST_BORDERS : PyData := .int 40000
def k_GREATEST_PERIOD : PyData := .int 1000000000000
def txt (s : String) : PyData := .str (Str.ofString s)
/-- where the last run ends -/
def endOf : Int → List PyData → Int
  | low, [] => low
  | low, d :: r => match pairOf d with
    | some (_, e) => endOf e r
    | none => endOf low r
def highBad (low : Int) (rs : PyData) : PyData → Bool
  | .int h => match rs with
    | .tuple l => decide (h < endOf low l)
    | _ => true
  | _ => true
def fault5 (l lo rs h r : PyData) : PyData :=
  if sideOk l = false then txt "left" else match lo with
    | .int low => if runsOk low rs = false then txt "runs" else if highBad low rs h then txt "high" else if sideOk r = false then txt "right" else .none
    | _ => txt "low"
def S_dayset_fault : FS := fun ds k => match ds with
  | [.tuple [l, lo, rs, h, r]] => k (fault5 l lo rs h r)
  | _ => False
-- is_whole: ['value']
abbrev N_is_whole : List Str := ["value"]
def p_is_whole : PS' := (pRet (pIsTy "int" (pVar 0)))
-- is_from_to: ['value', 'low', 'high']
abbrev N_is_from_to : List Str := ["value", "low", "high"]
def p_is_from_to : PS' := (pRet (pAndV (pCall 1 S_is_whole (pCons (pVar 0) pNil)) (pChain (fun i j => decide (i ≤ j)) (fun i j => decide (i ≤ j)) (pVar 1) (pVar 0) (pVar 2))))
-- is_flag: ['value']
abbrev N_is_flag : List Str := ["value"]
def p_is_flag : PS' := (pRet (pOrV (pIsB true (pVar 0)) (pIsB false (pVar 0))))
-- is_tuple: ['value']
abbrev N_is_tuple : List Str := ["value"]
def p_is_tuple : PS' := (pRet (pIsTy "tuple" (pVar 0)))
-- is_tuple_of: ['value', 'many']
abbrev N_is_tuple_of : List Str := ["value", "many"]
def p_is_tuple_of : PS' := (pRet (pAndV (pCall 1 S_is_tuple (pCons (pVar 0) pNil)) (pEqD false (pFn fLen (pCons (pVar 0) pNil)) (pVar 1))))
-- is_side: ['value', 'period', 'borders', 'inside', 'least', 'border']
abbrev N_is_side : List Str := ["value", "period", "borders", "inside", "least", "border"]
def p_is_side : PS' := (pSeq (pIfS (pNot (pTst (pCall 2 S_is_tuple_of (pCons (pVar 0) (pCons (pC (.int 3)) pNil))))) (pRet (pC (.bool false))) pNext)
      (pSeq (pAsg (pVar 0) (pgT [1, 2, 3]))
      (pSeq (pIfS (pOr (pNot (pTst (pCall 3 S_is_from_to (pCons (pVar 1) (pCons (pC (.int 1)) (pCons (pC k_GREATEST_PERIOD) pNil)))))) (pNot (pTst (pCall 1 S_is_flag (pCons (pVar 3) pNil))))) (pRet (pC (.bool false))) pNext)
      (pSeq (pIfS (pOr (pNot (pTst (pCall 1 S_is_tuple (pCons (pVar 2) pNil)))) (pOr (pTst (pII (fun i j => .bool (decide (j < i))) (pFn fLen (pCons (pVar 2) pNil)) (pC k_MOST_BORDERS))) (pTst (pEqD false (pIIc (fun _ j => 0 < j) (fun i j => .int (i % j)) (pFn fLen (pCons (pVar 2) pNil)) (pC (.int 2))) (pC (.int 1)))))) (pRet (pC (.bool false))) pNext)
      (pSeq (pAsg (pC (.int 0)) (pgN 4))
      (pSeq (pFor (pTO (pVar 2)) (pgN 5) (pSeq (pIfS (pNot (pTst (pCall 3 S_is_from_to (pCons (pVar 5) (pCons (pVar 4) (pCons (pII (fun i j => .int (i - j)) (pVar 1) (pC (.int 1))) pNil)))))) (pRet (pC (.bool false))) pNext)
      (pAsg (pPlus (pVar 5) (pC (.int 1))) (pgN 4))))
      (pRet (pC (.bool true)))))))))
-- _are_runs: ['runs', 'low', 'least', 'run', 'begin', 'end']
abbrev N_are_runs : List Str := ["runs", "low", "least", "run", "begin", "end"]
def p_are_runs : PS' := (pSeq (pIfS (pOr (pNot (pTst (pCall 1 S_is_tuple (pCons (pVar 0) pNil)))) (pTst (pII (fun i j => .bool (decide (j < i))) (pFn fLen (pCons (pVar 0) pNil)) (pC k_MOST_BORDERS)))) (pRet (pC (.bool false))) pNext)
      (pSeq (pAsg (pVar 1) (pgN 2))
      (pSeq (pFor (pTO (pVar 0)) (pgN 3) (pSeq (pIfS (pNot (pTst (pCall 2 S_is_tuple_of (pCons (pVar 3) (pCons (pC (.int 2)) pNil))))) (pRet (pC (.bool false))) pNext)
      (pSeq (pAsg (pVar 3) (pgT [4, 5]))
      (pSeq (pIfS (pOr (pNot (pTst (pCall 1 S_is_whole (pCons (pVar 4) pNil)))) (pOr (pNot (pTst (pCall 1 S_is_whole (pCons (pVar 5) pNil)))) (pNot (pTst (pChain (fun i j => decide (i ≤ j)) (fun i j => decide (i < j)) (pVar 2) (pVar 4) (pVar 5)))))) (pRet (pC (.bool false))) pNext)
      (pAsg (pPlus (pVar 5) (pC (.int 1))) (pgN 2))))))
      (pRet (pC (.bool true))))))
-- dayset_fault: ['dayset', 'left', 'low', 'runs', 'high', 'right', 'end']
abbrev N_dayset_fault : List Str := ["dayset", "left", "low", "runs", "high", "right", "end"]
def p_dayset_fault : PS' := (pSeq (pAsg (pVar 0) (pgT [1, 2, 3, 4, 5]))
      (pSeq (pIfS (pNot (pTst (pCall 1 S_is_side (pCons (pVar 1) pNil)))) (pRet (pC (.str (Str.ofString "left")))) pNext)
      (pSeq (pIfS (pNot (pTst (pCall 1 S_is_whole (pCons (pVar 2) pNil)))) (pRet (pC (.str (Str.ofString "low")))) pNext)
      (pSeq (pIfS (pNot (pTst (pCall 2 S_are_runs (pCons (pVar 3) (pCons (pVar 2) pNil))))) (pRet (pC (.str (Str.ofString "runs")))) pNext)
      (pSeq (pAsg (pIfE (pTru (pVar 3)) (pIx (pIx (pVar 3) (pI (fun i => .int (-i)) (pC (.int 1)))) (pC (.int 1))) (pVar 2)) (pgN 6))
      (pSeq (pIfS (pOr (pNot (pTst (pCall 1 S_is_whole (pCons (pVar 4) pNil)))) (pTst (pII (fun i j => .bool (decide (i < j))) (pVar 4) (pVar 6)))) (pRet (pC (.str (Str.ofString "high")))) pNext)
      (pSeq (pIfS (pNot (pTst (pCall 1 S_is_side (pCons (pVar 5) pNil)))) (pRet (pC (.str (Str.ofString "right")))) pNext)
      (pRet (pC .none)))))))))
abbrev fin (c : PyData → Prop) : PEnds := ⟨fun _ => c .none, fun d _ => c d, fun _ => False, fun _ => False⟩
theorem eqv_int (i j : Int) : PyData.eqv (.int i) (.int j) = decide (i = j) := by
  rw [Bool.eq_iff_iff]
  simp [PyData.eqv]
theorem pure_is_whole (ds : List PyData) (c : PyData → Prop) (hl : ds.length = 1) (h : S_is_whole ds c) : p_is_whole (fin c) (startE N_is_whole ds) := by
  unfold S_is_whole fn1 at h
  split at h
  · rename_i d
    show c (.bool (decide (tyN d = "int")))
    cases d <;> exact h
  · exact h.elim
theorem pure_is_flag (ds : List PyData) (c : PyData → Prop) (hl : ds.length = 1) (h : S_is_flag ds c) : p_is_flag (fin c) (startE N_is_flag ds) := by
  unfold S_is_flag fn1 at h
  split at h
  · rename_i d
    cases d with
    | bool b => cases b <;> exact h
    | _ => exact h
  · exact h.elim
theorem pure_is_tuple (ds : List PyData) (c : PyData → Prop) (hl : ds.length = 1) (h : S_is_tuple ds c) : p_is_tuple (fin c) (startE N_is_tuple ds) := by
  unfold S_is_tuple fn1 at h
  split at h
  · rename_i d
    show c (.bool (decide (tyN d = "tuple")))
    cases d <;> exact h
  · exact h.elim
theorem ifd {A B : Prop} {q : Prop} [Decidable q] (h1 : q → A) (h2 : ¬ q → B) : if decide q = true then A else B := by
  by_cases z : q
  · rw [if_pos (decide_eq_true z)]
    exact h1 z
  · rw [if_neg (by simpa using z)]
    exact h2 z
theorem pure_is_from_to (ds : List PyData) (c : PyData → Prop) (hl : ds.length = 3) (h : S_is_from_to ds c) : p_is_from_to (fin c) (startE N_is_from_to ds) := by
  unfold S_is_from_to at h
  split at h
  · rename_i v lo hi
    refine ⟨rfl, ?_⟩
    cases v with
    | int i =>
      have h : c (.bool (decide (lo ≤ i) && decide (i ≤ hi))) := h
      show (if decide (lo ≤ i) = true then c (.bool (decide (i ≤ hi))) else c (.bool false))
      refine ifd (fun z => ?_) fun z => ?_
      · rw [decide_eq_true z] at h
        exact h
      · rw [decide_eq_false z] at h
        exact h
    | _ => exact h
  · exact h.elim
theorem pure_is_tuple_of (ds : List PyData) (c : PyData → Prop) (hl : ds.length = 2) (h : S_is_tuple_of ds c) : p_is_tuple_of (fin c) (startE N_is_tuple_of ds) := by
  unfold S_is_tuple_of at h
  split at h
  · rename_i v n
    cases v with
    | tuple ds =>
      refine ⟨rfl, _, rfl, rfl, rfl, ?_⟩
      show c (.bool (PyData.eqv (.int ds.length) (.int n)))
      rw [eqv_int]
      exact h
    | _ => exact ⟨rfl, h⟩
  · exact h.elim
theorem tt {b : Bool} {A B : Prop} (h : b = true) (a : A) : if b = true then A else B := by rw [if_pos h]; exact a
theorem ff {b : Bool} {A B : Prop} (h : b = false) (a : B) : if b = true then A else B := by rw [h, if_neg Bool.false_ne_true]; exact a
theorem tf {b : Bool} {A B : Prop} (h1 : b = true → A) (h2 : b = false → B) : if b = true then A else B := by
  cases b with
  | true => exact tt rfl (h1 rfl)
  | false => exact ff rfl (h2 rfl)
theorem len3 {l : List PyData} (h : (l.length : Int) = 3) : ∃ a b c, l = [a, b, c] := by
  match l, h with
  | [a, b, c], _ => exact ⟨a, b, c, rfl⟩
  | [], h => simp at h
  | [_], h => simp at h
  | [_, _], h => simp at h
  | _ :: _ :: _ :: _ :: _, h => simp at h; omega
theorem len2 {l : List PyData} (h : (l.length : Int) = 2) : ∃ a b, l = [a, b] := by
  match l, h with
  | [a, b], _ => exact ⟨a, b, rfl⟩
  | [], h => simp at h
  | [_], h => simp at h
  | _ :: _ :: _ :: _, h => simp at h; omega
theorem pure_is_side (ds : List PyData) (c : PyData → Prop) (hl : ds.length = 1) (h : S_is_side ds c) : p_is_side (fin c) (startE N_is_side ds) := by
  unfold S_is_side fn1 at h
  split at h
  · rename_i d
    refine ⟨rfl, ?_⟩
    show (if (!(isT d && decide ((lenT d : Int) = 3))) = true then c (.bool false) else _)
    have h : c (.bool (sideOk d)) := h
    refine tf (fun z => ?_) (fun z => ?_)
    · have e : sideOk d = false := by
        cases d with
        | tuple l =>
          match l, z with
          | [p, b, i], z => simp [isT, lenT] at z
          | [], _ => rfl
          | [_], _ => rfl
          | [_, _], _ => rfl
          | _ :: _ :: _ :: _ :: _, _ => rfl
        | _ => rfl
      rw [e] at h
      exact h
    · have hT : ∃ l, d = .tuple l ∧ (l.length : Int) = 3 := by
        cases d with
        | tuple l =>
          simp only [isT, lenT, Bool.true_and, Bool.not_eq_false'] at z
          exact ⟨l, rfl, of_decide_eq_true z⟩
        | _ => simp [isT] at z
      obtain ⟨l, rfl, hl3⟩ := hT
      obtain ⟨p, b, i, rfl⟩ := len3 hl3
      refine ⟨rfl, rfl, ?_⟩
      show (if (!(inR p 1 1000000000000)) = true then _ else _)
      refine tf (fun zp => ?_) (fun zp => ?_)
      · have e : sideOk (.tuple [p, b, i]) = false := by
          cases p with
          | int p =>
            have zp : (decide (1 ≤ p) && decide (p ≤ 1000000000000)) = false := by simpa only [inR, Bool.not_eq_true'] using zp
            show (decide (1 ≤ p) && decide (p ≤ 1000000000000) && isF i && bordersOk p b) = false
            rw [zp]
            rfl
          | _ => rfl
        rw [e] at h
        exact h
      · have hp : ∃ q : Int, p = .int q ∧ 1 ≤ q ∧ q ≤ 1000000000000 := by
          cases p with
          | int q =>
            have zq : (decide (1 ≤ q) && decide (q ≤ 1000000000000)) = true := by simpa only [inR, Bool.not_eq_false'] using zp
            rw [Bool.and_eq_true] at zq
            exact ⟨q, rfl, of_decide_eq_true zq.1, of_decide_eq_true zq.2⟩
          | _ => simp [inR] at zp
        obtain ⟨p, rfl, p1, p2⟩ := hp
        have es : sideOk (.tuple [.int p, b, i]) = (isF i && bordersOk p b) := by
          show (decide (1 ≤ p) && decide (p ≤ 1000000000000) && isF i && bordersOk p b) = _
          rw [decide_eq_true p1, decide_eq_true p2, Bool.and_self, Bool.true_and]
        rw [es] at h
        refine ⟨rfl, ?_⟩
        show (if (!(isF i)) = true then _ else _)
        refine tf (fun zi => ?_) (fun zi => ?_)
        · have e : isF i = false := by simpa using zi
          rw [e] at h
          exact h
        · have e : isF i = true := by simpa using zi
          rw [e, Bool.true_and] at h
          refine ⟨rfl, ?_⟩
          show (if (!(isT b)) = true then _ else _)
          refine tf (fun zb => ?_) (fun zb => ?_)
          · have e : bordersOk p b = false := by
              cases b <;> first | rfl | simp [isT] at zb
            rw [e] at h
            exact h
          · have hb : ∃ l, b = .tuple l := by
              cases b <;> first | exact ⟨_, rfl⟩ | simp [isT] at zb
            obtain ⟨bs, rfl⟩ := hb
            refine ⟨_, rfl, ?_⟩
            show (if decide ((40000 : Int) < (bs.length : Nat)) = true then _ else _)
            have eb : bordersOk p (.tuple bs) = (decide (bs.length ≤ 40000) && decide (bs.length % 2 = 0) && asc 0 (p - 1) bs) := rfl
            refine ifd (fun zl => ?_) (fun zl => ?_)
            · rw [eb, decide_eq_false (show ¬ bs.length ≤ 40000 by omega)] at h
              exact h
            · rw [eb, decide_eq_true (show bs.length ≤ 40000 by omega), Bool.true_and] at h
              refine ⟨_, rfl, (by decide : (0 : Int) < 2), rfl, rfl, ?_⟩
              show (if PyData.eqv (.int ((bs.length : Int) % 2)) (.int 1) = true then _ else _)
              rw [eqv_int]
              refine ifd (fun zm => ?_) (fun zm => ?_)
              · rw [decide_eq_false (show ¬ bs.length % 2 = 0 by omega), Bool.false_and] at h
                exact h
              · rw [decide_eq_true (show bs.length % 2 = 0 by omega), Bool.true_and] at h
                -- the loop
                refine ⟨fun k ρ => ∃ (least : Int) (o : Cell), ρ = [.d (.tuple [.int p, .tuple bs, i]), .d (.int p), .d (.tuple bs), .d i, .d (.int least), o] ∧ asc least (p - 1) (bs.drop k) = asc 0 (p - 1) bs, ⟨0, _, rfl, rfl⟩, ?_, ?_⟩
                · rintro k d ρ hk ⟨least, o, rfl, hs⟩
                  have hdr : bs.drop k = d :: bs.drop (k + 1) := by
                    have hlt := (List.getElem?_eq_some_iff.mp hk).1
                    rw [List.drop_eq_getElem_cons hlt]
                    rw [(List.getElem?_eq_some_iff.mp hk).2]
                  rw [hdr] at hs
                  refine ⟨rfl, ?_⟩
                  show (if (!(inR d least (p - 1))) = true then c (.bool false) else _)
                  refine tf (fun zd => ?_) (fun zd => ?_)
                  · have e : asc 0 (p - 1) bs = false := by
                      rw [← hs]
                      cases d with
                      | int x =>
                        have zd : (decide (least ≤ x) && decide (x ≤ p - 1)) = false := by simpa only [inR, Bool.not_eq_true'] using zd
                        show (decide (least ≤ x) && decide (x ≤ p - 1) && asc (x + 1) (p - 1) (bs.drop (k + 1))) = false
                        rw [zd]
                        rfl
                      | _ => rfl
                    rw [e] at h
                    exact h
                  · have hx : ∃ x : Int, d = .int x ∧ inR d least (p - 1) = true := by
                      cases d <;> first | exact ⟨_, rfl, by simpa using zd⟩ | simp [inR] at zd
                    obtain ⟨x, rfl, zx⟩ := hx
                    refine ⟨x + 1, .d (.int x), rfl, ?_⟩
                    rw [← hs]
                    show _ = (inR (.int x) least (p - 1) && asc (x + 1) (p - 1) (bs.drop (k + 1)))
                    rw [zx, Bool.true_and]
                · rintro ρ ⟨least, o, rfl, hs⟩
                  rw [List.drop_length] at hs
                  rw [← hs] at h
                  exact h
  · exact h.elim
theorem drop_at {l : List PyData} {k : Nat} {d : PyData} (hk : l[k]? = some d) : l.drop k = d :: l.drop (k + 1) := by
  have hlt := (List.getElem?_eq_some_iff.mp hk).1
  rw [List.drop_eq_getElem_cons hlt, (List.getElem?_eq_some_iff.mp hk).2]
theorem isI_of {d : PyData} (h : isI d = true) : ∃ i, d = .int i := by
  cases d <;> first | exact ⟨_, rfl⟩ | cases h
theorem isT_of {d : PyData} (h : isT d = true) : ∃ i, d = .tuple i := by
  cases d <;> first | exact ⟨_, rfl⟩ | cases h
theorem pure_are_runs (ds : List PyData) (c : PyData → Prop) (hl : ds.length = 2) (h : S_are_runs ds c) : p_are_runs (fin c) (startE N_are_runs ds) := by
  unfold S_are_runs at h
  split at h
  · rename_i d low
    refine ⟨rfl, ?_⟩
    show (if (!(isT d)) = true then _ else _)
    refine tf (fun z => ?_) (fun z => ?_)
    · have e : runsOk low d = false := by
        cases d <;> first | rfl | simp [isT] at z
      rw [e] at h
      exact h
    · obtain ⟨rs, rfl⟩ := isT_of (by simpa using z)
      refine ⟨_, rfl, ?_⟩
      show (if decide ((40000 : Int) < (rs.length : Nat)) = true then _ else _)
      have er : runsOk low (.tuple rs) = (decide (rs.length ≤ 40000) && runs1 low rs) := rfl
      rw [er] at h
      refine ifd (fun zl => ?_) (fun zl => ?_)
      · rw [decide_eq_false (show ¬ rs.length ≤ 40000 by omega)] at h
        exact h
      · rw [decide_eq_true (show rs.length ≤ 40000 by omega), Bool.true_and] at h
        refine ⟨fun k ρ => ∃ (least : Int) (o1 o2 o3 : Cell), ρ = [.d (.tuple rs), .d (.int low), .d (.int least), o1, o2, o3] ∧ runs1 least (rs.drop k) = runs1 low rs, ⟨low, _, _, _, rfl, rfl⟩, ?_, ?_⟩
        · rintro k d ρ hk ⟨least, o1, o2, o3, rfl, hs⟩
          rw [drop_at hk] at hs
          refine ⟨rfl, ?_⟩
          show (if (!(isT d && decide ((lenT d : Int) = 2))) = true then c (.bool false) else _)
          refine tf (fun zd => ?_) (fun zd => ?_)
          · have e : runs1 low rs = false := by
              have p0 : pairOf d = none := by
                cases d with
                | tuple l =>
                  match l, zd with
                  | [b, e], zd => simp [isT, lenT] at zd
                  | [], _ => rfl
                  | [_], _ => rfl
                  | _ :: _ :: _ :: _, _ => rfl
                | _ => rfl
              rw [← hs]
              unfold runs1
              rw [p0]
            rw [e] at h
            exact h
          · have hT : ∃ l, d = .tuple l ∧ (l.length : Int) = 2 := by
              cases d with
              | tuple l =>
                simp only [isT, lenT, Bool.true_and, Bool.not_eq_false'] at zd
                exact ⟨l, rfl, of_decide_eq_true zd⟩
              | _ => simp [isT] at zd
            obtain ⟨l, rfl, hl2⟩ := hT
            obtain ⟨b, e, rfl⟩ := len2 hl2
            refine ⟨rfl, rfl, ?_⟩
            show (if (!(isI b)) = true then _ else _)
            refine tf (fun zb => ?_) (fun zb => ?_)
            · have e : runs1 low rs = false := by
                have p0 : pairOf (.tuple [b, e]) = none := by
                  cases b <;> first | rfl | simp [isI] at zb
                rw [← hs]
                unfold runs1
                rw [p0]
              rw [e] at h
              exact h
            · obtain ⟨b, rfl⟩ := isI_of (by simpa using zb)
              refine ⟨rfl, ?_⟩
              show (if (!(isI e)) = true then _ else _)
              refine tf (fun ze => ?_) (fun ze => ?_)
              · have e : runs1 low rs = false := by
                  have p0 : pairOf (.tuple [.int b, e]) = none := by
                    cases e <;> first | rfl | simp [isI] at ze
                  rw [← hs]
                  unfold runs1
                  rw [p0]
                rw [e] at h
                exact h
              · obtain ⟨e, rfl⟩ := isI_of (by simpa using ze)
                have e1 : runs1 least (.tuple [.int b, .int e] :: rs.drop (k + 1)) = (decide (least ≤ b) && decide (b < e) && runs1 (e + 1) (rs.drop (k + 1))) := rfl
                rw [e1] at hs
                have bad : (decide (least ≤ b) && decide (b < e)) = false → c (.bool false) := fun z => by
                  rw [z, Bool.false_and] at hs
                  rw [← hs] at h
                  exact h
                show (if decide (least ≤ b) = true then _ else _)
                refine ifd (fun zb => ?_) (fun zb => ?_)
                · show (if (!(decide (b < e))) = true then _ else _)
                  refine tf (fun zz => ?_) (fun zz => ?_)
                  · have zz : decide (b < e) = false := by simpa using zz
                    exact bad (by rw [zz, Bool.and_false])
                  · have zz : decide (b < e) = true := by simpa using zz
                    rw [decide_eq_true zb, zz, Bool.true_and, Bool.true_and] at hs
                    exact ⟨e + 1, _, _, _, rfl, hs⟩
                · exact bad (by rw [decide_eq_false zb, Bool.false_and])
        · rintro ρ ⟨least, o1, o2, o3, rfl, hs⟩
          rw [List.drop_length] at hs
          rw [← hs] at h
          exact h
  · exact h.elim
theorem oSome {o : Option PyData} {d : PyData} {k : PyData → Prop} (h : o = some d) (q : k d) : asO o k := by
  rw [h]
  exact q
theorem pairOf_eq {d : PyData} {b e : Int} (h : pairOf d = some (b, e)) : d = .tuple [.int b, .int e] := by
  cases d with
  | tuple l =>
    match l, h with
    | [x, y], h =>
      cases x with
      | int x =>
        cases y with
        | int y =>
          cases h
          rfl
        | _ => cases h
      | _ => cases h
    | [], h => cases h
    | [_], h => cases h
    | _ :: _ :: _ :: _, h => cases h
  | _ => cases h
theorem runs1_last : ∀ {init : List PyData} {low : Int} {d : PyData}, runs1 low (init ++ [d]) = true → ∃ b e, pairOf d = some (b, e) ∧ endOf low (init ++ [d]) = e
  | [], low, d, h => by
    cases q : pairOf d with
    | none =>
      rw [List.nil_append] at h
      unfold runs1 at h
      rw [q] at h
      cases h
    | some p =>
      obtain ⟨b, e⟩ := p
      refine ⟨b, e, rfl, ?_⟩
      rw [List.nil_append]
      unfold endOf
      rw [q]
      rfl
  | x :: init, low, d, h => by
    rw [List.cons_append] at h ⊢
    unfold runs1 at h
    unfold endOf
    cases q : pairOf x with
    | none =>
      rw [q] at h
      cases h
    | some p =>
      obtain ⟨b, e⟩ := p
      rw [q] at h
      have h : (decide (low ≤ b) && decide (b < e) && runs1 (e + 1) (init ++ [d])) = true := h
      rw [Bool.and_eq_true] at h
      obtain ⟨b', e', h1, h2⟩ := runs1_last h.2
      refine ⟨b', e', h1, ?_⟩
      show endOf e (init ++ [d]) = e'
      rw [← h2]
      exact endOf_snoc h1
where endOf_snoc {b e : Int} : ∀ {init : List PyData} {low low' : Int} {d : PyData}, pairOf d = some (b, e) → endOf low (init ++ [d]) = endOf low' (init ++ [d])
  | [], low, low', d, h => by
    rw [List.nil_append]
    unfold endOf
    rw [h]
  | x :: init, low, low', d, h => by
    rw [List.cons_append]
    unfold endOf
    cases pairOf x with
    | none => exact endOf_snoc h
    | some p => exact rfl
theorem pure_dayset_fault (ds : List PyData) (c : PyData → Prop) (hl : ds.length = 1) (h : S_dayset_fault ds c) : p_dayset_fault (fin c) (startE N_dayset_fault ds) := by
  unfold S_dayset_fault at h
  split at h
  · rename_i l lo rs hi r
    refine ⟨rfl, rfl, ?_⟩
    show (if (!(sideOk l)) = true then c (txt "left") else _)
    unfold fault5 at h
    refine tf (fun z => ?_) (fun z => ?_)
    · rw [if_pos (by simpa using z)] at h
      exact h
    rw [if_neg (by simpa using z)] at h
    refine ⟨rfl, ?_⟩
    show (if (!(isI lo)) = true then c (txt "low") else _)
    refine tf (fun z => ?_) (fun z => ?_)
    · cases lo <;> first | exact h | simp [isI] at z
    obtain ⟨low, rfl⟩ := isI_of (by simpa using z)
    have h : c (if runsOk low rs = false then txt "runs" else if highBad low rs hi then txt "high" else if sideOk r = false then txt "right" else .none) := h
    refine ⟨rfl, ?_⟩
    show (if (!(runsOk low rs)) = true then c (txt "runs") else _)
    refine tf (fun z => ?_) (fun z => ?_)
    · rw [if_pos (by simpa using z)] at h
      exact h
    have hr : runsOk low rs = true := by simpa using z
    rw [if_neg (by rw [hr]; decide)] at h
    have hrs : ∃ rl, rs = .tuple rl ∧ runs1 low rl = true := by
      cases rs with
      | tuple rl =>
        have hr : (decide (rl.length ≤ 40000) && runs1 low rl) = true := hr
        rw [Bool.and_eq_true] at hr
        exact ⟨rl, rfl, hr.2⟩
      | _ => cases hr
    obtain ⟨rl, rfl, h1⟩ := hrs
    refine ⟨!rl.isEmpty, rfl, ?_⟩
    -- what follows, once the end is known
    have go : ∀ (e : Int), e = endOf low rl → (pSeq (pIfS (pOr (pNot (pTst (pCall 1 S_is_whole (pCons (pVar 4) pNil)))) (pTst (pII (fun i j => .bool (decide (i < j))) (pVar 4) (pVar 6)))) (pRet (pC (txt "high"))) pNext)
      (pSeq (pIfS (pNot (pTst (pCall 1 S_is_side (pCons (pVar 5) pNil)))) (pRet (pC (txt "right"))) pNext)
      (pRet (pC .none)))) (fin c) [.d (.tuple [l, .int low, .tuple rl, hi, r]), .d l, .d (.int low), .d (.tuple rl), .d hi, .d r, .d (.int e)] := fun e ee => by
      refine ⟨rfl, ?_⟩
      show (if (!(isI hi)) = true then _ else _)
      have last : c (if sideOk r = false then txt "right" else .none) → (pSeq (pIfS (pNot (pTst (pCall 1 S_is_side (pCons (pVar 5) pNil)))) (pRet (pC (txt "right"))) pNext) (pRet (pC .none))) (fin c) [.d (.tuple [l, .int low, .tuple rl, hi, r]), .d l, .d (.int low), .d (.tuple rl), .d hi, .d r, .d (.int e)] := fun h => by
        refine ⟨rfl, ?_⟩
        show (if (!(sideOk r)) = true then c (txt "right") else c .none)
        refine tf (fun z => ?_) (fun z => ?_)
        · rw [if_pos (by simpa using z)] at h
          exact h
        · rw [if_neg (by simpa using z)] at h
          exact h
      refine tf (fun z => ?_) (fun z => ?_)
      · have hb : highBad low (.tuple rl) hi = true := by
          cases hi <;> first | rfl | simp [isI] at z
        rw [if_pos hb] at h
        exact h
      · obtain ⟨hi, rfl⟩ := isI_of (by simpa using z)
        show (if decide (hi < e) = true then c (txt "high") else _)
        have hb : highBad low (.tuple rl) (.int hi) = decide (hi < e) := by
          rw [ee]
          rfl
        refine ifd (fun z => ?_) (fun z => ?_)
        · rw [if_pos (by rw [hb]; exact decide_eq_true z)] at h
          exact h
        · rw [if_neg (by rw [hb]; simpa using z)] at h
          exact last h
    rcases List.eq_nil_or_concat rl with rfl | ⟨init, d, rfl⟩
    · exact go low rfl
    · rw [List.concat_eq_append] at h1 go ⊢
      obtain ⟨b, e, hp, he⟩ := runs1_last h1
      refine tt (by cases init <;> rfl) ?_
      obtain rfl := pairOf_eq hp
      refine oSome (atI_last _ _) ?_

      exact go e he.symm
  · exact h.elim
end Pr
namespace Pr
open PySem L2 Pu
abbrev finB (c : PyData → Prop) : PEnds := ⟨fun ρ => Pu.cellAt ρ 0 = .box ∧ c .none, fun d ρ => Pu.cellAt ρ 0 = .box ∧ c d, fun _ => False, fun _ => False⟩
def S_law_draws : FS := fun ds k => match ds with
  | [.int _, .int m, .int n] => 0 < m ∧ m < 1073741824 ∧ 0 ≤ n ∧ n ≤ 100 ∧ ∀ ns : List Int, ns.length = n.toNat → (∀ x ∈ ns, 0 ≤ x ∧ x < m) → k (.list (ns.map PyData.int))
  | _ => False
def S_law_next : FS := fun ds k => match ds with
  | [.int m] => 0 < m ∧ ∀ v : Int, 0 ≤ v → v < m → k (.int v)
  | _ => False
def S_law_side : FS := fun ds k => match ds with
  | [] => ∀ d, sideOk d = true → k d
  | _ => False
def S_law_dayset : FS := fun ds k => match ds with
  | [] => ∀ l low rs h r, sideOk l = true → runsOk low rs = true → highBad low rs h = false → sideOk r = true → k (.tuple [l, .int low, rs, h, r])
  | _ => False
def S_law_spoilt : FS := fun ds k => match ds with
  | [.tuple [l, lo, rs, h, r], .int place, .int low] => (place = 0 ∧ ∀ w, sideOk w = false → k (.tuple [w, lo, rs, h, r])) ∨ (place = 1 ∧ ∀ w, isI w = false → k (.tuple [l, w, rs, h, r])) ∨
      (place = 2 ∧ ∀ w, runsOk low w = false → k (.tuple [l, lo, w, h, r])) ∨ (place = 3 ∧ runsOk low rs = true ∧ ∀ w, highBad low rs w = true → k (.tuple [l, lo, rs, w, r])) ∨ (place = 4 ∧ ∀ w, sideOk w = false → k (.tuple [l, lo, rs, h, w]))
  | _ => False
-- _law_draws: ['cell', 'modulus', 'count', 'number', 'row', 'k', 'mixed']
abbrev N_law_draws : List Str := ["cell", "modulus", "count", "number", "row", "k", "mixed"]
def p_law_draws : PS' := (pSeq (pAsg (pVar 0) (pgN 3))
      (pSeq (pIfS (pTst (pII (fun i j => .bool (decide (i < j))) (pVar 3) (pC (.int 0)))) (pAsg (pII (fun i j => .int (i - j)) (pII (fun i j => .int (i - j)) (pC (.int 0)) (pC (.int 1))) (pVar 3)) (pgN 3)) pNext)
      (pSeq (pAsgO (pLst pNil) 4)
      (pSeq (pIfS (pTst (pII (fun i j => .bool (decide (j ≤ i))) (pVar 3) (pIIc CPow (fun i j => .int (i ^ j.toNat)) (pC (.int 10)) (pC (.int 18))))) (pSeq (pRng (pCons (pVar 2) pNil) (pgN 5) (pSeq (pApp 4 (pIIc (fun _ j => 0 < j) (fun i j => .int (i % j)) (pFn fInt (pCons (pVar 3) pNil)) (pVar 1)))
      (pAsg (pIIc CDiv (fun i j => .int (i / j)) (pVar 3) (pVar 1)) (pgN 3))))
      (pRetO 4)) pNext)
      (pSeq (pRng (pCons (pVar 2) pNil) (pgN 5) (pSeq (pAsg (pIIc (fun _ j => 0 < j) (fun i j => .int (i % j)) (pFn fInt (pCons (pIIc CMul (fun i j => .int (i * j)) (pPlus (pPlus (pVar 3) (pIIc CMul (fun i j => .int (i * j)) (pC (.int 7)) (pVar 5))) (pC (.int 1))) (pC (.int 48271))) pNil)) (pC (.int 2147483647))) (pgN 6))
      (pSeq (pAsg (pIIc (fun _ j => 0 < j) (fun i j => .int (i % j)) (pFn fInt (pCons (pPlus (pIIc CMul (fun i j => .int (i * j)) (pVar 6) (pC (.int 69621))) (pIIc CMul (fun i j => .int (i * j)) (pC (.int 31)) (pVar 5))) pNil)) (pC (.int 2147483629))) (pgN 6))
      (pApp 4 (pIIc (fun _ j => 0 < j) (fun i j => .int (i % j)) (pFn fInt (pCons (pIIc CDiv (fun i j => .int (i / j)) (pVar 6) (pC (.int 7))) pNil)) (pVar 1))))))
      (pRetO 4))))))
-- _law_next: ['box', 'modulus', 'at', 'number']
abbrev N_law_next : List Str := ["box", "modulus", "at", "number"]
-- _law_side: ['box', 'period', 'borders', 'k']
abbrev N_law_side : List Str := ["box", "period", "borders", "k"]
def p_law_side : PS' := (pSeq (pAsg (pPlus (pC (.int 1)) (pCallB 1 S_law_next 0 (pCons (pC (.int 8)) pNil))) (pgN 1))
      (pSeq (pIfS (pTst (pEqD false (pCallB 1 S_law_next 0 (pCons (pC (.int 6)) pNil)) (pC (.int 0)))) (pAsg (pIx (pNew (pLst (pCons (pC (.int 11)) (pCons (pC (.int 30)) (pCons (pC (.int 97)) pNil))))) (pCallB 1 S_law_next 0 (pCons (pC (.int 3)) pNil))) (pgN 1)) pNext)
      (pSeq (pAsg (pNew (pSortSet (pCons (pNew (pLcR [3] [3] (pCons (pCallB 1 S_law_next 0 (pCons (pC (.int 5)) pNil)) pNil) (pgN 3) pYes (pCallB 1 S_law_next 0 (pCons (pVar 1) pNil)))) pNil))) (pgN 2))
      (pSeq (pIfS (pTst (pEqD false (pIIc (fun _ j => 0 < j) (fun i j => .int (i % j)) (pFn fLen (pCons (pVar 2) pNil)) (pC (.int 2))) (pC (.int 1)))) (pAsg (pCut (pVar 2) (pPart (pC (.int 1))) pNoP) (pgN 2)) pNext)
      (pRet (pTup (pCons (pVar 1) (pCons (pFn fTuple (pCons (pVar 2) pNil)) (pCons (pEqD false (pCallB 1 S_law_next 0 (pCons (pC (.int 2)) pNil)) (pC (.int 1))) pNil)))))))))
-- _law_dayset: ['box', 'low', 'at', 'runs', 'k', 'first', 'left', 'right']
abbrev N_law_dayset : List Str := ["box", "low", "at", "runs", "k", "first", "left", "right"]
def p_law_dayset : PS' := (pSeq (pAsg (pII (fun i j => .int (i - j)) (pCallB 1 S_law_next 0 (pCons (pC (.int 21)) pNil)) (pC (.int 10))) (pgN 1))
      (pSeq (pAsg (pVar 1) (pgN 2))
      (pSeq (pAsgO (pLst pNil) 3)
      (pSeq (pRng (pCons (pCallB 1 S_law_next 0 (pCons (pC (.int 4)) pNil)) pNil) (pgN 4) (pSeq (pAsg (pPlus (pPlus (pVar 2) (pCallB 1 S_law_next 0 (pCons (pC (.int 4)) pNil))) (pFn fInt (pCons (pII (fun i j => .bool (decide (j < i))) (pLenO 3) (pC (.int 0))) pNil))) (pgN 5))
      (pSeq (pApp 3 (pTup (pCons (pVar 5) (pCons (pPlus (pPlus (pVar 5) (pC (.int 1))) (pCallB 1 S_law_next 0 (pCons (pC (.int 4)) pNil))) pNil))))
      (pAsg (pIx (pIxO 3 (pI (fun i => .int (-i)) (pC (.int 1)))) (pC (.int 1))) (pgN 2)))))
      (pSeq (pAsg (pCallB 0 S_law_side 0 pNil) (pgN 6))
      (pSeq (pAsg (pIfE (pTst (pEqD false (pCallB 1 S_law_next 0 (pCons (pC (.int 4)) pNil)) (pC (.int 0)))) (pVar 6) (pCallB 0 S_law_side 0 pNil)) (pgN 7))
      (pRet (pTup (pCons (pVar 6) (pCons (pVar 1) (pCons (pTupO 3) (pCons (pPlus (pVar 2) (pCallB 1 S_law_next 0 (pCons (pC (.int 4)) pNil))) (pCons (pVar 7) pNil)))))))))))))
-- _law_spoilt: ['box', 'dayset', 'place', 'low', 'sides', 'runs', 'wrong']
abbrev N_law_spoilt : List Str := ["box", "dayset", "place", "low", "sides", "runs", "wrong"]
def p_law_spoilt : PS' := (pSeq (pAsg (pNew (pLst (pCons (pTup (pCons (pC (.int 0)) (pCons (pTup pNil) (pCons (pC (.bool false)) pNil)))) (pCons (pTup (pCons (pC (.int 1)) (pCons (pTup (pCons (pC (.int 0)) pNil)) (pCons (pC (.bool false)) pNil)))) (pCons (pTup (pCons (pC (.int 4)) (pCons (pTup (pCons (pC (.int 1)) (pCons (pC (.int 1)) pNil))) (pCons (pC (.bool true)) pNil)))) (pCons (pTup (pCons (pC (.int 4)) (pCons (pTup (pCons (pC (.int 2)) (pCons (pC (.int 1)) pNil))) (pCons (pC (.bool true)) pNil)))) (pCons (pTup (pCons (pC (.int 4)) (pCons (pTup (pCons (pC (.int 1)) (pCons (pC (.int 4)) pNil))) (pCons (pC (.bool true)) pNil)))) (pCons (pTup (pCons (pC (.int 4)) (pCons (pTup (pCons (pC (.int 1)) (pCons (pC (.int 2)) pNil))) (pCons (pC (.int 1)) pNil)))) pNil)))))))) (pgN 4))
      (pSeq (pAsg (pPlus (pVar 4) (pNew (pLst (pCons (pTup (pCons (pC (.int 2)) (pCons (pTup pNil) (pCons (pC .none) pNil)))) (pCons (pTup (pCons (pC (.bool true)) (pCons (pTup pNil) (pCons (pC (.bool true)) pNil)))) (pCons (pTup (pCons (pC (.int 4)) (pCons (pNew (pLst (pCons (pC (.int 1)) (pCons (pC (.int 2)) pNil)))) (pCons (pC (.bool true)) pNil)))) (pCons (pTup (pCons (pC (.int 4)) (pCons (pTup (pCons (pC (.int 1)) (pCons (pC (.int 2)) pNil))) pNil))) (pCons (pTup (pCons (pPlus (pIIc CPow (fun i j => .int (i ^ j.toNat)) (pC (.int 10)) (pC (.int 12))) (pC (.int 1))) (pCons (pTup pNil) (pCons (pC (.bool true)) pNil)))) (pCons (pTup (pCons (pC (.int 4)) (pCons (pTup (pCons (pI (fun i => .int (-i)) (pC (.int 1))) (pCons (pC (.int 2)) pNil))) (pCons (pC (.bool true)) pNil)))) pNil))))))))) (pgN 4))
      (pSeq (pAsg (pNew (pLst (pCons (pTup (pCons (pTup (pCons (pII (fun i j => .int (i - j)) (pVar 3) (pC (.int 1))) (pCons (pPlus (pVar 3) (pC (.int 1))) pNil))) pNil)) (pCons (pTup (pCons (pTup (pCons (pVar 3) (pCons (pVar 3) pNil))) pNil)) (pCons (pTup (pCons (pTup (pCons (pPlus (pVar 3) (pC (.int 1))) (pCons (pPlus (pVar 3) (pC (.int 3))) pNil))) (pCons (pTup (pCons (pPlus (pVar 3) (pC (.int 3))) (pCons (pPlus (pVar 3) (pC (.int 4))) pNil))) pNil))) (pCons (pTup (pCons (pTup (pCons (pVar 3) (pCons (pPlus (pVar 3) (pC (.int 1))) (pCons (pC (.int 5)) pNil)))) pNil)) (pCons (pNew (pLst pNil)) (pCons (pTup (pCons (pVar 3) pNil)) (pCons (pTup (pCons (pTup (pCons (pPlus (pVar 3) (pC (.int 2))) (pCons (pPlus (pVar 3) (pC (.int 1))) pNil))) pNil)) pNil))))))))) (pgN 5))
      (pSeq (pAsg (pIx (pNew (pLst (pCons (pVar 4) (pCons (pNew (pLst (pCons (pC (.bool true)) (pCons (pTup (pCons (pC (.int 3)) pNil)) pNil)))) (pCons (pVar 5) (pCons (pNew (pLst (pCons (pII (fun i j => .int (i - j)) (pVar 3) (pC (.int 1))) (pCons (pC (.bool true)) (pCons (pC .none) pNil))))) (pCons (pVar 4) pNil))))))) (pVar 2)) (pgN 6))
      (pSeq (pIfS (pAnd (pTst (pEqD false (pVar 2) (pC (.int 3)))) (pTst (pII (fun i j => .bool (decide (j < i))) (pFn fLen (pCons (pIx (pVar 1) (pC (.int 2))) pNil)) (pC (.int 0))))) (pAsg (pPlus (pVar 6) (pNew (pLst (pCons (pII (fun i j => .int (i - j)) (pIx (pIx (pIx (pVar 1) (pC (.int 2))) (pI (fun i => .int (-i)) (pC (.int 1)))) (pC (.int 1))) (pC (.int 1))) pNil)))) (pgN 6)) pNext)
      (pRet (pPlus (pPlus (pCut (pVar 1) pNoP (pPart (pVar 2))) (pTup (pCons (pIx (pVar 6) (pCallB 1 S_law_next 0 (pCons (pFn fLen (pCons (pVar 6) pNil)) pNil))) pNil))) (pCut (pVar 1) (pPart (pPlus (pVar 2) (pC (.int 1)))) pNoP))))))))
theorem pure_law_draws (ds : List PyData) (c : PyData → Prop) (hl : ds.length = 3) (h : S_law_draws ds c) : p_law_draws (fin c) (startE N_law_draws ds) := by
  unfold S_law_draws at h
  split at h
  · rename_i cell m n
    obtain ⟨m0, m1, n0, n1, h⟩ := h
    -- the two loops, from any number
    have loop1 : ∀ number : Int, (pSeq (pRng (pCons (pVar 2) pNil) (pgN 5) (pSeq (pApp 4 (pIIc (fun _ j => 0 < j) (fun i j => .int (i % j)) (pFn fInt (pCons (pVar 3) pNil)) (pVar 1)))
      (pAsg (pIIc CDiv (fun i j => .int (i / j)) (pVar 3) (pVar 1)) (pgN 3)))) (pRetO 4)) { fin c with nx := fun _ => c .none } [.d (.int cell), .d (.int m), .d (.int n), .d (.int number), .own [], .no, .no] := fun number => by
      refine ⟨0, n, .inl ⟨rfl, rfl⟩, ⟨by omega, by omega, by omega, by omega⟩, fun k ρ => ∃ (num : Int) (o : Cell) (ns : List Int), ρ = [.d (.int cell), .d (.int m), .d (.int n), .d (.int num), .own (ns.map PyData.int), o, .no] ∧ ns.length = k ∧ ∀ x ∈ ns, 0 ≤ x ∧ x < m, ⟨number, _, [], rfl, rfl, fun _ z => nomatch z⟩, ?_, ?_⟩
      · rintro i ρ hi ⟨num, o, ns, rfl, hn, hb⟩
        refine ⟨m0, ?_, ⟨m0, m1⟩, num / m, .d (.int (0 + (i : Int))), ns ++ [num % m], ?_, by simp [hn], ?_⟩
        · rw [List.length_map, hn]
          omega
        · rw [List.map_append]
          rfl
        · intro x hx
          rcases List.mem_append.mp hx with hx | hx
          · exact hb x hx
          · rw [List.mem_singleton.mp hx]
            exact ⟨Int.emod_nonneg _ (by omega), Int.emod_lt_of_pos _ m0⟩
      · rintro ρ ⟨num, o, ns, rfl, hn, hb⟩
        exact h ns (by rw [hn, Int.sub_zero]) hb
    have loop2 : ∀ number : Int, (pSeq (pRng (pCons (pVar 2) pNil) (pgN 5) (pSeq (pAsg (pIIc (fun _ j => 0 < j) (fun i j => .int (i % j)) (pFn fInt (pCons (pIIc CMul (fun i j => .int (i * j)) (pPlus (pPlus (pVar 3) (pIIc CMul (fun i j => .int (i * j)) (pC (.int 7)) (pVar 5))) (pC (.int 1))) (pC (.int 48271))) pNil)) (pC (.int 2147483647))) (pgN 6))
      (pSeq (pAsg (pIIc (fun _ j => 0 < j) (fun i j => .int (i % j)) (pFn fInt (pCons (pPlus (pIIc CMul (fun i j => .int (i * j)) (pVar 6) (pC (.int 69621))) (pIIc CMul (fun i j => .int (i * j)) (pC (.int 31)) (pVar 5))) pNil)) (pC (.int 2147483629))) (pgN 6))
      (pApp 4 (pIIc (fun _ j => 0 < j) (fun i j => .int (i % j)) (pFn fInt (pCons (pIIc CDiv (fun i j => .int (i / j)) (pVar 6) (pC (.int 7))) pNil)) (pVar 1)))))) (pRetO 4)) (fin c) [.d (.int cell), .d (.int m), .d (.int n), .d (.int number), .own [], .no, .no] := fun number => by
      refine ⟨0, n, .inl ⟨rfl, rfl⟩, ⟨by omega, by omega, by omega, by omega⟩, fun k ρ => ∃ (o1 o2 : Cell) (ns : List Int), ρ = [.d (.int cell), .d (.int m), .d (.int n), .d (.int number), .own (ns.map PyData.int), o1, o2] ∧ ns.length = k ∧ ∀ x ∈ ns, 0 ≤ x ∧ x < m, ⟨_, _, [], rfl, rfl, fun _ z => nomatch z⟩, ?_, ?_⟩
      · rintro i ρ hi ⟨o1, o2, ns, rfl, hn, hb⟩
        refine ⟨.inl (by decide), .inr (by decide), (by decide : (0 : Int) < 2147483647), .inr (by decide), .inl (by decide), (by decide : (0 : Int) < 2147483629), ⟨by decide, by decide⟩, m0, ?len, ?a, ?b, ns ++ [?x], ?e, by simp [hn], ?m⟩
        case len =>
          rw [List.length_map, hn]
          omega
        case e =>
          rw [List.map_append]
          exact rfl
        case m =>
          intro x hx
          rcases List.mem_append.mp hx with hx | hx
          · exact hb x hx
          · rw [List.mem_singleton.mp hx]
            exact ⟨Int.emod_nonneg _ (by omega), Int.emod_lt_of_pos _ m0⟩
      · rintro ρ ⟨o1, o2, ns, rfl, hn, hb⟩
        exact h ns (by rw [hn, Int.sub_zero]) hb
    have rest : ∀ number : Int, (pSeq (pAsgO (pLst pNil) 4)
      (pSeq (pIfS (pTst (pII (fun i j => .bool (decide (j ≤ i))) (pVar 3) (pIIc CPow (fun i j => .int (i ^ j.toNat)) (pC (.int 10)) (pC (.int 18))))) (pSeq (pRng (pCons (pVar 2) pNil) (pgN 5) (pSeq (pApp 4 (pIIc (fun _ j => 0 < j) (fun i j => .int (i % j)) (pFn fInt (pCons (pVar 3) pNil)) (pVar 1)))
      (pAsg (pIIc CDiv (fun i j => .int (i / j)) (pVar 3) (pVar 1)) (pgN 3))))
      (pRetO 4)) pNext)
      (pSeq (pRng (pCons (pVar 2) pNil) (pgN 5) (pSeq (pAsg (pIIc (fun _ j => 0 < j) (fun i j => .int (i % j)) (pFn fInt (pCons (pIIc CMul (fun i j => .int (i * j)) (pPlus (pPlus (pVar 3) (pIIc CMul (fun i j => .int (i * j)) (pC (.int 7)) (pVar 5))) (pC (.int 1))) (pC (.int 48271))) pNil)) (pC (.int 2147483647))) (pgN 6))
      (pSeq (pAsg (pIIc (fun _ j => 0 < j) (fun i j => .int (i % j)) (pFn fInt (pCons (pPlus (pIIc CMul (fun i j => .int (i * j)) (pVar 6) (pC (.int 69621))) (pIIc CMul (fun i j => .int (i * j)) (pC (.int 31)) (pVar 5))) pNil)) (pC (.int 2147483629))) (pgN 6))
      (pApp 4 (pIIc (fun _ j => 0 < j) (fun i j => .int (i % j)) (pFn fInt (pCons (pIIc CDiv (fun i j => .int (i / j)) (pVar 6) (pC (.int 7))) pNil)) (pVar 1))))))
      (pRetO 4)))) (fin c) [.d (.int cell), .d (.int m), .d (.int n), .d (.int number), .no, .no, .no] := fun number => by
      refine ⟨by decide, Nat.zero_le _, ⟨by decide, by decide, by decide⟩, ?_⟩
      refine tf (fun _ => ?_) (fun _ => ?_)
      · exact loop1 number
      · exact loop2 number
    show (if decide (cell < 0) = true then _ else _)
    refine ifd (fun _ => ?_) (fun _ => ?_)
    · exact rest _
    · exact rest _
  · exact h.elim
end Pr
namespace Pr
open PySem L2 Pu
theorem asc_of : ∀ {ns : List Int} {lo hi : Int}, ns.Pairwise (· < ·) → (∀ x ∈ ns, lo ≤ x ∧ x ≤ hi) → asc lo hi (ns.map PyData.int) = true
  | [], _, _, _, _ => rfl
  | n :: ns, lo, hi, hp, hb => by
    obtain ⟨h1, h2⟩ := hb n List.mem_cons_self
    show (decide (lo ≤ n) && decide (n ≤ hi) && asc (n + 1) hi (ns.map PyData.int)) = true
    rw [decide_eq_true h1, decide_eq_true h2, asc_of (List.pairwise_cons.mp hp).2 fun x hx => ⟨by have := (List.pairwise_cons.mp hp).1 x hx; omega, (hb x (List.mem_cons_of_mem _ hx)).2⟩]
    rfl
theorem side_of {p : Int} {ns : List Int} {b : Bool} (p0 : 1 ≤ p) (p1 : p ≤ 100) (hp : ns.Pairwise (· < ·)) (hb : ∀ x ∈ ns, 0 ≤ x ∧ x < p) (hl : ns.length ≤ 100) (he : ns.length % 2 = 0) : sideOk (.tuple [.int p, .tuple (ns.map PyData.int), .bool b]) = true := by
  show (decide (1 ≤ p) && decide (p ≤ 1000000000000) && isF (.bool b) && (decide ((ns.map PyData.int).length ≤ 40000) && decide ((ns.map PyData.int).length % 2 = 0) && asc 0 (p - 1) (ns.map PyData.int))) = true
  rw [List.length_map, decide_eq_true p0, decide_eq_true (show p ≤ 1000000000000 by omega), decide_eq_true (show ns.length ≤ 40000 by omega), decide_eq_true he, asc_of hp fun x hx => ⟨(hb x hx).1, by have := (hb x hx).2; omega⟩]
  rfl
theorem atI_in {l : List PyData} {v : Int} (h0 : 0 ≤ v) (h1 : v < (l.length : Nat)) : ∃ d, atI l v = some d ∧ d ∈ l := by
  obtain ⟨n, rfl⟩ : ∃ n : Nat, v = n := ⟨v.toNat, by omega⟩
  have hv : n < l.length := by omega
  exact ⟨l[n], atI_nat (List.getElem?_eq_getElem hv), List.getElem_mem hv⟩
theorem pure_law_side (ds : List PyData) (c : PyData → Prop) (hl : ds.length = 0) (h : S_law_side ds c) : p_law_side (finB c) (.box :: startE N_law_side.tail ds) := by
  cases ds with
  | cons _ _ => cases hl
  | nil =>
    have h : ∀ d, sideOk d = true → c d := h
    -- from the period on
    have rest : ∀ p : Int, 1 ≤ p → p ≤ 100 → (pSeq (pAsg (pNew (pSortSet (pCons (pNew (pLcR [3] [3] (pCons (pCallB 1 S_law_next 0 (pCons (pC (.int 5)) pNil)) pNil) (pgN 3) pYes (pCallB 1 S_law_next 0 (pCons (pVar 1) pNil)))) pNil))) (pgN 2))
      (pSeq (pIfS (pTst (pEqD false (pIIc (fun _ j => 0 < j) (fun i j => .int (i % j)) (pFn fLen (pCons (pVar 2) pNil)) (pC (.int 2))) (pC (.int 1)))) (pAsg (pCut (pVar 2) (pPart (pC (.int 1))) pNoP) (pgN 2)) pNext)
      (pRet (pTup (pCons (pVar 1) (pCons (pFn fTuple (pCons (pVar 2) pNil)) (pCons (pEqD false (pCallB 1 S_law_next 0 (pCons (pC (.int 2)) pNil)) (pC (.int 1))) pNil))))))) (finB c) [.box, .d (.int p), .no, .no] := fun p p0 p1 => by
      refine ⟨by simp [Pu.cellAt], rfl, rfl, rfl, by decide, fun n n0 n1 => ⟨rfl, 0, n, .inl ⟨rfl, rfl⟩, ⟨by omega, by omega, by omega, by omega⟩, fun k acc => ∃ ns : List Int, acc = ns.map PyData.int ∧ ns.length = k ∧ ∀ x ∈ ns, 0 ≤ x ∧ x < p, ⟨[], rfl, rfl, fun _ z => nomatch z⟩, ?_, ?_⟩⟩
      · rintro k acc hk ⟨ns, rfl, hn, hb⟩
        refine ⟨rfl, ?_⟩
        refine ⟨rfl, rfl, rfl, by omega, fun v v0 v1 => ⟨rfl, by rw [List.length_map]; omega, ns ++ [v], by rw [List.map_append]; rfl, by simp [hn], fun x hx => ?_⟩⟩
        rcases List.mem_append.mp hx with hx | hx
        · exact hb x hx
        · rw [List.mem_singleton.mp hx]
          exact ⟨v0, v1⟩
      · rintro acc ⟨ns, rfl, hn, hb⟩
        refine ⟨ns, rfl, by omega, fun bs pw mem len => ?_⟩
        have hbs : ∀ x ∈ bs, 0 ≤ x ∧ x < p := fun x hx => hb x ((mem x).mp hx)
        -- from the even borders on
        have last : ∀ bs : List Int, bs.Pairwise (· < ·) → (∀ x ∈ bs, 0 ≤ x ∧ x < p) → bs.length ≤ 100 → bs.length % 2 = 0 → ∀ o, (pRet (pTup (pCons (pVar 1) (pCons (pFn fTuple (pCons (pVar 2) pNil)) (pCons (pEqD false (pCallB 1 S_law_next 0 (pCons (pC (.int 2)) pNil)) (pC (.int 1))) pNil))))) (finB c) [.box, .d (.int p), .d (.list (bs.map PyData.int)), o] := fun bs pw hb hl he o => by
          refine ⟨rfl, rfl, rfl, by decide, fun v v0 v1 => ⟨rfl, rfl, ?_, rfl, ?_⟩⟩
          · show 3 ≤ 100000
            decide
          · exact h _ (side_of p0 p1 pw hb hl he)
        refine ⟨_, rfl, (by decide : (0 : Int) < 2), rfl, rfl, ?_⟩
        show (if PyData.eqv (.int (((bs.map PyData.int).length : Int) % 2)) (.int 1) = true then _ else _)
        rw [eqv_int, List.length_map]
        refine ifd (fun z => ?_) (fun z => ?_)
        · cases bs with
          | nil => simp at z
          | cons b bs =>
            have e : cutP ((b :: bs).map PyData.int) (some 1) none = bs.map PyData.int := by
              simp only [cutP, HT.sIx]
              simp
              exact List.take_of_length_le (by simp)
            have q := last bs (List.pairwise_cons.mp pw).2 (fun x hx => hbs x (List.mem_cons_of_mem _ hx)) (by rw [List.length_cons] at len; omega) (by rw [List.length_cons] at z; omega) .no
            rw [← e] at q
            exact q
        · exact last bs pw hbs (by omega) (by omega) _
    refine ⟨rfl, rfl, rfl, by decide, fun v v0 v1 => ?_⟩
    refine ⟨rfl, rfl, rfl, by decide, fun u u0 u1 => ⟨rfl, rfl, ?_⟩⟩
    show (if PyData.eqv (.int u) (.int 0) = true then _ else _)
    rw [eqv_int]
    refine ifd (fun z => ?_) (fun z => ?_)
    · refine ⟨?_, rfl, rfl, rfl, by decide, fun t t0 t1 => ?_⟩
      · show 3 ≤ 100000
        decide
      · have k3 : t = 0 ∨ t = 1 ∨ t = 2 := by omega
        rcases k3 with rfl | rfl | rfl
        · exact rest 11 (by decide) (by decide)
        · exact rest 30 (by decide) (by decide)
        · exact rest 97 (by decide) (by decide)
    · exact rest (1 + v) (by omega) (by omega)
end Pr
namespace Pr
open PySem L2 Pu
theorem runs1_snoc : ∀ {rs : List PyData} {low b e : Int}, runs1 low rs = true → (rs = [] → low ≤ b) → (rs ≠ [] → endOf low rs + 1 ≤ b) → b < e →
    runs1 low (rs ++ [.tuple [.int b, .int e]]) = true ∧ endOf low (rs ++ [.tuple [.int b, .int e]]) = e
  | [], low, b, e, _, h0, _, hb => by
    refine ⟨?_, rfl⟩
    show (decide (low ≤ b) && decide (b < e) && true) = true
    rw [decide_eq_true (h0 rfl), decide_eq_true hb]
    rfl
  | d :: rs, low, b, e, h, _, h1, hb => by
    have h1 := h1 (by simp)
    unfold runs1 at h
    unfold endOf at h1
    rw [List.cons_append]
    unfold runs1 endOf
    cases q : pairOf d with
    | none =>
      rw [q] at h
      cases h
    | some p =>
      obtain ⟨x, y⟩ := p
      rw [q] at h h1
      have h : (decide (low ≤ x) && decide (x < y) && runs1 (y + 1) rs) = true := h
      have h1 : endOf y rs + 1 ≤ b := h1
      rw [Bool.and_eq_true] at h
      have key : runs1 (y + 1) (rs ++ [.tuple [.int b, .int e]]) = true ∧ endOf (y + 1) (rs ++ [.tuple [.int b, .int e]]) = e := by
        refine runs1_snoc h.2 (fun z => ?_) (fun z => ?_) hb
        · subst z
          exact h1
        · obtain ⟨init, d', rfl⟩ : ∃ init d', rs = init ++ [d'] := by
            rcases List.eq_nil_or_concat rs with e | ⟨i, d', e⟩
            · exact absurd e z
            · exact ⟨i, d', by rw [e, List.concat_eq_append]⟩
          obtain ⟨b', e', p1, p2⟩ := runs1_last h.2
          rw [p2]
          rw [runs1_last.endOf_snoc (low' := y + 1) p1, p2] at h1
          exact h1
      refine ⟨?_, ?_⟩
      · show (decide (low ≤ x) && decide (x < y) && runs1 (y + 1) (rs ++ [.tuple [.int b, .int e]])) = true
        rw [key.1, h.1]
        rfl
      · show endOf y (rs ++ [.tuple [.int b, .int e]]) = e
        rw [runs1_last.endOf_snoc (low' := y + 1) (b := b) (e := e) rfl]
        exact key.2
theorem endOf_ge : ∀ {rs : List PyData} {low : Int}, runs1 low rs = true → low ≤ endOf low rs
  | [], low, _ => Int.le_refl _
  | d :: rs, low, h => by
    unfold runs1 at h
    unfold endOf
    cases q : pairOf d with
    | none =>
      rw [q] at h
      cases h
    | some p =>
      obtain ⟨x, y⟩ := p
      rw [q] at h
      have h : (decide (low ≤ x) && decide (x < y) && runs1 (y + 1) rs) = true := h
      rw [Bool.and_eq_true, Bool.and_eq_true] at h
      have a1 := of_decide_eq_true h.1.1
      have a2 := of_decide_eq_true h.1.2
      show low ≤ endOf y rs
      rcases List.eq_nil_or_concat rs with e | ⟨i, d', e⟩
      · rw [e]
        show low ≤ y
        omega
      · rw [List.concat_eq_append] at e
        have h3 := endOf_ge h.2
        rw [e] at h h3 ⊢
        obtain ⟨b', e', p1, p2⟩ := runs1_last h.2
        rw [runs1_last.endOf_snoc (low' := y + 1) p1]
        omega
theorem pure_law_dayset (ds : List PyData) (c : PyData → Prop) (hl : ds.length = 0) (h : S_law_dayset ds c) : p_law_dayset (finB c) (.box :: startE N_law_dayset.tail ds) := by
  cases ds with
  | cons _ _ => cases hl
  | nil =>
    have h : ∀ l low rs h r, sideOk l = true → runsOk low rs = true → highBad low rs h = false → sideOk r = true → c (.tuple [l, .int low, rs, h, r]) := h
    refine ⟨rfl, rfl, rfl, by decide, fun v v0 v1 => ⟨by decide, Nat.zero_le _, ?_⟩⟩
    -- low is v - 10
    have low : ∃ low : Int, low = v - 10 := ⟨_, rfl⟩
    obtain ⟨low, el⟩ := low
    refine ⟨rfl, rfl, rfl, by decide, fun n n0 n1 => ⟨0, n, .inl ⟨rfl, rfl⟩, ⟨by omega, by omega, by omega, by omega⟩, fun k ρ => ∃ (rs : List PyData) (o1 o2 : Cell), ρ = [.box, .d (.int (v - 10)), .d (.int (endOf (v - 10) rs)), .own rs, o1, o2, .no, .no] ∧ rs.length = k ∧ runs1 (v - 10) rs = true, ⟨[], _, _, rfl, rfl, rfl⟩, ?_, ?_⟩⟩
    · rintro i ρ hi ⟨rs, o1, o2, rfl, hn, hr⟩
      refine ⟨rfl, rfl, rfl, by decide, fun a a0 a1 => ?_⟩
      refine ⟨rfl, rfl, rfl, by decide, fun b b0 b1 => ⟨Nat.le_of_ble_eq_true rfl, by omega, ?_⟩⟩
      have f0 : (0 : Int) ≤ (if decide ((0 : Int) < (rs.length : Nat)) = true then 1 else 0) := by split <;> decide
      have f1 : rs ≠ [] → (1 : Int) ≤ (if decide ((0 : Int) < (rs.length : Nat)) = true then 1 else 0) := fun z => by
        have : 0 < rs.length := List.length_pos_iff.mpr z
        rw [if_pos (decide_eq_true (by omega))]
        decide
      obtain ⟨f, ef⟩ : ∃ f : Int, f = (if decide ((0 : Int) < (rs.length : Nat)) = true then 1 else 0) := ⟨_, rfl⟩
      rw [← ef] at f0 f1
      have key := runs1_snoc (rs := rs) (low := v - 10) (b := endOf (v - 10) rs + a + f) (e := endOf (v - 10) rs + a + f + 1 + b) hr (fun z => by subst z; show v - 10 ≤ v - 10 + a + f; omega) (fun z => by have := f1 z; omega) (by omega)
      have q : (fun ρ => ∃ (rs : List PyData) (o1 o2 : Cell), ρ = [.box, .d (.int (v - 10)), .d (.int (endOf (v - 10) rs)), .own rs, o1, o2, .no, .no] ∧ rs.length = i + 1 ∧ runs1 (v - 10) rs = true)
          [.box, .d (.int (v - 10)), .d (.int (endOf (v - 10) rs + a + f + 1 + b)), .own (rs ++ [.tuple [.int (endOf (v - 10) rs + a + f), .int (endOf (v - 10) rs + a + f + 1 + b)]]), .d (.int (0 + (i : Int))), .d (.int (endOf (v - 10) rs + a + f)), .no, .no] :=
        ⟨_, _, _, by rw [key.2], by rw [List.length_append, hn]; rfl, key.1⟩
      refine oSome (o := atI (rs ++ [_]) (-1)) (atI_last _ _) ?_
      rw [ef] at q
      exact q
    · rintro ρ ⟨rs, o1, o2, rfl, hn, hr⟩
      have hro : runsOk (v - 10) (.tuple rs) = true := by
        show (decide (rs.length ≤ 40000) && runs1 (v - 10) rs) = true
        rw [decide_eq_true (show rs.length ≤ 40000 by omega), hr]
        rfl
      have last : ∀ l r : PyData, sideOk l = true → sideOk r = true → (pRet (pTup (pCons (pVar 6) (pCons (pVar 1) (pCons (pTupO 3) (pCons (pPlus (pVar 2) (pCallB 1 S_law_next 0 (pCons (pC (.int 4)) pNil))) (pCons (pVar 7) pNil))))))) (finB c)
          [.box, .d (.int (v - 10)), .d (.int (endOf (v - 10) rs)), .own rs, o1, o2, .d l, .d r] := fun l r hl hr2 => by
        refine ⟨rfl, rfl, rfl, by decide, fun a a0 a1 => ⟨Nat.le_of_ble_eq_true rfl, rfl, ?_⟩⟩
        refine h l (v - 10) (.tuple rs) (.int (endOf (v - 10) rs + a)) r hl hro ?_ hr2
        show decide (endOf (v - 10) rs + a < endOf (v - 10) rs) = false
        exact decide_eq_false (by omega)
      refine ⟨rfl, rfl, rfl, fun l hl => ?_⟩
      refine ⟨rfl, rfl, rfl, by decide, fun a a0 a1 => ⟨rfl, rfl, ?_⟩⟩
      refine tf (fun _ => ?_) (fun _ => ?_)
      · exact last l l hl hl
      · exact ⟨rfl, rfl, rfl, fun r hr2 => last l r hl hr2⟩
end Pr
namespace Pr
open PySem L2 Pu
def badSides : List PyData := [.tuple [.int 0, .tuple [], .bool false], .tuple [.int 1, .tuple [.int 0], .bool false], .tuple [.int 4, .tuple [.int 1, .int 1], .bool true], .tuple [.int 4, .tuple [.int 2, .int 1], .bool true],
  .tuple [.int 4, .tuple [.int 1, .int 4], .bool true], .tuple [.int 4, .tuple [.int 1, .int 2], .int 1], .tuple [.int 2, .tuple [], .none], .tuple [.bool true, .tuple [], .bool true], .tuple [.int 4, .list [.int 1, .int 2], .bool true],
  .tuple [.int 4, .tuple [.int 1, .int 2]], .tuple [.int (10 ^ 12 + 1), .tuple [], .bool true], .tuple [.int 4, .tuple [.int (-1), .int 2], .bool true]]
theorem badSides_bad : ∀ w ∈ badSides, sideOk w = false := by
  have h : badSides.all (fun w => !sideOk w) = true := by decide +kernel
  intro w hw
  have := List.all_eq_true.mp h w hw
  simpa using this
def badRuns (low : Int) : List PyData := [.tuple [.tuple [.int (low - 1), .int (low + 1)]], .tuple [.tuple [.int low, .int low]], .tuple [.tuple [.int (low + 1), .int (low + 3)], .tuple [.int (low + 3), .int (low + 4)]],
  .tuple [.tuple [.int low, .int (low + 1), .int 5]], .list [], .tuple [.int low], .tuple [.tuple [.int (low + 2), .int (low + 1)]]]
theorem two_false {a b c : Bool} (h : a && b = false) : True := trivial
theorem badRuns_bad (low : Int) : ∀ w ∈ badRuns low, runsOk low w = false := by
  intro w hw
  simp only [badRuns, List.mem_cons, List.not_mem_nil, or_false] at hw
  rcases hw with rfl | rfl | rfl | rfl | rfl | rfl | rfl
  · show (true && (decide (low ≤ low - 1) && _ && _)) = false
    rw [decide_eq_false (by omega)]
    rfl
  · show (true && (decide (low ≤ low) && decide (low < low) && _)) = false
    rw [decide_eq_false (show ¬ low < low by omega), Bool.and_false]
    rfl
  · show (true && (_ && (decide (low + 3 + 1 ≤ low + 3) && _ && _))) = false
    rw [decide_eq_false (show ¬ low + 3 + 1 ≤ low + 3 by omega)]
    simp
  · rfl
  · rfl
  · rfl
  · show (true && (_ && decide (low + 2 < low + 1) && _)) = false
    rw [decide_eq_false (show ¬ low + 2 < low + 1 by omega), Bool.and_false]
    rfl
theorem cutP_len {xs : List PyData} {lo hi : Option Int} : (cutP xs lo hi).length ≤ xs.length := by
  unfold cutP
  rw [List.length_take, List.length_drop]
  omega
theorem pure_law_spoilt (ds : List PyData) (c : PyData → Prop) (hl : ds.length = 3) (h : S_law_spoilt ds c) : p_law_spoilt (finB c) (.box :: startE N_law_spoilt.tail ds) := by
  unfold S_law_spoilt at h
  split at h
  · rename_i l lo rs hi r place low
    -- the end
    have fin : ∀ (p : Int) (T W : List PyData), T.length = 5 → 0 < W.length → (∀ w ∈ W, c (.tuple (cutP T none (some p) ++ [w] ++ cutP T (some (p + 1)) none))) → ∀ s ru,
        (pRet (pPlus (pPlus (pCut (pVar 1) pNoP (pPart (pVar 2))) (pTup (pCons (pIx (pVar 6) (pCallB 1 S_law_next 0 (pCons (pFn fLen (pCons (pVar 6) pNil)) pNil))) pNil))) (pCut (pVar 1) (pPart (pPlus (pVar 2) (pC (.int 1)))) pNoP))) (finB c)
          [.box, .d (.tuple T), .d (.int p), .d (.int low), s, ru, .d (.list W)] := fun p T W hT hW hk s ru => by
      refine ⟨rfl, _, rfl, rfl, rfl, by omega, fun v v0 v1 => ?_⟩
      obtain ⟨w, hw, hm⟩ := atI_in v0 v1
      refine oSome hw ?_
      have e1 := cutP_len (xs := T) (lo := none) (hi := some p)
      have e2 := cutP_len (xs := T) (lo := some (p + 1)) (hi := none)
      refine ⟨Nat.le_of_ble_eq_true rfl, ⟨by show _ + 1 ≤ _; omega, ⟨?_, rfl, hk w hm⟩⟩⟩
      rw [List.length_append]
      show _ + 1 + _ ≤ _
      omega
    -- the lists of wrong members
    have start : ∀ (T : List PyData) (p : Int), (asO (atI [.list badSides, .list [.bool true, .tuple [.int 3]], .list (badRuns low), .list [.int (low - 1), .bool true, .none], .list badSides] p) fun d =>
      (pSeq (pIfS (pAnd (pTst (pEqD false (pVar 2) (pC (.int 3)))) (pTst (pII (fun i j => .bool (decide (j < i))) (pFn fLen (pCons (pIx (pVar 1) (pC (.int 2))) pNil)) (pC (.int 0))))) (pAsg (pPlus (pVar 6) (pNew (pLst (pCons (pII (fun i j => .int (i - j)) (pIx (pIx (pIx (pVar 1) (pC (.int 2))) (pI (fun i => .int (-i)) (pC (.int 1)))) (pC (.int 1))) (pC (.int 1))) pNil)))) (pgN 6)) pNext)
      (pRet (pPlus (pPlus (pCut (pVar 1) pNoP (pPart (pVar 2))) (pTup (pCons (pIx (pVar 6) (pCallB 1 S_law_next 0 (pCons (pFn fLen (pCons (pVar 6) pNil)) pNil))) pNil))) (pCut (pVar 1) (pPart (pPlus (pVar 2) (pC (.int 1)))) pNoP))))
        (finB c) [.box, .d (.tuple T), .d (.int p), .d (.int low), .d (.list badSides), .d (.list (badRuns low)), .d d]) →
        p_law_spoilt (finB c) (.box :: startE N_law_spoilt.tail [.tuple T, .int p, .int low]) := fun T p h => by
      repeat refine ⟨Nat.le_of_ble_eq_true rfl, ?_⟩
      refine ⟨⟨by decide, by decide, by decide⟩, ?_⟩
      repeat refine ⟨Nat.le_of_ble_eq_true rfl, ?_⟩
      exact h
    refine start _ _ ?_
    rcases h with ⟨rfl, h⟩ | ⟨rfl, h⟩ | ⟨rfl, h⟩ | ⟨rfl, hr, h⟩ | ⟨rfl, h⟩
    · refine ⟨rfl, rfl, ?_⟩
      exact fin 0 [l, lo, rs, hi, r] badSides rfl (by decide) (fun w hw => h w (badSides_bad w hw)) _ _
    · refine ⟨rfl, rfl, ?_⟩
      exact fin 1 [l, lo, rs, hi, r] [.bool true, .tuple [.int 3]] rfl (by decide) (fun w hw => h w (by
        simp only [List.mem_cons, List.not_mem_nil, or_false] at hw
        rcases hw with rfl | rfl <;> rfl)) _ _
    · refine ⟨rfl, rfl, ?_⟩
      exact fin 2 [l, lo, rs, hi, r] (badRuns low) rfl (by show 0 < 7; decide) (fun w hw => h w (badRuns_bad low w hw)) _ _
    · have hrs : ∃ rl, rs = .tuple rl ∧ runs1 low rl = true := by
        cases rs with
        | tuple rl =>
          have hr : (decide (rl.length ≤ 40000) && runs1 low rl) = true := hr
          rw [Bool.and_eq_true] at hr
          exact ⟨rl, rfl, hr.2⟩
        | _ => cases hr
      obtain ⟨rl, rfl, h1⟩ := hrs
      have ge := endOf_ge h1
      have b3 : ∀ w ∈ [PyData.int (low - 1), .bool true, .none], highBad low (.tuple rl) w = true := fun w hw => by
        simp only [List.mem_cons, List.not_mem_nil, or_false] at hw
        rcases hw with rfl | rfl | rfl
        · show decide (low - 1 < endOf low rl) = true
          exact decide_eq_true (by omega)
        · rfl
        · rfl
      refine ⟨rfl, rfl, ?_⟩
      refine ⟨_, rfl, ?_⟩
      show (if decide ((0 : Int) < (rl.length : Nat)) = true then _ else _)
      refine ifd (fun z => ?_) (fun z => ?_)
      · rcases List.eq_nil_or_concat rl with rfl | ⟨init, d, rfl⟩
        · simp at z
        · rw [List.concat_eq_append] at *
          obtain ⟨b, e, hp, he⟩ := runs1_last h1
          obtain rfl := pairOf_eq hp
          refine oSome (atI_last init (.tuple [.int b, .int e])) ?_
          refine ⟨Nat.le_of_ble_eq_true rfl, Nat.le_of_ble_eq_true rfl, ?_⟩
          refine fin 3 [l, lo, PyData.tuple (init ++ [PyData.tuple [PyData.int b, PyData.int e]]), hi, r] ([PyData.int (low - 1), PyData.bool true, PyData.none] ++ [PyData.int (e - 1)]) rfl (by show 0 < 4; decide) (fun w hw => h w ?_) _ _
          rcases List.mem_append.mp hw with hw | hw
          · exact b3 w hw
          · rw [List.mem_singleton.mp hw]
            show decide (e - 1 < endOf low _) = true
            rw [he]
            exact decide_eq_true (by omega)
      · exact fin 3 [l, lo, .tuple rl, hi, r] [.int (low - 1), .bool true, .none] rfl (by show 0 < 3; decide) (fun w hw => h w (b3 w hw)) _ _
    · refine ⟨rfl, rfl, ?_⟩
      exact fin 4 [l, lo, rs, hi, r] badSides rfl (by decide) (fun w hw => h w (badSides_bad w hw)) _ _
  · exact h.elim
end Pr
namespace Pr
open PySem L2 Pu
def k_EMPTY : PyData := .tuple [.tuple [.int 1, .tuple [], .bool false], .int 0, .tuple [], .int 0, .tuple [.int 1, .tuple [], .bool false]]
def k_ALL : PyData := .tuple [.tuple [.int 1, .tuple [], .bool true], .int 0, .tuple [], .int 0, .tuple [.int 1, .tuple [], .bool true]]
-- law: ['script', 'box', 'words', 'k', 'dayset', 'place', 'one']
abbrev N_law : List Str := ["script", "box", "words", "k", "dayset", "place", "one"]
def p_law : PS' := (pSeq (pAsg (pNew (pLst (pCons (pC (.str (Str.ofString "left"))) (pCons (pC (.str (Str.ofString "low"))) (pCons (pC (.str (Str.ofString "runs"))) (pCons (pC (.str (Str.ofString "high"))) (pCons (pC (.str (Str.ofString "right"))) pNil))))))) (pgN 2))
      (pSeq (pIfS (pOr (pTst (pIsN true (pCall 1 S_dayset_fault (pCons (pC k_ALL) pNil)))) (pTst (pIsN true (pCall 1 S_dayset_fault (pCons (pC k_EMPTY) pNil))))) (pRet (pC (.bool false))) pNext)
      (pSeq (pRng (pCons (pC (.int 4)) pNil) (pgN 3) (pSeq (pAsg (pCallB 0 S_law_dayset 1 pNil) (pgN 4))
      (pSeq (pIfS (pTst (pIsN true (pCall 1 S_dayset_fault (pCons (pVar 4) pNil)))) (pRet (pC (.bool false))) pNext)
      (pSeq (pAsg (pCallB 1 S_law_next 1 (pCons (pC (.int 5)) pNil)) (pgN 5))
      (pSeq (pAsg (pCallB 3 S_law_spoilt 1 (pCons (pVar 4) (pCons (pVar 5) (pCons (pIx (pVar 4) (pC (.int 1))) pNil)))) (pgN 6))
      (pSeq (pIfS (pTst (pEqD true (pCall 1 S_dayset_fault (pCons (pVar 6) pNil)) (pIx (pVar 2) (pVar 5)))) (pRet (pC (.bool false))) pNext)
      (pSeq (pIfS (pAnd (pTst (pInD false (pVar 5) (pTup (pCons (pC (.int 0)) (pCons (pC (.int 1)) (pCons (pC (.int 2)) pNil)))))) (pTst (pEqD true (pCall 1 S_dayset_fault (pCons (pCallB 3 S_law_spoilt 1 (pCons (pVar 6) (pCons (pC (.int 4)) (pCons (pIx (pVar 4) (pC (.int 1))) pNil)))) pNil)) (pIx (pVar 2) (pVar 5))))) (pRet (pC (.bool false))) pNext)
      (pIfS (pAnd (pTst (pEqD false (pVar 5) (pC (.int 4)))) (pTst (pEqD true (pCall 1 S_dayset_fault (pCons (pCallB 3 S_law_spoilt 1 (pCons (pVar 6) (pCons (pC (.int 0)) (pCons (pIx (pVar 4) (pC (.int 1))) pNil)))) pNil)) (pC (.str (Str.ofString "left")))))) (pRet (pC (.bool false))) pNext))))))))
      (pRet (pC (.bool true))))))
abbrev finL : PEnds := ⟨fun _ => False, fun d _ => d = .bool true, fun _ => False, fun _ => False⟩
theorem f0 {w lo rs h r : PyData} (h0 : sideOk w = false) : fault5 w lo rs h r = txt "left" := if_pos h0
theorem f1 {l w rs h r : PyData} (h0 : sideOk l = true) (h1 : isI w = false) : fault5 l w rs h r = txt "low" := by
  unfold fault5
  rw [if_neg (by rw [h0]; decide)]
  cases w <;> first | rfl | cases h1
theorem f2 {l w h r : PyData} {low : Int} (h0 : sideOk l = true) (h1 : runsOk low w = false) : fault5 l (.int low) w h r = txt "runs" := by
  unfold fault5
  rw [if_neg (by rw [h0]; decide)]
  exact if_pos h1
theorem f3 {l rs w r : PyData} {low : Int} (h0 : sideOk l = true) (h1 : runsOk low rs = true) (h2 : highBad low rs w = true) : fault5 l (.int low) rs w r = txt "high" := by
  unfold fault5
  rw [if_neg (by rw [h0]; decide)]
  show (if runsOk low rs = false then txt "runs" else _) = _
  rw [if_neg (by rw [h1]; decide), if_pos h2]
theorem f4 {l rs h w : PyData} {low : Int} (h0 : sideOk l = true) (h1 : runsOk low rs = true) (h2 : highBad low rs h = false) (h3 : sideOk w = false) : fault5 l (.int low) rs h w = txt "right" := by
  unfold fault5
  rw [if_neg (by rw [h0]; decide)]
  show (if runsOk low rs = false then txt "runs" else _) = _
  rw [if_neg (by rw [h1]; decide), if_neg (by rw [h2]; decide), if_pos h3]
theorem f5 {l rs h r : PyData} {low : Int} (h0 : sideOk l = true) (h1 : runsOk low rs = true) (h2 : highBad low rs h = false) (h3 : sideOk r = true) : fault5 l (.int low) rs h r = .none := by
  unfold fault5
  rw [if_neg (by rw [h0]; decide)]
  show (if runsOk low rs = false then txt "runs" else _) = _
  rw [if_neg (by rw [h1]; decide), if_neg (by rw [h2]; decide), if_neg (by rw [h3]; decide)]
theorem same_txt (s : String) : PyData.eqv (txt s) (txt s) = true := by simp [txt, PyData.eqv]
/-- a word that is as it should be -/
theorem cmp_same {s : String} {d : PyData} {A B : Prop} (hs : shq (txt s) = true) (e : d = txt s) (h : B) : shq d = true ∧ shq (txt s) = true ∧ (if flipB true (PyData.eqv d (txt s)) = true then A else B) := by
  subst e
  refine ⟨hs, hs, ?_⟩
  rw [same_txt]
  exact ff rfl h
theorem sh_left : shq (txt "left") = true := by decide +kernel
theorem sh_low : shq (txt "low") = true := by decide +kernel
theorem sh_runs : shq (txt "runs") = true := by decide +kernel
theorem sh_high : shq (txt "high") = true := by decide +kernel
theorem sh_right : shq (txt "right") = true := by decide +kernel
theorem pure_law : p_law finL [.no, .box, .no, .no, .no, .no, .no] := by
  refine ⟨Nat.le_of_ble_eq_true rfl, rfl, ?_⟩
  refine ⟨rfl, ?_⟩
  refine ⟨0, 4, .inl ⟨rfl, rfl⟩, ⟨by decide, by decide, by decide, by decide⟩, fun _ ρ => ∃ o3 o4 o5 o6 : Cell, ρ = [.no, .box, .d (.list [txt "left", txt "low", txt "runs", txt "high", txt "right"]), o3, o4, o5, o6], ⟨_, _, _, _, rfl⟩, ?_, ?_⟩
  · rintro i ρ hi ⟨o3, o4, o5, o6, rfl⟩
    refine ⟨rfl, rfl, rfl, fun l low rs h r hl hr hh hr2 => ⟨rfl, ?_⟩⟩
    refine ff (b := flipB true (isN (fault5 l (.int low) rs h r))) (by rw [f5 hl hr hh hr2]; rfl) ?_
    refine ⟨rfl, rfl, rfl, by decide, fun p p0 p1 => ⟨rfl, rfl, rfl, ?_⟩⟩
    have k5 : p = 0 ∨ p = 1 ∨ p = 2 ∨ p = 3 ∨ p = 4 := by omega
    rcases k5 with rfl | rfl | rfl | rfl | rfl
    · refine .inl ⟨rfl, fun w hw => ⟨rfl, ?_⟩⟩
      refine cmp_same (d := fault5 w (.int low) rs h r) sh_left (f0 hw) ?_
      refine ⟨Nat.le_of_ble_eq_true rfl, rfl, rfl, ?_⟩
      refine ⟨rfl, rfl, rfl, .inr (.inr (.inr (.inr ⟨rfl, fun w2 hw2 => ⟨rfl, ?_⟩⟩)))⟩
      refine cmp_same (d := fault5 w (.int low) rs h w2) sh_left (f0 hw) ?_
      refine ⟨rfl, rfl, ?_⟩
      exact ⟨_, _, _, _, rfl⟩
    · refine .inr (.inl ⟨rfl, fun w hw => ⟨rfl, ?_⟩⟩)
      refine cmp_same (d := fault5 l w rs h r) sh_low (f1 hl hw) ?_
      refine ⟨Nat.le_of_ble_eq_true rfl, rfl, rfl, ?_⟩
      refine ⟨rfl, rfl, rfl, .inr (.inr (.inr (.inr ⟨rfl, fun w2 hw2 => ⟨rfl, ?_⟩⟩)))⟩
      refine cmp_same (d := fault5 l w rs h w2) sh_low (f1 hl hw) ?_
      refine ⟨rfl, rfl, ?_⟩
      exact ⟨_, _, _, _, rfl⟩
    · refine .inr (.inr (.inl ⟨rfl, fun w hw => ⟨rfl, ?_⟩⟩))
      refine cmp_same (d := fault5 l (.int low) w h r) sh_runs (f2 hl hw) ?_
      refine ⟨Nat.le_of_ble_eq_true rfl, rfl, rfl, ?_⟩
      refine ⟨rfl, rfl, rfl, .inr (.inr (.inr (.inr ⟨rfl, fun w2 hw2 => ⟨rfl, ?_⟩⟩)))⟩
      refine cmp_same (d := fault5 l (.int low) w h w2) sh_runs (f2 hl hw) ?_
      refine ⟨rfl, rfl, ?_⟩
      exact ⟨_, _, _, _, rfl⟩
    · refine .inr (.inr (.inr (.inl ⟨rfl, hr, fun w hw => ⟨rfl, ?_⟩⟩)))
      refine cmp_same (d := fault5 l (.int low) rs w r) sh_high (f3 hl hr hw) ?_
      refine ⟨Nat.le_of_ble_eq_true rfl, rfl, rfl, ?_⟩
      refine ⟨rfl, rfl, ?_⟩
      exact ⟨_, _, _, _, rfl⟩
    · refine .inr (.inr (.inr (.inr ⟨rfl, fun w hw => ⟨rfl, ?_⟩⟩)))
      refine cmp_same (d := fault5 l (.int low) rs h w) sh_right (f4 hl hr hh hw) ?_
      refine ⟨Nat.le_of_ble_eq_true rfl, rfl, rfl, ?_⟩
      refine ⟨rfl, rfl, ?_⟩
      refine ⟨rfl, rfl, rfl, .inl ⟨rfl, fun w2 hw2 => ⟨rfl, ?_⟩⟩⟩
      refine cmp_same (d := fault5 w2 (.int low) rs h w) sh_left (f0 hw2) ?_
      exact ⟨_, _, _, _, rfl⟩
  · rintro ρ ⟨o3, o4, o5, o6, rfl⟩
    exact rfl
end Pr
set_option maxHeartbeats 4000000
namespace Pr
open PySem PySem.Spec PyProof.Rows L2 Pu
def topS (i : Nat) : Stmt := PySem.Challenge.pw_everydue_k06_faults_of_daysets.main.body.getD i (.Pass ⟨0, 0, 0, 0⟩)
abbrev s_is_whole : Stmt := topS 1
theorem sc_is_whole : FnScope N_is_whole ["value"] (defScope s_is_whole) := ⟨rfl, rfl, rfl, by decide +kernel, rfl, by decide +kernel, by decide +kernel⟩
abbrev s_is_from_to : Stmt := topS 2
theorem sc_is_from_to : FnScope N_is_from_to ["value", "low", "high"] (defScope s_is_from_to) := ⟨rfl, rfl, rfl, by decide +kernel, rfl, by decide +kernel, by decide +kernel⟩
abbrev s_is_flag : Stmt := topS 3
theorem sc_is_flag : FnScope N_is_flag ["value"] (defScope s_is_flag) := ⟨rfl, rfl, rfl, by decide +kernel, rfl, by decide +kernel, by decide +kernel⟩
abbrev s_is_tuple : Stmt := topS 4
theorem sc_is_tuple : FnScope N_is_tuple ["value"] (defScope s_is_tuple) := ⟨rfl, rfl, rfl, by decide +kernel, rfl, by decide +kernel, by decide +kernel⟩
abbrev s_is_tuple_of : Stmt := topS 5
theorem sc_is_tuple_of : FnScope N_is_tuple_of ["value", "many"] (defScope s_is_tuple_of) := ⟨rfl, rfl, rfl, by decide +kernel, rfl, by decide +kernel, by decide +kernel⟩
abbrev s_is_side : Stmt := topS 9
theorem sc_is_side : FnScope N_is_side ["value"] (defScope s_is_side) := ⟨rfl, rfl, rfl, by decide +kernel, rfl, by decide +kernel, by decide +kernel⟩
abbrev s_dayset_fault : Stmt := topS 13
theorem sc_dayset_fault : FnScope N_dayset_fault ["dayset"] (defScope s_dayset_fault) := ⟨rfl, rfl, rfl, by decide +kernel, rfl, by decide +kernel, by decide +kernel⟩
abbrev s_are_runs : Stmt := topS 14
theorem sc_are_runs : FnScope N_are_runs ["runs", "low"] (defScope s_are_runs) := ⟨rfl, rfl, rfl, by decide +kernel, rfl, by decide +kernel, by decide +kernel⟩
abbrev s_law_draws : Stmt := topS 16
theorem sc_law_draws : FnScope N_law_draws ["cell", "modulus", "count"] (defScope s_law_draws) := ⟨rfl, rfl, rfl, by decide +kernel, rfl, by decide +kernel, by decide +kernel⟩
abbrev s_law_box : Stmt := topS 17
abbrev N_law_box : List Str := ["script", "row", "cell"]
theorem sc_law_box : FnScope N_law_box ["script"] (defScope s_law_box) := ⟨rfl, rfl, rfl, by decide +kernel, rfl, by decide +kernel, by decide +kernel⟩
abbrev s_law_next : Stmt := topS 18
theorem sc_law_next : FnScope N_law_next ["box", "modulus"] (defScope s_law_next) := ⟨rfl, rfl, rfl, by decide +kernel, rfl, by decide +kernel, by decide +kernel⟩
abbrev s_law_side : Stmt := topS 19
theorem sc_law_side : FnScope N_law_side ["box"] (defScope s_law_side) := ⟨rfl, rfl, rfl, by decide +kernel, rfl, by decide +kernel, by decide +kernel⟩
abbrev s_law_dayset : Stmt := topS 20
theorem sc_law_dayset : FnScope N_law_dayset ["box"] (defScope s_law_dayset) := ⟨rfl, rfl, rfl, by decide +kernel, rfl, by decide +kernel, by decide +kernel⟩
abbrev s_law_spoilt : Stmt := topS 21
theorem sc_law_spoilt : FnScope N_law_spoilt ["box", "dayset", "place", "low"] (defScope s_law_spoilt) := ⟨rfl, rfl, rfl, by decide +kernel, rfl, by decide +kernel, by decide +kernel⟩
abbrev s_law : Stmt := topS 22
theorem sc_law : FnScope N_law ["script"] (defScope s_law) := ⟨rfl, rfl, rfl, by decide +kernel, rfl, by decide +kernel, by decide +kernel⟩
/-- what the top has left -/
structure Tx (K : PySem.W.Frag) (mg : Str → Option Value) where
  a_is_whole : Addr
  d_is_whole : FuncData
  f_is_whole : Fun K "is_whole" "is_whole" s_is_whole a_is_whole d_is_whole
  m_is_whole : mg "is_whole" = some (.ref a_is_whole)
  b_is_whole : Binds K d_is_whole ["value"] []
  a_is_from_to : Addr
  d_is_from_to : FuncData
  f_is_from_to : Fun K "is_from_to" "is_from_to" s_is_from_to a_is_from_to d_is_from_to
  m_is_from_to : mg "is_from_to" = some (.ref a_is_from_to)
  b_is_from_to : Binds K d_is_from_to ["value", "low", "high"] []
  a_is_flag : Addr
  d_is_flag : FuncData
  f_is_flag : Fun K "is_flag" "is_flag" s_is_flag a_is_flag d_is_flag
  m_is_flag : mg "is_flag" = some (.ref a_is_flag)
  b_is_flag : Binds K d_is_flag ["value"] []
  a_is_tuple : Addr
  d_is_tuple : FuncData
  f_is_tuple : Fun K "is_tuple" "is_tuple" s_is_tuple a_is_tuple d_is_tuple
  m_is_tuple : mg "is_tuple" = some (.ref a_is_tuple)
  b_is_tuple : Binds K d_is_tuple ["value"] []
  a_is_tuple_of : Addr
  d_is_tuple_of : FuncData
  f_is_tuple_of : Fun K "is_tuple_of" "is_tuple_of" s_is_tuple_of a_is_tuple_of d_is_tuple_of
  m_is_tuple_of : mg "is_tuple_of" = some (.ref a_is_tuple_of)
  b_is_tuple_of : Binds K d_is_tuple_of ["value", "many"] []
  a_is_side : Addr
  d_is_side : FuncData
  f_is_side : Fun K "is_side" "is_side" s_is_side a_is_side d_is_side
  m_is_side : mg "is_side" = some (.ref a_is_side)
  b_is_side : Binds K d_is_side ["value"] []
  a_dayset_fault : Addr
  d_dayset_fault : FuncData
  f_dayset_fault : Fun K "dayset_fault" "dayset_fault" s_dayset_fault a_dayset_fault d_dayset_fault
  m_dayset_fault : mg "dayset_fault" = some (.ref a_dayset_fault)
  b_dayset_fault : Binds K d_dayset_fault ["dayset"] []
  a_are_runs : Addr
  d_are_runs : FuncData
  f_are_runs : Fun K "_are_runs" "_are_runs" s_are_runs a_are_runs d_are_runs
  m_are_runs : mg "_are_runs" = some (.ref a_are_runs)
  b_are_runs : Binds K d_are_runs ["runs", "low"] []
  a_law_draws : Addr
  d_law_draws : FuncData
  f_law_draws : Fun K "_law_draws" "_law_draws" s_law_draws a_law_draws d_law_draws
  m_law_draws : mg "_law_draws" = some (.ref a_law_draws)
  b_law_draws : Binds K d_law_draws ["cell", "modulus", "count"] []
  a_law_box : Addr
  d_law_box : FuncData
  f_law_box : Fun K "_law_box" "_law_box" s_law_box a_law_box d_law_box
  m_law_box : mg "_law_box" = some (.ref a_law_box)
  b_law_box : Binds K d_law_box ["script"] []
  a_law_next : Addr
  d_law_next : FuncData
  f_law_next : Fun K "_law_next" "_law_next" s_law_next a_law_next d_law_next
  m_law_next : mg "_law_next" = some (.ref a_law_next)
  b_law_next : Binds K d_law_next ["box", "modulus"] []
  a_law_side : Addr
  d_law_side : FuncData
  f_law_side : Fun K "_law_side" "_law_side" s_law_side a_law_side d_law_side
  m_law_side : mg "_law_side" = some (.ref a_law_side)
  b_law_side : Binds K d_law_side ["box"] []
  a_law_dayset : Addr
  d_law_dayset : FuncData
  f_law_dayset : Fun K "_law_dayset" "_law_dayset" s_law_dayset a_law_dayset d_law_dayset
  m_law_dayset : mg "_law_dayset" = some (.ref a_law_dayset)
  b_law_dayset : Binds K d_law_dayset ["box"] []
  a_law_spoilt : Addr
  d_law_spoilt : FuncData
  f_law_spoilt : Fun K "_law_spoilt" "_law_spoilt" s_law_spoilt a_law_spoilt d_law_spoilt
  m_law_spoilt : mg "_law_spoilt" = some (.ref a_law_spoilt)
  b_law_spoilt : Binds K d_law_spoilt ["box", "dayset", "place", "low"] []
  a_law : Addr
  d_law : FuncData
  f_law : Fun K "law" "law" s_law a_law d_law
  m_law : mg "law" = some (.ref a_law)
  b_law : Binds K d_law ["script"] []
  int : mg "int" = none
  len : mg "len" = none
  range : mg "range" = none
  set : mg "set" = none
  sorted : mg "sorted" = none
  tuple : mg "tuple" = none
  type : mg "type" = none
  v_ALL : V
  u_ALL : Value
  m_ALL : mg "ALL" = some u_ALL
  r_ALL : RelV v_ALL u_ALL
  q_ALL : ∀ H, Dq K H v_ALL k_ALL
  v_EMPTY : V
  u_EMPTY : Value
  m_EMPTY : mg "EMPTY" = some u_EMPTY
  r_EMPTY : RelV v_EMPTY u_EMPTY
  q_EMPTY : ∀ H, Dq K H v_EMPTY k_EMPTY
  v_GREATEST_PERIOD : V
  u_GREATEST_PERIOD : Value
  m_GREATEST_PERIOD : mg "GREATEST_PERIOD" = some u_GREATEST_PERIOD
  r_GREATEST_PERIOD : RelV v_GREATEST_PERIOD u_GREATEST_PERIOD
  q_GREATEST_PERIOD : ∀ H, Dq K H v_GREATEST_PERIOD k_GREATEST_PERIOD
  v_MOST_BORDERS : V
  u_MOST_BORDERS : Value
  m_MOST_BORDERS : mg "MOST_BORDERS" = some u_MOST_BORDERS
  r_MOST_BORDERS : RelV v_MOST_BORDERS u_MOST_BORDERS
  q_MOST_BORDERS : ∀ H, Dq K H v_MOST_BORDERS k_MOST_BORDERS
section
variable {P : Program} {w : World} {K : PySem.W.Frag} {mg : Str → Option Value} {base : Heap}
theorem ok_is_whole (T : Tx K mg) : FnOk P w K mg base CX0 1 T.a_is_whole T.d_is_whole ["value"] (spP K 1 S_is_whole) := by
  refine ok_P T.f_is_whole sc_is_whole rfl fun cdv A outer s H E hr => ?_
  exact ⟨_, p_is_whole, (pss_one (ps_ret (pe_cmpR op_isT2 (pe_callTy call_type1 (by rfl) T.type (by decide +kernel) (pa_cons (pv 0) pa_nil)) (pe_bltn (v := .ty "int") (by rfl) T.int (by decide +kernel) rfl) (nomark _)))),
    (s_ret (sim_isTy (T := "int") (sim_var (i := 0)))), pure_is_whole⟩
theorem ok_is_from_to (T : Tx K mg) (G_is_whole : FnOk P w K mg base CX0 1 T.a_is_whole T.d_is_whole ["value"] (spP K 1 S_is_whole)) : FnOk P w K mg base CX0 2 T.a_is_from_to T.d_is_from_to ["value", "low", "high"] (spP K 3 S_is_from_to) := by
  refine ok_P T.f_is_from_to sc_is_from_to rfl fun cdv A outer s H E hr => ?_
  exact ⟨_, p_is_from_to, (pss_one (ps_ret (pe_and (pe_call G_is_whole (hr.mono (by decide)) (by rfl) T.m_is_whole T.f_is_whole.kp T.b_is_whole .nil pass0 (pa_cons (pv 0) pa_nil)) (pe_one (pe_chain op_le op_le (pv 1) (pv 0) (pv 2)))))),
    (s_ret (sim_andV (sim_call (sim_cons (sim_var (i := 0)) sim_nil)) (sim_chain (f := fun i j => decide (i ≤ j)) (g := fun i j => decide (i ≤ j)) (sim_var (i := 1)) (sim_var (i := 0)) (sim_var (i := 2))))), pure_is_from_to⟩
theorem ok_is_flag (T : Tx K mg) : FnOk P w K mg base CX0 1 T.a_is_flag T.d_is_flag ["value"] (spP K 1 S_is_flag) := by
  refine ok_P T.f_is_flag sc_is_flag rfl fun cdv A outer s H E hr => ?_
  exact ⟨_, p_is_flag, (pss_one (ps_ret (pe_or (pe_cmpR op_isBA (pv 0) pe_bl (nomark _)) (pe_one (pe_cmpR op_isBA (pv 0) pe_bl (nomark _)))))),
    (s_ret (sim_orV (sim_isB (b := true) (sim_var (i := 0))) (sim_isB (b := false) (sim_var (i := 0))))), pure_is_flag⟩
theorem ok_is_tuple (T : Tx K mg) : FnOk P w K mg base CX0 1 T.a_is_tuple T.d_is_tuple ["value"] (spP K 1 S_is_tuple) := by
  refine ok_P T.f_is_tuple sc_is_tuple rfl fun cdv A outer s H E hr => ?_
  exact ⟨_, p_is_tuple, (pss_one (ps_ret (pe_cmpR op_isT2 (pe_callTy call_type1 (by rfl) T.type (by decide +kernel) (pa_cons (pv 0) pa_nil)) (pe_bltn (v := .ty "tuple") (by rfl) T.tuple (by decide +kernel) rfl) (nomark _)))),
    (s_ret (sim_isTy (T := "tuple") (sim_var (i := 0)))), pure_is_tuple⟩
theorem ok_is_tuple_of (T : Tx K mg) (G_is_tuple : FnOk P w K mg base CX0 1 T.a_is_tuple T.d_is_tuple ["value"] (spP K 1 S_is_tuple)) : FnOk P w K mg base CX0 2 T.a_is_tuple_of T.d_is_tuple_of ["value", "many"] (spP K 2 S_is_tuple_of) := by
  refine ok_P T.f_is_tuple_of sc_is_tuple_of rfl fun cdv A outer s H E hr => ?_
  exact ⟨_, p_is_tuple_of, (pss_one (ps_ret (pe_and (pe_call G_is_tuple (hr.mono (by decide)) (by rfl) T.m_is_tuple T.f_is_tuple.kp T.b_is_tuple .nil pass0 (pa_cons (pv 0) pa_nil)) (pe_one (pe_cmpR (op_eqD (hu65 hr)) (pe_callB c_len (by rfl) T.len PySem.boot_len (pa_cons (pv 0) pa_nil)) (pv 1) (nomark _)))))),
    (s_ret (sim_andV (sim_call (sim_cons (sim_var (i := 0)) sim_nil)) (sim_eqD (sim_len (sim_cons (sim_var (i := 0)) sim_nil)) (sim_var (i := 1))))), pure_is_tuple_of⟩
theorem ok_is_side (T : Tx K mg) (G_is_tuple_of : FnOk P w K mg base CX0 2 T.a_is_tuple_of T.d_is_tuple_of ["value", "many"] (spP K 2 S_is_tuple_of)) (G_is_from_to : FnOk P w K mg base CX0 2 T.a_is_from_to T.d_is_from_to ["value", "low", "high"] (spP K 3 S_is_from_to)) (G_is_flag : FnOk P w K mg base CX0 1 T.a_is_flag T.d_is_flag ["value"] (spP K 1 S_is_flag)) (G_is_tuple : FnOk P w K mg base CX0 1 T.a_is_tuple T.d_is_tuple ["value"] (spP K 1 S_is_tuple)) : FnOk P w K mg base CX0 3 T.a_is_side T.d_is_side ["value"] (spP K 1 S_is_side) := by
  refine ok_P T.f_is_side sc_is_side rfl fun cdv A outer s H E hr => ?_
  exact ⟨_, p_is_side, (pss_cons (ps_if (pt_not (pt_val (pe_call G_is_tuple_of (hr.mono (by decide)) (by rfl) T.m_is_tuple_of T.f_is_tuple_of.kp T.b_is_tuple_of .nil pass0 (pa_cons (pv 0) (pa_cons pe_int pa_nil))))) (pss_one (ps_ret pe_bl)) pss_nil)
      (pss_cons (ps_asg (pv 0) (pg_tup rfl (pgs_cons (pg_name (i := 1) sc_is_side.nd rfl (.inl rfl)) (pgs_cons (pg_name (i := 2) sc_is_side.nd rfl (.inl rfl)) (pgs_cons (pg_name (i := 3) sc_is_side.nd rfl (.inl rfl)) pgs_nil)))))
      (pss_cons (ps_if (PW.pt (pw_or (pt_not (pt_val (pe_call G_is_from_to (hr.mono (by decide)) (by rfl) T.m_is_from_to T.f_is_from_to.kp T.b_is_from_to .nil pass0 (pa_cons (pv 1) (pa_cons pe_int (pa_cons (pe_glob rfl T.m_GREATEST_PERIOD T.r_GREATEST_PERIOD) pa_nil)))))) (pw_or1 (pt_not (pt_val (pe_call G_is_flag (hr.mono (by decide)) (by rfl) T.m_is_flag T.f_is_flag.kp T.b_is_flag .nil pass0 (pa_cons (pv 3) pa_nil))))))) (pss_one (ps_ret pe_bl)) pss_nil)
      (pss_cons (ps_if (PW.pt (pw_or (pt_not (pt_val (pe_call G_is_tuple (hr.mono (by decide)) (by rfl) T.m_is_tuple T.f_is_tuple.kp T.b_is_tuple .nil pass0 (pa_cons (pv 2) pa_nil)))) (pw_or (pt_cmpR op_gt (pe_callB c_len (by rfl) T.len PySem.boot_len (pa_cons (pv 2) pa_nil)) (pe_glob rfl T.m_MOST_BORDERS T.r_MOST_BORDERS) (nomark _)) (pw_or1 (pt_cmpR (op_eqD (hu65 hr)) (pe_op op_mod (pe_callB c_len (by rfl) T.len PySem.boot_len (pa_cons (pv 2) pa_nil)) pe_int) pe_int (nomark _)))))) (pss_one (ps_ret pe_bl)) pss_nil)
      (pss_cons (ps_set (i := 4) sc_is_side.nd rfl (.inl rfl) pe_int)
      (pss_cons (ps_for PassesOwn.never rfl (pi_tup (pv 2)) (pg_name (i := 5) sc_is_side.nd rfl (.inl rfl)) (pss_cons (ps_if (pt_not (pt_val (pe_call G_is_from_to (hr.mono (by decide)) (by rfl) T.m_is_from_to T.f_is_from_to.kp T.b_is_from_to .nil pass0 (pa_cons (pv 5) (pa_cons (pv 4) (pa_cons (pe_op op_sub (pv 1) pe_int) pa_nil)))))) (pss_one (ps_ret pe_bl)) pss_nil)
      (pss_one (ps_set (i := 4) sc_is_side.nd rfl (.inl rfl) (pe_op op_plus (pv 5) pe_int)))))
      (pss_one (ps_ret pe_bl)))))))),
    (s_seq (s_if (sim_not (sim_tB (sim_call (sim_cons (sim_var (i := 0)) (sim_cons (sim_c (v := .int 3) rfl) sim_nil))))) (s_ret (sim_c (v := .bl false) rfl)) s_next)
      (s_seq (s_asg (sim_var (i := 0)) (g_tup (gs_cons (i := 1) (gs_cons (i := 2) (gs_cons (i := 3) gs_nil))) rfl))
      (s_seq (s_if (sim_or (sim_not (sim_tB (sim_call (sim_cons (sim_var (i := 1)) (sim_cons (sim_c (v := .int 1) rfl) (sim_cons (sim_k T.q_GREATEST_PERIOD) sim_nil)))))) (sim_not (sim_tB (sim_call (sim_cons (sim_var (i := 3)) sim_nil))))) (s_ret (sim_c (v := .bl false) rfl)) s_next)
      (s_seq (s_if (sim_or (sim_not (sim_tB (sim_call (sim_cons (sim_var (i := 2)) sim_nil)))) (sim_or (sim_tst (sim_ii (sim_len (sim_cons (sim_var (i := 2)) sim_nil)) (sim_k T.q_MOST_BORDERS) fun _ _ => rfl)) (sim_tst (sim_eqD (sim_iic (sim_len (sim_cons (sim_var (i := 2)) sim_nil)) (sim_c (v := .int 2) rfl) fun _ _ => rfl) (sim_c (v := .int 1) rfl))))) (s_ret (sim_c (v := .bl false) rfl)) s_next)
      (s_seq (s_asg (sim_c (v := .int 0) rfl) (g_name (i := 4)))
      (s_seq (s_forT (sim_var (i := 2)) (g_name (i := 5)) (s_seq (s_if (sim_not (sim_tB (sim_call (sim_cons (sim_var (i := 5)) (sim_cons (sim_var (i := 4)) (sim_cons (sim_ii (sim_var (i := 1)) (sim_c (v := .int 1) rfl) fun _ _ => rfl) sim_nil)))))) (s_ret (sim_c (v := .bl false) rfl)) s_next)
      (s_asg (sim_plus (sim_var (i := 5)) (sim_c (v := .int 1) rfl)) (g_name (i := 4)))))
      (s_ret (sim_c (v := .bl true) rfl)))))))), pure_is_side⟩
theorem ok_dayset_fault (T : Tx K mg) (G_is_side : FnOk P w K mg base CX0 3 T.a_is_side T.d_is_side ["value"] (spP K 1 S_is_side)) (G_is_whole : FnOk P w K mg base CX0 1 T.a_is_whole T.d_is_whole ["value"] (spP K 1 S_is_whole)) (G_are_runs : FnOk P w K mg base CX0 3 T.a_are_runs T.d_are_runs ["runs", "low"] (spP K 2 S_are_runs)) : FnOk P w K mg base CX0 4 T.a_dayset_fault T.d_dayset_fault ["dayset"] (spP K 1 S_dayset_fault) := by
  refine ok_P T.f_dayset_fault sc_dayset_fault rfl fun cdv A outer s H E hr => ?_
  exact ⟨_, p_dayset_fault, (pss_cons (ps_asg (pv 0) (pg_tup rfl (pgs_cons (pg_name (i := 1) sc_dayset_fault.nd rfl (.inl rfl)) (pgs_cons (pg_name (i := 2) sc_dayset_fault.nd rfl (.inl rfl)) (pgs_cons (pg_name (i := 3) sc_dayset_fault.nd rfl (.inl rfl)) (pgs_cons (pg_name (i := 4) sc_dayset_fault.nd rfl (.inl rfl)) (pgs_cons (pg_name (i := 5) sc_dayset_fault.nd rfl (.inl rfl)) pgs_nil)))))))
      (pss_cons (ps_if (pt_not (pt_val (pe_call G_is_side (hr.mono (by decide)) (by rfl) T.m_is_side T.f_is_side.kp T.b_is_side .nil pass0 (pa_cons (pv 1) pa_nil)))) (pss_one (ps_ret pe_str)) pss_nil)
      (pss_cons (ps_if (pt_not (pt_val (pe_call G_is_whole (hr.mono (by decide)) (by rfl) T.m_is_whole T.f_is_whole.kp T.b_is_whole .nil pass0 (pa_cons (pv 2) pa_nil)))) (pss_one (ps_ret pe_str)) pss_nil)
      (pss_cons (ps_if (pt_not (pt_val (pe_call G_are_runs (hr.mono (by decide)) (by rfl) T.m_are_runs T.f_are_runs.kp T.b_are_runs .nil pass0 (pa_cons (pv 3) (pa_cons (pv 2) pa_nil))))) (pss_one (ps_ret pe_str)) pss_nil)
      (pss_cons (ps_set (i := 6) sc_dayset_fault.nd rfl (.inl rfl) (pe_ifExp (pt_tru (pv 3)) (pe_ix ix_seq (pe_ix ix_seq (pv 3) (pe_un un_neg pe_int) (fun _ _ => rfl)) pe_int (fun _ _ => rfl)) (pv 2)))
      (pss_cons (ps_if (PW.pt (pw_or (pt_not (pt_val (pe_call G_is_whole (hr.mono (by decide)) (by rfl) T.m_is_whole T.f_is_whole.kp T.b_is_whole .nil pass0 (pa_cons (pv 4) pa_nil)))) (pw_or1 (pt_cmpR op_lt (pv 4) (pv 6) (nomark _))))) (pss_one (ps_ret pe_str)) pss_nil)
      (pss_cons (ps_if (pt_not (pt_val (pe_call G_is_side (hr.mono (by decide)) (by rfl) T.m_is_side T.f_is_side.kp T.b_is_side .nil pass0 (pa_cons (pv 5) pa_nil)))) (pss_one (ps_ret pe_str)) pss_nil)
      (pss_one (ps_ret pe_non))))))))),
    (s_seq (s_asg (sim_var (i := 0)) (g_tup (gs_cons (i := 1) (gs_cons (i := 2) (gs_cons (i := 3) (gs_cons (i := 4) (gs_cons (i := 5) gs_nil))))) rfl))
      (s_seq (s_if (sim_not (sim_tB (sim_call (sim_cons (sim_var (i := 1)) sim_nil)))) (s_ret (sim_c (v := .str (Str.ofString "left")) rfl)) s_next)
      (s_seq (s_if (sim_not (sim_tB (sim_call (sim_cons (sim_var (i := 2)) sim_nil)))) (s_ret (sim_c (v := .str (Str.ofString "low")) rfl)) s_next)
      (s_seq (s_if (sim_not (sim_tB (sim_call (sim_cons (sim_var (i := 3)) (sim_cons (sim_var (i := 2)) sim_nil))))) (s_ret (sim_c (v := .str (Str.ofString "runs")) rfl)) s_next)
      (s_seq (s_asg (sim_ifE (sim_tru (sim_var (i := 3))) (sim_ix (sim_ix (sim_var (i := 3)) (sim_u (sim_c (v := .int 1) rfl) fun _ => rfl)) (sim_c (v := .int 1) rfl)) (sim_var (i := 2))) (g_name (i := 6)))
      (s_seq (s_if (sim_or (sim_not (sim_tB (sim_call (sim_cons (sim_var (i := 4)) sim_nil)))) (sim_tst (sim_ii (sim_var (i := 4)) (sim_var (i := 6)) fun _ _ => rfl))) (s_ret (sim_c (v := .str (Str.ofString "high")) rfl)) s_next)
      (s_seq (s_if (sim_not (sim_tB (sim_call (sim_cons (sim_var (i := 5)) sim_nil)))) (s_ret (sim_c (v := .str (Str.ofString "right")) rfl)) s_next)
      (s_ret (sim_c (v := .non) rfl))))))))), pure_dayset_fault⟩
theorem ok_are_runs (T : Tx K mg) (G_is_tuple : FnOk P w K mg base CX0 1 T.a_is_tuple T.d_is_tuple ["value"] (spP K 1 S_is_tuple)) (G_is_tuple_of : FnOk P w K mg base CX0 2 T.a_is_tuple_of T.d_is_tuple_of ["value", "many"] (spP K 2 S_is_tuple_of)) (G_is_whole : FnOk P w K mg base CX0 1 T.a_is_whole T.d_is_whole ["value"] (spP K 1 S_is_whole)) : FnOk P w K mg base CX0 3 T.a_are_runs T.d_are_runs ["runs", "low"] (spP K 2 S_are_runs) := by
  refine ok_P T.f_are_runs sc_are_runs rfl fun cdv A outer s H E hr => ?_
  exact ⟨_, p_are_runs, (pss_cons (ps_if (PW.pt (pw_or (pt_not (pt_val (pe_call G_is_tuple (hr.mono (by decide)) (by rfl) T.m_is_tuple T.f_is_tuple.kp T.b_is_tuple .nil pass0 (pa_cons (pv 0) pa_nil)))) (pw_or1 (pt_cmpR op_gt (pe_callB c_len (by rfl) T.len PySem.boot_len (pa_cons (pv 0) pa_nil)) (pe_glob rfl T.m_MOST_BORDERS T.r_MOST_BORDERS) (nomark _))))) (pss_one (ps_ret pe_bl)) pss_nil)
      (pss_cons (ps_set (i := 2) sc_are_runs.nd rfl (.inl rfl) (pv 1))
      (pss_cons (ps_for PassesOwn.never rfl (pi_tup (pv 0)) (pg_name (i := 3) sc_are_runs.nd rfl (.inl rfl)) (pss_cons (ps_if (pt_not (pt_val (pe_call G_is_tuple_of (hr.mono (by decide)) (by rfl) T.m_is_tuple_of T.f_is_tuple_of.kp T.b_is_tuple_of .nil pass0 (pa_cons (pv 3) (pa_cons pe_int pa_nil))))) (pss_one (ps_ret pe_bl)) pss_nil)
      (pss_cons (ps_asg (pv 3) (pg_tup rfl (pgs_cons (pg_name (i := 4) sc_are_runs.nd rfl (.inl rfl)) (pgs_cons (pg_name (i := 5) sc_are_runs.nd rfl (.inl rfl)) pgs_nil))))
      (pss_cons (ps_if (PW.pt (pw_or (pt_not (pt_val (pe_call G_is_whole (hr.mono (by decide)) (by rfl) T.m_is_whole T.f_is_whole.kp T.b_is_whole .nil pass0 (pa_cons (pv 4) pa_nil)))) (pw_or (pt_not (pt_val (pe_call G_is_whole (hr.mono (by decide)) (by rfl) T.m_is_whole T.f_is_whole.kp T.b_is_whole .nil pass0 (pa_cons (pv 5) pa_nil)))) (pw_or1 (pt_not (pt_chain op_le op_lt (pv 2) (pv 4) (pv 5))))))) (pss_one (ps_ret pe_bl)) pss_nil)
      (pss_one (ps_set (i := 2) sc_are_runs.nd rfl (.inl rfl) (pe_op op_plus (pv 5) pe_int)))))))
      (pss_one (ps_ret pe_bl))))),
    (s_seq (s_if (sim_or (sim_not (sim_tB (sim_call (sim_cons (sim_var (i := 0)) sim_nil)))) (sim_tst (sim_ii (sim_len (sim_cons (sim_var (i := 0)) sim_nil)) (sim_k T.q_MOST_BORDERS) fun _ _ => rfl))) (s_ret (sim_c (v := .bl false) rfl)) s_next)
      (s_seq (s_asg (sim_var (i := 1)) (g_name (i := 2)))
      (s_seq (s_forT (sim_var (i := 0)) (g_name (i := 3)) (s_seq (s_if (sim_not (sim_tB (sim_call (sim_cons (sim_var (i := 3)) (sim_cons (sim_c (v := .int 2) rfl) sim_nil))))) (s_ret (sim_c (v := .bl false) rfl)) s_next)
      (s_seq (s_asg (sim_var (i := 3)) (g_tup (gs_cons (i := 4) (gs_cons (i := 5) gs_nil)) rfl))
      (s_seq (s_if (sim_or (sim_not (sim_tB (sim_call (sim_cons (sim_var (i := 4)) sim_nil)))) (sim_or (sim_not (sim_tB (sim_call (sim_cons (sim_var (i := 5)) sim_nil)))) (sim_not (sim_tst (sim_chain (f := fun i j => decide (i ≤ j)) (g := fun i j => decide (i < j)) (sim_var (i := 2)) (sim_var (i := 4)) (sim_var (i := 5))))))) (s_ret (sim_c (v := .bl false) rfl)) s_next)
      (s_asg (sim_plus (sim_var (i := 5)) (sim_c (v := .int 1) rfl)) (g_name (i := 2)))))))
      (s_ret (sim_c (v := .bl true) rfl))))), pure_are_runs⟩
theorem ok_law_draws (T : Tx K mg) : FnOk P w K mg base CX0 1 T.a_law_draws T.d_law_draws ["cell", "modulus", "count"] (spP K 3 S_law_draws) := by
  refine ok_P T.f_law_draws sc_law_draws rfl fun cdv A outer s H E hr => ?_
  exact ⟨_, p_law_draws, (pss_cons (ps_set (i := 3) sc_law_draws.nd rfl (.inl rfl) (pv 0))
      (pss_cons (ps_if (pt_cmpR op_lt (pv 3) pe_int (nomark _)) (pss_one (ps_set (i := 3) sc_law_draws.nd rfl (.inl rfl) (pe_op op_sub (pe_op op_sub pe_int pe_int) (pv 3)))) pss_nil)
      (pss_cons (ps_set (i := 4) sc_law_draws.nd rfl (.inl rfl) (pe_lst pa_nil))
      (pss_cons (ps_if (pt_cmpR op_ge (pv 3) (pe_op op_pow pe_int pe_int) (nomark _)) (pss_cons (ps_for PassesOwn.never rfl (pi_range1 rfl T.range (pa_cons (pv 2) pa_nil)) (pg_name (i := 5) sc_law_draws.nd rfl (.inl rfl)) (pss_cons (ps_expr (pe_bm PySem.F.plainAttrs_list PySem.F.slot_list_append PySem.F.type_list_append mt_append (pv 4) (pa_cons (pe_op op_mod (pe_callTy c_int (by rfl) T.int (by decide +kernel) (pa_cons (pv 3) pa_nil)) (pv 1)) pa_nil)))
      (pss_one (ps_set (i := 3) sc_law_draws.nd rfl (.inl rfl) (pe_op op_fdiv (pv 3) (pv 1))))))
      (pss_one (ps_ret (pv 4)))) pss_nil)
      (pss_cons (ps_for PassesOwn.never rfl (pi_range1 rfl T.range (pa_cons (pv 2) pa_nil)) (pg_name (i := 5) sc_law_draws.nd rfl (.inl rfl)) (pss_cons (ps_set (i := 6) sc_law_draws.nd rfl (.inl rfl) (pe_op op_mod (pe_callTy c_int (by rfl) T.int (by decide +kernel) (pa_cons (pe_op op_mul (pe_op op_plus (pe_op op_plus (pv 3) (pe_op op_mul pe_int (pv 5))) pe_int) pe_int) pa_nil)) pe_int))
      (pss_cons (ps_set (i := 6) sc_law_draws.nd rfl (.inl rfl) (pe_op op_mod (pe_callTy c_int (by rfl) T.int (by decide +kernel) (pa_cons (pe_op op_plus (pe_op op_mul (pv 6) pe_int) (pe_op op_mul pe_int (pv 5))) pa_nil)) pe_int))
      (pss_one (ps_expr (pe_bm PySem.F.plainAttrs_list PySem.F.slot_list_append PySem.F.type_list_append mt_append (pv 4) (pa_cons (pe_op op_mod (pe_callTy c_int (by rfl) T.int (by decide +kernel) (pa_cons (pe_op op_fdiv (pv 6) pe_int) pa_nil)) (pv 1)) pa_nil)))))))
      (pss_one (ps_ret (pv 4)))))))),
    (s_seq (s_asg (sim_var (i := 0)) (g_name (i := 3)))
      (s_seq (s_if (sim_tst (sim_ii (sim_var (i := 3)) (sim_c (v := .int 0) rfl) fun _ _ => rfl)) (s_asg (sim_ii (sim_ii (sim_c (v := .int 0) rfl) (sim_c (v := .int 1) rfl) fun _ _ => rfl) (sim_var (i := 3)) fun _ _ => rfl) (g_name (i := 3))) s_next)
      (s_seq (s_asgO (i := 4) (sim_lst sim_nil))
      (s_seq (s_if (sim_tst (sim_ii (sim_var (i := 3)) (sim_iic (sim_c (v := .int 10) rfl) (sim_c (v := .int 18) rfl) fun _ _ => rfl) fun _ _ => rfl)) (s_seq (s_rng1 (sim_cons (sim_var (i := 2)) sim_nil) (g_name (i := 5)) (s_seq (s_app (i := 4) (sim_iic (sim_int (sim_cons (sim_var (i := 3)) sim_nil)) (sim_var (i := 1)) fun _ _ => rfl))
      (s_asg (sim_iic (sim_var (i := 3)) (sim_var (i := 1)) fun _ _ => rfl) (g_name (i := 3)))) (fun ρ R h => by exact (pcons_len1 h)))
      (s_retO (i := 4))) s_next)
      (s_seq (s_rng1 (sim_cons (sim_var (i := 2)) sim_nil) (g_name (i := 5)) (s_seq (s_asg (sim_iic (sim_int (sim_cons (sim_iic (sim_plus (sim_plus (sim_var (i := 3)) (sim_iic (sim_c (v := .int 7) rfl) (sim_var (i := 5)) fun _ _ => rfl)) (sim_c (v := .int 1) rfl)) (sim_c (v := .int 48271) rfl) fun _ _ => rfl) sim_nil)) (sim_c (v := .int 2147483647) rfl) fun _ _ => rfl) (g_name (i := 6)))
      (s_seq (s_asg (sim_iic (sim_int (sim_cons (sim_plus (sim_iic (sim_var (i := 6)) (sim_c (v := .int 69621) rfl) fun _ _ => rfl) (sim_iic (sim_c (v := .int 31) rfl) (sim_var (i := 5)) fun _ _ => rfl)) sim_nil)) (sim_c (v := .int 2147483629) rfl) fun _ _ => rfl) (g_name (i := 6)))
      (s_app (i := 4) (sim_iic (sim_int (sim_cons (sim_iic (sim_var (i := 6)) (sim_c (v := .int 7) rfl) fun _ _ => rfl) sim_nil)) (sim_var (i := 1)) fun _ _ => rfl)))) (fun ρ R h => by exact (pcons_len1 h)))
      (s_retO (i := 4))))))), pure_law_draws⟩
theorem ok_law_side (T : Tx K mg) (G_law_next : FnOk P w K mg base CX0 1 T.a_law_next T.d_law_next ["box", "modulus"] (spB K 1 S_law_next)) : FnOk P w K mg base CX0 2 T.a_law_side T.d_law_side ["box"] (spB K 0 S_law_side) := by
  refine ok_B T.f_law_side sc_law_side rfl fun cdv A outer s H E hr => ?_
  exact ⟨_, p_law_side, (pss_cons (ps_set (i := 1) sc_law_side.nd rfl (.inr rfl) (pe_op op_plus pe_int (pe_call G_law_next (hr.mono (by decide)) (by rfl) T.m_law_next T.f_law_next.kp T.b_law_next .nil pass0 (pa_cons (pv 0) (pa_cons pe_int pa_nil)))))
      (pss_cons (ps_if (pt_cmpR (op_eqD (hu65 hr)) (pe_call G_law_next (hr.mono (by decide)) (by rfl) T.m_law_next T.f_law_next.kp T.b_law_next .nil pass0 (pa_cons (pv 0) (pa_cons pe_int pa_nil))) pe_int (nomark _)) (pss_one (ps_set (i := 1) sc_law_side.nd rfl (.inr rfl) (pe_ix ix_seq (pe_lst (pa_cons pe_int (pa_cons pe_int (pa_cons pe_int pa_nil)))) (pe_call G_law_next (hr.mono (by decide)) (by rfl) T.m_law_next T.f_law_next.kp T.b_law_next .nil pass0 (pa_cons (pv 0) (pa_cons pe_int pa_nil))) (fun _ _ => rfl)))) pss_nil)
      (pss_cons (ps_set (i := 2) sc_law_side.nd rfl (.inl rfl) (pe_callB (cr_sortedSet rfl) (by rfl) T.sorted (by decide +kernel) (pa_cons (pe_callTy (c_setL rfl) (by rfl) T.set (by decide +kernel) (pa_cons (pe_lc (own := [("k", 3)]) (g := gName 3) (tt := tYes) (by rfl) sc_law_side.nd (pi_range1 rfl T.range (pa_cons (pe_call G_law_next (hr.mono (by decide)) (by rfl) T.m_law_next T.f_law_next.kp T.b_law_next .nil pass0 (pa_cons (pv 0) (pa_cons pe_int pa_nil))) pa_nil)) (blkOk_by (N := N_law_side) (sc := defScope s_law_side) (by decide +kernel)) (fun _ _ _ _ _ => pg_name (i := 3) sc_law_side.nd rfl (Or.inl rfl)) (fun _ _ _ _ _ => pts_nil) (fun _ _ _ _ _ => (pe_call G_law_next (hr.mono (by decide)) (by rfl) T.m_law_next T.f_law_next.kp T.b_law_next .nil pass0 (pa_cons (pv 0) (pa_cons (pv 1) pa_nil))))) pa_nil)) pa_nil)))
      (pss_cons (ps_if (pt_cmpR (op_eqD (hu65 hr)) (pe_op op_mod (pe_callB c_len (by rfl) T.len PySem.boot_len (pa_cons (pv 2) pa_nil)) pe_int) pe_int (nomark _)) (pss_one (ps_set (i := 2) sc_law_side.nd rfl (.inl rfl) (pe_slice sl_cut (pv 2) (po_some pe_int) po_none))) pss_nil)
      (pss_one (ps_ret (pe_tup (pa_cons (pv 1) (pa_cons (pe_callTy c_tuple (by rfl) T.tuple (by decide +kernel) (pa_cons (pv 2) pa_nil)) (pa_cons (pe_cmpR (op_eqD (hu65 hr)) (pe_call G_law_next (hr.mono (by decide)) (by rfl) T.m_law_next T.f_law_next.kp T.b_law_next .nil pass0 (pa_cons (pv 0) (pa_cons pe_int pa_nil))) pe_int (nomark _)) pa_nil)))))))))),
    (s_seq (s_asg (sim_plus (sim_c (v := .int 1) rfl) (sim_callB (i := 0) (sim_cons (sim_c (v := .int 8) rfl) sim_nil))) (g_name (i := 1)))
      (s_seq (s_if (sim_tst (sim_eqD (sim_callB (i := 0) (sim_cons (sim_c (v := .int 6) rfl) sim_nil)) (sim_c (v := .int 0) rfl))) (s_asg (sim_ix (sim_new (sim_lst (sim_cons (sim_c (v := .int 11) rfl) (sim_cons (sim_c (v := .int 30) rfl) (sim_cons (sim_c (v := .int 97) rfl) sim_nil))))) (sim_callB (i := 0) (sim_cons (sim_c (v := .int 3) rfl) sim_nil))) (g_name (i := 1))) s_next)
      (s_seq (s_asg (sim_new (sim_sortSet (sim_cons (sim_new (sim_lcR1 (vs := [3]) (is := [3]) (sim_cons (sim_callB (i := 0) (sim_cons (sim_c (v := .int 5) rfl) sim_nil)) sim_nil) (gv_name (by simp)) t_yes (sim_callB (i := 0) (sim_cons (sim_var (i := 1)) sim_nil)) (fun ρ R h => by exact (pcons_len1 h)))) sim_nil))) (g_name (i := 2)))
      (s_seq (s_if (sim_tst (sim_eqD (sim_iic (sim_len (sim_cons (sim_var (i := 2)) sim_nil)) (sim_c (v := .int 2) rfl) fun _ _ => rfl) (sim_c (v := .int 1) rfl))) (s_asg (sim_cut (sim_var (i := 2)) (o_some (sim_c (v := .int 1) rfl)) o_none) (g_name (i := 2))) s_next)
      (s_ret (sim_tup (sim_cons (sim_var (i := 1)) (sim_cons (sim_tuple (sim_cons (sim_var (i := 2)) sim_nil)) (sim_cons (sim_eqD (sim_callB (i := 0) (sim_cons (sim_c (v := .int 2) rfl) sim_nil)) (sim_c (v := .int 1) rfl)) sim_nil))))))))), pure_law_side⟩
theorem ok_law_dayset (T : Tx K mg) (G_law_side : FnOk P w K mg base CX0 2 T.a_law_side T.d_law_side ["box"] (spB K 0 S_law_side)) (G_law_next : FnOk P w K mg base CX0 1 T.a_law_next T.d_law_next ["box", "modulus"] (spB K 1 S_law_next)) : FnOk P w K mg base CX0 3 T.a_law_dayset T.d_law_dayset ["box"] (spB K 0 S_law_dayset) := by
  refine ok_B T.f_law_dayset sc_law_dayset rfl fun cdv A outer s H E hr => ?_
  exact ⟨_, p_law_dayset, (pss_cons (ps_set (i := 1) sc_law_dayset.nd rfl (.inl rfl) (pe_op op_sub (pe_call G_law_next (hr.mono (by decide)) (by rfl) T.m_law_next T.f_law_next.kp T.b_law_next .nil pass0 (pa_cons (pv 0) (pa_cons pe_int pa_nil))) pe_int))
      (pss_cons (ps_set (i := 2) sc_law_dayset.nd rfl (.inl rfl) (pv 1))
      (pss_cons (ps_set (i := 3) sc_law_dayset.nd rfl (.inl rfl) (pe_lst pa_nil))
      (pss_cons (ps_for PassesOwn.never rfl (pi_range1 rfl T.range (pa_cons (pe_call G_law_next (hr.mono (by decide)) (by rfl) T.m_law_next T.f_law_next.kp T.b_law_next .nil pass0 (pa_cons (pv 0) (pa_cons pe_int pa_nil))) pa_nil)) (pg_name (i := 4) sc_law_dayset.nd rfl (.inl rfl)) (pss_cons (ps_set (i := 5) sc_law_dayset.nd rfl (.inl rfl) (pe_op op_plus (pe_op op_plus (pv 2) (pe_call G_law_next (hr.mono (by decide)) (by rfl) T.m_law_next T.f_law_next.kp T.b_law_next .nil pass0 (pa_cons (pv 0) (pa_cons pe_int pa_nil)))) (pe_callTy c_int (by rfl) T.int (by decide +kernel) (pa_cons (pe_cmpR op_gt (pe_callB c_len (by rfl) T.len PySem.boot_len (pa_cons (pv 3) pa_nil)) pe_int (nomark _)) pa_nil))))
      (pss_cons (ps_expr (pe_bm PySem.F.plainAttrs_list PySem.F.slot_list_append PySem.F.type_list_append mt_append (pv 3) (pa_cons (pe_tup (pa_cons (pv 5) (pa_cons (pe_op op_plus (pe_op op_plus (pv 5) pe_int) (pe_call G_law_next (hr.mono (by decide)) (by rfl) T.m_law_next T.f_law_next.kp T.b_law_next .nil pass0 (pa_cons (pv 0) (pa_cons pe_int pa_nil)))) pa_nil))) pa_nil)))
      (pss_one (ps_set (i := 2) sc_law_dayset.nd rfl (.inl rfl) (pe_ix ix_seq (pe_ix ix_seq (pv 3) (pe_un un_neg pe_int) (fun _ _ => rfl)) pe_int (fun _ _ => rfl)))))))
      (pss_cons (ps_set (i := 6) sc_law_dayset.nd rfl (.inl rfl) (pe_call G_law_side (hr.mono (by decide)) (by rfl) T.m_law_side T.f_law_side.kp T.b_law_side .nil pass0 (pa_cons (pv 0) pa_nil)))
      (pss_cons (ps_set (i := 7) sc_law_dayset.nd rfl (.inl rfl) (pe_ifExp (pt_cmpR (op_eqD (hu65 hr)) (pe_call G_law_next (hr.mono (by decide)) (by rfl) T.m_law_next T.f_law_next.kp T.b_law_next .nil pass0 (pa_cons (pv 0) (pa_cons pe_int pa_nil))) pe_int (nomark _)) (pv 6) (pe_call G_law_side (hr.mono (by decide)) (by rfl) T.m_law_side T.f_law_side.kp T.b_law_side .nil pass0 (pa_cons (pv 0) pa_nil))))
      (pss_one (ps_ret (pe_tup (pa_cons (pv 6) (pa_cons (pv 1) (pa_cons (pe_callTy c_tuple (by rfl) T.tuple (by decide +kernel) (pa_cons (pv 3) pa_nil)) (pa_cons (pe_op op_plus (pv 2) (pe_call G_law_next (hr.mono (by decide)) (by rfl) T.m_law_next T.f_law_next.kp T.b_law_next .nil pass0 (pa_cons (pv 0) (pa_cons pe_int pa_nil)))) (pa_cons (pv 7) pa_nil)))))))))))))),
    (s_seq (s_asg (sim_ii (sim_callB (i := 0) (sim_cons (sim_c (v := .int 21) rfl) sim_nil)) (sim_c (v := .int 10) rfl) fun _ _ => rfl) (g_name (i := 1)))
      (s_seq (s_asg (sim_var (i := 1)) (g_name (i := 2)))
      (s_seq (s_asgO (i := 3) (sim_lst sim_nil))
      (s_seq (s_rng1 (sim_cons (sim_callB (i := 0) (sim_cons (sim_c (v := .int 4) rfl) sim_nil)) sim_nil) (g_name (i := 4)) (s_seq (s_asg (sim_plus (sim_plus (sim_var (i := 2)) (sim_callB (i := 0) (sim_cons (sim_c (v := .int 4) rfl) sim_nil))) (sim_int (sim_cons (sim_ii (sim_lenO (i := 3)) (sim_c (v := .int 0) rfl) fun _ _ => rfl) sim_nil))) (g_name (i := 5)))
      (s_seq (s_app (i := 3) (sim_tup (sim_cons (sim_var (i := 5)) (sim_cons (sim_plus (sim_plus (sim_var (i := 5)) (sim_c (v := .int 1) rfl)) (sim_callB (i := 0) (sim_cons (sim_c (v := .int 4) rfl) sim_nil))) sim_nil))))
      (s_asg (sim_ix (sim_ixO (i := 3) (sim_u (sim_c (v := .int 1) rfl) fun _ => rfl)) (sim_c (v := .int 1) rfl)) (g_name (i := 2))))) (fun ρ R h => by exact (pcons_len1 h)))
      (s_seq (s_asg (sim_callB (i := 0) sim_nil) (g_name (i := 6)))
      (s_seq (s_asg (sim_ifE (sim_tst (sim_eqD (sim_callB (i := 0) (sim_cons (sim_c (v := .int 4) rfl) sim_nil)) (sim_c (v := .int 0) rfl))) (sim_var (i := 6)) (sim_callB (i := 0) sim_nil)) (g_name (i := 7)))
      (s_ret (sim_tup (sim_cons (sim_var (i := 6)) (sim_cons (sim_var (i := 1)) (sim_cons (sim_tupO (i := 3)) (sim_cons (sim_plus (sim_var (i := 2)) (sim_callB (i := 0) (sim_cons (sim_c (v := .int 4) rfl) sim_nil))) (sim_cons (sim_var (i := 7)) sim_nil))))))))))))), pure_law_dayset⟩
theorem ok_law_spoilt (T : Tx K mg) (G_law_next : FnOk P w K mg base CX0 1 T.a_law_next T.d_law_next ["box", "modulus"] (spB K 1 S_law_next)) : FnOk P w K mg base CX0 2 T.a_law_spoilt T.d_law_spoilt ["box", "dayset", "place", "low"] (spB K 3 S_law_spoilt) := by
  refine ok_B T.f_law_spoilt sc_law_spoilt rfl fun cdv A outer s H E hr => ?_
  exact ⟨_, p_law_spoilt, (pss_cons (ps_set (i := 4) sc_law_spoilt.nd rfl (.inl rfl) (pe_lst (pa_cons (pe_tup (pa_cons pe_int (pa_cons (pe_tup pa_nil) (pa_cons pe_bl pa_nil)))) (pa_cons (pe_tup (pa_cons pe_int (pa_cons (pe_tup (pa_cons pe_int pa_nil)) (pa_cons pe_bl pa_nil)))) (pa_cons (pe_tup (pa_cons pe_int (pa_cons (pe_tup (pa_cons pe_int (pa_cons pe_int pa_nil))) (pa_cons pe_bl pa_nil)))) (pa_cons (pe_tup (pa_cons pe_int (pa_cons (pe_tup (pa_cons pe_int (pa_cons pe_int pa_nil))) (pa_cons pe_bl pa_nil)))) (pa_cons (pe_tup (pa_cons pe_int (pa_cons (pe_tup (pa_cons pe_int (pa_cons pe_int pa_nil))) (pa_cons pe_bl pa_nil)))) (pa_cons (pe_tup (pa_cons pe_int (pa_cons (pe_tup (pa_cons pe_int (pa_cons pe_int pa_nil))) (pa_cons pe_int pa_nil)))) pa_nil))))))))
      (pss_cons (ps_set (i := 4) sc_law_spoilt.nd rfl (.inl rfl) (pe_op op_plus (pv 4) (pe_lst (pa_cons (pe_tup (pa_cons pe_int (pa_cons (pe_tup pa_nil) (pa_cons pe_non pa_nil)))) (pa_cons (pe_tup (pa_cons pe_bl (pa_cons (pe_tup pa_nil) (pa_cons pe_bl pa_nil)))) (pa_cons (pe_tup (pa_cons pe_int (pa_cons (pe_lst (pa_cons pe_int (pa_cons pe_int pa_nil))) (pa_cons pe_bl pa_nil)))) (pa_cons (pe_tup (pa_cons pe_int (pa_cons (pe_tup (pa_cons pe_int (pa_cons pe_int pa_nil))) pa_nil))) (pa_cons (pe_tup (pa_cons (pe_op op_plus (pe_op op_pow pe_int pe_int) pe_int) (pa_cons (pe_tup pa_nil) (pa_cons pe_bl pa_nil)))) (pa_cons (pe_tup (pa_cons pe_int (pa_cons (pe_tup (pa_cons (pe_un un_neg pe_int) (pa_cons pe_int pa_nil))) (pa_cons pe_bl pa_nil)))) pa_nil)))))))))
      (pss_cons (ps_set (i := 5) sc_law_spoilt.nd rfl (.inl rfl) (pe_lst (pa_cons (pe_tup (pa_cons (pe_tup (pa_cons (pe_op op_sub (pv 3) pe_int) (pa_cons (pe_op op_plus (pv 3) pe_int) pa_nil))) pa_nil)) (pa_cons (pe_tup (pa_cons (pe_tup (pa_cons (pv 3) (pa_cons (pv 3) pa_nil))) pa_nil)) (pa_cons (pe_tup (pa_cons (pe_tup (pa_cons (pe_op op_plus (pv 3) pe_int) (pa_cons (pe_op op_plus (pv 3) pe_int) pa_nil))) (pa_cons (pe_tup (pa_cons (pe_op op_plus (pv 3) pe_int) (pa_cons (pe_op op_plus (pv 3) pe_int) pa_nil))) pa_nil))) (pa_cons (pe_tup (pa_cons (pe_tup (pa_cons (pv 3) (pa_cons (pe_op op_plus (pv 3) pe_int) (pa_cons pe_int pa_nil)))) pa_nil)) (pa_cons (pe_lst pa_nil) (pa_cons (pe_tup (pa_cons (pv 3) pa_nil)) (pa_cons (pe_tup (pa_cons (pe_tup (pa_cons (pe_op op_plus (pv 3) pe_int) (pa_cons (pe_op op_plus (pv 3) pe_int) pa_nil))) pa_nil)) pa_nil)))))))))
      (pss_cons (ps_set (i := 6) sc_law_spoilt.nd rfl (.inl rfl) (pe_ix ix_seq (pe_lst (pa_cons (pv 4) (pa_cons (pe_lst (pa_cons pe_bl (pa_cons (pe_tup (pa_cons pe_int pa_nil)) pa_nil))) (pa_cons (pv 5) (pa_cons (pe_lst (pa_cons (pe_op op_sub (pv 3) pe_int) (pa_cons pe_bl (pa_cons pe_non pa_nil)))) (pa_cons (pv 4) pa_nil)))))) (pv 2) (fun _ _ => rfl)))
      (pss_cons (ps_if (PW.pt (pw_and (pt_cmpR (op_eqD (hu65 hr)) (pv 2) pe_int (nomark _)) (pw_and1 (pt_cmpR op_gt (pe_callB c_len (by rfl) T.len PySem.boot_len (pa_cons (pe_ix ix_seq (pv 1) pe_int (fun _ _ => rfl)) pa_nil)) pe_int (nomark _))))) (pss_one (ps_set (i := 6) sc_law_spoilt.nd rfl (.inl rfl) (pe_op op_plus (pv 6) (pe_lst (pa_cons (pe_op op_sub (pe_ix ix_seq (pe_ix ix_seq (pe_ix ix_seq (pv 1) pe_int (fun _ _ => rfl)) (pe_un un_neg pe_int) (fun _ _ => rfl)) pe_int (fun _ _ => rfl)) pe_int) pa_nil))))) pss_nil)
      (pss_one (ps_ret (pe_op op_plus (pe_op op_plus (pe_slice sl_cut (pv 1) po_none (po_some (pv 2))) (pe_tup (pa_cons (pe_ix ix_seq (pv 6) (pe_call G_law_next (hr.mono (by decide)) (by rfl) T.m_law_next T.f_law_next.kp T.b_law_next .nil pass0 (pa_cons (pv 0) (pa_cons (pe_callB c_len (by rfl) T.len PySem.boot_len (pa_cons (pv 6) pa_nil)) pa_nil))) (fun _ _ => rfl)) pa_nil))) (pe_slice sl_cut (pv 1) (po_some (pe_op op_plus (pv 2) pe_int)) po_none))))))))),
    (s_seq (s_asg (sim_new (sim_lst (sim_cons (sim_tup (sim_cons (sim_c (v := .int 0) rfl) (sim_cons (sim_tup sim_nil) (sim_cons (sim_c (v := .bl false) rfl) sim_nil)))) (sim_cons (sim_tup (sim_cons (sim_c (v := .int 1) rfl) (sim_cons (sim_tup (sim_cons (sim_c (v := .int 0) rfl) sim_nil)) (sim_cons (sim_c (v := .bl false) rfl) sim_nil)))) (sim_cons (sim_tup (sim_cons (sim_c (v := .int 4) rfl) (sim_cons (sim_tup (sim_cons (sim_c (v := .int 1) rfl) (sim_cons (sim_c (v := .int 1) rfl) sim_nil))) (sim_cons (sim_c (v := .bl true) rfl) sim_nil)))) (sim_cons (sim_tup (sim_cons (sim_c (v := .int 4) rfl) (sim_cons (sim_tup (sim_cons (sim_c (v := .int 2) rfl) (sim_cons (sim_c (v := .int 1) rfl) sim_nil))) (sim_cons (sim_c (v := .bl true) rfl) sim_nil)))) (sim_cons (sim_tup (sim_cons (sim_c (v := .int 4) rfl) (sim_cons (sim_tup (sim_cons (sim_c (v := .int 1) rfl) (sim_cons (sim_c (v := .int 4) rfl) sim_nil))) (sim_cons (sim_c (v := .bl true) rfl) sim_nil)))) (sim_cons (sim_tup (sim_cons (sim_c (v := .int 4) rfl) (sim_cons (sim_tup (sim_cons (sim_c (v := .int 1) rfl) (sim_cons (sim_c (v := .int 2) rfl) sim_nil))) (sim_cons (sim_c (v := .int 1) rfl) sim_nil)))) sim_nil)))))))) (g_name (i := 4)))
      (s_seq (s_asg (sim_plus (sim_var (i := 4)) (sim_new (sim_lst (sim_cons (sim_tup (sim_cons (sim_c (v := .int 2) rfl) (sim_cons (sim_tup sim_nil) (sim_cons (sim_c (v := .non) rfl) sim_nil)))) (sim_cons (sim_tup (sim_cons (sim_c (v := .bl true) rfl) (sim_cons (sim_tup sim_nil) (sim_cons (sim_c (v := .bl true) rfl) sim_nil)))) (sim_cons (sim_tup (sim_cons (sim_c (v := .int 4) rfl) (sim_cons (sim_new (sim_lst (sim_cons (sim_c (v := .int 1) rfl) (sim_cons (sim_c (v := .int 2) rfl) sim_nil)))) (sim_cons (sim_c (v := .bl true) rfl) sim_nil)))) (sim_cons (sim_tup (sim_cons (sim_c (v := .int 4) rfl) (sim_cons (sim_tup (sim_cons (sim_c (v := .int 1) rfl) (sim_cons (sim_c (v := .int 2) rfl) sim_nil))) sim_nil))) (sim_cons (sim_tup (sim_cons (sim_plus (sim_iic (sim_c (v := .int 10) rfl) (sim_c (v := .int 12) rfl) fun _ _ => rfl) (sim_c (v := .int 1) rfl)) (sim_cons (sim_tup sim_nil) (sim_cons (sim_c (v := .bl true) rfl) sim_nil)))) (sim_cons (sim_tup (sim_cons (sim_c (v := .int 4) rfl) (sim_cons (sim_tup (sim_cons (sim_u (sim_c (v := .int 1) rfl) fun _ => rfl) (sim_cons (sim_c (v := .int 2) rfl) sim_nil))) (sim_cons (sim_c (v := .bl true) rfl) sim_nil)))) sim_nil))))))))) (g_name (i := 4)))
      (s_seq (s_asg (sim_new (sim_lst (sim_cons (sim_tup (sim_cons (sim_tup (sim_cons (sim_ii (sim_var (i := 3)) (sim_c (v := .int 1) rfl) fun _ _ => rfl) (sim_cons (sim_plus (sim_var (i := 3)) (sim_c (v := .int 1) rfl)) sim_nil))) sim_nil)) (sim_cons (sim_tup (sim_cons (sim_tup (sim_cons (sim_var (i := 3)) (sim_cons (sim_var (i := 3)) sim_nil))) sim_nil)) (sim_cons (sim_tup (sim_cons (sim_tup (sim_cons (sim_plus (sim_var (i := 3)) (sim_c (v := .int 1) rfl)) (sim_cons (sim_plus (sim_var (i := 3)) (sim_c (v := .int 3) rfl)) sim_nil))) (sim_cons (sim_tup (sim_cons (sim_plus (sim_var (i := 3)) (sim_c (v := .int 3) rfl)) (sim_cons (sim_plus (sim_var (i := 3)) (sim_c (v := .int 4) rfl)) sim_nil))) sim_nil))) (sim_cons (sim_tup (sim_cons (sim_tup (sim_cons (sim_var (i := 3)) (sim_cons (sim_plus (sim_var (i := 3)) (sim_c (v := .int 1) rfl)) (sim_cons (sim_c (v := .int 5) rfl) sim_nil)))) sim_nil)) (sim_cons (sim_new (sim_lst sim_nil)) (sim_cons (sim_tup (sim_cons (sim_var (i := 3)) sim_nil)) (sim_cons (sim_tup (sim_cons (sim_tup (sim_cons (sim_plus (sim_var (i := 3)) (sim_c (v := .int 2) rfl)) (sim_cons (sim_plus (sim_var (i := 3)) (sim_c (v := .int 1) rfl)) sim_nil))) sim_nil)) sim_nil))))))))) (g_name (i := 5)))
      (s_seq (s_asg (sim_ix (sim_new (sim_lst (sim_cons (sim_var (i := 4)) (sim_cons (sim_new (sim_lst (sim_cons (sim_c (v := .bl true) rfl) (sim_cons (sim_tup (sim_cons (sim_c (v := .int 3) rfl) sim_nil)) sim_nil)))) (sim_cons (sim_var (i := 5)) (sim_cons (sim_new (sim_lst (sim_cons (sim_ii (sim_var (i := 3)) (sim_c (v := .int 1) rfl) fun _ _ => rfl) (sim_cons (sim_c (v := .bl true) rfl) (sim_cons (sim_c (v := .non) rfl) sim_nil))))) (sim_cons (sim_var (i := 4)) sim_nil))))))) (sim_var (i := 2))) (g_name (i := 6)))
      (s_seq (s_if (sim_and (sim_tst (sim_eqD (sim_var (i := 2)) (sim_c (v := .int 3) rfl))) (sim_tst (sim_ii (sim_len (sim_cons (sim_ix (sim_var (i := 1)) (sim_c (v := .int 2) rfl)) sim_nil)) (sim_c (v := .int 0) rfl) fun _ _ => rfl))) (s_asg (sim_plus (sim_var (i := 6)) (sim_new (sim_lst (sim_cons (sim_ii (sim_ix (sim_ix (sim_ix (sim_var (i := 1)) (sim_c (v := .int 2) rfl)) (sim_u (sim_c (v := .int 1) rfl) fun _ => rfl)) (sim_c (v := .int 1) rfl)) (sim_c (v := .int 1) rfl) fun _ _ => rfl) sim_nil)))) (g_name (i := 6))) s_next)
      (s_ret (sim_plus (sim_plus (sim_cut (sim_var (i := 1)) o_none (o_some (sim_var (i := 2)))) (sim_tup (sim_cons (sim_ix (sim_var (i := 6)) (sim_callB (i := 0) (sim_cons (sim_len (sim_cons (sim_var (i := 6)) sim_nil)) sim_nil))) sim_nil))) (sim_cut (sim_var (i := 1)) (o_some (sim_plus (sim_var (i := 2)) (sim_c (v := .int 1) rfl))) o_none)))))))), pure_law_spoilt⟩
end
end Pr
set_option maxHeartbeats 4000000
namespace Pr
open PySem PySem.Spec PyProof.Rows L2 Pu
abbrev kRow : Key := .inr "row"
abbrev kAt : Key := .inr "at"
theorem row_ne_at : ¬ kRow = kAt := by decide +kernel
theorem val_at {x y : V} : valV [(kRow, x), (kAt, y)] kAt = some y := by
  unfold valV
  rw [List.find?_cons_of_neg (by simpa using row_ne_at), List.find?_cons_of_pos (by simp)]
  rfl
theorem val_row {x y : V} : valV [(kRow, x), (kAt, y)] kRow = some x := by
  unfold valV
  rw [List.find?_cons_of_pos (by simp)]
  rfl
theorem put_at {x y z : V} : putK [(kRow, x), (kAt, y)] kAt z = [(kRow, x), (kAt, z)] := by
  have ne : ¬ ("row" : Str) = "at" := by decide +kernel
  unfold putK
  simp
  intro h
  exact absurd h ne
theorem get_at {H : Hp} {b : Addr} {x y : V} (h : H b = some (.dK [(kRow, x), (kAt, y)])) : DGet H b (.str "at") (some y) := by
  have q := DGet.k (k := kAt) h
  rw [val_at] at q
  exact q
theorem get_row {H : Hp} {b : Addr} {x y : V} (h : H b = some (.dK [(kRow, x), (kAt, y)])) : DGet H b (.str "row") (some x) := by
  have q := DGet.k (k := kRow) h
  rw [val_row] at q
  exact q
theorem mod_at {ns : List Int} {i : Int} (h0 : 0 ≤ i) (h : 0 < ns.length) : ∃ x, x ∈ ns ∧ atI (ns.map V.int) (i % (((ns.map V.int).length : Nat) : Int)) = some (.int x) := by
  rw [List.length_map]
  have a := Int.emod_nonneg i (show ((ns.length : Nat) : Int) ≠ 0 by omega)
  have b := Int.emod_lt_of_pos i (show (0 : Int) < ((ns.length : Nat) : Int) by omega)
  obtain ⟨n, en⟩ : ∃ n : Nat, i % ((ns.length : Nat) : Int) = n := ⟨(i % ((ns.length : Nat) : Int)).toNat, by omega⟩
  have hn : n < ns.length := by omega
  refine ⟨ns[n], List.getElem_mem hn, ?_⟩
  rw [en]
  refine atI_nat ?_
  rw [List.getElem?_map, List.getElem?_eq_getElem hn]
  rfl
section
variable {P : Program} {w : World} {K : PySem.W.Frag} {mg : Str → Option Value} {base : Heap}
theorem ok_law_next (T : Tx K mg) : FnOk P w K mg base CX0 1 T.a_law_next T.d_law_next ["box", "modulus"] (spB K 1 S_law_next) := by
  refine T.f_law_next.ok sc_law_next (fun vs H Q E h => ?_) (fun cdv A outer s H vs Q E hr h => ?_)
  · obtain ⟨b, us, rfl, hl, _⟩ := h
    rw [List.length_cons, hl]
    rfl
  obtain ⟨b, us, rfl, hl, Z, ds, c, nz, hz, ⟨r, rows, at_, hb, h0, hr0, h1, h2, h3⟩, rr, hS, q⟩ := h
  have hd : ∃ m : Int, ds = [.int m] ∧ 0 < m ∧ ∀ v : Int, 0 ≤ v → v < m → c (.int v) := by
    unfold S_law_next at hS
    split at hS
    · exact ⟨_, rfl, hS⟩
    · exact hS.elim
  obtain ⟨m, rfl, m0, hk⟩ := hd
  have eu : us = [.int m] := dqs_of_ints (ns := [m]) rr
  subst eu
  have hu := hu_of hr
  obtain ⟨nr, hrow⟩ := veil_off hr0
  have nrb : r ≠ b := fun e => nr (.inr e)
  obtain ⟨x, hx, hix⟩ := mod_at h0 h1
  refine ⟨_, pss_cons (ps_set (i := 2) sc_law_next.nd rfl (.inl rfl) (pe_dget hu (pv 0) pe_str (fun _ _ => rfl)))
    (pss_cons (ps_dput hu (pv 0) pe_str (pe_op op_add (pv 2) pe_int) rfl)
    (pss_cons (ps_set (i := 3) sc_law_next.nd rfl (.inl rfl) (pe_ix ix_list (pe_dget hu (pv 0) pe_str (fun _ _ => rfl)) (pe_op op_mod (pv 2) (pe_callB call_len_seq (by rfl) T.len PySem.boot_len (pa_cons (pe_dget hu (pv 0) pe_str (fun _ _ => rfl)) pa_nil))) (fun _ _ => rfl)))
    (pss_one (ps_ret (pe_op op_mod (pe_callTy call_int1 (by rfl) T.int (by decide +kernel) (pa_cons (pe_op op_add (pv 3) (pe_op op_mul pe_int (pe_op op_fdiv (pv 2) (pe_callB call_len_seq (by rfl) T.len PySem.boot_len (pa_cons (pe_dget hu (pv 0) pe_str (fun _ _ => rfl)) pa_nil))))) pa_nil)) (pv 1)))))), ?_⟩
  refine ⟨.ref b, rfl, b, .int at_, rfl, get_at hb, ?_⟩
  refine ⟨.int at_, rfl, at_, 1, rfl, rfl, .ref b, rfl, b, _, rfl, DPut.k (k := kAt) hb (by show 2 < sizeLine; decide), ?_⟩
  rw [put_at]
  have hb' : (upd H b (.dK [(kRow, .ref r), (kAt, .int (at_ + 1))])) b = some (.dK [(kRow, .ref r), (kAt, .int (at_ + 1))]) := upd_same
  have hrow' : (upd H b (.dK [(kRow, .ref r), (kAt, .int (at_ + 1))])) r = some (.lst (rows.map V.int)) := by
    rw [upd_ne nrb]
    exact hrow
  have hlen : ((rows.map V.int).length : Int) = (rows.length : Int) := by rw [List.length_map]
  refine ⟨.ref b, rfl, b, .ref r, rfl, get_row hb', .int at_, rfl, .ref b, rfl, b, .ref r, rfl, get_row hb', r, rows.map V.int, rfl, .inl (.of hrow'), at_, _, rfl, rfl, by rw [hlen]; omega, r, rows.map V.int, _, .int x, rfl, rfl, .of hrow', hix, ?_⟩
  refine ⟨.int x, rfl, .int at_, rfl, .ref b, rfl, b, .ref r, rfl, get_row hb', r, rows.map V.int, rfl, .inl (.of hrow'), at_, _, rfl, rfl, ⟨by rw [hlen]; omega, by rw [hlen]; omega⟩, 7919, _, rfl, rfl, .inl ⟨by decide, by decide⟩, x, _, rfl, rfl, .inl ⟨_, rfl, .int m, rfl, _, m, rfl, rfl, m0, ?_⟩⟩
  refine q _ _ _ (hk _ (Int.emod_nonneg _ (by omega)) (Int.emod_lt_of_pos _ m0)) (fun a o ne e => (upd_ne ne).trans e) ⟨r, rows, at_ + 1, upd_same, by omega, ?_, h1, h2, h3⟩ (.int _)
  exact veil_on nr hrow'
/-- the making of the box -/
def spBox (K : PySem.W.Frag) : Sp := fun vs H Q _ => ∃ (a : Addr) (ns : List Int), vs = [.ref a] ∧ SqL K H a (ns.map V.int) ∧ ns.length ≤ 63 ∧
  ∀ b H', Grow H H' → H b = none → BoxAt K (fun x => x = b ∨ H x ≠ none) H' b → Q (.ref b) H'
theorem ok_law_box (T : Tx K mg) (G_law_draws : FnOk P w K mg base CX0 1 T.a_law_draws T.d_law_draws ["cell", "modulus", "count"] (spP K 3 S_law_draws)) : FnOk P w K mg base CX0 2 T.a_law_box T.d_law_box ["script"] (spBox K) := by
  refine T.f_law_box.ok sc_law_box (fun vs H Q E h => ?_) (fun cdv A outer s H vs Q E hr h => ?_)
  · obtain ⟨a, ns, rfl, _⟩ := h
    rfl
  obtain ⟨a, ns, rfl, hS, hl, q⟩ := h
  refine ⟨_, pss_cons (ps_set (i := 1) sc_law_box.nd rfl (.inl rfl) (pe_lst pa_nil))
    (pss_cons (ps_for PassesOwn.never rfl (pi_list (pv 0)) (pg_name (i := 2) sc_law_box.nd rfl (.inl rfl)) (pss_one (ps_set (i := 1) sc_law_box.nd rfl (.inl rfl)
      (pe_op op_cat (pv 1) (pe_call G_law_draws (hr.mono (by decide)) (by rfl) T.m_law_draws T.f_law_draws.kp T.b_law_draws .nil pass0 (pa_cons (pv 2) (pa_cons pe_int (pa_cons pe_int pa_nil))))))))
    (pss_cons (ps_if (pt_cmpR op_eq (pe_callB call_len_seq (by rfl) T.len PySem.boot_len (pa_cons (pv 1) pa_nil)) pe_int (nomark _))
      (pss_one (ps_set (i := 1) sc_law_box.nd rfl (.inl rfl) (pe_lst (pa_cons pe_int (pa_cons pe_int (pa_cons pe_int (pa_cons pe_int (pa_cons pe_int (pa_cons pe_int (pa_cons pe_int pa_nil))))))))))
      pss_nil)
    (pss_one (ps_ret (pe_disp (pps_cons pe_str (pv 1) (pps_cons pe_str pe_int pps_nil)) (by rfl) (by rfl) (fun z => by cases z) (by decide)))))), ?_⟩
  refine ⟨Nat.zero_le _, fun p0 n0 => ?_⟩
  -- the end: the row stands at r
  have last : ∀ (σ : L2.St) (H' : Hp) (r : Addr) (rows : List Int) (y2 : Option V), σ = [some (.ref a), some (.ref r), y2] → Grow H H' → H r = none → H' r = some (.lst (rows.map V.int)) → 0 < rows.length → rows.length ≤ 1000 → (∀ x ∈ rows, 0 ≤ x ∧ x < 1000003) →
      (tRet (tDisp [(tC (.str "row"), tVar 1), (tC (.str "at"), tC (.int 0))])) { nx := fun _ H' => Q .non H', rt := Q } σ H' := fun σ H' r rows y2 eσ g hn hr0 h1 h2 h3 b nb => by
    subst eσ
    have nrb : r ≠ b := ne_of_none hr0 nb
    refine ⟨.ref r, rfl, upd_same, [(kRow, .ref r), (kAt, .int 0)], rfl, by show 2 ≤ 15; decide, ?_⟩
    have em : mergeK [] [(kRow, V.ref r), (kAt, V.int 0)] = [(kRow, .ref r), (kAt, .int 0)] := by
      have ne : ¬ ("row" : Str) = "at" := by decide +kernel
      unfold mergeK
      simp [putK, ne]
    rw [em, upd_upd]
    refine q b _ (g.trans (grow_new nb)) ?_ ⟨r, rows, 0, upd_same, Int.le_refl _, ?_, h1, h2, h3⟩
    · cases e : H b with
      | none => rfl
      | some o =>
        rw [g b o e] at nb
        cases nb
    · refine veil_on ?_ ?_
      · rintro (e | e)
        · exact nrb e
        · exact e hn
      · rw [upd_ne nrb]
        exact hr0
  refine ⟨.ref a, rfl, a, rfl, ⟨_, grow_l (grow_new n0) hS⟩, for_list (xs := ns.map V.int) (fun i σ H' => ∃ (r : Addr) (rows : List Int) (y2 : Option V), σ = [some (.ref a), some (.ref r), y2] ∧ Grow H H' ∧ H r = none ∧ H' r = some (.lst (rows.map V.int)) ∧ rows.length = 6 * i ∧ ∀ x ∈ rows, 0 ≤ x ∧ x < 1000003)
    ⟨p0, [], none, rfl, grow_new n0, n0, upd_same, rfl, fun _ z => nomatch z⟩ (fun i σ H' _ ⟨_, _, _, _, g, _⟩ => grow_l g hS) (fun i x σ H' hx ⟨r, rows, y2, eσ, g, hn, hr0, hlen, hb⟩ => ?_) fun σ H' ⟨r, rows, y2, eσ, g, hn, hr0, hlen, hb⟩ => ?_⟩
  · subst eσ
    have hi : i < ns.length := by
      have := (List.getElem?_eq_some_iff.mp hx).1
      rwa [List.length_map] at this
    obtain ⟨n, rfl⟩ : ∃ n : Int, x = .int n := by
      rw [List.getElem?_map, List.getElem?_eq_getElem hi] at hx
      exact ⟨_, (Option.some.inj hx).symm⟩
    refine ⟨.ref r, rfl, .int n, rfl, ?_⟩
    refine ⟨rfl, fun _ => False, [.int n, .int 1000003, .int 6], fun d => ∃ ds : List Int, d = .list (ds.map PyData.int) ∧ ds.length = 6 ∧ ∀ x ∈ ds, 0 ≤ x ∧ x < 1000003, fun _ z => z.elim, dqs_ints (ns := [n, 1000003, 6]),
      ⟨by decide, by decide, by decide, by decide, fun ds h1 h2 => ⟨ds, rfl, h1, h2⟩⟩, ?_⟩
    rintro d v H1 ⟨ds, rfl, l6, b6⟩ g1 dv
    cases dv with
    | @lst u us _ hu ru =>
      have eu := dqs_of_ints ru
      subst eu
      have hu := veil_grow _ _ _ _ hu
      refine ⟨r, u, rows.map V.int, ds.map V.int, rfl, rfl, g1 _ _ hr0, hu, sz5 (by rw [List.length_map, List.length_map]; omega), fun p hp => ?_⟩
      have gh : Grow H H1 := g.trans g1
      refine ⟨p, rows ++ ds, some (.int n), rfl, gh.trans (grow_new hp), ?_, ?_, by rw [List.length_append]; omega, fun x hx => ?_⟩
      · cases e : H p with
        | none => rfl
        | some o =>
          rw [gh p o e] at hp
          cases hp
      · rw [upd_same, List.map_append]
      · rcases List.mem_append.mp hx with hx | hx
        · exact hb x hx
        · exact b6 x hx
  · subst eσ
    rw [List.length_map] at hlen
    refine ⟨.ref r, rfl, r, _, rfl, .inl (.of hr0), rfl, _, rfl, ite2 (fun e => ?_) (fun e => ?_)⟩
    · refine ⟨by show 7 ≤ sizeLine; decide, fun p hp => ?_⟩
      refine last _ _ p [11, 5, 2, 7, 31, 101, 997] y2 rfl (g.trans (grow_new hp)) ?_ upd_same (by decide) (by decide) (by decide)
      cases e : H p with
      | none => rfl
      | some o =>
        rw [g p o e] at hp
        cases hp
    · refine last _ _ r rows y2 rfl g hn hr0 ?_ (by omega) hb
      refine Nat.pos_of_ne_zero fun z => e ?_
      rw [List.length_map, z]
      exact decide_eq_true rfl
end
end Pr
set_option maxHeartbeats 4000000
namespace Pr
open PySem PySem.Spec PyProof.Rows L2 Pu
def spLaw (K : PySem.W.Frag) : Sp := fun vs H Q _ => ∃ (a : Addr) (ns : List Int), vs = [.ref a] ∧ SqL K H a (ns.map V.int) ∧ ns.length ≤ 63 ∧ ∀ H', Q (.bl true) H'
section
variable {P : Program} {w : World} {K : PySem.W.Frag} {mg : Str → Option Value} {base : Heap}
theorem ok_law (T : Tx K mg) (G_law_box : FnOk P w K mg base CX0 2 T.a_law_box T.d_law_box ["script"] (spBox K)) (G_law_dayset : FnOk P w K mg base CX0 3 T.a_law_dayset T.d_law_dayset ["box"] (spB K 0 S_law_dayset)) (G_law_next : FnOk P w K mg base CX0 1 T.a_law_next T.d_law_next ["box", "modulus"] (spB K 1 S_law_next)) (G_law_spoilt : FnOk P w K mg base CX0 2 T.a_law_spoilt T.d_law_spoilt ["box", "dayset", "place", "low"] (spB K 3 S_law_spoilt)) (G_dayset_fault : FnOk P w K mg base CX0 4 T.a_dayset_fault T.d_dayset_fault ["dayset"] (spP K 1 S_dayset_fault)) : FnOk P w K mg base CX0 5 T.a_law T.d_law ["script"] (spLaw K) := by
  refine T.f_law.ok sc_law (fun vs H Q E h => ?_) (fun cdv A outer s H vs Q E hr h => ?_)
  · obtain ⟨a, ns, rfl, _⟩ := h
    rfl
  obtain ⟨a, ns, rfl, hS, hl, q⟩ := h
  have rest : ∃ t, PSs (cxOf CX0 P w K mg base N_law "law" (defScope s_law) T.a_law cdv A outer s H E).nox (defBody s_law).tail t ∧ SimS K t p_law := ⟨_, (pss_cons (ps_set (i := 2) sc_law.nd rfl (.inl rfl) (pe_lst (pa_cons pe_str (pa_cons pe_str (pa_cons pe_str (pa_cons pe_str (pa_cons pe_str pa_nil)))))))
      (pss_cons (ps_if (PW.pt (pw_or (pt_cmpR op_notN1 (pe_call G_dayset_fault (hr.mono (by decide)) (by rfl) T.m_dayset_fault T.f_dayset_fault.kp T.b_dayset_fault .nil pass0 (pa_cons (pe_glob rfl T.m_ALL T.r_ALL) pa_nil)) pe_non (nomark _)) (pw_or1 (pt_cmpR op_notN1 (pe_call G_dayset_fault (hr.mono (by decide)) (by rfl) T.m_dayset_fault T.f_dayset_fault.kp T.b_dayset_fault .nil pass0 (pa_cons (pe_glob rfl T.m_EMPTY T.r_EMPTY) pa_nil)) pe_non (nomark _))))) (pss_one (ps_ret pe_bl)) pss_nil)
      (pss_cons (ps_for PassesOwn.never rfl (pi_range1 rfl T.range (pa_cons pe_int pa_nil)) (pg_name (i := 3) sc_law.nd rfl (.inl rfl)) (pss_cons (ps_set (i := 4) sc_law.nd rfl (.inl rfl) (pe_call G_law_dayset (hr.mono (by decide)) (by rfl) T.m_law_dayset T.f_law_dayset.kp T.b_law_dayset .nil pass0 (pa_cons (pv 1) pa_nil)))
      (pss_cons (ps_if (pt_cmpR op_notN1 (pe_call G_dayset_fault (hr.mono (by decide)) (by rfl) T.m_dayset_fault T.f_dayset_fault.kp T.b_dayset_fault .nil pass0 (pa_cons (pv 4) pa_nil)) pe_non (nomark _)) (pss_one (ps_ret pe_bl)) pss_nil)
      (pss_cons (ps_set (i := 5) sc_law.nd rfl (.inl rfl) (pe_call G_law_next (hr.mono (by decide)) (by rfl) T.m_law_next T.f_law_next.kp T.b_law_next .nil pass0 (pa_cons (pv 1) (pa_cons pe_int pa_nil))))
      (pss_cons (ps_set (i := 6) sc_law.nd rfl (.inl rfl) (pe_call G_law_spoilt (hr.mono (by decide)) (by rfl) T.m_law_spoilt T.f_law_spoilt.kp T.b_law_spoilt .nil pass0 (pa_cons (pv 1) (pa_cons (pv 4) (pa_cons (pv 5) (pa_cons (pe_ix ix_seq (pv 4) pe_int (fun _ _ => rfl)) pa_nil))))))
      (pss_cons (ps_if (pt_cmpR (op_neD (hu65 hr)) (pe_call G_dayset_fault (hr.mono (by decide)) (by rfl) T.m_dayset_fault T.f_dayset_fault.kp T.b_dayset_fault .nil pass0 (pa_cons (pv 6) pa_nil)) (pe_ix ix_seq (pv 2) (pv 5) (fun _ _ => rfl)) (nomark _)) (pss_one (ps_ret pe_bl)) pss_nil)
      (pss_cons (ps_if (PW.pt (pw_and (pt_cmpR op_in_seq (pv 5) (pe_tup (pa_cons pe_int (pa_cons pe_int (pa_cons pe_int pa_nil)))) (by rfl)) (pw_and1 (pt_cmpR (op_neD (hu65 hr)) (pe_call G_dayset_fault (hr.mono (by decide)) (by rfl) T.m_dayset_fault T.f_dayset_fault.kp T.b_dayset_fault .nil pass0 (pa_cons (pe_call G_law_spoilt (hr.mono (by decide)) (by rfl) T.m_law_spoilt T.f_law_spoilt.kp T.b_law_spoilt .nil pass0 (pa_cons (pv 1) (pa_cons (pv 6) (pa_cons pe_int (pa_cons (pe_ix ix_seq (pv 4) pe_int (fun _ _ => rfl)) pa_nil))))) pa_nil)) (pe_ix ix_seq (pv 2) (pv 5) (fun _ _ => rfl)) (nomark _))))) (pss_one (ps_ret pe_bl)) pss_nil)
      (pss_one (ps_if (PW.pt (pw_and (pt_cmpR (op_eqD (hu65 hr)) (pv 5) pe_int (nomark _)) (pw_and1 (pt_cmpR (op_neD (hu65 hr)) (pe_call G_dayset_fault (hr.mono (by decide)) (by rfl) T.m_dayset_fault T.f_dayset_fault.kp T.b_dayset_fault .nil pass0 (pa_cons (pe_call G_law_spoilt (hr.mono (by decide)) (by rfl) T.m_law_spoilt T.f_law_spoilt.kp T.b_law_spoilt .nil pass0 (pa_cons (pv 1) (pa_cons (pv 6) (pa_cons pe_int (pa_cons (pe_ix ix_seq (pv 4) pe_int (fun _ _ => rfl)) pa_nil))))) pa_nil)) pe_str (nomark _))))) (pss_one (ps_ret pe_bl)) pss_nil)))))))))
      (pss_one (ps_ret pe_bl))))),
    (s_seq (s_asg (sim_new (sim_lst (sim_cons (sim_c (v := .str (Str.ofString "left")) rfl) (sim_cons (sim_c (v := .str (Str.ofString "low")) rfl) (sim_cons (sim_c (v := .str (Str.ofString "runs")) rfl) (sim_cons (sim_c (v := .str (Str.ofString "high")) rfl) (sim_cons (sim_c (v := .str (Str.ofString "right")) rfl) sim_nil))))))) (g_name (i := 2)))
      (s_seq (s_if (sim_or (sim_tst (sim_notN (sim_call (sim_cons (sim_k T.q_ALL) sim_nil)))) (sim_tst (sim_notN (sim_call (sim_cons (sim_k T.q_EMPTY) sim_nil))))) (s_ret (sim_c (v := .bl false) rfl)) s_next)
      (s_seq (s_rng1 (sim_cons (sim_c (v := .int 4) rfl) sim_nil) (g_name (i := 3)) (s_seq (s_asg (sim_callB (i := 1) sim_nil) (g_name (i := 4)))
      (s_seq (s_if (sim_tst (sim_notN (sim_call (sim_cons (sim_var (i := 4)) sim_nil)))) (s_ret (sim_c (v := .bl false) rfl)) s_next)
      (s_seq (s_asg (sim_callB (i := 1) (sim_cons (sim_c (v := .int 5) rfl) sim_nil)) (g_name (i := 5)))
      (s_seq (s_asg (sim_callB (i := 1) (sim_cons (sim_var (i := 4)) (sim_cons (sim_var (i := 5)) (sim_cons (sim_ix (sim_var (i := 4)) (sim_c (v := .int 1) rfl)) sim_nil)))) (g_name (i := 6)))
      (s_seq (s_if (sim_tst (sim_neD (sim_call (sim_cons (sim_var (i := 6)) sim_nil)) (sim_ix (sim_var (i := 2)) (sim_var (i := 5))))) (s_ret (sim_c (v := .bl false) rfl)) s_next)
      (s_seq (s_if (sim_and (sim_tst (sim_inD (sim_var (i := 5)) (sim_tup (sim_cons (sim_c (v := .int 0) rfl) (sim_cons (sim_c (v := .int 1) rfl) (sim_cons (sim_c (v := .int 2) rfl) sim_nil)))))) (sim_tst (sim_neD (sim_call (sim_cons (sim_callB (i := 1) (sim_cons (sim_var (i := 6)) (sim_cons (sim_c (v := .int 4) rfl) (sim_cons (sim_ix (sim_var (i := 4)) (sim_c (v := .int 1) rfl)) sim_nil)))) sim_nil)) (sim_ix (sim_var (i := 2)) (sim_var (i := 5)))))) (s_ret (sim_c (v := .bl false) rfl)) s_next)
      (s_if (sim_and (sim_tst (sim_eqD (sim_var (i := 5)) (sim_c (v := .int 4) rfl))) (sim_tst (sim_neD (sim_call (sim_cons (sim_callB (i := 1) (sim_cons (sim_var (i := 6)) (sim_cons (sim_c (v := .int 0) rfl) (sim_cons (sim_ix (sim_var (i := 4)) (sim_c (v := .int 1) rfl)) sim_nil)))) sim_nil)) (sim_c (v := .str (Str.ofString "left")) rfl)))) (s_ret (sim_c (v := .bl false) rfl)) s_next))))))) (fun ρ R h => by exact (pcons_len1 h)))
      (s_ret (sim_c (v := .bl true) rfl)))))⟩
  obtain ⟨t, ht, hs⟩ := rest
  refine ⟨_, pss_cons (ps_set (i := 1) sc_law.nd rfl (.inl rfl) (pe_call G_law_box (hr.mono (by decide)) (by rfl) T.m_law_box T.f_law_box.kp T.b_law_box .nil pass0 (pa_cons (pv 0) pa_nil))) ht, ?_⟩
  refine ⟨.ref a, rfl, a, ns, rfl, hS, hl, fun b H' g nb hb => ?_⟩
  have hB : BoxAt K (hid (fun _ => False) fun i => if i = 1 then some b else none) H' b := by
    obtain ⟨r, rows, at_, h, h0, hr0, h1, h2, h3⟩ := hb
    refine ⟨r, rows, at_, h, h0, veil_less ?_ _ _ hr0, h1, h2, h3⟩
    rintro x (z | ⟨i, m⟩)
    · exact z.elim
    · have m : (if i = 1 then some b else none) = some x := m
      by_cases e : i = 1
      · rw [if_pos e] at m
        exact .inl (Option.some.inj m).symm
      · rw [if_neg e] at m
        cases m
  have hb0 : H' b ≠ none := by
    obtain ⟨r, rows, at_, h, _⟩ := hB
    rw [h]
    intro z; cases z
  refine hs (fun _ => False) (fun _ => False) (fun _ => none) (fun _ => none) (fun i => if i = 1 then some b else none) _ H' [.no, .box, .no, .no, .no, .no, .no] _ finL ?_ pure_law ?_
  · refine ⟨rfl, fun i j l h1 h2 => ?_, fun i l h => ?_, fun _ _ _ z => z, fun _ z => z.elim, fun _ _ _ z => (nomatch z), fun _ _ _ => .inr rfl, fun _ z => z.elim, fun _ _ z => (nomatch z), fun i c hc => ?_⟩
    · by_cases ei : i = 1
      · by_cases ej : j = 1
        · rw [ei, ej]
        · rw [if_neg ej] at h2; cases h2
      · rw [if_neg ei] at h1; cases h1
    · by_cases ei : i = 1
      · rw [if_pos ei] at h; cases h; exact hb0
      · rw [if_neg ei] at h; cases h
    · match i, hc with
      | 1, hc =>
        cases hc
        exact ⟨b, rfl, rfl, hB⟩
      | 0, hc => cases hc; trivial
      | 2, hc => cases hc; trivial
      | 3, hc => cases hc; trivial
      | 4, hc => cases hc; trivial
      | 5, hc => cases hc; trivial
      | 6, hc => cases hc; trivial
      | _ + 7, hc => simp at hc
  · exact ⟨fun _ _ _ _ _ z => z.elim, fun _ _ _ _ _ z => z.elim, fun _ _ _ _ _ z => z.elim, fun M σ H ρ v d _ e dv => by
      have e : d = .bool true := e
      subst e
      rw [of_bl dv]
      exact q H⟩
end
/-! ### what the top has written -/
theorem all_mk {l : PySem.W.OpenLaw} {w : World} {K : PySem.W.Frag} {h : Heap} {mg : Str → Option Value} {fa : Addr} (X : K.In h) (G : h.Ns mainGlobals mg) (hfa : mg "law" = some (.ref fa))
    {f0 : Addr} {od0 an0 : Option Addr} {sl0 : Array (Option Value)} {oc0 kV0 dc0 pm0 cd0 ct0 : Value}
    {f1 : Addr} {od1 an1 : Option Addr} {sl1 : Array (Option Value)} {oc1 kV1 dc1 pm1 cd1 ct1 : Value}
    {f2 : Addr} {od2 an2 : Option Addr} {sl2 : Array (Option Value)} {oc2 kV2 dc2 pm2 cd2 ct2 : Value}
    {f3 : Addr} {od3 an3 : Option Addr} {sl3 : Array (Option Value)} {oc3 kV3 dc3 pm3 cd3 ct3 : Value}
    {f4 : Addr} {od4 an4 : Option Addr} {sl4 : Array (Option Value)} {oc4 kV4 dc4 pm4 cd4 ct4 : Value}
    {f5 : Addr} {od5 an5 : Option Addr} {sl5 : Array (Option Value)} {oc5 kV5 dc5 pm5 cd5 ct5 : Value}
    {f6 : Addr} {od6 an6 : Option Addr} {sl6 : Array (Option Value)} {oc6 kV6 dc6 pm6 cd6 ct6 : Value}
    {f7 : Addr} {od7 an7 : Option Addr} {sl7 : Array (Option Value)} {oc7 kV7 dc7 pm7 cd7 ct7 : Value}
    {f8 : Addr} {od8 an8 : Option Addr} {sl8 : Array (Option Value)} {oc8 kV8 dc8 pm8 cd8 ct8 : Value}
    {f9 : Addr} {od9 an9 : Option Addr} {sl9 : Array (Option Value)} {oc9 kV9 dc9 pm9 cd9 ct9 : Value}
    {f10 : Addr} {od10 an10 : Option Addr} {sl10 : Array (Option Value)} {oc10 kV10 dc10 pm10 cd10 ct10 : Value}
    {f11 : Addr} {od11 an11 : Option Addr} {sl11 : Array (Option Value)} {oc11 kV11 dc11 pm11 cd11 ct11 : Value}
    {f12 : Addr} {od12 an12 : Option Addr} {sl12 : Array (Option Value)} {oc12 kV12 dc12 pm12 cd12 ct12 : Value}
    {f13 : Addr} {od13 an13 : Option Addr} {sl13 : Array (Option Value)} {oc13 kV13 dc13 pm13 cd13 ct13 : Value}
    {f14 : Addr} {od14 an14 : Option Addr} {sl14 : Array (Option Value)} {oc14 kV14 dc14 pm14 cd14 ct14 : Value}
    {t0 : Tok}
    {e1 : Addr} {ed1 : Option Addr} {en1 : Nat} {es1 : Array (Option Value)}
    {e2 : Addr} {ed2 : Option Addr} {en2 : Nat} {es2 : Array (Option Value)}
    {t3 : Tok}
    {e4 : Addr} {ed4 : Option Addr} {en4 : Nat} {es4 : Array (Option Value)}
    {t5 : Tok}
    {t6 : Tok}
    {e7 : Addr} {ed7 : Option Addr} {en7 : Nat} {es7 : Array (Option Value)}
    {e8 : Addr} {ed8 : Option Addr} {en8 : Nat} {es8 : Array (Option Value)}
    {e9 : Addr} {ed9 : Option Addr} {en9 : Nat} {es9 : Array (Option Value)}
    {t10 : Tok}
    {e11 : Addr} {ed11 : Option Addr} {en11 : Nat} {es11 : Array (Option Value)}
    {e12 : Addr} {ed12 : Option Addr} {en12 : Nat} {es12 : Array (Option Value)}
    {t13 : Tok}
    {e14 : Addr} {ed14 : Option Addr} {en14 : Nat} {es14 : Array (Option Value)}
    {t15 : Tok}
    {t16 : Tok}
    {e17 : Addr} {ed17 : Option Addr} {en17 : Nat} {es17 : Array (Option Value)}
    {e18 : Addr} {ed18 : Option Addr} {en18 : Nat} {es18 : Array (Option Value)}
    {e19 : Addr} {ed19 : Option Addr} {en19 : Nat} {es19 : Array (Option Value)}
    {t20 : Tok}
    {t21 : Tok}
    (a0 : PySem.W.nsIn K mainGlobals "is_whole" = some (some (.ref f0)))
    (l0 : K.lookup f0 = some ⟨oc0, od0, .func (PySem.W.fnOf "is_whole" "is_whole" (defArgs s_is_whole) (defBody s_is_whole) (defScope s_is_whole) .none kV0 dc0 pm0 an0 cd0 ct0), sl0⟩)
    (c0 : PySem.W.codeIn K cd0 "is_whole" = true)
    (k0 : PySem.W.keepIn K (.ref f0) = true)
    (a1 : PySem.W.nsIn K mainGlobals "is_from_to" = some (some (.ref f1)))
    (l1 : K.lookup f1 = some ⟨oc1, od1, .func (PySem.W.fnOf "is_from_to" "is_from_to" (defArgs s_is_from_to) (defBody s_is_from_to) (defScope s_is_from_to) .none kV1 dc1 pm1 an1 cd1 ct1), sl1⟩)
    (c1 : PySem.W.codeIn K cd1 "is_from_to" = true)
    (k1 : PySem.W.keepIn K (.ref f1) = true)
    (a2 : PySem.W.nsIn K mainGlobals "is_flag" = some (some (.ref f2)))
    (l2 : K.lookup f2 = some ⟨oc2, od2, .func (PySem.W.fnOf "is_flag" "is_flag" (defArgs s_is_flag) (defBody s_is_flag) (defScope s_is_flag) .none kV2 dc2 pm2 an2 cd2 ct2), sl2⟩)
    (c2 : PySem.W.codeIn K cd2 "is_flag" = true)
    (k2 : PySem.W.keepIn K (.ref f2) = true)
    (a3 : PySem.W.nsIn K mainGlobals "is_tuple" = some (some (.ref f3)))
    (l3 : K.lookup f3 = some ⟨oc3, od3, .func (PySem.W.fnOf "is_tuple" "is_tuple" (defArgs s_is_tuple) (defBody s_is_tuple) (defScope s_is_tuple) .none kV3 dc3 pm3 an3 cd3 ct3), sl3⟩)
    (c3 : PySem.W.codeIn K cd3 "is_tuple" = true)
    (k3 : PySem.W.keepIn K (.ref f3) = true)
    (a4 : PySem.W.nsIn K mainGlobals "is_tuple_of" = some (some (.ref f4)))
    (l4 : K.lookup f4 = some ⟨oc4, od4, .func (PySem.W.fnOf "is_tuple_of" "is_tuple_of" (defArgs s_is_tuple_of) (defBody s_is_tuple_of) (defScope s_is_tuple_of) .none kV4 dc4 pm4 an4 cd4 ct4), sl4⟩)
    (c4 : PySem.W.codeIn K cd4 "is_tuple_of" = true)
    (k4 : PySem.W.keepIn K (.ref f4) = true)
    (a5 : PySem.W.nsIn K mainGlobals "is_side" = some (some (.ref f5)))
    (l5 : K.lookup f5 = some ⟨oc5, od5, .func (PySem.W.fnOf "is_side" "is_side" (defArgs s_is_side) (defBody s_is_side) (defScope s_is_side) .none kV5 dc5 pm5 an5 cd5 ct5), sl5⟩)
    (c5 : PySem.W.codeIn K cd5 "is_side" = true)
    (k5 : PySem.W.keepIn K (.ref f5) = true)
    (a6 : PySem.W.nsIn K mainGlobals "dayset_fault" = some (some (.ref f6)))
    (l6 : K.lookup f6 = some ⟨oc6, od6, .func (PySem.W.fnOf "dayset_fault" "dayset_fault" (defArgs s_dayset_fault) (defBody s_dayset_fault) (defScope s_dayset_fault) .none kV6 dc6 pm6 an6 cd6 ct6), sl6⟩)
    (c6 : PySem.W.codeIn K cd6 "dayset_fault" = true)
    (k6 : PySem.W.keepIn K (.ref f6) = true)
    (a7 : PySem.W.nsIn K mainGlobals "_are_runs" = some (some (.ref f7)))
    (l7 : K.lookup f7 = some ⟨oc7, od7, .func (PySem.W.fnOf "_are_runs" "_are_runs" (defArgs s_are_runs) (defBody s_are_runs) (defScope s_are_runs) .none kV7 dc7 pm7 an7 cd7 ct7), sl7⟩)
    (c7 : PySem.W.codeIn K cd7 "_are_runs" = true)
    (k7 : PySem.W.keepIn K (.ref f7) = true)
    (a8 : PySem.W.nsIn K mainGlobals "_law_draws" = some (some (.ref f8)))
    (l8 : K.lookup f8 = some ⟨oc8, od8, .func (PySem.W.fnOf "_law_draws" "_law_draws" (defArgs s_law_draws) (defBody s_law_draws) (defScope s_law_draws) .none kV8 dc8 pm8 an8 cd8 ct8), sl8⟩)
    (c8 : PySem.W.codeIn K cd8 "_law_draws" = true)
    (k8 : PySem.W.keepIn K (.ref f8) = true)
    (a9 : PySem.W.nsIn K mainGlobals "_law_box" = some (some (.ref f9)))
    (l9 : K.lookup f9 = some ⟨oc9, od9, .func (PySem.W.fnOf "_law_box" "_law_box" (defArgs s_law_box) (defBody s_law_box) (defScope s_law_box) .none kV9 dc9 pm9 an9 cd9 ct9), sl9⟩)
    (c9 : PySem.W.codeIn K cd9 "_law_box" = true)
    (k9 : PySem.W.keepIn K (.ref f9) = true)
    (a10 : PySem.W.nsIn K mainGlobals "_law_next" = some (some (.ref f10)))
    (l10 : K.lookup f10 = some ⟨oc10, od10, .func (PySem.W.fnOf "_law_next" "_law_next" (defArgs s_law_next) (defBody s_law_next) (defScope s_law_next) .none kV10 dc10 pm10 an10 cd10 ct10), sl10⟩)
    (c10 : PySem.W.codeIn K cd10 "_law_next" = true)
    (k10 : PySem.W.keepIn K (.ref f10) = true)
    (a11 : PySem.W.nsIn K mainGlobals "_law_side" = some (some (.ref f11)))
    (l11 : K.lookup f11 = some ⟨oc11, od11, .func (PySem.W.fnOf "_law_side" "_law_side" (defArgs s_law_side) (defBody s_law_side) (defScope s_law_side) .none kV11 dc11 pm11 an11 cd11 ct11), sl11⟩)
    (c11 : PySem.W.codeIn K cd11 "_law_side" = true)
    (k11 : PySem.W.keepIn K (.ref f11) = true)
    (a12 : PySem.W.nsIn K mainGlobals "_law_dayset" = some (some (.ref f12)))
    (l12 : K.lookup f12 = some ⟨oc12, od12, .func (PySem.W.fnOf "_law_dayset" "_law_dayset" (defArgs s_law_dayset) (defBody s_law_dayset) (defScope s_law_dayset) .none kV12 dc12 pm12 an12 cd12 ct12), sl12⟩)
    (c12 : PySem.W.codeIn K cd12 "_law_dayset" = true)
    (k12 : PySem.W.keepIn K (.ref f12) = true)
    (a13 : PySem.W.nsIn K mainGlobals "_law_spoilt" = some (some (.ref f13)))
    (l13 : K.lookup f13 = some ⟨oc13, od13, .func (PySem.W.fnOf "_law_spoilt" "_law_spoilt" (defArgs s_law_spoilt) (defBody s_law_spoilt) (defScope s_law_spoilt) .none kV13 dc13 pm13 an13 cd13 ct13), sl13⟩)
    (c13 : PySem.W.codeIn K cd13 "_law_spoilt" = true)
    (k13 : PySem.W.keepIn K (.ref f13) = true)
    (a14 : PySem.W.nsIn K mainGlobals "law" = some (some (.ref f14)))
    (l14 : K.lookup f14 = some ⟨oc14, od14, .func (PySem.W.fnOf "law" "law" (defArgs s_law) (defBody s_law) (defScope s_law) .none kV14 dc14 pm14 an14 cd14 ct14), sl14⟩)
    (c14 : PySem.W.codeIn K cd14 "law" = true)
    (k14 : PySem.W.keepIn K (.ref f14) = true)
    (z_int : PySem.W.nsIn K mainGlobals "int" = some none)
    (z_len : PySem.W.nsIn K mainGlobals "len" = some none)
    (z_range : PySem.W.nsIn K mainGlobals "range" = some none)
    (z_set : PySem.W.nsIn K mainGlobals "set" = some none)
    (z_sorted : PySem.W.nsIn K mainGlobals "sorted" = some none)
    (z_tuple : PySem.W.nsIn K mainGlobals "tuple" = some none)
    (z_type : PySem.W.nsIn K mainGlobals "type" = some none)
    (s_c_ALL : PySem.W.nsIn K mainGlobals "ALL" = some (some (.ref e9)))
    (g9 : K.lookup e9 = some { cls := .type "tuple", dict := ed9, data := .seq #[.ref e2, .int 0 t3, .ref e4, .int 0 t5, .ref e8] en9, slots := es9 })
    (g8 : K.lookup e8 = some { cls := .type "tuple", dict := ed8, data := .seq #[.int 1 t6, .ref e7, .bool true] en8, slots := es8 })
    (g7 : K.lookup e7 = some { cls := .type "tuple", dict := ed7, data := .seq #[] en7, slots := es7 })
    (g4 : K.lookup e4 = some { cls := .type "tuple", dict := ed4, data := .seq #[] en4, slots := es4 })
    (g2 : K.lookup e2 = some { cls := .type "tuple", dict := ed2, data := .seq #[.int 1 t0, .ref e1, .bool true] en2, slots := es2 })
    (g1 : K.lookup e1 = some { cls := .type "tuple", dict := ed1, data := .seq #[] en1, slots := es1 })
    (s_c_EMPTY : PySem.W.nsIn K mainGlobals "EMPTY" = some (some (.ref e19)))
    (g19 : K.lookup e19 = some { cls := .type "tuple", dict := ed19, data := .seq #[.ref e12, .int 0 t13, .ref e14, .int 0 t15, .ref e18] en19, slots := es19 })
    (g18 : K.lookup e18 = some { cls := .type "tuple", dict := ed18, data := .seq #[.int 1 t16, .ref e17, .bool false] en18, slots := es18 })
    (g17 : K.lookup e17 = some { cls := .type "tuple", dict := ed17, data := .seq #[] en17, slots := es17 })
    (g14 : K.lookup e14 = some { cls := .type "tuple", dict := ed14, data := .seq #[] en14, slots := es14 })
    (g12 : K.lookup e12 = some { cls := .type "tuple", dict := ed12, data := .seq #[.int 1 t10, .ref e11, .bool false] en12, slots := es12 })
    (g11 : K.lookup e11 = some { cls := .type "tuple", dict := ed11, data := .seq #[] en11, slots := es11 })
    (s_c_GREATEST_PERIOD : PySem.W.nsIn K mainGlobals "GREATEST_PERIOD" = some (some (.int 1000000000000 t20)))
    (s_c_MOST_BORDERS : PySem.W.nsIn K mainGlobals "MOST_BORDERS" = some (some (.int 40000 t21))) :
    ∃ fd : FuncData, (∀ (s : Shared) (v : Value), BindsTo s fd ⟨[v], []⟩ [("script", v)]) ∧ ∀ base : Heap, K.In base → base.Ns mainGlobals mg → FnOk l.prog w K mg base CX0 5 fa fd ["script"] (spLaw K) := by
  have e := hfa.symm.trans (PySem.W.mg_of X G a14)
  cases e
  have F0 := fun_mk (st := s_is_whole) l0 c0 k0
  have B0 := F0.binds (ps := ["value"]) fun _ _ _ _ _ _ us hl => match us, hl with | [_], _ => rfl
  have F1 := fun_mk (st := s_is_from_to) l1 c1 k1
  have B1 := F1.binds (ps := ["value", "low", "high"]) fun _ _ _ _ _ _ us hl => match us, hl with | [_, _, _], _ => rfl
  have F2 := fun_mk (st := s_is_flag) l2 c2 k2
  have B2 := F2.binds (ps := ["value"]) fun _ _ _ _ _ _ us hl => match us, hl with | [_], _ => rfl
  have F3 := fun_mk (st := s_is_tuple) l3 c3 k3
  have B3 := F3.binds (ps := ["value"]) fun _ _ _ _ _ _ us hl => match us, hl with | [_], _ => rfl
  have F4 := fun_mk (st := s_is_tuple_of) l4 c4 k4
  have B4 := F4.binds (ps := ["value", "many"]) fun _ _ _ _ _ _ us hl => match us, hl with | [_, _], _ => rfl
  have F5 := fun_mk (st := s_is_side) l5 c5 k5
  have B5 := F5.binds (ps := ["value"]) fun _ _ _ _ _ _ us hl => match us, hl with | [_], _ => rfl
  have F6 := fun_mk (st := s_dayset_fault) l6 c6 k6
  have B6 := F6.binds (ps := ["dayset"]) fun _ _ _ _ _ _ us hl => match us, hl with | [_], _ => rfl
  have F7 := fun_mk (st := s_are_runs) l7 c7 k7
  have B7 := F7.binds (ps := ["runs", "low"]) fun _ _ _ _ _ _ us hl => match us, hl with | [_, _], _ => rfl
  have F8 := fun_mk (st := s_law_draws) l8 c8 k8
  have B8 := F8.binds (ps := ["cell", "modulus", "count"]) fun _ _ _ _ _ _ us hl => match us, hl with | [_, _, _], _ => rfl
  have F9 := fun_mk (st := s_law_box) l9 c9 k9
  have B9 := F9.binds (ps := ["script"]) fun _ _ _ _ _ _ us hl => match us, hl with | [_], _ => rfl
  have F10 := fun_mk (st := s_law_next) l10 c10 k10
  have B10 := F10.binds (ps := ["box", "modulus"]) fun _ _ _ _ _ _ us hl => match us, hl with | [_, _], _ => rfl
  have F11 := fun_mk (st := s_law_side) l11 c11 k11
  have B11 := F11.binds (ps := ["box"]) fun _ _ _ _ _ _ us hl => match us, hl with | [_], _ => rfl
  have F12 := fun_mk (st := s_law_dayset) l12 c12 k12
  have B12 := F12.binds (ps := ["box"]) fun _ _ _ _ _ _ us hl => match us, hl with | [_], _ => rfl
  have F13 := fun_mk (st := s_law_spoilt) l13 c13 k13
  have B13 := F13.binds (ps := ["box", "dayset", "place", "low"]) fun _ _ _ _ _ _ us hl => match us, hl with | [_, _, _, _], _ => rfl
  have F14 := fun_mk (st := s_law) l14 c14 k14
  have B14 := F14.binds (ps := ["script"]) fun _ _ _ _ _ _ us hl => match us, hl with | [_], _ => rfl
  let T : Tx K mg := {
    a_is_whole := f0, d_is_whole := _, f_is_whole := F0, m_is_whole := PySem.W.mg_of X G a0, b_is_whole := B0,
    a_is_from_to := f1, d_is_from_to := _, f_is_from_to := F1, m_is_from_to := PySem.W.mg_of X G a1, b_is_from_to := B1,
    a_is_flag := f2, d_is_flag := _, f_is_flag := F2, m_is_flag := PySem.W.mg_of X G a2, b_is_flag := B2,
    a_is_tuple := f3, d_is_tuple := _, f_is_tuple := F3, m_is_tuple := PySem.W.mg_of X G a3, b_is_tuple := B3,
    a_is_tuple_of := f4, d_is_tuple_of := _, f_is_tuple_of := F4, m_is_tuple_of := PySem.W.mg_of X G a4, b_is_tuple_of := B4,
    a_is_side := f5, d_is_side := _, f_is_side := F5, m_is_side := PySem.W.mg_of X G a5, b_is_side := B5,
    a_dayset_fault := f6, d_dayset_fault := _, f_dayset_fault := F6, m_dayset_fault := PySem.W.mg_of X G a6, b_dayset_fault := B6,
    a_are_runs := f7, d_are_runs := _, f_are_runs := F7, m_are_runs := PySem.W.mg_of X G a7, b_are_runs := B7,
    a_law_draws := f8, d_law_draws := _, f_law_draws := F8, m_law_draws := PySem.W.mg_of X G a8, b_law_draws := B8,
    a_law_box := f9, d_law_box := _, f_law_box := F9, m_law_box := PySem.W.mg_of X G a9, b_law_box := B9,
    a_law_next := f10, d_law_next := _, f_law_next := F10, m_law_next := PySem.W.mg_of X G a10, b_law_next := B10,
    a_law_side := f11, d_law_side := _, f_law_side := F11, m_law_side := PySem.W.mg_of X G a11, b_law_side := B11,
    a_law_dayset := f12, d_law_dayset := _, f_law_dayset := F12, m_law_dayset := PySem.W.mg_of X G a12, b_law_dayset := B12,
    a_law_spoilt := f13, d_law_spoilt := _, f_law_spoilt := F13, m_law_spoilt := PySem.W.mg_of X G a13, b_law_spoilt := B13,
    a_law := fa, d_law := _, f_law := F14, m_law := PySem.W.mg_of X G a14, b_law := B14,
    int := PySem.W.mg_none_of X G z_int,
    len := PySem.W.mg_none_of X G z_len,
    range := PySem.W.mg_none_of X G z_range,
    set := PySem.W.mg_none_of X G z_set,
    sorted := PySem.W.mg_none_of X G z_sorted,
    tuple := PySem.W.mg_none_of X G z_tuple,
    type := PySem.W.mg_none_of X G z_type,
    v_ALL := .ref e9, u_ALL := _, m_ALL := PySem.W.mg_of X G s_c_ALL, r_ALL := rfl, q_ALL := fun _ => .tup (xs := [.ref e2, .int 0, .ref e4, .int 0, .ref e8]) (.inr ⟨_, _, _, g9, rfl, rfl, (by show 5 ≤ sizeLine; decide), (.cons rfl (.cons ⟨_, rfl⟩ (.cons rfl (.cons ⟨_, rfl⟩ (.cons rfl .nil)))))⟩) (.cons (.tup (xs := [.int 1, .ref e1, .bl true]) (.inr ⟨_, _, _, g2, rfl, rfl, (by show 3 ≤ sizeLine; decide), (.cons ⟨_, rfl⟩ (.cons rfl (.cons rfl .nil)))⟩) (.cons (.int _) (.cons (.tup (xs := []) (.inr ⟨_, _, _, g1, rfl, rfl, (by show 0 ≤ sizeLine; decide), .nil⟩) .nil) (.cons (.bl _) .nil)))) (.cons (.int _) (.cons (.tup (xs := []) (.inr ⟨_, _, _, g4, rfl, rfl, (by show 0 ≤ sizeLine; decide), .nil⟩) .nil) (.cons (.int _) (.cons (.tup (xs := [.int 1, .ref e7, .bl true]) (.inr ⟨_, _, _, g8, rfl, rfl, (by show 3 ≤ sizeLine; decide), (.cons ⟨_, rfl⟩ (.cons rfl (.cons rfl .nil)))⟩) (.cons (.int _) (.cons (.tup (xs := []) (.inr ⟨_, _, _, g7, rfl, rfl, (by show 0 ≤ sizeLine; decide), .nil⟩) .nil) (.cons (.bl _) .nil)))) .nil))))),
    v_EMPTY := .ref e19, u_EMPTY := _, m_EMPTY := PySem.W.mg_of X G s_c_EMPTY, r_EMPTY := rfl, q_EMPTY := fun _ => .tup (xs := [.ref e12, .int 0, .ref e14, .int 0, .ref e18]) (.inr ⟨_, _, _, g19, rfl, rfl, (by show 5 ≤ sizeLine; decide), (.cons rfl (.cons ⟨_, rfl⟩ (.cons rfl (.cons ⟨_, rfl⟩ (.cons rfl .nil)))))⟩) (.cons (.tup (xs := [.int 1, .ref e11, .bl false]) (.inr ⟨_, _, _, g12, rfl, rfl, (by show 3 ≤ sizeLine; decide), (.cons ⟨_, rfl⟩ (.cons rfl (.cons rfl .nil)))⟩) (.cons (.int _) (.cons (.tup (xs := []) (.inr ⟨_, _, _, g11, rfl, rfl, (by show 0 ≤ sizeLine; decide), .nil⟩) .nil) (.cons (.bl _) .nil)))) (.cons (.int _) (.cons (.tup (xs := []) (.inr ⟨_, _, _, g14, rfl, rfl, (by show 0 ≤ sizeLine; decide), .nil⟩) .nil) (.cons (.int _) (.cons (.tup (xs := [.int 1, .ref e17, .bl false]) (.inr ⟨_, _, _, g18, rfl, rfl, (by show 3 ≤ sizeLine; decide), (.cons ⟨_, rfl⟩ (.cons rfl (.cons rfl .nil)))⟩) (.cons (.int _) (.cons (.tup (xs := []) (.inr ⟨_, _, _, g17, rfl, rfl, (by show 0 ≤ sizeLine; decide), .nil⟩) .nil) (.cons (.bl _) .nil)))) .nil))))),
    v_GREATEST_PERIOD := .int 1000000000000, u_GREATEST_PERIOD := _, m_GREATEST_PERIOD := PySem.W.mg_of X G s_c_GREATEST_PERIOD, r_GREATEST_PERIOD := ⟨_, rfl⟩, q_GREATEST_PERIOD := fun _ => .int _,
    v_MOST_BORDERS := .int 40000, u_MOST_BORDERS := _, m_MOST_BORDERS := PySem.W.mg_of X G s_c_MOST_BORDERS, r_MOST_BORDERS := ⟨_, rfl⟩, q_MOST_BORDERS := fun _ => .int _ }
  refine ⟨PySem.W.fnOf "law" "law" (defArgs s_law) (defBody s_law) (defScope s_law) .none kV14 dc14 pm14 an14 cd14 ct14, fun s v => .of_eq rfl, fun base _ _ => ?_⟩
  have G_is_whole := ok_is_whole (P := l.prog) (w := w) (base := base) T 
  have G_is_flag := ok_is_flag (P := l.prog) (w := w) (base := base) T 
  have G_is_tuple := ok_is_tuple (P := l.prog) (w := w) (base := base) T 
  have G_law_draws := ok_law_draws (P := l.prog) (w := w) (base := base) T 
  have G_law_next := ok_law_next (P := l.prog) (w := w) (base := base) T 
  have G_is_from_to := ok_is_from_to (P := l.prog) (w := w) (base := base) T G_is_whole
  have G_is_tuple_of := ok_is_tuple_of (P := l.prog) (w := w) (base := base) T G_is_tuple
  have G_law_box := ok_law_box (P := l.prog) (w := w) (base := base) T G_law_draws
  have G_law_side := ok_law_side (P := l.prog) (w := w) (base := base) T G_law_next
  have G_law_spoilt := ok_law_spoilt (P := l.prog) (w := w) (base := base) T G_law_next
  have G_is_side := ok_is_side (P := l.prog) (w := w) (base := base) T G_is_tuple_of G_is_from_to G_is_flag G_is_tuple
  have G_are_runs := ok_are_runs (P := l.prog) (w := w) (base := base) T G_is_tuple G_is_tuple_of G_is_whole
  have G_law_dayset := ok_law_dayset (P := l.prog) (w := w) (base := base) T G_law_side G_law_next
  have G_dayset_fault := ok_dayset_fault (P := l.prog) (w := w) (base := base) T G_is_side G_is_whole G_are_runs
  exact ok_law T G_law_box G_law_dayset G_law_next G_law_spoilt G_dayset_fault
end Pr
open PySem PySem.W PyProof.Rows
set_option maxHeartbeats 0 in
theorem PySem.Challenge.cw_everydue_k06_faults_of_daysets_holds : PySem.Challenge.rw_everydue_k06_faults_of_daysets.Holds := by
  w_on; o_law; k_head; (case hw => w_witness2)
  k_fill
  refine L2.walk_of (l := PySem.Challenge.rw_everydue_k06_faults_of_daysets) (n := 63) (k := 5) (x := "script") (CX := fun _ => L2.CX0) (sp := fun w => Pr.spLaw _) rfl (by decide) rfl ⟨rfl, by decide, by decide⟩ (fun w h Y => PySem.W.kIn_of Y) ?F (fun _ _ a ns hl _ hS => ⟨a, ns, rfl, hS, hl, fun _ => rfl⟩) (fun _ _ _ _ _ h => h)
  case F =>
    intro w mg fa h KX G hmg
    refine' Pr.all_mk KX G hmg ?a0 ?l0 ?c0 ?k0 ?a1 ?l1 ?c1 ?k1 ?a2 ?l2 ?c2 ?k2 ?a3 ?l3 ?c3 ?k3 ?a4 ?l4 ?c4 ?k4 ?a5 ?l5 ?c5 ?k5 ?a6 ?l6 ?c6 ?k6 ?a7 ?l7 ?c7 ?k7 ?a8 ?l8 ?c8 ?k8 ?a9 ?l9 ?c9 ?k9 ?a10 ?l10 ?c10 ?k10 ?a11 ?l11 ?c11 ?k11 ?a12 ?l12 ?c12 ?k12 ?a13 ?l13 ?c13 ?k13 ?a14 ?l14 ?c14 ?k14 ?z_int ?z_len ?z_range ?z_set ?z_sorted ?z_tuple ?z_type ?s_c_ALL ?g9 ?g8 ?g7 ?g4 ?g2 ?g1 ?s_c_EMPTY ?g19 ?g18 ?g17 ?g14 ?g12 ?g11 ?s_c_GREATEST_PERIOD ?s_c_MOST_BORDERS
    (case a0 => k_is)
    (case l0 => k_is)
    (case c0 => k_is)
    (case k0 => k_is)
    (case a1 => k_is)
    (case l1 => k_is)
    (case c1 => k_is)
    (case k1 => k_is)
    (case a2 => k_is)
    (case l2 => k_is)
    (case c2 => k_is)
    (case k2 => k_is)
    (case a3 => k_is)
    (case l3 => k_is)
    (case c3 => k_is)
    (case k3 => k_is)
    (case a4 => k_is)
    (case l4 => k_is)
    (case c4 => k_is)
    (case k4 => k_is)
    (case a5 => k_is)
    (case l5 => k_is)
    (case c5 => k_is)
    (case k5 => k_is)
    (case a6 => k_is)
    (case l6 => k_is)
    (case c6 => k_is)
    (case k6 => k_is)
    (case a7 => k_is)
    (case l7 => k_is)
    (case c7 => k_is)
    (case k7 => k_is)
    (case a8 => k_is)
    (case l8 => k_is)
    (case c8 => k_is)
    (case k8 => k_is)
    (case a9 => k_is)
    (case l9 => k_is)
    (case c9 => k_is)
    (case k9 => k_is)
    (case a10 => k_is)
    (case l10 => k_is)
    (case c10 => k_is)
    (case k10 => k_is)
    (case a11 => k_is)
    (case l11 => k_is)
    (case c11 => k_is)
    (case k11 => k_is)
    (case a12 => k_is)
    (case l12 => k_is)
    (case c12 => k_is)
    (case k12 => k_is)
    (case a13 => k_is)
    (case l13 => k_is)
    (case c13 => k_is)
    (case k13 => k_is)
    (case a14 => k_is)
    (case l14 => k_is)
    (case c14 => k_is)
    (case k14 => k_is)
    (case z_int => k_is)
    (case z_len => k_is)
    (case z_range => k_is)
    (case z_set => k_is)
    (case z_sorted => k_is)
    (case z_tuple => k_is)
    (case z_type => k_is)
    (case s_c_ALL => k_is)
    (case g9 => k_is)
    (case g8 => k_is)
    (case g7 => k_is)
    (case g4 => k_is)
    (case g2 => k_is)
    (case g1 => k_is)
    (case s_c_EMPTY => k_is)
    (case g19 => k_is)
    (case g18 => k_is)
    (case g17 => k_is)
    (case g14 => k_is)
    (case g12 => k_is)
    (case g11 => k_is)
    (case s_c_GREATEST_PERIOD => k_is)
    (case s_c_MOST_BORDERS => k_is)
