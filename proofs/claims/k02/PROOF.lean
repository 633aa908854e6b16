import PyProof.Rows.All
import Wide.All
import OpenK.AllK
import Wide.FinOn
import HandS.ForMost
import HandS.More
import HandS.TupAny
import HandS.SortInts
import HandS.Steps
import HandS.SetFor
import HandS.Strs
import HandS.ListItems
import HandS.TupMul
import HandS.Gcd
import KE.KTupSum
import HandS.IsInst
import HandS.RevRange
import PyProof.Rows.SortShellAny
import HandS.WordsExc
import HandS.ExcIs
import PySem.Challenge.RW_everydue_k02_dates_by_walking
set_option Elab.async false
set_option linter.all false
set_option maxRecDepth 100000
/-! Pure readings: what a reading asks, said over data and not over the heap. -/
namespace Pu
open PySem L2

/-! ### what a heap holds, seen by itself and through a veil -/
def Grow (A H : Hp) : Prop := ∀ a o, A a = some o → H a = some o
theorem Grow.refl (H : Hp) : Grow H H := fun _ _ h => h
theorem Grow.trans {A B C : Hp} (f : Grow A B) (g : Grow B C) : Grow A C := fun a o h => g a o (f a o h)
theorem grow_rd {A H : Hp} {a : Addr} {u : HO} (g : Grow A H) (h : Rd A a u) : Rd H a u := by
  rcases h with h | ⟨o, h⟩
  · exact .inl (g a _ h)
  · exact .inr ⟨o, g a _ h⟩
theorem grow_l {K : PySem.W.Frag} {A H : Hp} {a : Addr} {xs : List V} (g : Grow A H) (h : SqL K A a xs) : SqL K H a xs := h.elim (fun z => .inl (grow_rd g z)) .inr
theorem grow_t {K : PySem.W.Frag} {A H : Hp} {a : Addr} {xs : List V} (g : Grow A H) (h : SqT K A a xs) : SqT K H a xs := h.elim (fun z => .inl (grow_rd g z)) .inr
def keyD : Key → PyData
  | .inl n => .int n
  | .inr z => .str z
mutual
/-- a value is this datum; its lists and dicts stand in the heap by themselves -/
inductive Dq (K : PySem.W.Frag) (H : Hp) : V → PyData → Prop
  | non : Dq K H .non .none
  | bl (b : Bool) : Dq K H (.bl b) (.bool b)
  | int (i : Int) : Dq K H (.int i) (.int i)
  | str (x : Str) : Dq K H (.str x) (.str x)
  | lst {a : Addr} {xs : List V} {ds : List PyData} (h : H a = some (.lst xs)) (r : Dqs K H xs ds) : Dq K H (.ref a) (.list ds)
  | tup {a : Addr} {xs : List V} {ds : List PyData} (h : SqT K H a xs) (r : Dqs K H xs ds) : Dq K H (.ref a) (.tuple ds)
  | dct {a : Addr} {ws : List (Key × V)} {kvs : List (PyData × PyData)} (h : H a = some (.dK ws)) (r : Dks K H ws kvs) : Dq K H (.ref a) (.dict kvs)
inductive Dqs (K : PySem.W.Frag) (H : Hp) : List V → List PyData → Prop
  | nil : Dqs K H [] []
  | cons {v : V} {vs : List V} {d : PyData} {ds : List PyData} (h : Dq K H v d) (r : Dqs K H vs ds) : Dqs K H (v :: vs) (d :: ds)
inductive Dks (K : PySem.W.Frag) (H : Hp) : List (Key × V) → List (PyData × PyData) → Prop
  | nil : Dks K H [] []
  | cons {k : Key} {v : V} {d : PyData} {ws : List (Key × V)} {kvs : List (PyData × PyData)} (h : Dq K H v d) (r : Dks K H ws kvs) : Dks K H ((k, v) :: ws) ((keyD k, d) :: kvs)
end
mutual
theorem dq_up {K : PySem.W.Frag} {A H : Hp} (g : Grow A H) : ∀ {d : PyData} {v : V}, Dq K A v d → Dq K H v d
  | _, _, .non => .non
  | _, _, .bl b => .bl b
  | _, _, .int i => .int i
  | _, _, .str x => .str x
  | _, _, .lst hs ha => .lst (g _ _ hs) (dqs_up g ha)
  | _, _, .tup hs ha => .tup (grow_t g hs) (dqs_up g ha)
  | _, _, .dct hs ha => .dct (g _ _ hs) (dks_up g ha)
theorem dqs_up {K : PySem.W.Frag} {A H : Hp} (g : Grow A H) : ∀ {ds : List PyData} {vs : List V}, Dqs K A vs ds → Dqs K H vs ds
  | _, _, .nil => .nil
  | _, _, .cons h1 h2 => .cons (dq_up g h1) (dqs_up g h2)
theorem dks_up {K : PySem.W.Frag} {A H : Hp} (g : Grow A H) : ∀ {kvs : List (PyData × PyData)} {ws : List (Key × V)}, Dks K A ws kvs → Dks K H ws kvs
  | _, _, .nil => .nil
  | _, _, .cons h1 h2 => .cons (dq_up g h1) (dks_up g h2)
end
theorem dp_grow {K : PySem.W.Frag} {A H : Hp} (g : Grow A H) (d : PyData) (v : V) (h : Dq K A v d) : Dq K H v d := dq_up g h
theorem dps_grow {K : PySem.W.Frag} {A H : Hp} (g : Grow A H) (ds : List PyData) (vs : List V) (h : Dqs K A vs ds) : Dqs K H vs ds := dqs_up g h
/-! no dict in it -/
mutual
def noD : PyData → Bool
  | .dict _ => false
  | .list ds => noDs ds
  | .tuple ds => noDs ds
  | .none => true
  | .bool _ => true
  | .int _ => true
  | .str _ => true
def noDs : List PyData → Bool
  | [] => true
  | d :: ds => noD d && noDs ds
end
def shq (d : PyData) : Bool := noD d && SeqAt.shaped d
mutual
theorem dq_dp {K : PySem.W.Frag} {H : Hp} : ∀ (d : PyData) (v : V), noD d = true → Dq K H v d → Dp K H v d
  | .none, _, _, .non => .non
  | .bool _, _, _, .bl b => .bl b
  | .int _, _, _, .int i => .int i
  | .str _, _, _, .str x => .str x
  | .list ds, _, n, .lst hs ha => .lst (.of hs) (dqs_dps ds _ n ha)
  | .tuple ds, _, n, .tup hs ha => .tup hs (dqs_dps ds _ n ha)
  | .dict _, _, n, _ => by cases n
theorem dqs_dps {K : PySem.W.Frag} {H : Hp} : ∀ (ds : List PyData) (vs : List V), noDs ds = true → Dqs K H vs ds → DpAll K H vs ds
  | [], _, _, .nil => .nil
  | d :: ds, _, n, .cons h1 h2 => by
    have n : (noD d && noDs ds) = true := n
    rw [Bool.and_eq_true] at n
    exact .cons (dq_dp d _ n.1 h1) (dqs_dps ds _ n.2 h2)
end
section
variable {K : PySem.W.Frag} {H : Hp}
theorem dqs_len : ∀ {vs : List V} {ds : List PyData}, Dqs K H vs ds → vs.length = ds.length
  | _, _, .nil => rfl
  | _, _, .cons _ r => congrArg (· + 1) (dqs_len r)
theorem dqs_app : ∀ {vs ws : List V} {ds es : List PyData}, Dqs K H vs ds → Dqs K H ws es → Dqs K H (vs ++ ws) (ds ++ es)
  | _, _, _, _, .nil, h => h
  | _, _, _, _, .cons a r, h => .cons a (dqs_app r h)
theorem dqs_get : ∀ {vs : List V} {ds : List PyData} {i : Nat} {d : PyData}, Dqs K H vs ds → ds[i]? = some d → ∃ v, vs[i]? = some v ∧ Dq K H v d
  | _, _, _, _, .nil, e => by simp at e
  | _, _, 0, _, .cons h _, e => ⟨_, rfl, by simp at e; subst e; exact h⟩
  | _, _, i + 1, _, .cons _ r, e => dqs_get (i := i) r (by simpa using e)
theorem dqs_got : ∀ {vs : List V} {ds : List PyData} {i : Nat} {v : V}, Dqs K H vs ds → vs[i]? = some v → ∃ d, ds[i]? = some d ∧ Dq K H v d
  | _, _, _, _, .nil, e => by simp at e
  | _, _, 0, _, .cons h _, e => ⟨_, rfl, by simp at e; subst e; exact h⟩
  | _, _, i + 1, _, .cons _ r, e => dqs_got (i := i) r (by simpa using e)
theorem dqs_take : ∀ {vs : List V} {ds : List PyData} (n : Nat), Dqs K H vs ds → Dqs K H (vs.take n) (ds.take n)
  | _, _, 0, _ => .nil
  | _, _, _ + 1, .nil => .nil
  | _, _, n + 1, .cons h r => .cons h (dqs_take n r)
theorem dqs_drop : ∀ {vs : List V} {ds : List PyData} (n : Nat), Dqs K H vs ds → Dqs K H (vs.drop n) (ds.drop n)
  | _, _, 0, r => r
  | _, _, _ + 1, .nil => .nil
  | _, _, n + 1, .cons _ r => dqs_drop n r
theorem dqs_set : ∀ {vs : List V} {ds : List PyData} {v : V} {d : PyData} (n : Nat), Dq K H v d → Dqs K H vs ds → Dqs K H (vs.set n v) (ds.set n d)
  | _, _, _, _, _, _, .nil => .nil
  | _, _, _, _, 0, k, .cons _ r => .cons k r
  | _, _, _, _, n + 1, k, .cons h r => .cons h (dqs_set n k r)
theorem dqs_ints : ∀ {ns : List Int}, Dqs K H (ns.map V.int) (ns.map PyData.int)
  | [] => .nil
  | n :: ns => .cons (.int n) (dqs_ints (ns := ns))
theorem dqs_of_ints : ∀ {vs : List V} {ns : List Int}, Dqs K H vs (ns.map PyData.int) → vs = ns.map V.int
  | _, [], .nil => rfl
  | _, n :: ns, .cons (.int _) r => congrArg (V.int n :: ·) (dqs_of_ints r)
end

/-! ### the veil: what changes hands is not read through -/
open Classical in
noncomputable def veil (Z : Addr → Prop) (H : Hp) : Hp := fun a => if Z a then none else H a
theorem veil_off {Z : Addr → Prop} {H : Hp} {a : Addr} {o : HO} (h : veil Z H a = some o) : ¬ Z a ∧ H a = some o := by
  unfold veil at h
  by_cases z : Z a
  · rw [if_pos z] at h
    cases h
  · rw [if_neg z] at h
    exact ⟨z, h⟩
theorem veil_on {Z : Addr → Prop} {H : Hp} {a : Addr} {o : HO} (z : ¬ Z a) (h : H a = some o) : veil Z H a = some o := by
  unfold veil
  rw [if_neg z]
  exact h
theorem veil_grow (Z : Addr → Prop) (H : Hp) : Grow (veil Z H) H := fun _ _ h => (veil_off h).2
theorem veil_none {Z : Addr → Prop} {H : Hp} {a : Addr} (h : H a = none) : veil Z H a = none := by
  unfold veil
  by_cases z : Z a
  · rw [if_pos z]
  · rw [if_neg z]
    exact h

/-- a dict with int keys -/
inductive Kvs (K : PySem.W.Frag) (H : Hp) : List (Key × V) → List (Int × PyData) → Prop
  | nil : Kvs K H [] []
  | cons {n : Int} {v : V} {d : PyData} {ws : List (Key × V)} {kvs : List (Int × PyData)} (h : Dq K H v d) (r : Kvs K H ws kvs) : Kvs K H ((.inl n, v) :: ws) ((n, d) :: kvs)
theorem kvs_grow {K : PySem.W.Frag} {A H : Hp} (g : Grow A H) : ∀ {ws : List (Key × V)} {kvs : List (Int × PyData)}, Kvs K A ws kvs → Kvs K H ws kvs
  | _, _, .nil => .nil
  | _, _, .cons h r => .cons (dp_grow g _ _ h) (kvs_grow g r)
theorem kvs_len {K : PySem.W.Frag} {H : Hp} : ∀ {ws : List (Key × V)} {kvs : List (Int × PyData)}, Kvs K H ws kvs → ws.length = kvs.length
  | _, _, .nil => rfl
  | _, _, .cons _ r => congrArg (· + 1) (kvs_len r)
/-- the attributes of an object -/
inductive Fds (K : PySem.W.Frag) (H : Hp) : List (Str × V) → List (Str × PyData) → Prop
  | nil : Fds K H [] []
  | cons {f : Str} {v : V} {d : PyData} {ws : List (Str × V)} {fs : List (Str × PyData)} (h : Dq K H v d) (r : Fds K H ws fs) : Fds K H ((f, v) :: ws) ((f, d) :: fs)
theorem fds_grow {K : PySem.W.Frag} {A H : Hp} (g : Grow A H) : ∀ {ws : List (Str × V)} {fs : List (Str × PyData)}, Fds K A ws fs → Fds K H ws fs
  | _, _, .nil => .nil
  | _, _, .cons h r => .cons (dp_grow g _ _ h) (fds_grow g r)
/-- the class with a name -/
def ClsNm (K : PySem.W.Frag) (nm : Str) (C : Addr) : Prop := PySem.W.nsIn K mainGlobals nm = some (some (.ref C))
/-! ### places -/
inductive Cell where
  | no
  | d (x : PyData)
  | own (xs : List PyData)
  | dct (kvs : List (Int × PyData))
  | box
  | obj (nm : Str) (fs : List (Str × PyData))
abbrev En := List Cell

/-- the veil of a body: what its caller hides (Z), and what its own places own (M) -/
def hid (Z : Addr → Prop) (M : Nat → Option Addr) : Addr → Prop := fun a => Z a ∨ ∃ i, M i = some a
/-- the box of draws at b -/
def BoxAt (K : PySem.W.Frag) (Z : Addr → Prop) (H : Hp) (b : Addr) : Prop :=
  ∃ (r : Addr) (rows : List Int) (at_ : Int), H b = some (.dK [(.inr "row", .ref r), (.inr "at", .int at_)]) ∧ 0 ≤ at_ ∧ veil Z H r = some (.lst (rows.map V.int)) ∧
    0 < rows.length ∧ rows.length ≤ 1000 ∧ ∀ x ∈ rows, 0 ≤ x ∧ x < 1000003
def CellR (K : PySem.W.Frag) (Z : Addr → Prop) (M : Nat → Option Addr) (H : Hp) (i : Nat) (o : Option V) : Cell → Prop
  | .no => True
  | .d x => ∃ v, o = some v ∧ Dq K (veil (hid Z M) H) v x
  | .own xs => ∃ l vs, o = some (.ref l) ∧ M i = some l ∧ H l = some (.lst vs) ∧ Dqs K (veil (hid Z M) H) vs xs
  | .dct kvs => ∃ l ws, o = some (.ref l) ∧ M i = some l ∧ H l = some (.dK ws) ∧ Kvs K (veil (hid Z M) H) ws kvs
  | .box => ∃ b, o = some (.ref b) ∧ M i = some b ∧ BoxAt K (hid Z M) H b
  | .obj nm fs => ∃ l C dx ws, o = some (.ref l) ∧ M i = some l ∧ ClsNm K nm C ∧ H l = some (.ins C dx ws) ∧ Fds K (veil (hid Z M) H) ws fs

/-- B: what may change of what stood at the entry (H0); A: what stays (under the veil) -/
structure EnvR (K : PySem.W.Frag) (B Z : Addr → Prop) (A H0 : Hp) (M : Nat → Option Addr) (σ : St) (H : Hp) (ρ : En) : Prop where
  len : σ.length = ρ.length
  inj : ∀ i j l, M i = some l → M j = some l → i = j
  live : ∀ i l, M i = some l → H l ≠ none
  off : ∀ i l, M i = some l → ¬ Z l
  zl : ∀ a, Z a → H a ≠ none
  ext : ∀ a o, ¬ B a → H0 a = some o → H a = some o
  own : ∀ i l, M i = some l → B l ∨ H0 l = none
  m0 : ∀ b, B b → M 0 = some b
  anch : Grow A (veil (hid Z M) H)
  cell : ∀ i c, ρ[i]? = some c → CellR K Z M H i (σ[i]?.join) c

/-- what an expression's reading is worth: p asks over data -/
abbrev PE' := En → (PyData → En → Prop) → Prop
abbrev PT' := En → (Bool → En → Prop) → Prop
abbrev PA' := En → (List PyData → En → Prop) → Prop
structure PEnds where
  nx : En → Prop
  rt : PyData → En → Prop
  bk : En → Prop := fun _ => False
  ct : En → Prop := fun _ => False
abbrev PS' := PEnds → En → Prop

def Sim (K : PySem.W.Frag) (te : TE) (p : PE') : Prop := ∀ B Z A H0 M σ H ρ R, EnvR K B Z A H0 M σ H ρ → p ρ R →
  ∀ Q : VK, (∀ v d ρ' H2, R d ρ' → EnvR K B Z A H0 M σ H2 ρ' → Dq K (veil (hid Z M) H2) v d → Q v H2) → te σ H Q
def SimT (K : PySem.W.Frag) (tt : TT) (p : PT') : Prop := ∀ B Z A H0 M σ H ρ R, EnvR K B Z A H0 M σ H ρ → p ρ R →
  ∀ Q : Bool → Hp → Prop, (∀ b ρ' H2, R b ρ' → EnvR K B Z A H0 M σ H2 ρ' → Q b H2) → tt σ H Q
def SimA (K : PySem.W.Frag) (ta : TA) (p : PA') : Prop := ∀ B Z A H0 M σ H ρ R, EnvR K B Z A H0 M σ H ρ → p ρ R →
  ∀ Q : List V → Hp → Prop, (∀ vs ds ρ' H2, R ds ρ' → EnvR K B Z A H0 M σ H2 ρ' → Dqs K (veil (hid Z M) H2) vs ds → Q vs H2) → ta σ H Q
/-- a new list -/
def SimL (K : PySem.W.Frag) (te : TE) (p : PA') : Prop := ∀ B Z A H0 M σ H ρ R, EnvR K B Z A H0 M σ H ρ → p ρ R →
  ∀ Q : VK, (∀ l vs ds ρ' H2, R ds ρ' → EnvR K B Z A H0 M σ H2 ρ' → H2 l = none → Dqs K (veil (hid Z M) H2) vs ds → Q (.ref l) (upd H2 l (.lst vs))) → te σ H Q

/-- the ends of a statement -/
structure Comp (K : PySem.W.Frag) (B Z : Addr → Prop) (A H0 : Hp) (D : Ends) (G : PEnds) : Prop where
  nx : ∀ M σ H ρ, EnvR K B Z A H0 M σ H ρ → G.nx ρ → D.nx σ H
  bk : ∀ M σ H ρ, EnvR K B Z A H0 M σ H ρ → G.bk ρ → D.bk σ H
  ct : ∀ M σ H ρ, EnvR K B Z A H0 M σ H ρ → G.ct ρ → D.ct σ H
  rt : ∀ M σ H ρ v d, EnvR K B Z A H0 M σ H ρ → G.rt d ρ → Dq K (veil (fun a => Z a ∨ B a) H) v d → D.rt v H
def SimS (K : PySem.W.Frag) (ts : TS) (p : PS') : Prop := ∀ B Z A H0 M σ H ρ D G, EnvR K B Z A H0 M σ H ρ → p G ρ → Comp K B Z A H0 D G → ts D σ H

/-! ### the environment through changes -/
section
variable {K : PySem.W.Frag} {B Z : Addr → Prop} {A A' H0 H H2 : Hp} {M : Nat → Option Addr} {σ : St} {ρ : En}
theorem CellR.grow {i : Nat} {o : Option V} {c : Cell} (g : Grow (veil (hid Z M) H) (veil (hid Z M) H2)) (k : ∀ l, M i = some l → ∀ u, H l = some u → H2 l = some u) (h : CellR K Z M H i o c) : CellR K Z M H2 i o c := by
  cases c with
  | no => trivial
  | d x =>
    obtain ⟨v, e, h⟩ := h
    exact ⟨v, e, dp_grow g _ _ h⟩
  | own xs =>
    obtain ⟨l, vs, e, m, hl, h⟩ := h
    exact ⟨l, vs, e, m, k l m _ hl, dps_grow g _ _ h⟩
  | dct kvs =>
    obtain ⟨l, ws, e, m, hl, h⟩ := h
    exact ⟨l, ws, e, m, k l m _ hl, kvs_grow g h⟩
  | box =>
    obtain ⟨b, e, m, r, rows, at_, hb, h0, hr, h1, h2, h3⟩ := h
    exact ⟨b, e, m, r, rows, at_, k b m _ hb, h0, g _ _ hr, h1, h2, h3⟩
  | obj nm fs =>
    obtain ⟨l, C, dx, ws, e, m, hc, hl, h⟩ := h
    exact ⟨l, C, dx, ws, e, m, hc, k l m _ hl, fds_grow g h⟩
theorem EnvR.anchor (E : EnvR K B Z A H0 M σ H ρ) : EnvR K B Z (veil (hid Z M) H) H0 M σ H ρ := { E with anch := Grow.refl _ }
theorem EnvR.weak (g : Grow A' A) (E : EnvR K B Z A H0 M σ H ρ) : EnvR K B Z A' H0 M σ H ρ := { E with anch := g.trans E.anch }
/-- the heap has grown, nothing has changed -/
theorem EnvR.grown (E : EnvR K B Z A H0 M σ H ρ) (g : Grow H H2) : EnvR K B Z A H0 M σ H2 ρ := by
  have gv : Grow (veil (hid Z M) H) (veil (hid Z M) H2) := fun a o h => veil_on (veil_off h).1 (g _ _ (veil_off h).2)
  have nn : ∀ a, H a ≠ none → H2 a ≠ none := fun a h e => by
    cases q : H a with
    | none => exact h q
    | some o =>
      rw [g a o q] at e
      cases e
  exact ⟨E.len, E.inj, fun i l m => nn l (E.live i l m), E.off, fun a z => nn a (E.zl a z), fun a o b h => g _ _ (E.ext a o b h), E.own, E.m0, E.anch.trans gv, fun i c h => (E.cell i c h).grow gv fun l _ u hu => g _ _ hu⟩
theorem EnvR.veiled (E : EnvR K B Z A H0 M σ H ρ) {p : Addr} (h : H p = none) : ¬ hid Z M p := by
  rintro (z | ⟨i, m⟩)
  · exact E.zl p z h
  · exact E.live i p m h
theorem grow_new {p : Addr} {o : HO} (h : H p = none) : Grow H (upd H p o) := fun a u e => by
  rw [upd_ne (ne_of_none e h)]
  exact e
theorem grow_veil (g : Grow H H2) : Grow (veil Z H) (veil Z H2) := fun a o h => veil_on (veil_off h).1 (g _ _ (veil_off h).2)
theorem veil_less {Y : Addr → Prop} (h : ∀ a, Z a → Y a) : Grow (veil Y H) (veil Z H) := fun a o e => veil_on (fun z => (veil_off e).1 (h a z)) (veil_off e).2
end
end Pu
namespace Pu
open PySem L2

/-! ### asking a datum what it is -/
def asI : PyData → (Int → Prop) → Prop
  | .int i, k => k i
  | _, _ => False
def asB : PyData → (Bool → Prop) → Prop
  | .bool b, k => k b
  | _, _ => False
def asT : PyData → (List PyData → Prop) → Prop
  | .tuple ds, k => k ds
  | _, _ => False
def asL : PyData → (List PyData → Prop) → Prop
  | .list ds, k => k ds
  | _, _ => False
def asS : PyData → (List PyData → Prop) → Prop
  | .list ds, k => k ds
  | .tuple ds, k => k ds
  | _, _ => False
theorem asI_of {d : PyData} {k : Int → Prop} (h : asI d k) : ∃ i, d = .int i ∧ k i := by
  cases d <;> first | exact ⟨_, rfl, h⟩ | exact h.elim
theorem asB_of {d : PyData} {k : Bool → Prop} (h : asB d k) : ∃ i, d = .bool i ∧ k i := by
  cases d <;> first | exact ⟨_, rfl, h⟩ | exact h.elim
theorem asT_of {d : PyData} {k : List PyData → Prop} (h : asT d k) : ∃ i, d = .tuple i ∧ k i := by
  cases d <;> first | exact ⟨_, rfl, h⟩ | exact h.elim
theorem asL_of {d : PyData} {k : List PyData → Prop} (h : asL d k) : ∃ i, d = .list i ∧ k i := by
  cases d <;> first | exact ⟨_, rfl, h⟩ | exact h.elim
def isN : PyData → Bool
  | .none => true
  | _ => false
def isBl (b : Bool) : PyData → Bool
  | .bool c => decide (c = b)
  | _ => false
def tyN : PyData → String
  | .none => "NoneType"
  | .bool _ => "bool"
  | .int _ => "int"
  | .str _ => "str"
  | .list _ => "list"
  | .tuple _ => "tuple"
  | .dict _ => "dict"
/-- a value without parts, as a datum -/
def dv : V → PyData
  | .bl b => .bool b
  | .int i => .int i
  | .str x => .str x
  | _ => .none
def sv : V → Bool
  | .non => true
  | .bl _ => true
  | .int _ => true
  | .str _ => true
  | _ => false
theorem dv_q {K : PySem.W.Frag} {H : Hp} {v : V} (h : sv v = true) : Dq K H v (dv v) := by
  cases v <;> first | exact .non | exact .bl _ | exact .int _ | exact .str _ | cases h
def asO : Option PyData → (PyData → Prop) → Prop
  | some d, k => k d
  | none, _ => False
theorem asO_of {o : Option PyData} {k : PyData → Prop} (h : asO o k) : ∃ d, o = some d ∧ k d := by
  cases o <;> first | exact ⟨_, rfl, h⟩ | exact h.elim

def cellAt : En → Nat → Cell
  | [], _ => .no
  | c :: _, 0 => c
  | _ :: r, i + 1 => cellAt r i
def cellSet : En → Nat → Cell → En
  | [], _, _ => []
  | _ :: r, 0, c => c :: r
  | x :: r, i + 1, c => x :: cellSet r i c
theorem cellAt_some : ∀ {ρ : En} {i : Nat} {c : Cell}, cellAt ρ i = c → c ≠ .no → ρ[i]? = some c
  | [], _, _, h, n => absurd h.symm n
  | c :: _, 0, _, h, _ => congrArg some h
  | _ :: r, i + 1, _, h, n => by simpa using cellAt_some (ρ := r) (i := i) h n
theorem cellSet_eq : ∀ (ρ : En) (i : Nat) (c : Cell), cellSet ρ i c = ρ.set i c
  | [], _, _ => rfl
  | _ :: _, 0, _ => rfl
  | x :: r, i + 1, c => congrArg (x :: ·) (cellSet_eq r i c)
def asD : Cell → (PyData → Prop) → Prop
  | .d x, k => k x
  | _, _ => False
def asOwn : Cell → (List PyData → Prop) → Prop
  | .own x, k => k x
  | _, _ => False
theorem asD_of {c : Cell} {k : PyData → Prop} (h : asD c k) : ∃ x, c = .d x ∧ k x := by
  cases c <;> first | exact ⟨_, rfl, h⟩ | exact h.elim
theorem asOwn_of {c : Cell} {k : List PyData → Prop} (h : asOwn c k) : ∃ x, c = .own x ∧ k x := by
  cases c <;> first | exact ⟨_, rfl, h⟩ | exact h.elim

def flipB : Bool → Bool → Bool
  | true, b => !b
  | false, b => b
/-! ### the pure readings of expressions -/
def pVar (i : Nat) : PE' := fun ρ R => asD (cellAt ρ i) fun x => R x ρ
def pC (d : PyData) : PE' := fun ρ R => R d ρ
def pII (f : Int → Int → PyData) (pa pb : PE') : PE' := fun ρ R => pa ρ fun x ρ1 => pb ρ1 fun y ρ2 => asI x fun i => asI y fun j => R (f i j) ρ2
def pIIc (C : Int → Int → Prop) (f : Int → Int → PyData) (pa pb : PE') : PE' := fun ρ R => pa ρ fun x ρ1 => pb ρ1 fun y ρ2 => asI x fun i => asI y fun j => C i j ∧ R (f i j) ρ2
def pI (f : Int → PyData) (pa : PE') : PE' := fun ρ R => pa ρ fun x ρ1 => asI x fun i => R (f i) ρ1
def pEqD (neg : Bool) (pa pb : PE') : PE' := fun ρ R => pa ρ fun x ρ1 => pb ρ1 fun y ρ2 => shq x = true ∧ shq y = true ∧ R (.bool (flipB neg (PyData.eqv x y))) ρ2
def pIsN (neg : Bool) (pa : PE') : PE' := fun ρ R => pa ρ fun x ρ1 => R (.bool (flipB neg (isN x))) ρ1
def pIsB (b : Bool) (pa : PE') : PE' := fun ρ R => pa ρ fun x ρ1 => R (.bool (isBl b x)) ρ1
def pIsTy (T : String) (pa : PE') : PE' := fun ρ R => pa ρ fun x ρ1 => R (.bool (decide (tyN x = T))) ρ1
def pChain (f g : Int → Int → Bool) (pa pb pc : PE') : PE' := fun ρ R => pa ρ fun x ρ1 => pb ρ1 fun y ρ2 => asI x fun i => asI y fun j => if f i j = true then pc ρ2 fun z ρ3 => asI z fun k => R (.bool (g j k)) ρ3 else R (.bool false) ρ2
def pTup (pa : PA') : PE' := fun ρ R => pa ρ fun ds ρ1 => ds.length ≤ 100000 ∧ R (.tuple ds) ρ1
def pLst (pa : PA') : PA' := fun ρ R => pa ρ fun ds ρ1 => ds.length ≤ 100000 ∧ R ds ρ1
def pNew (pa : PA') : PE' := fun ρ R => pa ρ fun ds ρ1 => R (.list ds) ρ1
def pNil : PA' := fun ρ R => R [] ρ
def pCons (pa : PE') (pr : PA') : PA' := fun ρ R => pa ρ fun x ρ1 => pr ρ1 fun xs ρ2 => R (x :: xs) ρ2
def pIx (pa pb : PE') : PE' := fun ρ R => pa ρ fun x ρ1 => pb ρ1 fun y ρ2 => asS x fun ds => asI y fun i => asO (atI ds i) fun d => R d ρ2
def pAndV (pa pb : PE') : PE' := fun ρ R => pa ρ fun x ρ1 => asB x fun c => if c = true then pb ρ1 R else R (.bool false) ρ1
def pOrV (pa pb : PE') : PE' := fun ρ R => pa ρ fun x ρ1 => asB x fun c => if c = true then R (.bool true) ρ1 else pb ρ1 R
def pNotV (pa : PE') : PE' := fun ρ R => pa ρ fun x ρ1 => asB x fun c => R (.bool (!c)) ρ1
def pIfE (pt : PT') (pa pb : PE') : PE' := fun ρ R => pt ρ fun c ρ1 => if c = true then pa ρ1 R else pb ρ1 R
/-! tests -/
def pTst (pa : PE') : PT' := fun ρ R => pa ρ fun x ρ1 => asB x fun c => R c ρ1
def pAnd (pa pb : PT') : PT' := fun ρ R => pa ρ fun c ρ1 => if c = true then pb ρ1 R else R false ρ1
def pOr (pa pb : PT') : PT' := fun ρ R => pa ρ fun c ρ1 => if c = true then R true ρ1 else pb ρ1 R
def pNot (pa : PT') : PT' := fun ρ R => pa ρ fun c ρ1 => R (!c) ρ1
def truD : PyData → Option Bool
  | .none => some false
  | .bool b => some b
  | .int i => some (i != 0)
  | .list ds => some (!ds.isEmpty)
  | .tuple ds => some (!ds.isEmpty)
  | _ => none
def pTru (pa : PE') : PT' := fun ρ R => pa ρ fun x ρ1 => ∃ b, truD x = some b ∧ R b ρ1
/-! calls -/
abbrev FS := List PyData → (PyData → Prop) → Prop
def pCall (n : Nat) (S : FS) (pa : PA') : PE' := fun ρ R => pa ρ fun ds ρ1 => ds.length = n ∧ S ds fun d => R d ρ1
def pCallB (n : Nat) (S : FS) (i : Nat) (pa : PA') : PE' := fun ρ R => cellAt ρ i = .box ∧ pa ρ fun ds ρ1 => cellAt ρ1 i = .box ∧ ds.length = n ∧ S ds fun d => R d ρ1
/-- a built-in by its data -/
def pFn (f : List PyData → (PyData → Prop) → Prop) (pa : PA') : PE' := fun ρ R => pa ρ fun ds ρ1 => f ds fun d => R d ρ1

/-! statements -/
def pNext : PS' := fun G ρ => G.nx ρ
def pSeq (p q : PS') : PS' := fun G ρ => p { G with nx := q G } ρ
def pIfS (pt : PT') (p q : PS') : PS' := fun G ρ => pt ρ fun c ρ1 => if c = true then p G ρ1 else q G ρ1
def pRet (pa : PE') : PS' := fun G ρ => pa ρ fun d ρ1 => G.rt d ρ1
def pRetL (pa : PA') : PS' := fun G ρ => pa ρ fun d ρ1 => G.rt (.list d) ρ1
def pRetO (i : Nat) : PS' := fun G ρ => asOwn (cellAt ρ i) fun ds => G.rt (.list ds) ρ
def pRetN : PS' := fun G ρ => G.rt .none ρ
abbrev PG' := PyData → En → (En → Prop) → Prop
def pgN (i : Nat) : PG' := fun d ρ R => R (cellSet ρ i (.d d))
def setAll : En → List Nat → List PyData → En
  | ρ, i :: is, d :: ds => setAll (cellSet ρ i (.d d)) is ds
  | ρ, _, _ => ρ
def pgT (is : List Nat) : PG' := fun d ρ R => asT d fun ds => ds.length = is.length ∧ R (setAll ρ is ds)
def pAsg (pa : PE') (pg : PG') : PS' := fun G ρ => pa ρ fun d ρ1 => pg d ρ1 G.nx
def pAsgO (pa : PA') (i : Nat) : PS' := fun G ρ => i ≠ 0 ∧ pa ρ fun d ρ1 => G.nx (cellSet ρ1 i (.own d))
def pBrk : PS' := fun G ρ => G.bk ρ
def pCnt : PS' := fun G ρ => G.ct ρ
def pDrop (pa : PE') : PS' := fun G ρ => pa ρ fun _ ρ1 => G.nx ρ1
def pApp (i : Nat) (pa : PE') : PS' := fun G ρ => asOwn (cellAt ρ i) fun _ => pa ρ fun d ρ1 => asOwn (cellAt ρ1 i) fun ds => ds.length < 100000 ∧ G.nx (cellSet ρ1 i (.own (ds ++ [d])))
/-- a for over a list or a tuple of data -/
def pFor (pl : PE') (pg : PG') (pb : PS') : PS' := fun G ρ => pl ρ fun x ρ1 => asS x fun ds => ∃ I : Nat → En → Prop, I 0 ρ1 ∧
  (∀ i d ρ', ds[i]? = some d → I i ρ' → pg d ρ' fun ρ2 => pb { G with nx := I (i + 1), ct := I (i + 1), bk := G.nx } ρ2) ∧ ∀ ρ', I ds.length ρ' → G.nx ρ'
/-- for i in range(a, b) -/
def pRng (pa : PA') (pg : PG') (pb : PS') : PS' := fun G ρ => pa ρ fun x ρ1 => ∃ lo hi : Int, ((x = [.int hi] ∧ lo = 0) ∨ x = [.int lo, .int hi]) ∧ (-(2 ^ 62) ≤ lo ∧ lo < 2 ^ 62 ∧ -(2 ^ 62) ≤ hi ∧ hi < 2 ^ 62) ∧ ∃ I : Nat → En → Prop, I 0 ρ1 ∧
  (∀ (i : Nat) ρ', lo + (i : Int) < hi → I i ρ' → pg (.int (lo + (i : Int))) ρ' fun ρ2 => pb { G with nx := I (i + 1), ct := I (i + 1), bk := G.nx } ρ2) ∧ ∀ ρ', I (hi - lo).toNat ρ' → G.nx ρ'
def pWhile (pt : PT') (pb : PS') : PS' := fun G ρ => ∃ W : Nat → En → Prop, (∃ m, W m ρ) ∧ ∀ m ρ', W m ρ' → pt ρ' fun c ρ1 =>
  if c = true then pb { G with nx := fun ρ2 => ∃ m', m' < m ∧ W m' ρ2, ct := fun ρ2 => ∃ m', m' < m ∧ W m' ρ2, bk := G.nx } ρ1 else G.nx ρ1
/-- comprehensions -/
def pLcS (vs is : List Nat) (pl : PE') (pg : PG') (pt : PT') (pe : PE') : PA' := fun ρ R => (∀ v ∈ vs, cellAt ρ v = .no) ∧ pl ρ fun x ρ1 => ρ1 = ρ ∧ asS x fun ds => ∃ I : Nat → List PyData → Prop, I 0 [] ∧
  (∀ i d acc, ds[i]? = some d → I i acc → pg d ρ fun ρ2 => pt ρ2 fun b ρ3 => ρ3 = ρ2 ∧ if b = true then pe ρ2 fun y ρ4 => ρ4 = ρ2 ∧ acc.length < 100000 ∧ I (i + 1) (acc ++ [y]) else I (i + 1) acc) ∧ ∀ acc, I ds.length acc → R acc ρ
def pLcR (vs is : List Nat) (pa : PA') (pg : PG') (pt : PT') (pe : PE') : PA' := fun ρ R => (∀ v ∈ vs, cellAt ρ v = .no) ∧ pa ρ fun x ρ1 => ρ1 = ρ ∧ ∃ lo hi : Int, ((x = [.int hi] ∧ lo = 0) ∨ x = [.int lo, .int hi]) ∧ (-(2 ^ 62) ≤ lo ∧ lo < 2 ^ 62 ∧ -(2 ^ 62) ≤ hi ∧ hi < 2 ^ 62) ∧
  ∃ I : Nat → List PyData → Prop, I 0 [] ∧
  (∀ (i : Nat) acc, lo + (i : Int) < hi → I i acc → pg (.int (lo + (i : Int))) ρ fun ρ2 => pt ρ2 fun b ρ3 => ρ3 = ρ2 ∧ if b = true then pe ρ2 fun y ρ4 => ρ4 = ρ2 ∧ acc.length < 100000 ∧ I (i + 1) (acc ++ [y]) else I (i + 1) acc) ∧ ∀ acc, I (hi - lo).toNat acc → R acc ρ
def pTO (pl : PE') : PE' := fun ρ R => pl ρ fun x ρ1 => asT x fun ds => R (.tuple ds) ρ1
def pLO (pl : PE') : PE' := fun ρ R => pl ρ fun x ρ1 => asL x fun ds => R (.list ds) ρ1
def pYes : PT' := fun ρ R => R true ρ

section
variable {K : PySem.W.Frag}
/-! ### expressions -/
theorem sim_var {i : Nat} : Sim K (tVar i) (pVar i) := fun B Z A H0 M σ H ρ R E h Q q => by
  obtain ⟨x, hx, h⟩ := asD_of h
  obtain ⟨v, hv, hd⟩ := E.cell i _ (cellAt_some hx (by intro z; cases z))
  refine ⟨v, ?_, q v x ρ H h E hd⟩
  cases e : σ[i]? with
  | none =>
    rw [e] at hv
    cases hv
  | some o =>
    rw [e] at hv
    exact congrArg some hv
theorem sim_c {v : V} (s : sv v = true) : Sim K (tC v) (pC (dv v)) := fun B Z A H0 M σ H ρ R E h Q q => q v (dv v) ρ H h E (dv_q s)
theorem sim_k {v : V} {d : PyData} (s : ∀ H, Dq K H v d) : Sim K (tC v) (pC d) := fun B Z A H0 M σ H ρ R E h Q q => q v d ρ H h E (s _)
/-- two operands in turn: the first one stays through the second one's making -/
theorem two {ta tb : TE} {pa pb : PE'} (sa : Sim K ta pa) (sb : Sim K tb pb) {B Z : Addr → Prop} {A H0 : Hp} {M : Nat → Option Addr} {σ : St} {H : Hp} {ρ : En} {R : PyData → PyData → En → Prop} (E : EnvR K B Z A H0 M σ H ρ)
    (h : pa ρ fun x ρ1 => pb ρ1 fun y ρ2 => R x y ρ2) {Q : V → V → Hp → Prop} (q : ∀ v w x y ρ' H2, R x y ρ' → EnvR K B Z A H0 M σ H2 ρ' → Dq K (veil (hid Z M) H2) v x → Dq K (veil (hid Z M) H2) w y → Q v w H2) :
    ta σ H fun v H1 => tb σ H1 fun w H2 => Q v w H2 :=
  sa B Z A H0 M σ H ρ _ E h _ fun v x ρ1 H1 h1 E1 d1 => sb B Z _ H0 M σ H1 ρ1 _ E1.anchor h1 _ fun w y ρ2 H2 h2 E2 d2 =>
    q v w x y ρ2 H2 h2 (E2.weak E1.anch) (dp_grow E2.anch _ _ d1) d2
theorem of_int {H : Hp} {v : V} {i : Int} (h : Dq K H v (.int i)) : v = .int i := by cases h; rfl
theorem of_bl {H : Hp} {v : V} {i : Bool} (h : Dq K H v (.bool i)) : v = .bl i := by cases h; rfl
theorem sim_ii {g : Int → Int → V} {ta tb : TE} {pa pb : PE'} (sa : Sim K ta pa) (sb : Sim K tb pb) (hg : ∀ i j, sv (g i j) = true) : Sim K (tOp (rI0 g) ta tb) (pII (fun i j => dv (g i j)) pa pb) := fun B Z A H0 M σ H ρ R E h Q q =>
  two sa sb E h fun v w x y ρ2 H2 h2 E2 d1 d2 => by
    obtain ⟨i, rfl, h3⟩ := asI_of h2
    obtain ⟨j, rfl, h4⟩ := asI_of h3
    rw [of_int d1, of_int d2]
    exact ⟨i, j, rfl, rfl, q _ _ _ _ h4 E2 (dv_q (hg i j))⟩
theorem sim_iic {C : Int → Int → Prop} {g : Int → Int → V} {ta tb : TE} {pa pb : PE'} (sa : Sim K ta pa) (sb : Sim K tb pb) (hg : ∀ i j, sv (g i j) = true) : Sim K (tOp (rI C g) ta tb) (pIIc C (fun i j => dv (g i j)) pa pb) := fun B Z A H0 M σ H ρ R E h Q q =>
  two sa sb E h fun v w x y ρ2 H2 h2 E2 d1 d2 => by
    obtain ⟨i, rfl, h3⟩ := asI_of h2
    obtain ⟨j, rfl, h4⟩ := asI_of h3
    rw [of_int d1, of_int d2]
    exact ⟨i, j, rfl, rfl, h4.1, q _ _ _ _ h4.2 E2 (dv_q (hg i j))⟩
theorem sim_u {g : Int → V} {ta : TE} {pa : PE'} (sa : Sim K ta pa) (hg : ∀ i, sv (g i) = true) : Sim K (tUn (rU g) ta) (pI (fun i => dv (g i)) pa) := fun B Z A H0 M σ H ρ R E h Q q =>
  sa B Z A H0 M σ H ρ _ E h _ fun v x ρ1 H1 h1 E1 d1 => by
    obtain ⟨i, rfl, h1⟩ := asI_of h1
    rw [of_int d1]
    exact ⟨i, rfl, q _ _ _ _ h1 E1 (dv_q (hg i))⟩
theorem veil_dp {Z : Addr → Prop} {H : Hp} {v : V} {d : PyData} (n : noD d = true) (h : Dq K (veil Z H) v d) : Dp K H v d := dq_dp _ _ n (dp_grow (veil_grow _ _) _ _ h)
theorem shq_of {d : PyData} (h : shq d = true) : noD d = true ∧ SeqAt.shaped d = true := by
  unfold shq at h
  rwa [Bool.and_eq_true] at h
theorem sim_eqD {ta tb : TE} {pa pb : PE'} (sa : Sim K ta pa) (sb : Sim K tb pb) : Sim K (tOp (rEqD K) ta tb) (pEqD false pa pb) := fun B Z A H0 M σ H ρ R E h Q q =>
  two sa sb E h fun v w x y ρ2 H2 h2 E2 d1 d2 => ⟨x, y, veil_dp (shq_of h2.1).1 d1, veil_dp (shq_of h2.2.1).1 d2, (shq_of h2.1).2, (shq_of h2.2.1).2, q _ _ _ _ h2.2.2 E2 (.bl _)⟩
theorem sim_neD {ta tb : TE} {pa pb : PE'} (sa : Sim K ta pa) (sb : Sim K tb pb) : Sim K (tOp (rNeD K) ta tb) (pEqD true pa pb) := fun B Z A H0 M σ H ρ R E h Q q =>
  two sa sb E h fun v w x y ρ2 H2 h2 E2 d1 d2 => ⟨x, y, veil_dp (shq_of h2.1).1 d1, veil_dp (shq_of h2.2.1).1 d2, (shq_of h2.1).2, (shq_of h2.2.1).2, q _ _ _ _ h2.2.2 E2 (.bl _)⟩
theorem isN_v {H : Hp} {v : V} {d : PyData} (h : Dq K H v d) : decide (v = .non) = isN d := by
  cases h <;> simp [isN]
theorem sim_isN {ta : TE} {pa : PE'} (sa : Sim K ta pa) : Sim K (tOp rIsN ta (tC .non)) (pIsN false pa) := fun B Z A H0 M σ H ρ R E h Q q =>
  sa B Z A H0 M σ H ρ _ E h _ fun v x ρ1 H1 h1 E1 d1 => ⟨rfl, by rw [isN_v d1]; exact q _ _ _ _ h1 E1 (.bl _)⟩
theorem sim_notN {ta : TE} {pa : PE'} (sa : Sim K ta pa) : Sim K (tOp rNotN ta (tC .non)) (pIsN true pa) := fun B Z A H0 M σ H ρ R E h Q q =>
  sa B Z A H0 M σ H ρ _ E h _ fun v x ρ1 H1 h1 E1 d1 => ⟨rfl, by rw [isN_v d1]; exact q _ _ _ _ h1 E1 (.bl _)⟩
/-- is True, is False, of whatever -/
def rIsBA : R2 := fun x y H Q => ∃ b, y = .bl b ∧ Q (.bl (decide (x = .bl b))) H
theorem op_isBA {X : Cx} : OpR X (compareOp .Is) rIsBA := by
  intro pins s σ H x y v u Q I rx ry h
  obtain ⟨b, rfl, q⟩ := h
  cases (show u = Value.bool b from ry)
  by_cases e : x = .bl b
  · subst e
    cases (show v = Value.bool b from rx)
    exact wpAny_is_self rfl ⟨.bl true, H, I, rfl, by simpa using q⟩
  · have ne : v ≠ Value.bool b := by
      intro z
      subst z
      cases x <;> first
        | (cases rx; exact e rfl)
        | (cases rx; done)
        | (obtain ⟨t, z⟩ := rx; cases z)
    exact wpAny_is_other (by cases x <;> first | (cases rx; rfl) | (obtain ⟨t, z⟩ := rx; cases z; rfl)) ne ⟨.bl false, H, I, rfl, by simpa [e] using q⟩
theorem isB_v {H : Hp} {v : V} {d : PyData} {b : Bool} (h : Dq K H v d) : decide (v = .bl b) = isBl b d := by
  cases h <;> simp [isBl]
theorem sim_isB {ta : TE} {pa : PE'} {b : Bool} (sa : Sim K ta pa) : Sim K (tOp rIsBA ta (tC (.bl b))) (pIsB b pa) := fun B Z A H0 M σ H ρ R E h Q q =>
  sa B Z A H0 M σ H ρ _ E h _ fun v x ρ1 H1 h1 E1 d1 => ⟨b, rfl, by rw [isB_v d1]; exact q _ _ _ _ h1 E1 (.bl _)⟩
/-- type(x) is T -/
def rIsT2 : R2 := fun x y H Q => ∃ a b, x = .ty a ∧ y = .ty b ∧ Q (.bl (decide (a = b))) H
theorem op_isT2 {X : Cx} : OpR X (compareOp .Is) rIsT2 := op_isTyB
theorem tyB_of {Z : Addr → Prop} {H : Hp} {v : V} {d : PyData} (h : Dq K (veil Z H) v d) : TyB K H v (tyN d) := by
  cases h with
  | non => exact .non
  | bl b => exact .bl b
  | int i => exact .int i
  | str x => exact .str x
  | lst h r => exact .lst (.of (veil_grow _ _ _ _ h))
  | tup h r => exact .tup (grow_t (veil_grow _ _) h)
  | dct h r => exact .dK (veil_grow _ _ _ _ h)
theorem sim_isTy {ta : TE} {pa : PE'} {T : String} (sa : Sim K ta pa) : Sim K (tOp rIsT2 (tCB (rTyp K) (tCons ta tNil)) (tC (.ty T))) (pIsTy T pa) := fun B Z A H0 M σ H ρ R E h Q q =>
  sa B Z A H0 M σ H ρ _ E h _ fun v x ρ1 H1 h1 E1 d1 => ⟨v, tyN x, rfl, tyB_of d1, tyN x, T, rfl, rfl, q _ _ _ _ h1 E1 (.bl _)⟩
theorem sim_chain {f g : Int → Int → Bool} {ta tb tc : TE} {pa pb pc : PE'} (sa : Sim K ta pa) (sb : Sim K tb pb) (sc : Sim K tc pc) :
    Sim K (tChain (rI0 fun i j => .bl (f i j)) (rI0 fun i j => .bl (g i j)) ta tb tc) (pChain f g pa pb pc) := fun B Z A H0 M σ H ρ R E h Q q =>
  two sa sb E h fun v w x y ρ2 H2 h2 E2 d1 d2 => by
    obtain ⟨i, rfl, h3⟩ := asI_of h2
    obtain ⟨j, rfl, h4⟩ := asI_of h3
    clear h2 h3
    have h2 := h4
    rw [of_int d1, of_int d2]
    refine ⟨i, j, rfl, rfl, f i j, rfl, ?_⟩
    cases hf : f i j with
    | true =>
      rw [if_pos hf] at h2
      rw [if_pos rfl]
      refine sc B Z A H0 M σ H2 ρ2 _ E2 h2 _ fun v3 z ρ3 H3 h3 E3 d3 => ?_
      obtain ⟨k, rfl, h3⟩ := asI_of h3
      rw [of_int d3]
      exact ⟨j, k, rfl, rfl, q _ _ _ _ h3 E3 (.bl _)⟩
    | false =>
      rw [hf, if_neg Bool.false_ne_true] at h2
      rw [if_neg Bool.false_ne_true]
      exact q _ _ _ _ h2 E2 (.bl _)
theorem sim_nil : SimA K tNil pNil := fun B Z A H0 M σ H ρ R E h Q q => q [] [] ρ H h E .nil
theorem sim_cons {ta : TE} {tr : TA} {pa : PE'} {pr : PA'} (sa : Sim K ta pa) (sr : SimA K tr pr) : SimA K (tCons ta tr) (pCons pa pr) := fun B Z A H0 M σ H ρ R E h Q q =>
  sa B Z A H0 M σ H ρ _ E h _ fun v x ρ1 H1 h1 E1 d1 => sr B Z _ H0 M σ H1 ρ1 _ E1.anchor h1 _ fun vs ds ρ2 H2 h2 E2 d2 =>
    q _ _ ρ2 H2 h2 (E2.weak E1.anch) (.cons (dp_grow E2.anch _ _ d1) d2)
theorem Dq.new {Z : Addr → Prop} {H : Hp} {p : Addr} {vs : List V} {ds : List PyData} (hz : ¬ Z p) (h : H p = none) (r : Dqs K (veil Z H) vs ds) : Dq K (veil Z (upd H p (.tup vs))) (.ref p) (.tuple ds) :=
  .tup (.of (veil_on hz upd_same)) (dps_grow (grow_veil (grow_new h)) _ _ r)
theorem Dq.newL {Z : Addr → Prop} {H : Hp} {p : Addr} {vs : List V} {ds : List PyData} (hz : ¬ Z p) (h : H p = none) (r : Dqs K (veil Z H) vs ds) : Dq K (veil Z (upd H p (.lst vs))) (.ref p) (.list ds) :=
  .lst (veil_on hz upd_same) (dps_grow (grow_veil (grow_new h)) _ _ r)
theorem sz5 {n : Nat} (h : n ≤ 100000) : n ≤ sizeLine := Nat.le_trans h (by decide)
theorem sim_tup {ta : TA} {pa : PA'} (sa : SimA K ta pa) : Sim K (tTup ta) (pTup pa) := fun B Z A H0 M σ H ρ R E h Q q =>
  sa B Z A H0 M σ H ρ _ E h _ fun vs ds ρ1 H1 h1 E1 d1 => ⟨sz5 (by rw [dqs_len d1]; exact h1.1), fun p hp => q _ _ _ _ h1.2 (E1.grown (grow_new hp)) (.new (E1.veiled hp) hp d1)⟩
theorem sim_lst {ta : TA} {pa : PA'} (sa : SimA K ta pa) : SimL K (tLst ta) (pLst pa) := fun B Z A H0 M σ H ρ R E h Q q =>
  sa B Z A H0 M σ H ρ _ E h _ fun vs ds ρ1 H1 h1 E1 d1 => ⟨sz5 (by rw [dqs_len d1]; exact h1.1), fun p hp => q p vs ds ρ1 H1 h1.2 E1 hp d1⟩
theorem sim_new {te : TE} {pa : PA'} (sa : SimL K te pa) : Sim K te (pNew pa) := fun B Z A H0 M σ H ρ R E h Q q =>
  sa B Z A H0 M σ H ρ _ E h _ fun l vs ds ρ1 H1 h1 E1 hl d1 => q _ _ _ _ h1 (E1.grown (grow_new hl)) (.newL (E1.veiled hl) hl d1)
theorem at_dq {H : Hp} {vs : List V} {ds : List PyData} {i : Int} {d : PyData} (r : Dqs K H vs ds) (h : atI ds i = some d) : ∃ v, atI vs i = some v ∧ Dq K H v d := by
  unfold atI at h ⊢
  rw [dqs_len r]
  cases e : ixN ds.length i with
  | none =>
    rw [e] at h
    cases h
  | some j =>
    rw [e] at h
    exact dqs_get r h
theorem sim_ix {ta tb : TE} {pa pb : PE'} (sa : Sim K ta pa) (sb : Sim K tb pb) : Sim K (tOp (rIx K) ta tb) (pIx pa pb) := fun B Z A H0 M σ H ρ R E h Q q =>
  two sa sb E h fun v w x y ρ2 H2 h2 E2 d1 d2 => by
    cases x with
    | list ds =>
      obtain ⟨i, rfl, h2⟩ := asI_of h2
      obtain ⟨d, hd, h2⟩ := asO_of h2
      rw [of_int d2]
      cases d1 with
      | lst hl r =>
        obtain ⟨u, hu, du⟩ := at_dq r hd
        exact .inl ⟨_, _, i, u, rfl, rfl, .of (veil_grow _ _ _ _ hl), hu, q _ _ _ _ h2 E2 du⟩
    | tuple ds =>
      obtain ⟨i, rfl, h2⟩ := asI_of h2
      obtain ⟨d, hd, h2⟩ := asO_of h2
      rw [of_int d2]
      cases d1 with
      | tup hl r =>
        obtain ⟨u, hu, du⟩ := at_dq r hd
        exact .inr (.inl ⟨_, _, i, u, rfl, rfl, grow_t (veil_grow _ _) hl, hu, q _ _ _ _ h2 E2 du⟩)
    | _ => exact h2.elim
theorem sim_andV {ta tb : TE} {pa pb : PE'} (sa : Sim K ta pa) (sb : Sim K tb pb) : Sim K (tAndV ta tb) (pAndV pa pb) := fun B Z A H0 M σ H ρ R E h Q q =>
  sa B Z A H0 M σ H ρ _ E h _ fun v x ρ1 H1 h1 E1 d1 => by
    obtain ⟨c, rfl, h1⟩ := asB_of h1
    refine ⟨c, of_bl d1, ?_⟩
    cases c with
    | true => exact sb B Z A H0 M σ H1 ρ1 _ E1 h1 _ q
    | false => exact q _ _ _ _ h1 E1 (.bl _)
theorem sim_orV {ta tb : TE} {pa pb : PE'} (sa : Sim K ta pa) (sb : Sim K tb pb) : Sim K (tOrV ta tb) (pOrV pa pb) := fun B Z A H0 M σ H ρ R E h Q q =>
  sa B Z A H0 M σ H ρ _ E h _ fun v x ρ1 H1 h1 E1 d1 => by
    obtain ⟨c, rfl, h1⟩ := asB_of h1
    refine ⟨c, of_bl d1, ?_⟩
    cases c with
    | true => exact q _ _ _ _ h1 E1 (.bl _)
    | false => exact sb B Z A H0 M σ H1 ρ1 _ E1 h1 _ q
theorem sim_notV {ta : TE} {pa : PE'} (sa : Sim K ta pa) : Sim K (tNotV ta) (pNotV pa) := fun B Z A H0 M σ H ρ R E h Q q =>
  sa B Z A H0 M σ H ρ _ E h _ fun v x ρ1 H1 h1 E1 d1 => by
    obtain ⟨c, rfl, h1⟩ := asB_of h1
    exact ⟨c, of_bl d1, q _ _ _ _ h1 E1 (.bl _)⟩
theorem sim_ifE {tt : TT} {ta tb : TE} {pt : PT'} {pa pb : PE'} (st : SimT K tt pt) (sa : Sim K ta pa) (sb : Sim K tb pb) : Sim K (tIf tt ta tb) (pIfE pt pa pb) := fun B Z A H0 M σ H ρ R E h Q q =>
  st B Z A H0 M σ H ρ _ E h _ fun c ρ1 H1 h1 E1 => by
    cases c with
    | true => exact sa B Z A H0 M σ H1 ρ1 _ E1 h1 _ q
    | false => exact sb B Z A H0 M σ H1 ρ1 _ E1 h1 _ q
theorem sim_tst {ta : TE} {pa : PE'} (sa : Sim K ta pa) : SimT K (tTest ta) (pTst pa) := fun B Z A H0 M σ H ρ R E h Q q =>
  sa B Z A H0 M σ H ρ _ E h _ fun v x ρ1 H1 h1 E1 d1 => by
    obtain ⟨c, rfl, h1⟩ := asB_of h1
    exact ⟨c, of_bl d1, q _ _ _ h1 E1⟩
theorem sim_tB {ta : TE} {pa : PE'} (sa : Sim K ta pa) : SimT K (tB ta) (pTst pa) := fun B Z A H0 M σ H ρ R E h Q q =>
  sa B Z A H0 M σ H ρ _ E h _ fun v x ρ1 H1 h1 E1 d1 => by
    obtain ⟨c, rfl, h1⟩ := asB_of h1
    exact ⟨c, of_bl d1, q _ _ _ h1 E1⟩
theorem sim_and {ta tb : TT} {pa pb : PT'} (sa : SimT K ta pa) (sb : SimT K tb pb) : SimT K (tAnd ta tb) (pAnd pa pb) := fun B Z A H0 M σ H ρ R E h Q q =>
  sa B Z A H0 M σ H ρ _ E h _ fun c ρ1 H1 h1 E1 => by
    cases c with
    | true => exact sb B Z A H0 M σ H1 ρ1 _ E1 h1 _ q
    | false => exact q _ _ _ h1 E1
theorem sim_or {ta tb : TT} {pa pb : PT'} (sa : SimT K ta pa) (sb : SimT K tb pb) : SimT K (tOr ta tb) (pOr pa pb) := fun B Z A H0 M σ H ρ R E h Q q =>
  sa B Z A H0 M σ H ρ _ E h _ fun c ρ1 H1 h1 E1 => by
    cases c with
    | true => exact q _ _ _ h1 E1
    | false => exact sb B Z A H0 M σ H1 ρ1 _ E1 h1 _ q
theorem sim_not {ta : TT} {pa : PT'} (sa : SimT K ta pa) : SimT K (tNot ta) (pNot pa) := fun B Z A H0 M σ H ρ R E h Q q =>
  sa B Z A H0 M σ H ρ _ E h _ fun c ρ1 H1 h1 E1 => q _ _ _ h1 E1
theorem sim_tru {ta : TE} {pa : PE'} (sa : Sim K ta pa) : SimT K (tTru K ta) (pTru pa) := fun B Z A H0 M σ H ρ R E h Q q =>
  sa B Z A H0 M σ H ρ _ E h _ fun v x ρ1 H1 ⟨b, hb, h1⟩ E1 d1 => by
    refine ⟨b, ?_, q _ _ _ h1 E1⟩
    cases d1 with
    | non => cases hb; rfl
    | bl c => cases hb; rfl
    | int i => cases hb; rfl
    | str z => cases hb
    | @lst a vs ds hl r =>
      cases hb
      refine .inl ⟨vs, .of (veil_grow _ _ _ _ hl), ?_⟩
      cases r <;> rfl
    | @tup a vs ds hl r =>
      cases hb
      refine .inr (.inl ⟨vs, grow_t (veil_grow _ _) hl, ?_⟩)
      cases r <;> rfl
    | dct hl r => cases hb
end
end Pu
namespace Pu
open PySem L2
section
variable {K : PySem.W.Frag} {B Z : Addr → Prop} {A H0 H : Hp} {M : Nat → Option Addr} {σ : St} {ρ : En}

/-! ### the environment behind a store -/
theorem join_set {σ : St} {i : Nat} {v : V} (h : i < σ.length) : ((σ.set i (some v))[i]?).join = some v := by
  rw [List.getElem?_set_self h]
  rfl
theorem join_ne {σ : St} {i j : Nat} {o : Option V} (h : i ≠ j) : ((σ.set i o)[j]?).join = (σ[j]?).join := by
  rw [List.getElem?_set_ne h]
theorem set_at {ρ : En} {i j : Nat} {c c' : Cell} (h : (ρ.set i c)[j]? = some c') : (i = j ∧ i < ρ.length ∧ c' = c) ∨ (i ≠ j ∧ ρ[j]? = some c') := by
  by_cases e : i = j
  · subst e
    have hl : i < ρ.length := by
      have := (List.getElem?_eq_some_iff.mp h).1
      rwa [List.length_set] at this
    rw [List.getElem?_set_self hl] at h
    exact .inl ⟨rfl, hl, (Option.some.inj h).symm⟩
  · rw [List.getElem?_set_ne e] at h
    exact .inr ⟨e, h⟩
theorem EnvR.setD (E : EnvR K B Z A H0 M σ H ρ) {i : Nat} {v : V} {d : PyData} (h : Dq K (veil (hid Z M) H) v d) : EnvR K B Z A H0 M (σ.set i (some v)) H (cellSet ρ i (.d d)) := by
  rw [cellSet_eq]
  refine { E with len := by rw [List.length_set, List.length_set]; exact E.len, cell := fun j c hc => ?_ }
  rcases set_at hc with ⟨rfl, hl, rfl⟩ | ⟨ne, hc⟩
  · rw [join_set (by rw [E.len]; exact hl)]
    exact ⟨v, rfl, h⟩
  · rw [join_ne ne]
    exact E.cell j c hc
/-- a place gets a new list for its own -/
theorem EnvR.setO (E : EnvR K B Z A H0 M σ H ρ) {i : Nat} {l : Addr} {vs : List V} {ds : List PyData} (hi : i ≠ 0) (hl : H l = none) (r : Dqs K (veil (hid Z M) H) vs ds) :
    EnvR K B Z A H0 (fun j => if j = i then some l else M j) (σ.set i (some (.ref l))) (upd H l (.lst vs)) (cellSet ρ i (.own ds)) := by
  rw [cellSet_eq]
  have nM : ∀ j, M j ≠ some l := fun j m => E.live j l m hl
  have nZ : ¬ Z l := fun z => E.zl l z hl
  have keep : ∀ a, H a ≠ none → (upd H l (.lst vs)) a = H a := fun a h => upd_ne (fun e => h (e ▸ hl))
  have gv : Grow (veil (hid Z M) H) (veil (hid Z fun j => if j = i then some l else M j) (upd H l (.lst vs))) := fun a o h => by
    obtain ⟨h1, h2⟩ := veil_off h
    refine veil_on ?_ ((keep a (by rw [h2]; intro z; cases z)).trans h2)
    rintro (z | ⟨j, m⟩)
    · exact h1 (.inl z)
    · have m : (if j = i then some l else M j) = some a := m
      by_cases e : j = i
      · rw [if_pos e] at m
        cases m
        rw [hl] at h2
        cases h2
      · rw [if_neg e] at m
        exact h1 (.inr ⟨j, m⟩)
  refine ⟨by rw [List.length_set, List.length_set]; exact E.len, fun a b u h1 h2 => ?_, fun j u m => ?_, fun j u m => ?_, fun a z => ?_, fun a o nb h => ?_, fun j u m => ?_, fun b hb => ?_, E.anch.trans gv, fun j c hc => ?_⟩
  · by_cases ea : a = i
    · by_cases eb : b = i
      · rw [ea, eb]
      · rw [if_pos ea] at h1
        rw [if_neg eb] at h2
        cases h1
        exact absurd h2 (nM b)
    · by_cases eb : b = i
      · rw [if_neg ea] at h1
        rw [if_pos eb] at h2
        cases h2
        exact absurd h1 (nM a)
      · rw [if_neg ea] at h1
        rw [if_neg eb] at h2
        exact E.inj a b u h1 h2
  · by_cases e : j = i
    · rw [if_pos e] at m
      cases m
      rw [upd_same]
      intro z; cases z
    · rw [if_neg e] at m
      rw [keep u (E.live j u m)]
      exact E.live j u m
  · by_cases e : j = i
    · rw [if_pos e] at m
      cases m
      exact nZ
    · rw [if_neg e] at m
      exact E.off j u m
  · rw [keep a (E.zl a z)]
    exact E.zl a z
  · have q := E.ext a o nb h
    rw [keep a (by rw [q]; intro z; cases z)]
    exact q
  · by_cases e : j = i
    · rw [if_pos e] at m
      cases m
      by_cases nb : B l
      · exact .inl nb
      · refine .inr ?_
        cases q : H0 l with
        | none => rfl
        | some o =>
          rw [E.ext l o nb q] at hl
          cases hl
    · rw [if_neg e] at m
      exact E.own j u m
  · rw [if_neg (Ne.symm hi)]
    exact E.m0 b hb
  · rcases set_at hc with ⟨rfl, hk, rfl⟩ | ⟨ne, hc⟩
    · rw [join_set (by rw [E.len]; exact hk)]
      exact ⟨l, vs, rfl, if_pos rfl, upd_same, dps_grow gv _ _ r⟩
    · rw [join_ne ne]
      have h := E.cell j c hc
      have mj : (fun j => if j = i then some l else M j) j = M j := if_neg (Ne.symm ne)
      cases c with
      | no => trivial
      | d x =>
        obtain ⟨v, e, h⟩ := h
        exact ⟨v, e, dp_grow gv _ _ h⟩
      | own xs =>
        obtain ⟨u, ws, e, m, hu, h⟩ := h
        exact ⟨u, ws, e, mj.trans m, (keep u (by rw [hu]; intro z; cases z)).trans hu, dps_grow gv _ _ h⟩
      | dct kvs =>
        obtain ⟨u, ws, e, m, hu, h⟩ := h
        exact ⟨u, ws, e, mj.trans m, (keep u (by rw [hu]; intro z; cases z)).trans hu, kvs_grow gv h⟩
      | box =>
        obtain ⟨b, e, m, r, rows, at_, hb, h0, hr, h1, h2, h3⟩ := h
        exact ⟨b, e, mj.trans m, r, rows, at_, (keep b (by rw [hb]; intro z; cases z)).trans hb, h0, gv _ _ hr, h1, h2, h3⟩
      | obj nm fs =>
        obtain ⟨u, C, dx, ws, e, m, hc, hu, h⟩ := h
        exact ⟨u, C, dx, ws, e, mj.trans m, hc, (keep u (by rw [hu]; intro z; cases z)).trans hu, fds_grow gv h⟩
/-- what a place owns has changed -/
theorem EnvR.putO (E : EnvR K B Z A H0 M σ H ρ) {i : Nat} {l : Addr} {vs : List V} {ds : List PyData} (hs : (σ[i]?).join = some (.ref l)) (hm : M i = some l) (r : Dqs K (veil (hid Z M) H) vs ds) (k : cellAt ρ i ≠ .box) :
    EnvR K B Z A H0 M σ (upd H l (.lst vs)) (cellSet ρ i (.own ds)) := by
  rw [cellSet_eq]
  have hd : hid Z M l := .inr ⟨i, hm⟩
  have gv : Grow (veil (hid Z M) H) (veil (hid Z M) (upd H l (.lst vs))) := fun a o h => by
    obtain ⟨h1, h2⟩ := veil_off h
    exact veil_on h1 ((upd_ne fun e => h1 (by rw [e]; exact hd)).trans h2)
  have nn : ∀ a, H a ≠ none → (upd H l (.lst vs)) a ≠ none := fun a h => by
    by_cases e : a = l
    · rw [e, upd_same]
      intro z; cases z
    · rw [upd_ne e]
      exact h
  refine ⟨by rw [List.length_set]; exact E.len, E.inj, fun j u m => nn u (E.live j u m), E.off, fun a z => nn a (E.zl a z), fun a o nb h => ?_, E.own, E.m0, E.anch.trans gv, fun j c hc => ?_⟩
  · have ne : a ≠ l := fun e => by
      rcases E.own i l hm with b | n
      · exact nb (e ▸ b)
      · rw [e, n] at h
        cases h
    rw [upd_ne ne]
    exact E.ext a o nb h
  · rcases set_at hc with ⟨rfl, hk, rfl⟩ | ⟨ne, hc⟩
    · exact ⟨l, vs, hs, hm, upd_same, dps_grow gv _ _ r⟩
    · have other : ∀ u, M j = some u → u ≠ l := fun u m e => ne (E.inj i j l hm (e ▸ m))
      exact (E.cell j c hc).grow gv fun u m o ho => (upd_ne (other u m)).trans ho
theorem own_at (E : EnvR K B Z A H0 M σ H ρ) {i : Nat} {ds : List PyData} (h : cellAt ρ i = .own ds) : ∃ l vs, σ[i]? = some (some (.ref l)) ∧ M i = some l ∧ H l = some (.lst vs) ∧ Dqs K (veil (hid Z M) H) vs ds := by
  obtain ⟨l, vs, e, m, hl, r⟩ := E.cell i _ (cellAt_some h (by intro z; cases z))
  refine ⟨l, vs, ?_, m, hl, r⟩
  cases q : σ[i]? with
  | none =>
    rw [q] at e
    cases e
  | some o =>
    rw [q] at e
    exact congrArg some e
end

section
variable {K : PySem.W.Frag}
/-! ### statements -/
theorem s_next : SimS K tNext pNext := fun B Z A H0 M σ H ρ D G E h C => C.nx M σ H ρ E h
theorem s_seq {t u : TS} {p q : PS'} (st : SimS K t p) (su : SimS K u q) : SimS K (tSeq t u) (pSeq p q) := fun B Z A H0 M σ H ρ D G E h C =>
  st B Z A H0 M σ H ρ _ _ E h ⟨fun M σ H ρ E h => su B Z A H0 M σ H ρ D G E h C, C.bk, C.ct, C.rt⟩
theorem s_if {tt : TT} {t u : TS} {pt : PT'} {p q : PS'} (sc : SimT K tt pt) (st : SimS K t p) (su : SimS K u q) : SimS K (tIfS tt t u) (pIfS pt p q) := fun B Z A H0 M σ H ρ D G E h C =>
  sc B Z A H0 M σ H ρ _ E h _ fun c ρ1 H1 h1 E1 => by
    cases c with
    | true => exact st B Z A H0 M σ H1 ρ1 D G E1 h1 C
    | false => exact su B Z A H0 M σ H1 ρ1 D G E1 h1 C
theorem hid_z {Z : Addr → Prop} {M : Nat → Option Addr} {H : Hp} : Grow (veil (hid Z M) H) (veil Z H) := veil_less fun _ z => .inl z
theorem hid_zb (E : EnvR K B Z A H0 M σ H ρ) : Grow (veil (hid Z M) H) (veil (fun a => Z a ∨ B a) H) :=
  veil_less fun a z => z.elim Or.inl fun b => Or.inr ⟨0, E.m0 a b⟩
theorem s_ret {te : TE} {pa : PE'} (sa : Sim K te pa) : SimS K (tRet te) (pRet pa) := fun B Z A H0 M σ H ρ D G E h C =>
  sa B Z A H0 M σ H ρ _ E h _ fun v d ρ1 H1 h1 E1 d1 => C.rt M σ H1 ρ1 v d E1 h1 (dp_grow (hid_zb E1) _ _ d1)
theorem s_retN : SimS K tRetN pRetN := fun B Z A H0 M σ H ρ D G E h C => C.rt M σ H ρ .non .none E h .non
theorem s_retO {i : Nat} (hi : i ≠ 0 := by decide) : SimS K (tRet (tVar i)) (pRetO i) := fun B Z A H0 M σ H ρ D G E h C => by
  obtain ⟨ds, hc, h⟩ := asOwn_of h
  obtain ⟨l, vs, e, m, hl, r⟩ := own_at E hc
  exact ⟨.ref l, e, C.rt M σ H ρ _ _ E h (.lst (veil_on (fun z => z.elim (E.off i l m) fun b => hi (E.inj i 0 l m (E.m0 l b))) hl) (dps_grow (hid_zb E) _ _ r))⟩
theorem s_brk : SimS K tBreak pBrk := fun B Z A H0 M σ H ρ D G E h C => C.bk M σ H ρ E h
theorem s_cnt : SimS K tCont pCnt := fun B Z A H0 M σ H ρ D G E h C => C.ct M σ H ρ E h
theorem s_drop {te : TE} {pa : PE'} (sa : Sim K te pa) : SimS K (tDrop te) (pDrop pa) := fun B Z A H0 M σ H ρ D G E h C =>
  sa B Z A H0 M σ H ρ _ E h _ fun v d ρ1 H1 h1 E1 d1 => C.nx M σ H1 ρ1 E1 h1
/-! targets -/
def SimG (K : PySem.W.Frag) (g : TG) (pg : PG') : Prop := ∀ B Z A H0 M σ H ρ v d R, EnvR K B Z A H0 M σ H ρ → Dq K (veil (hid Z M) H) v d → pg d ρ R →
  ∀ Q : St → Hp → Prop, (∀ σ' ρ', R ρ' → EnvR K B Z A H0 M σ' H ρ' → Q σ' H) → g v σ H Q
theorem g_name {i : Nat} : SimG K (gName i) (pgN i) := fun B Z A H0 M σ H ρ v d R E hd h Q q => q _ _ h (E.setD hd)
def SimGs (K : PySem.W.Frag) (g : TGs) (is : List Nat) : Prop := ∀ B Z A H0 M σ H ρ vs ds, EnvR K B Z A H0 M σ H ρ → Dqs K (veil (hid Z M) H) vs ds → ds.length = is.length →
  ∀ Q : St → Hp → Prop, (∀ σ', EnvR K B Z A H0 M σ' H (setAll ρ is ds) → Q σ' H) → g vs σ H Q
theorem gs_nil : SimGs K gNil [] := fun B Z A H0 M σ H ρ vs ds E r hl Q q => by
  cases r with
  | nil => exact ⟨rfl, q _ E⟩
  | cons _ _ => cases hl
theorem gs_cons {i : Nat} {u : TGs} {is : List Nat} (su : SimGs K u is) : SimGs K (gCons (gName i) u) (i :: is) := fun B Z A H0 M σ H ρ vs ds E r hl Q q => by
  cases r with
  | nil => cases hl
  | cons h r => exact ⟨_, _, rfl, su B Z A H0 M _ H _ _ _ (E.setD h) r (by simpa using hl) Q q⟩
theorem g_tup {n : Nat} {u : TGs} {is : List Nat} (su : SimGs K u is) (hn : is.length = n) : SimG K (gTup K n u) (pgT is) := fun B Z A H0 M σ H ρ v d R E hd h Q q => by
  obtain ⟨ds, rfl, hl, h⟩ := asT_of h
  cases hd with
  | tup ht r => exact ⟨_, _, rfl, grow_t (veil_grow _ _) ht, by rw [dqs_len r, hl, hn], su B Z A H0 M σ H ρ _ ds E r hl Q fun σ' E' => q σ' _ h E'⟩
theorem s_asg {te : TE} {pa : PE'} {g : TG} {pg : PG'} (sa : Sim K te pa) (sg : SimG K g pg) : SimS K (tAsg te g) (pAsg pa pg) := fun B Z A H0 M σ H ρ D G E h C =>
  sa B Z A H0 M σ H ρ _ E h _ fun v d ρ1 H1 h1 E1 d1 => sg B Z A H0 M σ H1 ρ1 v d _ E1 d1 h1 _ fun σ' ρ' hR E' => C.nx M σ' H1 ρ' E' hR
theorem s_asgO {te : TE} {pa : PA'} {i : Nat} (sa : SimL K te pa) : SimS K (tAsg te (gName i)) (pAsgO pa i) := fun B Z A H0 M σ H ρ D G E h C =>
  sa B Z A H0 M σ H ρ _ E h.2 _ fun l vs ds ρ1 H1 h1 E1 hl d1 => C.nx _ _ _ _ (E1.setO h.1 hl d1) h1
theorem s_app {i : Nat} {te : TE} {pa : PE'} (sa : Sim K te pa) : SimS K (tDrop (tBM K "list" rAppend (tVar i) (tCons te tNil))) (pApp i pa) := fun B Z A H0 M σ H ρ D G E h C => by
  obtain ⟨ds, hc, h⟩ := asOwn_of h
  obtain ⟨l, vs, e, m, hl, r⟩ := own_at E hc
  refine ⟨.ref l, e, .inl ⟨rfl, vs, .of hl⟩, sa B Z A H0 M σ H ρ _ E h _ fun v d ρ1 H1 h1 E1 d1 => ?_⟩
  obtain ⟨ds1, hc1, h2, h3⟩ := asOwn_of h1
  obtain ⟨l1, vs1, e1, m1, hl1, r1⟩ := own_at E1 hc1
  rw [m] at m1
  cases m1
  refine ⟨l, vs1, v, rfl, rfl, hl1, Nat.lt_of_lt_of_le (by rw [dqs_len r1]; exact h2) (by decide), ?_⟩
  refine C.nx M σ _ _ (E1.putO (by rw [e1]; rfl) m (dqs_app r1 (.cons d1 .nil)) (by rw [hc1]; intro z; cases z)) h3
/-! loops -/
theorem s_forL {tl : TE} {g : TG} {tb : TS} {pl : PE'} {pg : PG'} {pb : PS'} (sl : Sim K tl pl) (sg : SimG K g pg) (sb : SimS K tb pb) :
    SimS K (tFor (iList K tl) g tb) (pFor (pLO pl) pg pb) := fun B Z A H0 M σ H ρ D G E h C =>
  sl B Z A H0 M σ H ρ _ E h _ fun v x ρ1 H1 h1 E1 d1 => by
    obtain ⟨ds, rfl, I, i0, is, ie⟩ := asL_of h1
    cases d1 with
    | @lst a vs _ hs r =>
      refine ⟨a, rfl, ⟨vs, .of (veil_grow _ _ _ _ hs)⟩, for_list (fun i σ' H' => ∃ M' ρ', EnvR K B Z (veil (hid Z M) H1) H0 M' σ' H' ρ' ∧ I i ρ') ⟨M, ρ1, E1.anchor, i0⟩
        (fun i σ' H' _ ⟨M', ρ', E', _⟩ => .of (veil_grow _ _ _ _ (E'.anch _ _ hs))) (fun i y σ' H' hy ⟨M', ρ', E', hI⟩ => ?_) fun σ' H' ⟨M', ρ', E', hI⟩ => C.nx M' σ' H' ρ' (E'.weak E1.anch) (ie ρ' (dqs_len r ▸ hI))⟩
      obtain ⟨d, hd, dd⟩ := dqs_got r hy
      exact sg B Z _ H0 M' σ' H' ρ' y d _ E' (dp_grow E'.anch _ _ dd) (is i d ρ' hd hI) _ fun σ2 ρ2 hR E2 => sb B Z _ H0 M' σ2 H' ρ2 _ _ E2 hR
        ⟨fun M σ H ρ E h => ⟨M, ρ, E, h⟩, fun M σ H ρ E h => C.nx M σ H ρ (E.weak E1.anch) h, fun M σ H ρ E h => ⟨M, ρ, E, h⟩, fun M σ H ρ v d E h k => C.rt M σ H ρ v d (E.weak E1.anch) h k⟩
theorem s_forT {tl : TE} {g : TG} {tb : TS} {pl : PE'} {pg : PG'} {pb : PS'} (sl : Sim K tl pl) (sg : SimG K g pg) (sb : SimS K tb pb) :
    SimS K (tFor (iTup K tl) g tb) (pFor (pTO pl) pg pb) := fun B Z A H0 M σ H ρ D G E h C =>
  sl B Z A H0 M σ H ρ _ E h _ fun v x ρ1 H1 h1 E1 d1 => by
    obtain ⟨ds, rfl, I, i0, is, ie⟩ := asT_of h1
    cases d1 with
    | @tup a vs _ hs r =>
      refine ⟨a, rfl, ⟨vs, grow_t (veil_grow _ _) hs⟩, for_tup (fun i σ' H' => ∃ M' ρ', EnvR K B Z (veil (hid Z M) H1) H0 M' σ' H' ρ' ∧ I i ρ') ⟨M, ρ1, E1.anchor, i0⟩
        (fun i σ' H' _ ⟨M', ρ', E', _⟩ => grow_t (veil_grow _ _) (grow_t E'.anch hs)) (fun i y σ' H' hy ⟨M', ρ', E', hI⟩ => ?_) fun σ' H' ⟨M', ρ', E', hI⟩ => C.nx M' σ' H' ρ' (E'.weak E1.anch) (ie ρ' (dqs_len r ▸ hI))⟩
      obtain ⟨d, hd, dd⟩ := dqs_got r hy
      exact sg B Z _ H0 M' σ' H' ρ' y d _ E' (dp_grow E'.anch _ _ dd) (is i d ρ' hd hI) _ fun σ2 ρ2 hR E2 => sb B Z _ H0 M' σ2 H' ρ2 _ _ E2 hR
        ⟨fun M σ H ρ E h => ⟨M, ρ, E, h⟩, fun M σ H ρ E h => C.nx M σ H ρ (E.weak E1.anch) h, fun M σ H ρ E h => ⟨M, ρ, E, h⟩, fun M σ H ρ v d E h k => C.rt M σ H ρ v d (E.weak E1.anch) h k⟩
theorem s_rng1 {ta : TA} {g : TG} {tb : TS} {pa : PA'} {pg : PG'} {pb : PS'} (sa : SimA K ta pa) (sg : SimG K g pg) (sb : SimS K tb pb) (hn : ∀ ρ R, pa ρ R → pa ρ fun x ρ1 => x.length = 1 ∧ R x ρ1) : SimS K (tFor (iRng1 ta) g tb) (pRng pa pg pb) := fun B Z A H0 M σ H ρ D G E h C =>
  sa B Z A H0 M σ H ρ _ E (hn _ _ h) _ fun vs x ρ1 H1 ⟨hx, lo, hi, hx2, hb, I, i0, is, ie⟩ E1 d1 => by
    rcases hx2 with ⟨rfl, rfl⟩ | rfl
    · have e : vs = [.int hi] := dqs_of_ints (ns := [hi]) d1
      subst e
      refine ⟨hi, rfl, hb.2.2.1, hb.2.2.2, for_range (lo := 0) (n := hi.toNat) (fun i σ' H' => ∃ M' ρ', EnvR K B Z (veil (hid Z M) H1) H0 M' σ' H' ρ' ∧ I i ρ') ⟨M, ρ1, E1.anchor, i0⟩ (fun i σ' H' hlt ⟨M', ρ', E', hI⟩ => ?_)
        fun σ' H' ⟨M', ρ', E', hI⟩ => C.nx M' σ' H' ρ' (E'.weak E1.anch) (ie ρ' (by rw [Int.sub_zero]; exact hI))⟩
      exact sg B Z _ H0 M' σ' H' ρ' _ _ _ E' (.int _) (is i ρ' (by omega) hI) _ fun σ2 ρ2 hR E2 => sb B Z _ H0 M' σ2 H' ρ2 _ _ E2 hR
        ⟨fun M σ H ρ E h => ⟨M, ρ, E, h⟩, fun M σ H ρ E h => C.nx M σ H ρ (E.weak E1.anch) h, fun M σ H ρ E h => ⟨M, ρ, E, h⟩, fun M σ H ρ v d E h k => C.rt M σ H ρ v d (E.weak E1.anch) h k⟩
    · exact absurd hx (by simp)
theorem s_rng2 {ta : TA} {g : TG} {tb : TS} {pa : PA'} {pg : PG'} {pb : PS'} (sa : SimA K ta pa) (sg : SimG K g pg) (sb : SimS K tb pb) (hn : ∀ ρ R, pa ρ R → pa ρ fun x ρ1 => x.length = 2 ∧ R x ρ1) : SimS K (tFor (iRng2 ta) g tb) (pRng pa pg pb) := fun B Z A H0 M σ H ρ D G E h C =>
  sa B Z A H0 M σ H ρ _ E (hn _ _ h) _ fun vs x ρ1 H1 ⟨hx, lo, hi, hx2, hb, I, i0, is, ie⟩ E1 d1 => by
    rcases hx2 with ⟨rfl, rfl⟩ | rfl
    · exact absurd hx (by simp)
    · have e : vs = [.int lo, .int hi] := dqs_of_ints (ns := [lo, hi]) d1
      subst e
      refine ⟨lo, hi, rfl, hb, for_range (lo := lo) (n := (hi - lo).toNat) (fun i σ' H' => ∃ M' ρ', EnvR K B Z (veil (hid Z M) H1) H0 M' σ' H' ρ' ∧ I i ρ') ⟨M, ρ1, E1.anchor, i0⟩ (fun i σ' H' hlt ⟨M', ρ', E', hI⟩ => ?_)
        fun σ' H' ⟨M', ρ', E', hI⟩ => C.nx M' σ' H' ρ' (E'.weak E1.anch) (ie ρ' hI)⟩
      exact sg B Z _ H0 M' σ' H' ρ' _ _ _ E' (.int _) (is i ρ' (by omega) hI) _ fun σ2 ρ2 hR E2 => sb B Z _ H0 M' σ2 H' ρ2 _ _ E2 hR
        ⟨fun M σ H ρ E h => ⟨M, ρ, E, h⟩, fun M σ H ρ E h => C.nx M σ H ρ (E.weak E1.anch) h, fun M σ H ρ E h => ⟨M, ρ, E, h⟩, fun M σ H ρ v d E h k => C.rt M σ H ρ v d (E.weak E1.anch) h k⟩
theorem s_while {tt : TT} {tb : TS} {pt : PT'} {pb : PS'} (st : SimT K tt pt) (sb : SimS K tb pb) : SimS K (tWhile tt tb) (pWhile pt pb) := fun B Z A H0 M σ H ρ D G E ⟨W, ⟨m, w0⟩, ws⟩ C => by
  refine ⟨fun n σ' H' => ∃ M' ρ', EnvR K B Z A H0 M' σ' H' ρ' ∧ W n ρ', ⟨m, M, ρ, E, w0⟩, fun n σ' H' ⟨M', ρ', E', w⟩ => ?_⟩
  refine st B Z A H0 M' σ' H' ρ' _ E' (ws n ρ' w) _ fun c ρ1 H1 h1 E1 => ?_
  cases c with
  | false => exact C.nx M' σ' H1 ρ1 E1 h1
  | true =>
    refine ⟨fun σ2 H2 => ∃ m', m' < n ∧ ∃ M' ρ', EnvR K B Z A H0 M' σ2 H2 ρ' ∧ W m' ρ', fun _ _ h => h, ?_⟩
    exact sb B Z A H0 M' σ' H1 ρ1 _ _ E1 h1 ⟨fun M σ H ρ E ⟨m', l, w⟩ => ⟨m', l, M, ρ, E, w⟩, fun M σ H ρ E h => C.nx M σ H ρ E h, fun M σ H ρ E ⟨m', l, w⟩ => ⟨m', l, M, ρ, E, w⟩, C.rt⟩
end
end Pu
namespace Pu
open PySem L2
/-! ### promises over data -/
def plus (Z : Addr → Prop) (b : Addr) : Addr → Prop := fun a => Z a ∨ a = b
/-- a def of data: n arguments -/
def spP (K : PySem.W.Frag) (n : Nat) (S : FS) : Sp := fun vs H Q _ => vs.length = n ∧ ∃ (Z : Addr → Prop) (ds : List PyData) (k : PyData → Prop), (∀ a, Z a → H a ≠ none) ∧ Dqs K (veil Z H) vs ds ∧
  S ds k ∧ ∀ d v H', k d → Grow H H' → Dq K (veil Z H') v d → Q v H'
/-- a def that draws: the box, then n arguments -/
def spB (K : PySem.W.Frag) (n : Nat) (S : FS) : Sp := fun vs H Q _ => ∃ (b : Addr) (us : List V), vs = .ref b :: us ∧ us.length = n ∧ ∃ (Z : Addr → Prop) (ds : List PyData) (k : PyData → Prop), ¬ Z b ∧ (∀ a, Z a → H a ≠ none) ∧
  BoxAt K (plus Z b) H b ∧ Dqs K (veil (plus Z b) H) us ds ∧
  S ds k ∧ ∀ d v H', k d → (∀ a o, a ≠ b → H a = some o → H' a = some o) → BoxAt K (plus Z b) H' b → Dq K (veil (plus Z b) H') v d → Q v H'
section
variable {K : PySem.W.Frag}
theorem sim_call {n : Nat} {S : FS} {E : XK} {ta : TA} {pa : PA'} (sa : SimA K ta pa) : Sim K (tCall (spP K n S) [] E ta) (pCall n S pa) := fun B Z A H0 M σ H ρ R EE h Q q =>
  sa B Z A H0 M σ H ρ _ EE h _ fun vs ds ρ1 H1 h1 E1 d1 => by
    rw [List.append_nil]
    refine ⟨by rw [dqs_len d1]; exact h1.1, hid Z M, ds, _, ?_, d1, h1.2, fun d v H' k g dv => q v d ρ1 H' k (E1.grown g) dv⟩
    rintro a (z | ⟨i, m⟩)
    · exact E1.zl a z
    · exact E1.live i a m
theorem hid_plus {Z : Addr → Prop} {M : Nat → Option Addr} {i : Nat} {b : Addr} (m : M i = some b) : plus (fun a => hid Z M a ∧ a ≠ b) b = hid Z M := by
  funext a
  apply propext
  constructor
  · rintro (⟨h, _⟩ | e)
    · exact h
    · exact .inr ⟨i, e ▸ m⟩
  · intro h
    by_cases e : a = b
    · exact .inr e
    · exact .inl ⟨h, e⟩
/-- behind a draw -/
theorem EnvR.drawn {B Z : Addr → Prop} {A H0 H H' : Hp} {M : Nat → Option Addr} {σ : L2.St} {ρ : En} (E : EnvR K B Z A H0 M σ H ρ) {i : Nat} {b : Addr} (m : M i = some b) (hc : cellAt ρ i = .box) (g : ∀ a o, a ≠ b → H a = some o → H' a = some o) (hb : BoxAt K (hid Z M) H' b) :
    EnvR K B Z A H0 M σ H' ρ := by
  have nb : H' b ≠ none := by
    obtain ⟨r, rows, at_, h, _⟩ := hb
    rw [h]
    intro z; cases z
  have nn : ∀ a, H a ≠ none → H' a ≠ none := fun a h => by
    by_cases e : a = b
    · rw [e]; exact nb
    · cases q : H a with
      | none => exact absurd q h
      | some o =>
        rw [g a o e q]
        intro z; cases z
  have gv : Grow (veil (hid Z M) H) (veil (hid Z M) H') := fun a o h => by
    obtain ⟨h1, h2⟩ := veil_off h
    exact veil_on h1 (g a o (fun e => h1 (.inr ⟨i, by rw [e]; exact m⟩)) h2)
  refine ⟨E.len, E.inj, fun j u k => nn u (E.live j u k), E.off, fun a z => nn a (E.zl a z), fun a o nB h => ?_, E.own, E.m0, E.anch.trans gv, fun j c h => ?_⟩
  · refine g a o (fun e => ?_) (E.ext a o nB h)
    rcases E.own i b m with x | x
    · exact nB (by rw [e]; exact x)
    · rw [e, x] at h
      cases h
  · by_cases e : j = i
    · subst e
      have h2 := cellAt_some hc (by intro z; cases z)
      rw [h2] at h
      cases h
      obtain ⟨b', e1, m1, _⟩ := E.cell j _ h2
      rw [m] at m1
      cases m1
      exact ⟨b, e1, m, hb⟩
    · exact (E.cell j c h).grow gv fun u mu o ho => g u o (fun z => e (E.inj j i b (by rw [← z]; exact mu) m)) ho
theorem box_at {B Z : Addr → Prop} {A H0 H : Hp} {M : Nat → Option Addr} {σ : L2.St} {ρ : En} (E : EnvR K B Z A H0 M σ H ρ) {i : Nat} (hc : cellAt ρ i = .box) : ∃ b, σ[i]? = some (some (.ref b)) ∧ M i = some b ∧ BoxAt K (hid Z M) H b := by
  obtain ⟨b, e, m, h⟩ := E.cell i _ (cellAt_some hc (by intro z; cases z))
  refine ⟨b, ?_, m, h⟩
  cases q : σ[i]? with
  | none =>
    rw [q] at e
    cases e
  | some o =>
    rw [q] at e
    exact congrArg some e
theorem sim_callB {n i : Nat} {S : FS} {E : XK} {ta : TA} {pa : PA'} (sa : SimA K ta pa) : Sim K (tCall (spB K n S) [] E (tCons (tVar i) ta)) (pCallB n S i pa) := fun B Z A H0 M σ H ρ R EE ⟨hc, h⟩ Q q => by
  obtain ⟨b, e, m, _⟩ := box_at EE hc
  refine ⟨.ref b, e, sa B Z A H0 M σ H ρ _ EE h _ fun vs ds ρ1 H1 h1 E1 d1 => ?_⟩
  obtain ⟨b1, e1, m1, hb⟩ := box_at E1 h1.1
  rw [m] at m1
  cases m1
  rw [List.append_nil]
  refine ⟨b, vs, rfl, by rw [dqs_len d1]; exact h1.2.1, fun a => hid Z M a ∧ a ≠ b, ds, _, fun z => z.2 rfl, ?_, by rw [hid_plus m]; exact hb, by rw [hid_plus m]; exact d1, h1.2.2, fun d v H' k g hb' dv => ?_⟩
  · rintro a ⟨z | ⟨j, mj⟩, _⟩
    · exact E1.zl a z
    · exact E1.live j a mj
  · rw [hid_plus m] at hb' dv
    exact q v d ρ1 H' k (E1.drawn m h1.1 g hb') dv
end

/-! ### a def keeps its promise -/
def startE (N : List Str) (ds : List PyData) : En := ds.map Cell.d ++ List.replicate (N.length - ds.length) .no
theorem no_hid {Z : Addr → Prop} : hid Z (fun _ => none) = Z := by
  funext a
  exact propext ⟨fun h => h.elim id fun ⟨_, z⟩ => (nomatch z), fun h => Or.inl h⟩
theorem one_hid {Z : Addr → Prop} {b : Addr} : hid Z (fun i => if i = 0 then some b else none) = plus Z b := by
  funext a
  refine propext ⟨fun h => h.elim Or.inl fun ⟨i, z⟩ => ?_, fun h => h.elim Or.inl fun e => Or.inr ⟨0, by rw [e]; rfl⟩⟩
  have z : (if i = 0 then some b else none) = some a := z
  by_cases e : i = 0
  · rw [if_pos e] at z
    cases z
    exact .inr rfl
  · rw [if_neg e] at z
    cases z
section
variable {K : PySem.W.Frag}
theorem start_len {N : List Str} {vs : List V} (h : vs.length ≤ N.length) : (L2.start N vs).length = N.length := by
  unfold L2.start
  rw [List.length_append, List.length_map, List.length_replicate]
  omega
theorem startE_len {N : List Str} {vs : List PyData} (h : vs.length ≤ N.length) : (startE N vs).length = N.length := by
  unfold startE
  rw [List.length_append, List.length_map, List.length_replicate]
  omega
theorem start_cell {N : List Str} {H : Hp} {vs : List V} {ds : List PyData} (r : Dqs K H vs ds) {i : Nat} {c : Cell} (h : (startE N ds)[i]? = some c) : c = .no ∨ ∃ v d, c = .d d ∧ ((L2.start N vs)[i]?).join = some v ∧ Dq K H v d := by
  unfold startE at h
  by_cases hi : i < ds.length
  · rw [List.getElem?_append_left (by rw [List.length_map]; exact hi), List.getElem?_map, List.getElem?_eq_getElem hi] at h
    obtain ⟨v, hv, dv⟩ := dqs_get r (List.getElem?_eq_getElem hi)
    refine .inr ⟨v, ds[i], (Option.some.inj h).symm, ?_, dv⟩
    unfold L2.start
    rw [List.getElem?_append_left (by rw [List.length_map, dqs_len r]; exact hi), List.getElem?_map, hv]
    rfl
  · rw [List.getElem?_append_right (by rw [List.length_map]; omega), List.getElem?_replicate] at h
    split at h
    · exact .inl (Option.some.inj h).symm
    · cases h
section
variable {P : Program} {w : World} {mg : Str → Option Value} {base : Heap}
/-- the body of a def as a term, its pure reading -/
def Body (P : Program) (w : World) (K : PySem.W.Frag) (mg : Str → Option Value) (base : Heap) (N : List Str) (qual : Str) (st : Stmt) (f : Addr) (k : Nat) (go : PS' → Prop) : Prop :=
  ∀ (cdv : Value) (A : Around) (outer : List Env) (s : Shared) (H : Hp) (E : XK), Room k (A.deeper (PyProof.Rows.envOfC qual (defScope st) s.heap.objs.size f cdv)) →
    ∃ t p, PSs (cxOf CX0 P w K mg base N qual (defScope st) f cdv A outer s H E).nox (defBody st) t ∧ SimS K t p ∧ go p
theorem ok_P {x qual : Str} {st : Stmt} {f : Addr} {fd : FuncData} {N ps : List Str} {k n : Nat} {S : FS} (F : Fun K x qual st f fd) (Sc : FnScope N ps (defScope st)) (hn : ps.length = n)
    (hb : Body P w K mg base N qual st f k fun p => ∀ ds c, ds.length = n → S ds c → p ⟨fun _ => c .none, fun d _ => c d, fun _ => False, fun _ => False⟩ (startE N ds)) : FnOk P w K mg base CX0 (k + 1) f fd ps (spP K n S) := by
  refine F.ok Sc (fun vs H Q E h => by rw [h.1, hn]) (fun cdv A outer s H vs Q E hr h => ?_)
  obtain ⟨hl, Z, ds, c, hz, r, hS, q⟩ := h
  obtain ⟨t, p, ht, hs, hp⟩ := hb cdv A outer s H E hr
  have hnl : ps.length ≤ N.length := by
    have := congrArg List.length Sc.pre
    rw [List.length_take] at this
    omega
  have dl := dqs_len r
  refine ⟨t, ht, hs (fun _ => False) Z (fun _ => none) H (fun _ => none) _ H (startE N ds) _ _ ?_ (hp ds c (by omega) hS) ?_⟩
  · refine ⟨by rw [start_len (by omega), startE_len (by omega)], fun _ _ _ z => (nomatch z), fun _ _ z => (nomatch z), fun _ _ z => (nomatch z), hz, fun _ _ _ h => h, fun _ _ z => (nomatch z), fun _ z => False.elim z, fun _ _ z => (nomatch z), fun i cc hc => ?_⟩
    rcases start_cell r hc with rfl | ⟨v, d, rfl, e, dv⟩
    · trivial
    · refine ⟨v, e, ?_⟩
      rw [no_hid]
      exact dv
  · refine ⟨fun M σ H' ρ E' k => q .none .non H' k (fun a o e => E'.ext a o id e) .non, fun _ _ _ _ _ z => z.elim, fun _ _ _ _ _ z => z.elim, fun M σ H' ρ v d E' k dv => q d v H' k (fun a o e => E'.ext a o id e) (dp_grow (veil_less fun _ z => .inl z) _ _ dv)⟩
theorem ok_B {x qual : Str} {st : Stmt} {f : Addr} {fd : FuncData} {N ps : List Str} {k n : Nat} {S : FS} (F : Fun K x qual st f fd) (Sc : FnScope N ps (defScope st)) (hn : ps.length = n + 1)
    (hb : Body P w K mg base N qual st f k fun p => ∀ ds c, ds.length = n → S ds c → p ⟨fun ρ => cellAt ρ 0 = .box ∧ c .none, fun d ρ => cellAt ρ 0 = .box ∧ c d, fun _ => False, fun _ => False⟩ (.box :: startE N.tail ds)) : FnOk P w K mg base CX0 (k + 1) f fd ps (spB K n S) := by
  refine F.ok Sc (fun vs H Q E h => ?_) (fun cdv A outer s H vs Q E hr h => ?_)
  · obtain ⟨b, us, rfl, hl, _⟩ := h
    rw [List.length_cons, hl, hn]
  obtain ⟨b, us, rfl, hl, Z, ds, c, nz, hz, box, r, hS, q⟩ := h
  obtain ⟨t, p, ht, hs, hp⟩ := hb cdv A outer s H E hr
  have hnl : ps.length ≤ N.length := by
    have := congrArg List.length Sc.pre
    rw [List.length_take] at this
    omega
  have dl := dqs_len r
  have nb : H b ≠ none := by
    obtain ⟨r, rows, at_, h, _⟩ := box
    rw [h]
    intro z; cases z
  have s0 : L2.start N (.ref b :: us) = some (.ref b) :: L2.start N.tail us := by
    unfold L2.start
    rw [List.map_cons, List.length_cons, List.length_tail, List.cons_append]
    congr 3
    omega
  have fin : ∀ M σ H' ρ, EnvR K (fun a => a = b) Z (fun _ => none) H M σ H' ρ → cellAt ρ 0 = .box → ∀ v d, c d → Dq K (veil (plus Z b) H') v d → Q v H' := fun M σ H' ρ E' hc v d k dv => by
    obtain ⟨b', e1, m1, hb'⟩ := box_at E' hc
    have m := E'.m0 b rfl
    rw [m] at m1
    cases m1
    obtain ⟨r, rows, at_, h, h0, hr, h1, h2, h3⟩ := hb'
    refine q d v H' k (fun a o ne e => E'.ext a o ne e) ⟨r, rows, at_, h, h0, ?_, h1, h2, h3⟩ dv
    refine veil_less ?_ _ _ hr
    rintro a (z | e)
    · exact .inl z
    · exact .inr ⟨0, by rw [e]; exact m⟩
  refine ⟨t, ht, hs (fun a => a = b) Z (fun _ => none) H (fun i => if i = 0 then some b else none) _ H (.box :: startE N.tail ds) _ _ ?_ (hp ds c (by omega) hS) ?_⟩
  · rw [s0]
    refine ⟨?_, fun i j l h1 h2 => ?_, fun i l h => ?_, fun i l h => ?_, hz, fun _ _ _ h => h, fun i l h => ?_, fun b' e => (by rw [e]; rfl), fun _ _ z => (nomatch z), fun i cc hc => ?_⟩
    · rw [List.length_cons, List.length_cons, start_len (by rw [List.length_tail]; omega), startE_len (by rw [List.length_tail]; omega)]
    · by_cases ei : i = 0
      · by_cases ej : j = 0
        · rw [ei, ej]
        · rw [if_neg ej] at h2; cases h2
      · rw [if_neg ei] at h1; cases h1
    · by_cases ei : i = 0
      · rw [if_pos ei] at h; cases h; exact nb
      · rw [if_neg ei] at h; cases h
    · by_cases ei : i = 0
      · rw [if_pos ei] at h; cases h; exact nz
      · rw [if_neg ei] at h; cases h
    · by_cases ei : i = 0
      · rw [if_pos ei] at h; cases h; exact .inl rfl
      · rw [if_neg ei] at h; cases h
    · cases i with
      | zero =>
        have e : cc = .box := (Option.some.inj hc).symm
        rw [e]
        exact ⟨b, rfl, rfl, by rw [one_hid]; exact box⟩
      | succ i =>
        rw [List.getElem?_cons_succ] at hc ⊢
        rcases start_cell r hc with rfl | ⟨v, d, rfl, e, dv⟩
        · trivial
        · refine ⟨v, e, ?_⟩
          rw [one_hid]
          exact dv
  · exact ⟨fun M σ H' ρ E' k => fin M σ H' ρ E' k.1 .non .none k.2 .non, fun _ _ _ _ _ z => z.elim, fun _ _ _ _ _ z => z.elim, fun M σ H' ρ v d E' k dv => fin M σ H' ρ E' k.1 v d k.2 dv⟩
end
end
end Pu
namespace Pu
open PySem L2
section
variable {X : Cx}
theorem either {f : Value → Value → Sem Value} {r r' : R2} (h : OpR X f r) (h' : OpR X f r') : OpR X f fun x y H Q => r x y H Q ∨ r' x y H Q := fun pins s σ H x y v u Q I rx ry q =>
  q.elim (h pins s σ H x y v u Q I rx ry) (h' pins s σ H x y v u Q I rx ry)
/-- + of two ints, tuples, lists -/
def rPlus (K : PySem.W.Frag) : R2 := fun x y H Q => rI0 (fun i j => .int (i + j)) x y H Q ∨ rCatA K x y H Q ∨ rCat x y H Q
theorem op_plus : OpR X (binaryOp .Add) (rPlus X.K) := either op_add (either op_catA op_cat)
/-- a slice of a list or a tuple -/
def rCut (K : PySem.W.Frag) : V → Option Int → Option Int → Hp → VK → Prop := fun x lo hi H Q => rSlL K x lo hi H Q ∨ rSlA K x lo hi H Q
theorem sl_cut : SlR X (rCut X.K) := SlR.or sl_list sl_tupA
def rLen (K : PySem.W.Frag) : List V → Hp → VK → Prop := fun xs H Q => ∃ x n, xs = [x] ∧ LenV K x H n ∧ Q (.int (n : Nat)) H
theorem c_len : CallR X (.builtin "len") (rLen X.K) := call_len
def rTupOf (K : PySem.W.Frag) : List V → Hp → VK → Prop := fun xs H Q => ∃ p ys, xs = [.ref p] ∧ ((SqL K H p ys ∧ ∀ l, H l = none → Q (.ref l) (upd H l (.tup ys))) ∨ (SqT K H p ys ∧ Q (.ref p) H))
theorem c_tuple : CallR X (.type "tuple") (rTupOf X.K) := call_tuple_of
def rInt1 : List V → Hp → VK → Prop := fun xs H Q => (∃ i, xs = [.int i] ∧ Q (.int i) H) ∨ ∃ k, xs = [.bl k] ∧ Q (.int (if k then 1 else 0)) H
theorem c_int : CallR X (.type "int") rInt1 := call_int1
end

def lenD : PyData → Option Nat
  | .list ds => some ds.length
  | .tuple ds => some ds.length
  | _ => none
def fLen : FS := fun ds k => match ds with
  | [d] => ∃ n, lenD d = some n ∧ k (.int (n : Nat))
  | _ => False
def fTuple : FS := fun ds k => match ds with
  | [d] => asS d fun xs => k (.tuple xs)
  | _ => False
def fInt : FS := fun ds k => match ds with
  | [.int i] => k (.int i)
  | [.bool b] => k (.int (if b then 1 else 0))
  | _ => False
def fSorted : FS := fun ds k => match ds with
  | [d] => ∃ ns : List Int, (d = .list (ns.map PyData.int) ∨ d = .tuple (ns.map PyData.int)) ∧ ∀ ns' : List Int, ns'.Perm ns → ns'.Pairwise (· ≤ ·) → k (.list (ns'.map PyData.int))
  | _ => False
theorem fLen_of {ds : List PyData} {k : PyData → Prop} (h : fLen ds k) : ∃ d n, ds = [d] ∧ lenD d = some n ∧ k (.int (n : Nat)) := by
  unfold fLen at h
  split at h
  · obtain ⟨n, h1, h2⟩ := h
    exact ⟨_, n, rfl, h1, h2⟩
  · exact h.elim
theorem fTuple_of {ds : List PyData} {k : PyData → Prop} (h : fTuple ds k) : ∃ xs, (ds = [.list xs] ∨ ds = [.tuple xs]) ∧ k (.tuple xs) := by
  unfold fTuple at h
  split at h
  · rename_i d
    cases d <;> first | exact ⟨_, .inl rfl, h⟩ | exact ⟨_, .inr rfl, h⟩ | exact h.elim
  · exact h.elim
theorem fInt_of {ds : List PyData} {k : PyData → Prop} (h : fInt ds k) : (∃ i, ds = [.int i] ∧ k (.int i)) ∨ ∃ b : Bool, ds = [.bool b] ∧ k (.int (if b then 1 else 0)) := by
  unfold fInt at h
  split at h
  · exact .inl ⟨_, rfl, h⟩
  · exact .inr ⟨_, rfl, h⟩
  · exact h.elim
def pSorted (pa : PA') : PA' := fun ρ R => pa ρ fun ds ρ1 => ∃ ns : List Int, ds = [.list (ns.map PyData.int)] ∧ ∀ ns' : List Int, ns'.Perm ns → ns'.Pairwise (· ≤ ·) → R (ns'.map PyData.int) ρ1
abbrev PO' := En → (Option Int → En → Prop) → Prop
def pNoP : PO' := fun ρ R => R none ρ
def pPart (pa : PE') : PO' := fun ρ R => pa ρ fun x ρ1 => asI x fun i => R (some i) ρ1
def cutP (xs : List PyData) (lo hi : Option Int) : List PyData := (xs.drop (HT.sIx xs.length 0 lo)).take (HT.sIx xs.length xs.length hi - HT.sIx xs.length 0 lo)
def cutD (d : PyData) (lo hi : Option Int) (k : PyData → Prop) : Prop := match d with
  | .list xs => k (.list (cutP xs lo hi))
  | .tuple xs => k (.tuple (cutP xs lo hi))
  | _ => False
def pCut (pa : PE') (pl ph : PO') : PE' := fun ρ R => pa ρ fun x ρ1 => pl ρ1 fun l ρ2 => ph ρ2 fun h ρ3 => cutD x l h fun d => R d ρ3
def addD (x y : PyData) (k : PyData → Prop) : Prop := match x, y with
  | .int i, .int j => k (.int (i + j))
  | .tuple xs, .tuple ys => xs.length + ys.length ≤ 100000 ∧ k (.tuple (xs ++ ys))
  | .list xs, .list ys => xs.length + ys.length ≤ 100000 ∧ k (.list (xs ++ ys))
  | _, _ => False
def pPlus (pa pb : PE') : PE' := fun ρ R => pa ρ fun x ρ1 => pb ρ1 fun y ρ2 => addD x y fun d => R d ρ2
/-- a flat datum as a value -/
def vd : PyData → V
  | .bool b => .bl b
  | .int i => .int i
  | .str x => .str x
  | _ => .non
def flatD : PyData → Bool
  | .none => true
  | .bool _ => true
  | .int _ => true
  | .str _ => true
  | _ => false
def pInD (neg : Bool) (pa pb : PE') : PE' := fun ρ R => pa ρ fun x ρ1 => pb ρ1 fun y ρ2 => asS y fun ds => flatD x = true ∧ ds.all flatD = true ∧ R (.bool (if neg then !inV (vd x) (ds.map vd) else inV (vd x) (ds.map vd))) ρ2

section
variable {K : PySem.W.Frag}
def SimO (K : PySem.W.Frag) (to : TO) (p : PO') : Prop := ∀ B Z A H0 M σ H ρ R, EnvR K B Z A H0 M σ H ρ → p ρ R →
  ∀ Q : Option Int → Hp → Prop, (∀ o ρ' H2, R o ρ' → EnvR K B Z A H0 M σ H2 ρ' → Q o H2) → to σ H Q
theorem o_none : SimO K tNoPart pNoP := fun B Z A H0 M σ H ρ R E h Q q => q none ρ H h E
theorem o_some {ta : TE} {pa : PE'} (sa : Sim K ta pa) : SimO K (tPart ta) (pPart pa) := fun B Z A H0 M σ H ρ R E h Q q =>
  sa B Z A H0 M σ H ρ _ E h _ fun v x ρ1 H1 h1 E1 d1 => by
    obtain ⟨i, rfl, h2⟩ := asI_of h1
    exact ⟨i, of_int d1, q _ _ _ h2 E1⟩
theorem cut_dq {H : Hp} {vs : List V} {ds : List PyData} (r : Dqs K H vs ds) (lo hi : Option Int) : Dqs K H (cutV vs lo hi) (cutP ds lo hi) := by
  unfold cutV cutP
  rw [dqs_len r]
  exact dqs_take _ (dqs_drop _ r)
theorem cut_whole {ds : List PyData} {lo hi : Option Int} (h : HT.sIx ds.length 0 lo = 0 ∧ HT.sIx ds.length ds.length hi = ds.length) : cutP ds lo hi = ds := by
  unfold cutP
  rw [h.1, h.2]
  simp
theorem sim_cut {ta : TE} {tl th : TO} {pa : PE'} {pl ph : PO'} (sa : Sim K ta pa) (sl : SimO K tl pl) (sh : SimO K th ph) : Sim K (tSl (rCut K) ta tl th) (pCut pa pl ph) := fun B Z A H0 M σ H ρ R E h Q q =>
  sa B Z A H0 M σ H ρ _ E h _ fun v x ρ1 H1 h1 E1 d1 => sl B Z _ H0 M σ H1 ρ1 _ E1.anchor h1 _ fun l ρ2 H2 h2 E2 => sh B Z _ H0 M σ H2 ρ2 _ E2.anchor h2 _ fun u ρ3 H3 h3 E3 => by
    have d3 := dp_grow (E2.anch.trans E3.anch) _ _ d1
    have E4 := (E3.weak E2.anch).weak E1.anch
    cases x with
    | list ds =>
      cases d3 with
      | lst hl r => exact .inl ⟨_, _, rfl, .of (veil_grow _ _ _ _ hl), fun p hp => q _ _ _ _ h3 (E4.grown (grow_new hp)) (.newL (E4.veiled hp) hp (cut_dq r l u))⟩
    | tuple ds =>
      cases d3 with
      | @tup a vs _ hl r =>
        refine .inr ⟨a, vs, rfl, grow_t (veil_grow _ _) hl, fun w => ?_, fun w p hp => ?_⟩
        · rw [dqs_len r] at w
          have h5 : R (.tuple (cutP ds l u)) ρ3 := h3
          rw [cut_whole w] at h5
          exact q _ _ _ _ h5 E4 (.tup hl r)
        · exact q _ _ _ _ h3 (E4.grown (grow_new hp)) (.new (E4.veiled hp) hp (cut_dq r l u))
    | _ => exact h3.elim
theorem nil_of {H : Hp} {ds : List PyData} (r : Dqs K H [] ds) : ds = [] := by cases r; rfl
theorem nil_to {H : Hp} {vs : List V} (r : Dqs K H vs []) : vs = [] := by cases r; rfl
theorem sim_plus {ta tb : TE} {pa pb : PE'} (sa : Sim K ta pa) (sb : Sim K tb pb) : Sim K (tOp (rPlus K) ta tb) (pPlus pa pb) := fun B Z A H0 M σ H ρ R E h Q q =>
  two sa sb E h fun v w x y ρ2 H2 h2 E2 d1 d2 => by
    cases x with
    | int i =>
      cases y with
      | int j =>
        rw [of_int d1, of_int d2]
        exact .inl ⟨i, j, rfl, rfl, q _ _ _ _ h2 E2 (.int _)⟩
      | _ => exact h2.elim
    | list xs =>
      cases y with
      | list ys =>
        cases d1 with
        | lst hl r =>
          cases d2 with
          | lst hl2 r2 =>
            exact .inr (.inr ⟨_, _, _, _, rfl, rfl, veil_grow _ _ _ _ hl, veil_grow _ _ _ _ hl2, sz5 (by rw [dqs_len r, dqs_len r2]; exact h2.1), fun p hp => q _ _ _ _ h2.2 (E2.grown (grow_new hp)) (.newL (E2.veiled hp) hp (dqs_app r r2))⟩)
      | _ => exact h2.elim
    | tuple xs =>
      cases y with
      | tuple ys =>
        cases d1 with
        | @tup a vs _ hl r =>
          cases d2 with
          | @tup b ws _ hl2 r2 =>
            refine .inr (.inl ⟨a, b, vs, ws, rfl, rfl, grow_t (veil_grow _ _) hl, grow_t (veil_grow _ _) hl2, sz5 (by rw [dqs_len r, dqs_len r2]; exact h2.1), fun e => ?_, fun _ e => ?_, fun _ _ p hp => ?_⟩)
            · subst e
              have ex := nil_of r
              subst ex
              exact q _ _ _ _ h2.2 E2 (.tup hl2 r2)
            · subst e
              have ey := nil_of r2
              subst ey
              have h5 := h2.2
              rw [List.append_nil] at h5
              exact q _ _ _ _ h5 E2 (.tup hl r)
            · exact q _ _ _ _ h2.2 (E2.grown (grow_new hp)) (.new (E2.veiled hp) hp (dqs_app r r2))
      | _ => exact h2.elim
    | _ => exact h2.elim
theorem vd_of {H : Hp} {v : V} {d : PyData} (h : Dq K H v d) (f : flatD d = true) : v = vd d ∧ flatV v = true := by
  cases h <;> first | exact ⟨rfl, rfl⟩ | cases f
theorem vds_of {H : Hp} : ∀ {vs : List V} {ds : List PyData}, Dqs K H vs ds → ds.all flatD = true → vs = ds.map vd ∧ vs.all flatV = true
  | _, _, .nil, _ => ⟨rfl, rfl⟩
  | _, _, .cons h r, f => by
    rw [List.all_cons, Bool.and_eq_true] at f
    obtain ⟨e1, f1⟩ := vd_of h f.1
    obtain ⟨e2, f2⟩ := vds_of r f.2
    exact ⟨by rw [e1, e2]; rfl, by rw [List.all_cons, f1, f2]; rfl⟩
theorem sim_inD {neg : Bool} {ta tb : TE} {pa pb : PE'} (sa : Sim K ta pa) (sb : Sim K tb pb) : Sim K (tOp (rIn K neg) ta tb) (pInD neg pa pb) := fun B Z A H0 M σ H ρ R E h Q q =>
  two sa sb E h fun v w x y ρ2 H2 h2 E2 d1 d2 => by
    cases y with
    | list ds =>
      obtain ⟨fx, fs, h3⟩ := h2
      cases d2 with
      | lst hl r =>
        obtain ⟨e1, f1⟩ := vd_of d1 fx
        obtain ⟨e2, f2⟩ := vds_of r fs
        exact ⟨_, _, rfl, .inl (.of (veil_grow _ _ _ _ hl)), f1, f2, by rw [e1, e2]; exact q _ _ _ _ h3 E2 (.bl _)⟩
    | tuple ds =>
      obtain ⟨fx, fs, h3⟩ := h2
      cases d2 with
      | tup hl r =>
        obtain ⟨e1, f1⟩ := vd_of d1 fx
        obtain ⟨e2, f2⟩ := vds_of r fs
        exact ⟨_, _, rfl, .inr (grow_t (veil_grow _ _) hl), f1, f2, by rw [e1, e2]; exact q _ _ _ _ h3 E2 (.bl _)⟩
    | _ => exact h2.elim
/-! built-ins -/
theorem one_of {H : Hp} {vs : List V} {d : PyData} (r : Dqs K H vs [d]) : ∃ v, vs = [v] ∧ Dq K H v d := by
  cases r with
  | cons h r => cases r; exact ⟨_, rfl, h⟩
theorem sim_len {ta : TA} {pa : PA'} (sa : SimA K ta pa) : Sim K (tCB (rLen K) ta) (pFn fLen pa) := fun B Z A H0 M σ H ρ R E h Q q =>
  sa B Z A H0 M σ H ρ _ E h _ fun vs ds ρ1 H1 h1 E1 d1 => by
    obtain ⟨d, n, rfl, hn, h2⟩ := fLen_of h1
    obtain ⟨v, rfl, dv⟩ := one_of d1
    refine ⟨v, n, rfl, ?_, q _ _ _ _ h2 E1 (.int _)⟩
    cases dv with
    | @lst a xs ds hl r => exact .inl ⟨xs, .of (veil_grow _ _ _ _ hl), by rw [dqs_len r]; exact (Option.some.inj hn).symm⟩
    | @tup a xs ds hl r => exact .inr ⟨xs, grow_t (veil_grow _ _) hl, by rw [dqs_len r]; exact (Option.some.inj hn).symm⟩
    | _ => cases hn
theorem sim_tuple {ta : TA} {pa : PA'} (sa : SimA K ta pa) : Sim K (tCB (rTupOf K) ta) (pFn fTuple pa) := fun B Z A H0 M σ H ρ R E h Q q =>
  sa B Z A H0 M σ H ρ _ E h _ fun vs ds ρ1 H1 h1 E1 d1 => by
    obtain ⟨xs, rfl | rfl, h2⟩ := fTuple_of h1
    · obtain ⟨v, rfl, dv⟩ := one_of d1
      cases dv with
      | lst hl r => exact ⟨_, _, rfl, .inl ⟨.of (veil_grow _ _ _ _ hl), fun p hp => q _ _ _ _ h2 (E1.grown (grow_new hp)) (.new (E1.veiled hp) hp r)⟩⟩
    · obtain ⟨v, rfl, dv⟩ := one_of d1
      cases dv with
      | tup hl r => exact ⟨_, _, rfl, .inr ⟨grow_t (veil_grow _ _) hl, q _ _ _ _ h2 E1 (.tup hl r)⟩⟩
theorem sim_int {ta : TA} {pa : PA'} (sa : SimA K ta pa) : Sim K (tCB rInt1 ta) (pFn fInt pa) := fun B Z A H0 M σ H ρ R E h Q q =>
  sa B Z A H0 M σ H ρ _ E h _ fun vs ds ρ1 H1 h1 E1 d1 => by
    rcases fInt_of h1 with ⟨i, rfl, h2⟩ | ⟨b, rfl, h2⟩
    · obtain ⟨v, rfl, dv⟩ := one_of d1
      rw [of_int dv]
      exact .inl ⟨i, rfl, q _ _ _ _ h2 E1 (.int _)⟩
    · obtain ⟨v, rfl, dv⟩ := one_of d1
      rw [of_bl dv]
      exact .inr ⟨b, rfl, q _ _ _ _ h2 E1 (.int _)⟩
theorem sim_sorted {ta : TA} {pa : PA'} (sa : SimA K ta pa) : SimL K (tCB (rSortedI K) ta) (pSorted pa) := fun B Z A H0 M σ H ρ R E h Q q =>
  sa B Z A H0 M σ H ρ _ E h _ fun vs ds ρ1 H1 ⟨ns, e, h2⟩ E1 d1 => by
    subst e
    obtain ⟨v, rfl, dv⟩ := one_of d1
    cases dv with
    | lst hl r =>
      have e := dqs_of_ints r
      subst e
      exact ⟨_, ns, rfl, .of (veil_grow _ _ _ _ hl), fun ns' p pm pw hp => q p _ _ ρ1 H1 (h2 ns' pm pw) E1 hp dqs_ints⟩
end
end Pu
namespace Pu
open PySem L2
section
variable {K : PySem.W.Frag} {B Z : Addr → Prop} {A A1 H0 H H1 : Hp} {M : Nat → Option Addr} {σ σ2 : St} {ρ ρ2 : En} {D : Addr} {vs : List Nat} {u : HO}
/-! ### a list that grows beside the places -/
def wiped (H : Hp) (D : Addr) : Hp := fun a => if a = D then none else H a
theorem wiped_at : wiped H D D = none := if_pos rfl
theorem wiped_ne {a : Addr} (h : a ≠ D) : wiped H D a = H a := if_neg h
theorem wiped_upd (h : H D = some u) : upd (wiped H D) D u = H := by
  funext a
  by_cases e : a = D
  · rw [e, upd_same, h]
  · rw [upd_ne e, wiped_ne e]
theorem hid_ne {a : Addr} (h : a ≠ D) : hid (plus Z D) M a ↔ hid Z M a :=
  ⟨fun z => z.elim (fun y => y.elim Or.inl fun e => absurd e h) Or.inr, fun z => z.elim (fun y => Or.inl (Or.inl y)) Or.inr⟩
theorem veil_in : Grow (veil (hid (plus Z D) M) H) (veil (hid Z M) (wiped H D)) := fun a o h => by
  obtain ⟨h1, h2⟩ := veil_off h
  have ne : a ≠ D := fun e => h1 (.inl (.inr e))
  exact veil_on (fun z => h1 ((hid_ne ne).mpr z)) ((wiped_ne ne).trans h2)
theorem veil_out : Grow (veil (hid Z M) (wiped H D)) (veil (hid (plus Z D) M) H) := fun a o h => by
  obtain ⟨h1, h2⟩ := veil_off h
  have ne : a ≠ D := fun e => by
    rw [e, wiped_at] at h2
    cases h2
  exact veil_on (fun z => h1 ((hid_ne ne).mp z)) ((wiped_ne ne).symm.trans h2)
theorem wiped_none (h : H D = none) : wiped (upd H D u) D = H := by
  funext a
  by_cases e : a = D
  · rw [e, wiped_at, h]
  · rw [wiped_ne e, upd_ne e]
theorem wipe_out {i : Nat} : ∀ {vs : List Nat}, i ∉ vs → (wipe σ vs)[i]? = σ[i]?
  | [], _ => rfl
  | v :: vs, h => by
    unfold wipe
    rw [List.getElem?_set_ne (fun e => h (by rw [e]; exact List.mem_cons_self)), wipe_out fun m => h (List.mem_cons_of_mem _ m)]
theorem wipe_join {i : Nat} {v : V} (h : ((wipe σ vs)[i]?).join = some v) : (σ[i]?).join = some v := by
  cases q : (wipe σ vs)[i]? with
  | none =>
    rw [q] at h
    cases h
  | some o =>
    rw [q] at h
    have h : o = some v := h
    subst h
    rw [(wipe_some q).1]
    rfl
theorem cell_more {i : Nat} {o o' : Option V} {c : Cell} (k : ∀ v, o = some v → o' = some v) (h : CellR K Z M H i o c) : CellR K Z M H i o' c := by
  cases c with
  | no => trivial
  | d x =>
    obtain ⟨v, e, h⟩ := h
    exact ⟨v, k v e, h⟩
  | own xs =>
    obtain ⟨l, vs, e, h⟩ := h
    exact ⟨l, vs, k _ e, h⟩
  | dct kvs =>
    obtain ⟨l, ws, e, h⟩ := h
    exact ⟨l, ws, k _ e, h⟩
  | box =>
    obtain ⟨b, e, h⟩ := h
    exact ⟨b, k _ e, h⟩
  | obj nm fs =>
    obtain ⟨l, C, dx, ws, e, h⟩ := h
    exact ⟨l, C, dx, ws, k _ e, h⟩
theorem cellAt_get : ∀ {ρ : En} {i : Nat} {c : Cell}, ρ[i]? = some c → cellAt ρ i = c
  | [], _, _, h => by simp at h
  | c :: _, 0, _, h => Option.some.inj h
  | _ :: r, i + 1, _, h => cellAt_get (ρ := r) (i := i) (by simpa using h)
/-- the cell of a hidden one and back -/
theorem cell_in {i : Nat} {o : Option V} {c : Cell} (nd : ∀ l, M i = some l → l ≠ D) (h : CellR K Z M (wiped H D) i o c) : CellR K (plus Z D) M H i o c := by
  cases c with
  | no => trivial
  | d x =>
    obtain ⟨v, e, h⟩ := h
    exact ⟨v, e, dp_grow veil_out _ _ h⟩
  | own xs =>
    obtain ⟨l, vs, e, m, hl, h⟩ := h
    exact ⟨l, vs, e, m, (wiped_ne (nd l m)).symm.trans hl, dps_grow veil_out _ _ h⟩
  | dct kvs =>
    obtain ⟨l, ws, e, m, hl, h⟩ := h
    exact ⟨l, ws, e, m, (wiped_ne (nd l m)).symm.trans hl, kvs_grow veil_out h⟩
  | box =>
    obtain ⟨b, e, m, r, rows, at_, hb, h0, hr, h1, h2, h3⟩ := h
    exact ⟨b, e, m, r, rows, at_, (wiped_ne (nd b m)).symm.trans hb, h0, veil_out _ _ hr, h1, h2, h3⟩
  | obj nm fs =>
    obtain ⟨l, C, dx, ws, e, m, hc, hl, h⟩ := h
    exact ⟨l, C, dx, ws, e, m, hc, (wiped_ne (nd l m)).symm.trans hl, fds_grow veil_out h⟩
theorem cell_ex {i : Nat} {o : Option V} {c : Cell} (nd : ∀ l, M i = some l → l ≠ D) (h : CellR K (plus Z D) M H i o c) : CellR K Z M (wiped H D) i o c := by
  cases c with
  | no => trivial
  | d x =>
    obtain ⟨v, e, h⟩ := h
    exact ⟨v, e, dp_grow veil_in _ _ h⟩
  | own xs =>
    obtain ⟨l, vs, e, m, hl, h⟩ := h
    exact ⟨l, vs, e, m, (wiped_ne (nd l m)).trans hl, dps_grow veil_in _ _ h⟩
  | dct kvs =>
    obtain ⟨l, ws, e, m, hl, h⟩ := h
    exact ⟨l, ws, e, m, (wiped_ne (nd l m)).trans hl, kvs_grow veil_in h⟩
  | box =>
    obtain ⟨b, e, m, r, rows, at_, hb, h0, hr, h1, h2, h3⟩ := h
    exact ⟨b, e, m, r, rows, at_, (wiped_ne (nd b m)).trans hb, h0, veil_in _ _ hr, h1, h2, h3⟩
  | obj nm fs =>
    obtain ⟨l, C, dx, ws, e, m, hc, hl, h⟩ := h
    exact ⟨l, C, dx, ws, e, m, hc, (wiped_ne (nd l m)).trans hl, fds_grow veil_in h⟩
/-- a comprehension's block begins: its own places forgotten, its list at D -/
theorem EnvR.enter (E : EnvR K B Z A H0 M σ H ρ) (hv : ∀ v ∈ vs, cellAt ρ v = .no) (hD : H D = none) : EnvR K B (plus Z D) (veil (hid Z M) H) H0 M (wipe σ vs) (upd H D u) ρ := by
  have nM : ∀ i l, M i = some l → l ≠ D := fun i l m e => E.live i l m (by rw [e]; exact hD)
  have keep : ∀ a, H a ≠ none → upd H D u a = H a := fun a h => upd_ne fun e => h (by rw [e]; exact hD)
  refine ⟨by rw [wipe_length]; exact E.len, E.inj, fun i l m => by rw [keep l (E.live i l m)]; exact E.live i l m, fun i l m z => z.elim (E.off i l m) (nM i l m), fun a z => ?_, fun a o nb h => ?_, E.own, E.m0, ?_, fun i c hc => ?_⟩
  · rcases z with z | e
    · rw [keep a (E.zl a z)]
      exact E.zl a z
    · rw [e, upd_same]
      intro z; cases z
  · have q := E.ext a o nb h
    rw [keep a (by rw [q]; intro z; cases z)]
    exact q
  · have g := veil_out (Z := Z) (M := M) (H := upd H D u) (D := D)
    rw [wiped_none hD] at g
    exact g
  · have h := E.cell i c hc
    by_cases hi : i ∈ vs
    · have e := hv i hi
      rw [cellAt_get hc] at e
      rw [e]
      trivial
    · rw [wipe_out hi]
      refine cell_in (nM i) ?_
      rw [wiped_none hD]
      exact h
/-- .. it ends -/
theorem EnvR.leave (E : EnvR K B (plus Z D) A1 H0 M (wipe σ vs) H ρ) (g : Grow A A1) (h0 : H0 D = none) (nZ : ¬ Z D) : EnvR K B Z A H0 M σ (wiped H D) ρ := by
  have nM : ∀ i l, M i = some l → l ≠ D := fun i l m e => E.off i l m (.inr e)
  refine ⟨by rw [← E.len, wipe_length], E.inj, fun i l m => by rw [wiped_ne (nM i l m)]; exact E.live i l m, fun i l m z => E.off i l m (.inl z), fun a z => ?_, fun a o nb h => ?_, E.own, E.m0, (g.trans E.anch).trans veil_in, fun i c hc => cell_more (fun v => wipe_join) (cell_ex (nM i) (E.cell i c hc))⟩
  · rw [wiped_ne (fun e => nZ (by rw [← e]; exact z))]
    exact E.zl a (.inl z)
  · rw [wiped_ne (fun e => by rw [e, h0] at h; cases h)]
    exact E.ext a o nb h
/-- for a turn: what stands at D stays -/
theorem EnvR.hold (E : EnvR K B Z A H0 M σ H ρ) (h : H D = some u) (nM : ∀ i l, M i = some l → l ≠ D) : EnvR K B Z A (upd H0 D u) M σ H ρ := by
  refine { E with ext := fun a o nb k => ?_, own := fun i l m => ?_ }
  · by_cases e : a = D
    · rw [e, upd_same] at k
      rw [e, h]
      exact k
    · rw [upd_ne e] at k
      exact E.ext a o nb k
  · rw [upd_ne (nM i l m)]
    exact E.own i l m
theorem EnvR.unhold (E : EnvR K B Z A (upd H0 D u) M σ H ρ) (h0 : H0 D = none) (nM : ∀ i l, M i = some l → l ≠ D) : EnvR K B Z A H0 M σ H ρ := by
  refine { E with ext := fun a o nb k => E.ext a o nb ?_, own := fun i l m => ?_ }
  · rw [upd_ne (fun e => by rw [e, h0] at k; cases k)]
    exact k
  · have q := E.own i l m
    rw [upd_ne (nM i l m)] at q
    exact q
/-- what stands at D changes -/
theorem EnvR.turn (E : EnvR K B (plus Z D) A H0 M σ H ρ) (h0 : H0 D = none) : EnvR K B (plus Z D) A H0 M σ (upd H D u) ρ := by
  have nM : ∀ i l, M i = some l → l ≠ D := fun i l m e => E.off i l m (.inr e)
  have gv : Grow (veil (hid (plus Z D) M) H) (veil (hid (plus Z D) M) (upd H D u)) := fun a o h => by
    obtain ⟨h1, h2⟩ := veil_off h
    exact veil_on h1 ((upd_ne fun e => h1 (.inl (.inr e))).trans h2)
  refine ⟨E.len, E.inj, fun i l m => by rw [upd_ne (nM i l m)]; exact E.live i l m, E.off, fun a z => ?_, fun a o nb h => ?_, E.own, E.m0, E.anch.trans gv, fun i c hc => (E.cell i c hc).grow gv fun l m w hw => (upd_ne (nM i l m)).trans hw⟩
  · by_cases e : a = D
    · rw [e, upd_same]
      intro z; cases z
    · rw [upd_ne e]
      exact E.zl a z
  · rw [upd_ne (fun e => by rw [e, h0] at h; cases h)]
    exact E.ext a o nb h
/-- the turn's own places forgotten -/
theorem EnvR.back (E : EnvR K B Z A H0 M σ2 H ρ2) (hw : wipe σ2 vs = wipe σ vs) (hl : ρ2.length = ρ.length) (ho : ∀ i, i ∉ vs → cellAt ρ2 i = cellAt ρ i) (hv : ∀ v ∈ vs, cellAt ρ v = .no) : EnvR K B Z A H0 M (wipe σ vs) H ρ := by
  refine { E with len := by rw [← hw, wipe_length, E.len, hl], cell := fun i c hc => ?_ }
  by_cases hi : i ∈ vs
  · have e := hv i hi
    rw [cellAt_get hc] at e
    rw [e]
    trivial
  · have e := ho i hi
    rw [cellAt_get hc] at e
    cases c with
    | no => trivial
    | _ =>
      have h := E.cell i _ (cellAt_some e (by intro z; cases z))
      rw [← hw, wipe_out hi]
      exact h
end

/-! ### comprehensions -/
section
variable {K : PySem.W.Frag}
/-- a target whose places are all in vs -/
def SimGV (K : PySem.W.Frag) (vs : List Nat) (g : TG) (pg : PG') : Prop := ∀ B Z A H0 M σ H ρ v d R, EnvR K B Z A H0 M σ H ρ → Dq K (veil (hid Z M) H) v d → pg d ρ R →
  ∀ Q : St → Hp → Prop, (∀ σ' ρ', R ρ' → EnvR K B Z A H0 M σ' H ρ' → wipe σ' vs = wipe σ vs → ρ'.length = ρ.length → (∀ i, i ∉ vs → cellAt ρ' i = cellAt ρ i) → Q σ' H) → g v σ H Q
theorem wipe_set {σ : St} {j : Nat} {o : Option V} : ∀ {vs : List Nat}, j ∈ vs → wipe (σ.set j o) vs = wipe σ vs
  | v :: vs, h => by
    unfold wipe
    by_cases e : j ∈ vs
    · rw [wipe_set e]
    · have ev : j = v := (List.mem_cons.mp h).resolve_right e
      subst ev
      have q : ∀ {ws : List Nat}, j ∉ ws → wipe (σ.set j o) ws = (wipe σ ws).set j o := fun {ws} => by
        induction ws with
        | nil => intro _; rfl
        | cons w ws ih =>
          intro h
          unfold wipe
          rw [ih fun m => h (List.mem_cons_of_mem _ m), List.set_comm _ _ (fun z => h (by rw [z]; exact List.mem_cons_self))]
      rw [q e, List.set_set]
theorem cellSet_ne : ∀ {ρ : En} {i j : Nat} {c : Cell}, i ≠ j → cellAt (cellSet ρ i c) j = cellAt ρ j
  | [], _, _, _, _ => rfl
  | _ :: _, 0, 0, _, h => absurd rfl h
  | _ :: _, 0, _ + 1, _, _ => rfl
  | _ :: _, _ + 1, 0, _, _ => rfl
  | _ :: r, i + 1, j + 1, _, h => cellSet_ne (ρ := r) (i := i) (j := j) fun e => h (congrArg (· + 1) e)
theorem cellSet_len {ρ : En} {i : Nat} {c : Cell} : (cellSet ρ i c).length = ρ.length := by
  rw [cellSet_eq, List.length_set]
theorem gv_name {vs : List Nat} {i : Nat} (h : i ∈ vs) : SimGV K vs (gName i) (pgN i) := fun B Z A H0 M σ H ρ v d R E hd hR Q q =>
  q _ _ hR (E.setD hd) (wipe_set h) cellSet_len fun j hj => cellSet_ne fun e => hj (by rw [← e]; exact h)
def SimGsV (K : PySem.W.Frag) (vs : List Nat) (g : TGs) (is : List Nat) : Prop := ∀ B Z A H0 M σ H ρ us ds, EnvR K B Z A H0 M σ H ρ → Dqs K (veil (hid Z M) H) us ds → ds.length = is.length →
  ∀ Q : St → Hp → Prop, (∀ σ', EnvR K B Z A H0 M σ' H (setAll ρ is ds) → wipe σ' vs = wipe σ vs → (setAll ρ is ds).length = ρ.length → (∀ i, i ∉ vs → cellAt (setAll ρ is ds) i = cellAt ρ i) → Q σ' H) → g us σ H Q
theorem gsv_nil {vs : List Nat} : SimGsV K vs gNil [] := fun B Z A H0 M σ H ρ us ds E r hl Q q => by
  cases r with
  | nil => exact ⟨rfl, q _ E rfl rfl fun _ _ => rfl⟩
  | cons _ _ => cases hl
theorem gsv_cons {vs : List Nat} {i : Nat} {u : TGs} {is : List Nat} (h : i ∈ vs) (su : SimGsV K vs u is) : SimGsV K vs (gCons (gName i) u) (i :: is) := fun B Z A H0 M σ H ρ us ds E r hl Q q => by
  cases r with
  | nil => cases hl
  | cons hd r => exact ⟨_, _, rfl, su B Z A H0 M _ H _ _ _ (E.setD hd) r (by simpa using hl) Q fun σ' E' w l o => q σ' E' (w.trans (wipe_set h)) (l.trans cellSet_len) fun j hj => (o j hj).trans (cellSet_ne fun e => hj (by rw [← e]; exact h))⟩
theorem gv_tup {vs : List Nat} {n : Nat} {u : TGs} {is : List Nat} (su : SimGsV K vs u is) (hn : is.length = n) : SimGV K vs (gTup K n u) (pgT is) := fun B Z A H0 M σ H ρ v d R E hd h Q q => by
  obtain ⟨ds, rfl, hl, h⟩ := asT_of h
  cases hd with
  | tup ht r => exact ⟨_, _, rfl, grow_t (veil_grow _ _) ht, by rw [dqs_len r, hl, hn], su B Z A H0 M σ H ρ _ ds E r hl Q fun σ' E' w l o => q σ' _ h E' w l o⟩
def SimP (K : PySem.W.Frag) (tt : TT) (p : PT') : Prop := SimT K tt p
theorem t_yes : SimT K tYes pYes := fun B Z A H0 M σ H ρ R E h Q q => q true ρ H h E
/-- one turn -/
theorem lc_turn {B Z : Addr → Prop} {A H0 H : Hp} {M : Nat → Option Addr} {σ : St} {ρ : En} {D : Addr} {vs : List Nat} {g : TG} {pg : PG'} {tt : TT} {pt : PT'} {te : TE} {pe : PE'} {v : V} {d : PyData} {va : List V} {acc : List PyData} {yes : List PyData → Prop}
    (sg : SimGV K vs g pg) (st : SimT K tt pt) (se : Sim K te pe) (E : EnvR K B (plus Z D) A H0 M (wipe σ vs) H ρ) (hv : ∀ v ∈ vs, cellAt ρ v = .no) (hD : H D = some (.lst va)) (h0 : H0 D = none) (nB : ¬ B D) (dv : Dq K (veil (hid (plus Z D) M) H) v d)
    (ra : Dqs K (veil (hid (plus Z D) M) H) va acc) (hw : wipe (wipe σ vs) vs = wipe σ vs)
    (h : pg d ρ fun ρ2 => pt ρ2 fun b ρ3 => ρ3 = ρ2 ∧ if b = true then pe ρ2 fun y ρ4 => ρ4 = ρ2 ∧ acc.length < 100000 ∧ yes (acc ++ [y]) else yes acc) {Pv : Hp → Prop}
    (hP : ∀ H' va' acc', EnvR K B (plus Z D) A H0 M (wipe σ vs) H' ρ → H' D = some (.lst va') → Dqs K (veil (hid (plus Z D) M) H') va' acc' → yes acc' → Pv H') :
    g v (wipe σ vs) H fun σ2 H2 => wipe σ2 vs = wipe σ vs ∧ tt σ2 H2 fun b H3 => if b = true then te σ2 H3 fun y H4 => ∃ acc, H4 D = some (.lst acc) ∧ acc.length < sizeLine ∧ Pv (upd H4 D (.lst (acc ++ [y]))) else Pv H3 := by
  have nM : ∀ i l, M i = some l → l ≠ D := fun i l m e => E.off i l m (.inr e)
  have E' := (E.anchor.hold hD nM)
  refine sg B _ _ _ M _ H ρ v d _ E' dv h _ fun σ2 ρ2 h2 E2 w2 l2 o2 => ⟨w2.trans hw, ?_⟩
  refine st B _ _ _ M σ2 H ρ2 _ E2 h2 _ fun b ρ3 H3 ⟨e3, h3⟩ E3 => ?_
  subst e3
  have d3 : H3 D = some (.lst va) := E3.ext D _ nB upd_same
  have fin : ∀ {H5 : Hp}, EnvR K B (plus Z D) (veil (hid (plus Z D) M) H) (upd H0 D (.lst va)) M σ2 H5 ρ3 → EnvR K B (plus Z D) A H0 M (wipe σ vs) H5 ρ := fun {H5} E5 =>
    ((E5.unhold h0 nM).weak E.anch).back (w2.trans hw) l2 o2 hv
  cases b with
  | false => exact hP H3 va acc (fin E3) d3 (dps_grow E3.anch _ _ ra) h3
  | true =>
    refine se B _ _ _ M σ2 H3 ρ3 _ E3 h3 _ fun y z ρ4 H4 ⟨e4, hz, h4⟩ E4 dz => ?_
    subst e4
    have d4 : H4 D = some (.lst va) := E4.ext D _ nB upd_same
    have ra4 := dps_grow E4.anch _ _ ra
    have gv : Grow (veil (hid (plus Z D) M) H4) (veil (hid (plus Z D) M) (upd H4 D (.lst (va ++ [y])))) := fun a o h => by
      obtain ⟨h1, h2⟩ := veil_off h
      exact veil_on h1 ((upd_ne fun e => h1 (.inl (.inr e))).trans h2)
    exact ⟨va, d4, Nat.lt_of_lt_of_le (by rw [dqs_len ra]; exact hz) (by decide), hP _ (va ++ [y]) _ ((fin E4).turn h0) upd_same (dps_grow gv _ _ (dqs_app ra4 (.cons dz .nil))) h4⟩
theorem wipe_wipe {σ : St} : ∀ {vs : List Nat}, wipe (wipe σ vs) vs = wipe σ vs := fun {vs} => by
  have q : ∀ ws : List Nat, (∀ v ∈ ws, v ∈ vs) → wipe (wipe σ ws) vs = wipe σ vs := fun ws => by
    induction ws with
    | nil => intro _; rfl
    | cons w ws ih =>
      intro h
      show wipe ((wipe σ ws).set w none) vs = wipe σ vs
      rw [wipe_set (h w List.mem_cons_self), ih fun v m => h v (List.mem_cons_of_mem _ m)]
  exact q vs fun _ m => m
/-- the end of the whole -/
theorem lc_start {B Z : Addr → Prop} {A H0 H : Hp} {M : Nat → Option Addr} {σ : St} {ρ : En} {D : Addr} (E : EnvR K B Z A H0 M σ H ρ) (hD : H D = none) : H0 D = none ∧ ¬ B D ∧ ¬ Z D := by
  have nB : ¬ B D := fun b => E.live 0 D (E.m0 D b) hD
  refine ⟨?_, nB, fun z => E.zl D z hD⟩
  cases q : H0 D with
  | none => rfl
  | some o =>
    have := E.ext D o nB q
    rw [hD] at this
    cases this
theorem sim_lcR1 {ta : TA} {g : TG} {tt : TT} {te : TE} {vs is : List Nat} {pa : PA'} {pg : PG'} {pt : PT'} {pe : PE'} (sa : SimA K ta pa) (sg : SimGV K vs g pg) (st : SimT K tt pt) (se : Sim K te pe) (hn : ∀ ρ R, pa ρ R → pa ρ fun x ρ1 => x.length = 1 ∧ R x ρ1) :
    SimL K (tLc (iRng1 ta) g tt te vs) (pLcR vs is pa pg pt pe) := fun B Z A H0 M σ H ρ R E ⟨hv, h⟩ Q q =>
  sa B Z A H0 M σ H ρ _ E (hn _ _ h) _ fun us x ρ1 H1 ⟨hx, e1, lo, hi, hx2, hb, I, i0, is, ie⟩ E1 d1 => by
    subst e1
    rcases hx2 with ⟨rfl, rfl⟩ | rfl
    · have e : us = [.int hi] := dqs_of_ints (ns := [hi]) d1
      subst e
      refine ⟨hi, rfl, hb.2.2.1, hb.2.2.2, fun D hD => ?_⟩
      obtain ⟨h0, nB, nZ⟩ := lc_start E1 hD
      refine lc_range (lo := 0) (n := hi.toNat) (fun i H' => ∃ va acc, EnvR K B (plus Z D) (veil (hid Z M) H1) H0 M (wipe σ vs) H' ρ1 ∧ H' D = some (.lst va) ∧ Dqs K (veil (hid (plus Z D) M) H') va acc ∧ I i acc) ⟨[], [], E1.enter hv hD, upd_same, .nil, i0⟩
        (fun i H' hlt ⟨va, acc, E', hd', ra, hI⟩ => lc_turn sg st se E' hv hd' h0 nB (.int _) ra wipe_wipe (is i acc (by omega) hI) fun H2 va' acc' E2 h2 r2 y2 => ⟨va', acc', E2, h2, r2, y2⟩) fun H' ⟨va, acc, E', hd', ra, hI⟩ => ?_
      have hI : I (hi - 0).toNat acc := by rw [Int.sub_zero]; exact hI
      have z := q D va acc ρ1 (wiped H' D) (ie acc hI) (E'.leave E1.anch h0 nZ) wiped_at (dps_grow veil_in _ _ ra)
      rw [wiped_upd hd'] at z
      exact z
    · exact absurd hx (by simp)
theorem sim_lcT {tl : TE} {g : TG} {tt : TT} {te : TE} {vs is : List Nat} {pl : PE'} {pg : PG'} {pt : PT'} {pe : PE'} (sl : Sim K tl pl) (sg : SimGV K vs g pg) (st : SimT K tt pt) (se : Sim K te pe) :
    SimL K (tLc (iTup K tl) g tt te vs) (pLcS vs is (pTO pl) pg pt pe) := fun B Z A H0 M σ H ρ R E ⟨hv, h⟩ Q q =>
  sl B Z A H0 M σ H ρ _ E h _ fun u x ρ1 H1 h1 E1 d1 => by
    obtain ⟨ds, rfl, e1, I, i0, is, ie⟩ := asT_of h1
    subst e1
    cases d1 with
    | @tup a us _ hs r =>
      refine ⟨a, rfl, ⟨us, grow_t (veil_grow _ _) hs⟩, fun D hD => ?_⟩
      obtain ⟨h0, nB, nZ⟩ := lc_start E1 hD
      refine lc_tup (xs := us) (fun i H' => ∃ va acc, EnvR K B (plus Z D) (veil (hid Z M) H1) H0 M (wipe σ vs) H' ρ1 ∧ H' D = some (.lst va) ∧ Dqs K (veil (hid (plus Z D) M) H') va acc ∧ I i acc) ⟨[], [], E1.enter hv hD, upd_same, .nil, i0⟩
        (fun i H' _ ⟨va, acc, E', _⟩ => grow_t (veil_grow _ _) (grow_t E'.anch hs)) (fun i y H' hy ⟨va, acc, E', hd', ra, hI⟩ => ?_) fun H' ⟨va, acc, E', hd', ra, hI⟩ => ?_
      · obtain ⟨d, hd, dd⟩ := dqs_got r hy
        exact lc_turn sg st se E' hv hd' h0 nB (dp_grow E'.anch _ _ dd) ra wipe_wipe (is i d acc hd hI) fun H2 va' acc' E2 h2 r2 y2 => ⟨va', acc', E2, h2, r2, y2⟩
      · have z := q D va acc ρ1 (wiped H' D) (ie acc (dqs_len r ▸ hI)) (E'.leave E1.anch h0 nZ) wiped_at (dps_grow veil_in _ _ ra)
        rw [wiped_upd hd'] at z
        exact z
theorem sim_lcL {tl : TE} {g : TG} {tt : TT} {te : TE} {vs is : List Nat} {pl : PE'} {pg : PG'} {pt : PT'} {pe : PE'} (sl : Sim K tl pl) (sg : SimGV K vs g pg) (st : SimT K tt pt) (se : Sim K te pe) :
    SimL K (tLc (iList K tl) g tt te vs) (pLcS vs is (pLO pl) pg pt pe) := fun B Z A H0 M σ H ρ R E ⟨hv, h⟩ Q q =>
  sl B Z A H0 M σ H ρ _ E h _ fun u x ρ1 H1 h1 E1 d1 => by
    obtain ⟨ds, rfl, e1, I, i0, is, ie⟩ := asL_of h1
    subst e1
    cases d1 with
    | @lst a us _ hs r =>
      refine ⟨a, rfl, ⟨us, .of (veil_grow _ _ _ _ hs)⟩, fun D hD => ?_⟩
      obtain ⟨h0, nB, nZ⟩ := lc_start E1 hD
      refine lc_list (xs := us) (fun i H' => ∃ va acc, EnvR K B (plus Z D) (veil (hid Z M) H1) H0 M (wipe σ vs) H' ρ1 ∧ H' D = some (.lst va) ∧ Dqs K (veil (hid (plus Z D) M) H') va acc ∧ I i acc) ⟨[], [], E1.enter hv hD, upd_same, .nil, i0⟩
        (fun i H' _ ⟨va, acc, E', _⟩ => .of (veil_grow _ _ _ _ (E'.anch _ _ hs))) (fun i y H' hy ⟨va, acc, E', hd', ra, hI⟩ => ?_) fun H' ⟨va, acc, E', hd', ra, hI⟩ => ?_
      · obtain ⟨d, hd, dd⟩ := dqs_got r hy
        exact lc_turn sg st se E' hv hd' h0 nB (dp_grow E'.anch _ _ dd) ra wipe_wipe (is i d acc hd hI) fun H2 va' acc' E2 h2 r2 y2 => ⟨va', acc', E2, h2, r2, y2⟩
      · have z := q D va acc ρ1 (wiped H' D) (ie acc (dqs_len r ▸ hI)) (E'.leave E1.anch h0 nZ) wiped_at (dps_grow veil_in _ _ ra)
        rw [wiped_upd hd'] at z
        exact z
end
end Pu
namespace Pu
open PySem PySem.Spec PyProof.Rows L2
/-! ### set(xs), xs a list of ints; sorted of it -/
abbrev bare (w : World) : Obj := { cls := .type "set", dict := none, data := .set #[] 0 (.fresh 0 0 (!w.params.followText "set-order")) }
section
variable {P : Program} {w : World} {A : Around} {E : Value → Shared → Prop} {s : Shared}
theorem in_lst {xs : Array Value} {ns : List Int} (hi : IntsAre xs.toList ns) (i : Nat) (v : Value) (hv : xs[i]? = some v) : ∃ k t, ns[i]? = some k ∧ v = .int k t := by
  have hz : xs.size = ns.length := by simpa using IntsAre.length hi
  have lt : i < ns.length := hz ▸ (Array.getElem?_eq_some_iff.mp hv).1
  obtain ⟨t, e⟩ := IntsAre.int_at hi i v (by simpa using hv)
  exact ⟨ns[i], t, by simp [lt], by simpa [List.getD_eq_getElem?_getD, lt] using e⟩
/-- what set(xs) has laid: a set of the ints at S, all else as before -/
def Laid (w : World) (S : Addr) (ns : List Int) (s₀ : Shared) (r : Value) (s' : Shared) : Prop := r = .none ∧ ∃ (g : Heap) (tk c : Nat), s' = { s₀ with heap := g, toks := tk } ∧
  SetR w g S (fun j => decide (j ∈ ns)) c ∧ c ≤ ns.length ∧ ∀ b o, s₀.heap.get? b = some o → g.get? b = some o
set_option maxHeartbeats 3200000 in
theorem call_set_lst {l : Addr} {xs : Array Value} (ns : List Int) {Q : Value → Shared → Prop} (hA : A.handled = none) (hl : s.heap.IsList l xs) (hi : IntsAre xs.toList ns) (room : ns.length + 1 < scanBound)
    (h : ∀ (g : Heap) (tk c : Nat), SetR w g s.heap.objs.size (fun j => decide (j ∈ ns)) c → c ≤ ns.length → (∀ b o, s.heap.get? b = some o → g.get? b = some o) → Q (.ref s.heap.objs.size) { s with heap := g, toks := tk }) :
    wpAny (model P w) A (call (.type "set") [.ref l]) Q E s := by
  have hz : xs.size = ns.length := by simpa using IntsAre.length hi
  obtain ⟨_, _, m1⟩ := F.called_set.mro
  have m2 := F.called_set.made
  have m3 := F.called_set.sub
  have m4 := F.called_set.notType
  have m5 := F.called_set.canCreate
  have m6 := F.typeCall_set_1 (.ref l)
  refine wpAny_call <| codeAny_of_tree ?_
  show wpAny _ _ (callAny (.type "set") _) _ _ _
  refine wpAny_pure ⟨Code.quiet_builtin _ (by decide +kernel), codeAny_builtin F.entry_type_call ?_⟩
  rw [Around.under_plain (weight_type_call_type "set" [.ref l] []) rfl]
  repeat any_goals first | assumption | wp_step
  refine codeAny_mono (code_set_led1 (.ref l) (E := E)
    (Q₁ := fun r t => r = .ref s.heap.objs.size ∧ t = { s with heap := s.heap.push (bare w) }) ⟨rfl, rfl⟩) fun r t ht => ?_
  cases r with
  | error _ => exact ht
  | ok fl =>
    cases fl with
    | ret _ =>
      obtain ⟨rfl, rfl⟩ := ht
      have at0 : (s.heap.push (bare w)).get? s.heap.objs.size = some (bare w) := Heap.get?_push_size _ rfl
      have ty0 : Shared.TypeIs { s with heap := s.heap.push (bare w) } (.ref s.heap.objs.size) "set" := ⟨_, at0, rfl⟩
      have i1 := F.called_set.init.lookup
      have i2 := F.called_set.init.bind (.ref s.heap.objs.size)
      repeat any_goals first | assumption | wp_step
      refine codeAny_mono (codeAny_call_builtin (R := wants (Laid w s.heap.objs.size ns s) E) F.called_set.init.plain F.entry_set_init (check_set_init_1 ty0 ?_)) fun r2 t2 ht2 => ?_
      · have l1 : (s.heap.push (bare w)).IsList l xs := hl.push _
        obtain ⟨⟨k1, k2, k3, k4⟩, ho, kc, n, kd⟩ := hl
        obtain rfl : k1 = .type "list" := kc
        obtain rfl : k3 = .seq xs n := kd
        have ho1 : (s.heap.push (bare w)).get? l = some { cls := .type "list", dict := k2, data := .seq xs n, slots := k4 } := Heap.get?_push_of_some _ ho
        have q1 := F.sub_list_set
        have q2 := F.sub_list_frozenset
        have q3 : (Value.type "list" == Value.type "dict") = false := by decide
        unfold Builtin.«set.__init__» noKeywords Builtin.Frozenset.updateFrom
        generalize hIt : pyIter = IT
        wp_walk
        subst hIt
        refine wpAny_pyIter_list l1 (wpAny_bind (wpAny_runValue ?_))
        have l0 : l < s.heap.objs.size := Heap.lt_size ho
        have hA3 : A.in1.in1.in1.handled = none := by simp [hA]
        have z1 : (s.heap.push (bare w)).objs.size = s.heap.objs.size + 1 := Heap.size_push ..
        have neI : l ≠ (s.heap.push (bare w)).objs.size := Nat.ne_of_lt (z1 ▸ Nat.lt_succ_of_lt l0)
        have off : s.heap.objs.size ∉ [(s.heap.push (bare w)).objs.size, l] := by
          intro m
          rcases List.mem_cons.mp m with e | m
          · exact Nat.ne_of_lt (z1 ▸ Nat.lt_succ_self _) e
          · exact Nat.ne_of_gt l0 (List.mem_singleton.mp m)
        refine set_update_ints (Walks.list hA3 _ l neI xs).toS s.heap.objs.size off ns hz room (in_lst hi) (xs.size - 0) 0 _ (by omega) (Nat.zero_le _) ⟨⟨_, Heap.get?_push_size _ rfl, rfl, rfl⟩, l1.push _⟩ ?begin ?finish
        case begin => exact ⟨0, Nat.le_refl 0, setR_new_at (Heap.get?_push_of_some _ at0)⟩
        case finish =>
          rintro ⟨g, gs, dr, tk, os⟩ c mv hc hS
          obtain rfl : gs = s.gens := mv.gens
          obtain rfl : dr = s.drawn := mv.drawn
          obtain rfl : os = s.os := mv.os
          show wpAny _ _ _ _ _ _
          refine wpAny_pure ?_
          show wpAny _ _ (ret Value.none) _ _ _
          refine wpAny_pure ⟨rfl, g, tk, c, rfl, hS, hz ▸ hc, fun b o e => ?_⟩
          have b0 : b < s.heap.objs.size := Heap.lt_size e
          refine mv.heap b o (fun m => ?_) (Heap.get?_push_of_some _ (Heap.get?_push_of_some _ e))
          rcases List.mem_cons.mp m with e | m
          · exact Nat.ne_of_lt b0 e
          · exact Nat.ne_of_lt (z1 ▸ Nat.lt_succ_of_lt b0) (List.mem_singleton.mp m)
      · cases r2 with
        | error _ => exact ht2
        | ok fl2 =>
          cases fl2 with
          | ret _ =>
            obtain ⟨rfl, g, tk, c, rfl, hS, hc, hk⟩ := ht2
            repeat any_goals first | assumption | wp_step
            exact h g tk c hS hc hk
          | _ => exact ht2.elim
    | _ => exact ht.elim
end
/-- set(xs) -/
def rSetL (K : PySem.W.Frag) (w : World) : List V → Hp → VK → Prop := fun vs H Q => ∃ (p : Addr) (ns : List Int), vs = [.ref p] ∧ SqL K H p (ns.map V.int) ∧ ns.length < 60 ∧
  ∀ (a : Addr) (c : Nat), c ≤ ns.length → H a = none → Q (.ref a) (upd H a (SetO w a (fun j => decide (j ∈ ns)) c))
theorem c_setL {X : Cx} (hc : X.calm = true) : CallR X (.type "set") (rSetL X.K X.w) := by
  intro pins s σ H vs us Q I r h
  obtain ⟨p, ns, rfl, hp, hl, q⟩ := h
  rw [Vals.ref1 r]
  obtain ⟨its, rv, pl, _⟩ := I.list hp
  refine call_set_lst ns (I.ok.hd hc) pl.isList (ints_of_vals rv) (by unfold scanBound; omega) fun g tk c R1 hcn k => ?_
  exact ⟨.ref _, _, I.laid (t' := tk) k (Nat.le_refl _) (setO_new R1), rfl, q _ c hcn (I.hok.fresh (Nat.le_refl _))⟩
def pSortSet (pa : PA') : PA' := fun ρ R => pa ρ fun ds ρ1 => ∃ ns : List Int, ds = [.list (ns.map PyData.int)] ∧ ns.length < 60 ∧
    ∀ ns' : List Int, ns'.Pairwise (· < ·) → (∀ k, k ∈ ns' ↔ k ∈ ns) → ns'.length ≤ ns.length → R (ns'.map PyData.int) ρ1
section
variable {K : PySem.W.Frag}
theorem sim_sortSet {w : World} {ta : TA} {pa : PA'} (sa : SimA K ta pa) : SimL K (tCB (rSortedSet w) (tCons (tCB (rSetL K w) ta) tNil)) (pSortSet pa) := fun B Z A H0 M σ H ρ R E h Q q =>
  sa B Z A H0 M σ H ρ _ E h _ fun vs ds ρ1 H1 ⟨ns, e, hl, h2⟩ E1 d1 => by
    subst e
    obtain ⟨v, rfl, dv⟩ := one_of d1
    cases dv with
    | lst hl0 r =>
      have e := dqs_of_ints r
      subst e
      refine ⟨_, ns, rfl, .of (veil_grow _ _ _ _ hl0), hl, fun a c hc ha => ⟨a, _, c, rfl, upd_same, by omega, fun ns' p pw mem len hp => ?_⟩⟩
      exact q p _ _ ρ1 _ (h2 ns' pw (fun k => (mem k).trans decide_eq_true_iff) (by omega)) (E1.grown (grow_new ha)) hp dqs_ints
end
end Pu
namespace Pu
open PySem L2
/-! ### what a place owns, read -/
def pLenO (i : Nat) : PE' := fun ρ R => asOwn (cellAt ρ i) fun ds => R (.int (ds.length : Nat)) ρ
def pIxO (i : Nat) (pb : PE') : PE' := fun ρ R => asOwn (cellAt ρ i) fun _ => pb ρ fun y ρ1 => asOwn (cellAt ρ1 i) fun ds => asI y fun j => asO (atI ds j) fun d => R d ρ1
def pTupO (i : Nat) : PE' := fun ρ R => asOwn (cellAt ρ i) fun ds => R (.tuple ds) ρ
def pTruO (i : Nat) : PT' := fun ρ R => asOwn (cellAt ρ i) fun ds => R (!ds.isEmpty) ρ
/-- an int's place changed by an operator -/
def pAug (i : Nat) (f : Int → Int → Int) (pa : PE') : PS' := fun G ρ => asD (cellAt ρ i) fun x => asI x fun a => pa ρ fun y ρ1 => asI y fun b => G.nx (cellSet ρ1 i (.d (.int (f a b))))
section
variable {K : PySem.W.Frag}
theorem sim_lenO {i : Nat} : Sim K (tCB (rLen K) (tCons (tVar i) tNil)) (pLenO i) := fun B Z A H0 M σ H ρ R E h Q q => by
  obtain ⟨ds, hc, h⟩ := asOwn_of h
  obtain ⟨l, vs, e, m, hl, r⟩ := own_at E hc
  exact ⟨.ref l, e, .ref l, vs.length, rfl, .inl ⟨vs, .of hl, rfl⟩, by rw [dqs_len r]; exact q _ _ _ _ h E (.int _)⟩
theorem sim_ixO {i : Nat} {tb : TE} {pb : PE'} (sb : Sim K tb pb) : Sim K (tOp (rIx K) (tVar i) tb) (pIxO i pb) := fun B Z A H0 M σ H ρ R E h Q q => by
  obtain ⟨ds, hc, h⟩ := asOwn_of h
  obtain ⟨l, vs, e, m, hl, r⟩ := own_at E hc
  refine ⟨.ref l, e, sb B Z A H0 M σ H ρ _ E h _ fun w y ρ1 H1 h1 E1 d1 => ?_⟩
  obtain ⟨ds1, hc1, h2⟩ := asOwn_of h1
  obtain ⟨l1, vs1, e1, m1, hl1, r1⟩ := own_at E1 hc1
  rw [m] at m1
  cases m1
  obtain ⟨j, rfl, h3⟩ := asI_of h2
  obtain ⟨d, hd, h4⟩ := asO_of h3
  rw [of_int d1]
  obtain ⟨u, hu, du⟩ := at_dq r1 hd
  exact .inl ⟨l, vs1, j, u, rfl, rfl, .of hl1, hu, q _ _ _ _ h4 E1 du⟩
theorem sim_tupO {i : Nat} : Sim K (tCB (rTupOf K) (tCons (tVar i) tNil)) (pTupO i) := fun B Z A H0 M σ H ρ R E h Q q => by
  obtain ⟨ds, hc, h⟩ := asOwn_of h
  obtain ⟨l, vs, e, m, hl, r⟩ := own_at E hc
  exact ⟨.ref l, e, l, vs, rfl, .inl ⟨.of hl, fun p hp => q _ _ _ _ h (E.grown (grow_new hp)) (.new (E.veiled hp) hp r)⟩⟩
theorem sim_truO {i : Nat} : SimT K (tTru K (tVar i)) (pTruO i) := fun B Z A H0 M σ H ρ R E h Q q => by
  obtain ⟨ds, hc, h⟩ := asOwn_of h
  obtain ⟨l, vs, e, m, hl, r⟩ := own_at E hc
  refine ⟨.ref l, e, !ds.isEmpty, .inl ⟨vs, .of hl, ?_⟩, q _ _ _ h E⟩
  cases r <;> rfl
theorem s_aug {i : Nat} {te : TE} {pa : PE'} {f : Int → Int → Int} (sa : Sim K te pa) : SimS K (tAug i te (ipI f)) (pAug i f pa) := fun B Z A H0 M σ H ρ D G E h C => by
  obtain ⟨x, hx, h⟩ := asD_of h
  obtain ⟨a, rfl, h⟩ := asI_of h
  obtain ⟨v, hv, hd⟩ := E.cell i _ (cellAt_some hx (by intro z; cases z))
  rw [of_int hd] at hv
  refine ⟨.int a, ?_, sa B Z A H0 M σ H ρ _ E h _ fun w y ρ1 H1 h1 E1 d1 => ?_⟩
  · cases e : σ[i]? with
    | none =>
      rw [e] at hv
      cases hv
    | some o =>
      rw [e] at hv
      exact congrArg some hv
  · obtain ⟨b, rfl, h2⟩ := asI_of h1
    rw [of_int d1]
    exact ⟨a, b, rfl, rfl, C.nx M _ H1 _ (E1.setD (.int _)) h2⟩
end
theorem pcons_len1 {pa : PE'} {ρ : En} {R : List PyData → En → Prop} (h : pCons pa pNil ρ R) : pCons pa pNil ρ fun x ρ1 => x.length = 1 ∧ R x ρ1 := by
  have e : (fun x ρ1 => ([x] : List PyData).length = 1 ∧ R [x] ρ1) = fun x ρ1 => R [x] ρ1 := by
    funext x ρ1
    simp
  show pa ρ fun x ρ1 => ([x] : List PyData).length = 1 ∧ R [x] ρ1
  rw [e]
  exact h
theorem pcons_len2 {pa pb : PE'} {ρ : En} {R : List PyData → En → Prop} (h : pCons pa (pCons pb pNil) ρ R) : pCons pa (pCons pb pNil) ρ fun x ρ1 => x.length = 2 ∧ R x ρ1 := by
  have e : (fun x ρ1 => pb ρ1 fun y ρ2 => ([x, y] : List PyData).length = 2 ∧ R [x, y] ρ2) = fun x ρ1 => pb ρ1 fun y ρ2 => R [x, y] ρ2 := by
    funext x ρ1
    congr 1
    funext y ρ2
    simp
  show pa ρ fun x ρ1 => pb ρ1 fun y ρ2 => ([x, y] : List PyData).length = 2 ∧ R [x, y] ρ2
  rw [e]
  exact h
theorem hu65 {k : Nat} {A : Around} (hr : Room k A) : A.units + 64 < cLine := by
  have := hr.un
  omega
/-! functions of data -/
def fn1 (f : PyData → PyData) : FS := fun ds k => match ds with
  | [a] => k (f a)
  | _ => False
section
variable {X : Cx}
theorem pt_tru {a : Expr} {ta : TE} (ha : PE X a ta) (he : ∀ whole, isTrue a X.env whole = (do let v ← whole; standAt a.pos; holding [v] (truthy v)) := by intro _; rfl) : PT X a (tTru X.K ta) := pt_truth ha he
end
end Pu
namespace Pu
open PySem L2
/-! ### dicts with int keys -/
def getA (kvs : List (Int × PyData)) (n : Int) : Option PyData := (kvs.find? fun kv => decide (kv.1 = n)).map (·.2)
def putA (kvs : List (Int × PyData)) (n : Int) (d : PyData) : List (Int × PyData) :=
  if (kvs.any fun kv => decide (kv.1 = n)) = true then kvs.map (fun kv => if kv.1 = n then (kv.1, d) else kv) else kvs ++ [(n, d)]
def asDct : Cell → (List (Int × PyData) → Prop) → Prop
  | .dct x, k => k x
  | _, _ => False
theorem asDct_of {c : Cell} {k : List (Int × PyData) → Prop} (h : asDct c k) : ∃ x, c = .dct x ∧ k x := by
  cases c <;> first | exact ⟨_, rfl, h⟩ | exact h.elim
section
variable {K : PySem.W.Frag} {H : Hp}
theorem kvs_any {n : Int} : ∀ {ws : List (Key × V)} {kvs : List (Int × PyData)}, Kvs K H ws kvs → (ws.any fun kv => decide (kv.1 = (.inl n : Key))) = kvs.any fun kv => decide (kv.1 = n)
  | _, _, .nil => rfl
  | _, _, .cons (n := m) h r => by
    rw [List.any_cons, List.any_cons, kvs_any r]
    congr 1
    by_cases e : m = n
    · rw [decide_eq_true (show (.inl m : Key) = .inl n by rw [e]), decide_eq_true e]
    · rw [decide_eq_false (show ¬ (.inl m : Key) = .inl n from fun z => e (Sum.inl.inj z)), decide_eq_false e]
theorem kvs_get {n : Int} : ∀ {ws : List (Key × V)} {kvs : List (Int × PyData)}, Kvs K H ws kvs → (getA kvs n = none ∧ valV ws (.inl n : Key) = none) ∨ ∃ d v, getA kvs n = some d ∧ valV ws (.inl n : Key) = some v ∧ Dq K H v d
  | _, _, .nil => .inl ⟨rfl, rfl⟩
  | _, _, .cons (n := m) (v := v) (d := d) h r => by
    unfold getA valV
    by_cases e : m = n
    · rw [List.find?_cons_of_pos (by simpa using e), List.find?_cons_of_pos (by simpa using e)]
      exact .inr ⟨d, v, rfl, rfl, h⟩
    · rw [List.find?_cons_of_neg (by simpa using e), List.find?_cons_of_neg (by simpa using e)]
      exact kvs_get r
theorem kvs_map {n : Int} {v : V} {d : PyData} (h : Dq K H v d) : ∀ {ws : List (Key × V)} {kvs : List (Int × PyData)}, Kvs K H ws kvs →
    Kvs K H (ws.map fun kv => if kv.1 = (.inl n : Key) then (kv.1, v) else kv) (kvs.map fun kv => if kv.1 = n then (kv.1, d) else kv)
  | _, _, .nil => .nil
  | _, _, .cons (n := m) h' r => by
    rw [List.map_cons, List.map_cons]
    by_cases e : m = n
    · rw [if_pos (show (.inl m : Key) = .inl n by rw [e]), if_pos e]
      exact .cons h (kvs_map h r)
    · rw [if_neg (show ¬ (.inl m : Key) = .inl n from fun z => e (Sum.inl.inj z)), if_neg e]
      exact .cons h' (kvs_map h r)
theorem kvs_app {n : Int} {v : V} {d : PyData} (h : Dq K H v d) : ∀ {ws : List (Key × V)} {kvs : List (Int × PyData)}, Kvs K H ws kvs → Kvs K H (ws ++ [(.inl n, v)]) (kvs ++ [(n, d)])
  | _, _, .nil => .cons h .nil
  | _, _, .cons h' r => .cons h' (kvs_app h r)
theorem kvs_put {n : Int} {v : V} {d : PyData} {ws : List (Key × V)} {kvs : List (Int × PyData)} (h : Dq K H v d) (r : Kvs K H ws kvs) : Kvs K H (putK ws (.inl n) v) (putA kvs n d) := by
  unfold putK putA
  rw [kvs_any r]
  by_cases e : (kvs.any fun kv => decide (kv.1 = n)) = true
  · rw [if_pos e, if_pos e]
    exact kvs_map h r
  · rw [if_neg e, if_neg e]
    exact kvs_app h r
end
def pAsgD (i : Nat) : PS' := fun G ρ => i ≠ 0 ∧ G.nx (cellSet ρ i (.dct []))
def pPutD (i : Nat) (pk pv : PE') : PS' := fun G ρ => pv ρ fun v ρ1 => asDct (cellAt ρ1 i) fun _ => pk ρ1 fun k ρ2 => asI k fun n => asDct (cellAt ρ2 i) fun kvs => kvs.length < 100000 ∧ G.nx (cellSet ρ2 i (.dct (putA kvs n v)))
def pGetD (i : Nat) (pk px : PE') : PE' := fun ρ R => asDct (cellAt ρ i) fun _ => pk ρ fun k ρ1 => px ρ1 fun x ρ2 => asI k fun n => asDct (cellAt ρ2 i) fun kvs => R ((getA kvs n).getD x) ρ2
def pItemsD (i : Nat) : PA' := fun ρ R => asDct (cellAt ρ i) fun kvs => kvs.length ≤ 100000 ∧ R (kvs.map fun kv => .tuple [.int kv.1, kv.2]) ρ
section
variable {K : PySem.W.Frag} {B Z : Addr → Prop} {A H0 H : Hp} {M : Nat → Option Addr} {σ : St} {ρ : En}
theorem dct_at (E : EnvR K B Z A H0 M σ H ρ) {i : Nat} {kvs : List (Int × PyData)} (h : cellAt ρ i = .dct kvs) : ∃ l ws, σ[i]? = some (some (.ref l)) ∧ M i = some l ∧ H l = some (.dK ws) ∧ Kvs K (veil (hid Z M) H) ws kvs := by
  obtain ⟨l, ws, e, m, hl, r⟩ := E.cell i _ (cellAt_some h (by intro z; cases z))
  refine ⟨l, ws, ?_, m, hl, r⟩
  cases q : σ[i]? with
  | none =>
    rw [q] at e
    cases e
  | some o =>
    rw [q] at e
    exact congrArg some e
/-- any new object for a place's own: what the list's rule says, for a dict -/
theorem EnvR.setK (E : EnvR K B Z A H0 M σ H ρ) {i : Nat} {l : Addr} (hi : i ≠ 0) (hl : H l = none) :
    EnvR K B Z A H0 (fun j => if j = i then some l else M j) (σ.set i (some (.ref l))) (upd H l (.dK [])) (cellSet ρ i (.dct [])) := by
  have E2 := E.setO (i := i) (l := l) (vs := []) (ds := []) hi hl .nil
  have nM : ∀ j, M j ≠ some l := fun j m => E.live j l m hl
  have same : ∀ a, a ≠ l → upd H l (.lst []) a = upd H l (.dK []) a := fun a h => by rw [upd_ne h, upd_ne h]
  have hv : veil (hid Z fun j => if j = i then some l else M j) (upd H l (.lst [])) = veil (hid Z fun j => if j = i then some l else M j) (upd H l (.dK [])) := by
    funext a
    unfold veil
    by_cases z : hid Z (fun j => if j = i then some l else M j) a
    · rw [if_pos z, if_pos z]
    · rw [if_neg z, if_neg z]
      exact same a fun e => z (.inr ⟨i, by rw [e]; exact if_pos rfl⟩)
  have nn : ∀ a, upd H l (.lst []) a ≠ none → upd H l (.dK []) a ≠ none := fun a h => by
    by_cases e : a = l
    · rw [e, upd_same]
      intro z; cases z
    · rw [← same a e]
      exact h
  rw [cellSet_eq] at E2 ⊢
  refine ⟨by rw [List.length_set, List.length_set]; exact E.len, E2.inj, fun j u m => nn u (E2.live j u m), E2.off, fun a z => nn a (E2.zl a z), fun a o nb h => ?_, E2.own, E2.m0, hv ▸ E2.anch, fun j c hc => ?_⟩
  · have q := E.ext a o nb h
    rw [upd_ne (fun e => by rw [e, hl] at q; cases q)]
    exact q
  · rcases set_at hc with ⟨rfl, hk, rfl⟩ | ⟨ne, hc⟩
    · rw [join_set (by rw [E.len]; exact hk)]
      exact ⟨l, [], rfl, if_pos rfl, upd_same, .nil⟩
    · have h := E2.cell j c (by rw [List.getElem?_set_ne ne]; exact hc)
      refine h.grow (by rw [hv]; exact Grow.refl _) fun u m o ho => ?_
      have mj : (if j = i then some l else M j) = some u := m
      rw [if_neg (Ne.symm ne)] at mj
      rw [← same u fun e => nM j (by rw [mj, e])]
      exact ho
theorem EnvR.putKv (E : EnvR K B Z A H0 M σ H ρ) {i : Nat} {l : Addr} {ws : List (Key × V)} {kvs : List (Int × PyData)} (hs : (σ[i]?).join = some (.ref l)) (hm : M i = some l) (r : Kvs K (veil (hid Z M) H) ws kvs) :
    EnvR K B Z A H0 M σ (upd H l (.dK ws)) (cellSet ρ i (.dct kvs)) := by
  rw [cellSet_eq]
  have hd : hid Z M l := .inr ⟨i, hm⟩
  have gv : Grow (veil (hid Z M) H) (veil (hid Z M) (upd H l (.dK ws))) := fun a o h => by
    obtain ⟨h1, h2⟩ := veil_off h
    exact veil_on h1 ((upd_ne fun e => h1 (by rw [e]; exact hd)).trans h2)
  have nn : ∀ a, H a ≠ none → (upd H l (.dK ws)) a ≠ none := fun a h => by
    by_cases e : a = l
    · rw [e, upd_same]
      intro z; cases z
    · rw [upd_ne e]
      exact h
  refine ⟨by rw [List.length_set]; exact E.len, E.inj, fun j u m => nn u (E.live j u m), E.off, fun a z => nn a (E.zl a z), fun a o nb h => ?_, E.own, E.m0, E.anch.trans gv, fun j c hc => ?_⟩
  · have ne : a ≠ l := fun e => by
      rcases E.own i l hm with b | n
      · exact nb (e ▸ b)
      · rw [e, n] at h
        cases h
    rw [upd_ne ne]
    exact E.ext a o nb h
  · rcases set_at hc with ⟨rfl, hk, rfl⟩ | ⟨ne, hc⟩
    · exact ⟨l, ws, hs, hm, upd_same, kvs_grow gv r⟩
    · exact (E.cell j c hc).grow gv fun u m o ho => (upd_ne fun e => ne (E.inj i j l hm (by rw [← e]; exact m))).trans ho
end
section
variable {K : PySem.W.Frag}
theorem s_asgD {i : Nat} : SimS K (tAsg tDNewK (gName i)) (pAsgD i) := fun B Z A H0 M σ H ρ D G E h C p hp => C.nx _ _ _ _ (E.setK h.1 hp) h.2
theorem s_putD {i : Nat} {tk tv : TE} {pk pv : PE'} (sk : Sim K tk pk) (sv : Sim K tv pv) : SimS K (sDPut (tVar i) tk tv) (pPutD i pk pv) := fun B Z A H0 M σ H ρ D G E h C =>
  sv B Z A H0 M σ H ρ _ E h _ fun v d ρ1 H1 h1 E1 d1 => by
    obtain ⟨kvs, hc, h2⟩ := asDct_of h1
    obtain ⟨l, ws, e, m, hl, r⟩ := dct_at E1 hc
    refine ⟨.ref l, e, sk B Z _ H0 M σ H1 ρ1 _ E1.anchor h2 _ fun u k ρ2 H2 h3 E2 d2 => ?_⟩
    obtain ⟨n, rfl, h4⟩ := asI_of h3
    obtain ⟨kvs2, hc2, h5, h6⟩ := asDct_of h4
    obtain ⟨l2, ws2, e2, m2, hl2, r2⟩ := dct_at E2 hc2
    rw [m] at m2
    cases m2
    rw [of_int d2]
    refine ⟨l, _, rfl, DPut.k (k := Sum.inl n) hl2 (Nat.lt_of_lt_of_le (by rw [kvs_len r2]; exact h5) (by decide)), ?_⟩
    exact C.nx M σ _ _ ((E2.weak E1.anch).putKv (by rw [e2]; rfl) m (kvs_put (dp_grow E2.anch _ _ d1) r2)) h6
theorem sim_getD {i : Nat} {tk tx : TE} {pk px : PE'} (sk : Sim K tk pk) (sx : Sim K tx px) : Sim K (tDGet2 (tVar i) tk tx) (pGetD i pk px) := fun B Z A H0 M σ H ρ R E h Q q => by
  obtain ⟨kvs, hc, h⟩ := asDct_of h
  obtain ⟨l, ws, e, m, hl, r⟩ := dct_at E hc
  refine ⟨.ref l, e, l, rfl, .inl ⟨ws, .inl hl⟩, ?_⟩
  refine two sk sx E h fun v w x y ρ2 H2 h2 E2 d1 d2 => ?_
  obtain ⟨n, rfl, h3⟩ := asI_of h2
  obtain ⟨kvs2, hc2, h4⟩ := asDct_of h3
  obtain ⟨l2, ws2, e2, m2, hl2, r2⟩ := dct_at E2 hc2
  rw [m] at m2
  cases m2
  rw [of_int d1]
  refine ⟨valV ws2 (.inl n), DGet.k (k := Sum.inl n) hl2, ?_⟩
  rcases kvs_get (n := n) r2 with ⟨g1, g2⟩ | ⟨d, u, g1, g2, du⟩
  · rw [g2]
    rw [g1] at h4
    exact q _ _ _ _ h4 E2 d2
  · rw [g2]
    rw [g1] at h4
    exact q _ _ _ _ h4 E2 du
theorem sim_itemsD {i : Nat} : Sim K (LiI.tListItems (tVar i)) (pNew (pItemsD i)) := fun B Z A H0 M σ H ρ R E h Q q => by
  obtain ⟨kvs, hc, hz, h⟩ := asDct_of h
  obtain ⟨l, ws, e, m, hl, r⟩ := dct_at E hc
  refine ⟨.ref l, e, l, ws, rfl, hl, fun H' p ts g hp ht np hP hpair => ?_⟩
  have E2 := E.grown g
  refine q _ _ ρ H' h E2 (.lst (veil_on (E.veiled hp) hP) ?_)
  have gv := grow_veil (Z := hid Z M) g
  have go : ∀ {ts : List Addr} {ws : List (Key × V)} {kvs : List (Int × PyData)}, (∀ t ∈ ts, H t = none) → Paired (fun (t : Addr) (q : Key × V) => H' t = some (.tup [kV q.1, q.2])) ts ws → Kvs K (veil (hid Z M) H) ws kvs →
      Dqs K (veil (hid Z M) H') (ts.map V.ref) (kvs.map fun kv => .tuple [.int kv.1, kv.2]) := fun {ts} => by
    induction ts with
    | nil =>
      intro ws kvs _ hp hr
      cases hp
      cases hr
      exact .nil
    | cons t ts ih =>
      intro ws kvs hn hp hr
      cases hp with
      | cons h1 h2 =>
        cases hr with
        | cons hd hr => exact .cons (.tup (.of (veil_on (E.veiled (hn t List.mem_cons_self)) h1)) (.cons (.int _) (.cons (dp_grow gv _ _ hd) .nil))) (ih (fun t m => hn t (List.mem_cons_of_mem _ m)) h2 hr)
  exact go ht hpair r
end

/-! ### sums, all, lcm, min, products -/
def rSum2 (K : PySem.W.Frag) : List V → Hp → VK → Prop := fun vs H Q => ∃ (a : Addr) (ns : List Int), vs = [V.ref a] ∧ (SqL K H a (ns.map V.int) ∨ SqT K H a (ns.map V.int)) ∧ Q (.int ns.sum) H
theorem c_sum {X : Cx} (hc : X.calm = true) : CallR X (.builtin "sum") (rSum2 X.K) := by
  intro pins s σ H vs us Q I r h
  obtain ⟨a, ns, rfl, hs | hs, q⟩ := h
  · exact cr_sum hc pins s σ H _ us Q I r ⟨a, ns, rfl, hs, q⟩
  · obtain ⟨its, rv, ht, _⟩ := I.tuple hs
    rw [Vals.ref1 r]
    have hi := ints_of_vals rv
    obtain ⟨xs, e⟩ := hi.allInts.items
    have hn : PySem.numsOf (intItems xs).toList = ns := by rw [← e]; exact hi.numsOf
    rw [PySem.nums_intItems] at hn
    rw [e] at ht
    refine PySem.W.ktm_sumG (I.ok.hd hc) ht fun h' tk t' hk => ?_
    rw [PySem.preSum_eq, List.take_of_length_le (by simp), hn]
    exact ⟨.int _, H, I.kept hk, ⟨_, rfl⟩, q⟩
def intsOf : List PyData → Option (List Int)
  | [] => some []
  | .int i :: r => (intsOf r).map (i :: ·)
  | _ => none
theorem intsOf_eq : ∀ {ds : List PyData} {ns : List Int}, intsOf ds = some ns → ds = ns.map PyData.int
  | [], ns, h => by cases h; rfl
  | .int i :: r, ns, h => by
    unfold intsOf at h
    cases e : intsOf r with
    | none => rw [e] at h; cases h
    | some ms =>
      rw [e] at h
      cases h
      rw [intsOf_eq e]
      rfl
  | .none :: _, _, h => by cases h
  | .bool _ :: _, _, h => by cases h
  | .str _ :: _, _, h => by cases h
  | .list _ :: _, _, h => by cases h
  | .tuple _ :: _, _, h => by cases h
  | .dict _ :: _, _, h => by cases h
theorem intsOf_map : ∀ ns : List Int, intsOf (ns.map PyData.int) = some ns
  | [] => rfl
  | n :: ns => by
    show (intsOf (ns.map PyData.int)).map (n :: ·) = _
    rw [intsOf_map ns]
    rfl
def fSum : FS := fun ds k => match ds with
  | [d] => asS d fun xs => ∃ ns, intsOf xs = some ns ∧ k (.int ns.sum)
  | _ => False
theorem fSum_of {ds : List PyData} {k : PyData → Prop} (h : fSum ds k) : ∃ ns : List Int, (ds = [.list (ns.map PyData.int)] ∨ ds = [.tuple (ns.map PyData.int)]) ∧ k (.int ns.sum) := by
  unfold fSum at h
  split at h
  · rename_i d
    cases d with
    | list xs =>
      obtain ⟨ns, e, h⟩ := h
      rw [intsOf_eq e]
      exact ⟨ns, .inl rfl, h⟩
    | tuple xs =>
      obtain ⟨ns, e, h⟩ := h
      rw [intsOf_eq e]
      exact ⟨ns, .inr rfl, h⟩
    | _ => exact h.elim
  · exact h.elim
/-- all(xs), xs a list of truth values -/
def boolsOf : List PyData → Option (List Bool)
  | [] => some []
  | .bool i :: r => (boolsOf r).map (i :: ·)
  | _ => none
theorem boolsOf_eq : ∀ {ds : List PyData} {ns : List Bool}, boolsOf ds = some ns → ds = ns.map PyData.bool
  | [], ns, h => by cases h; rfl
  | .bool i :: r, ns, h => by
    unfold boolsOf at h
    cases e : boolsOf r with
    | none => rw [e] at h; cases h
    | some ms =>
      rw [e] at h
      cases h
      rw [boolsOf_eq e]
      rfl
  | .none :: _, _, h => by cases h
  | .int _ :: _, _, h => by cases h
  | .str _ :: _, _, h => by cases h
  | .list _ :: _, _, h => by cases h
  | .tuple _ :: _, _, h => by cases h
  | .dict _ :: _, _, h => by cases h
theorem boolsOf_map : ∀ ns : List Bool, boolsOf (ns.map PyData.bool) = some ns
  | [] => rfl
  | n :: ns => by
    show (boolsOf (ns.map PyData.bool)).map (n :: ·) = _
    rw [boolsOf_map ns]
    rfl
def fAll : FS := fun ds k => match ds with
  | [d] => asL d fun xs => ∃ ns, boolsOf xs = some ns ∧ k (.bool (ns.all id))
  | _ => False
theorem fAll_of {ds : List PyData} {k : PyData → Prop} (h : fAll ds k) : ∃ ns : List Bool, ds = [.list (ns.map PyData.bool)] ∧ k (.bool (ns.all id)) := by
  unfold fAll at h
  split at h
  · rename_i d
    cases d with
    | list xs =>
      obtain ⟨ns, e, h⟩ := h
      rw [boolsOf_eq e]
      exact ⟨ns, rfl, h⟩
    | _ => exact h.elim
  · exact h.elim
/-- lcm of two numbers below 2 ^ 64 -/
def rLcm : List V → Hp → VK → Prop := fun vs H Q => ∃ a b : Int, vs = [.int a, .int b] ∧ a.natAbs < 2 ^ 64 ∧ b.natAbs < 2 ^ 64 ∧ Q (.int ((Nat.lcm a.natAbs b.natAbs : Nat) : Int)) H
theorem lcm_small {m n : Nat} (hm : m < 2 ^ 64) (hn : n < 2 ^ 64) : (Nat.lcm m n).log2 < PySem.bitsLine := by
  have h1 : Nat.lcm m n ≤ m * n := Nat.div_le_self _ _
  have h2 : m * n ≤ 2 ^ 64 * 2 ^ 64 := Nat.mul_le_mul (Nat.le_of_lt hm) (Nat.le_of_lt hn)
  have h3 : Nat.lcm m n < 2 ^ 129 := Nat.lt_of_le_of_lt (Nat.le_trans h1 h2) (by decide)
  have h4 : (129 : Nat) < PySem.bitsLine := by decide
  by_cases z : Nat.lcm m n = 0
  · rw [z]
    exact Nat.lt_of_le_of_lt (by decide) h4
  · exact Nat.lt_trans ((Nat.log2_lt z).mpr h3) h4
theorem c_lcm {X : Cx} : CallR X (.builtin "math.lcm") rLcm := by
  intro pins s σ H vs us Q I r h
  obtain ⟨a, b, rfl, ha, hb, q⟩ := h
  obtain ⟨t, u, rfl⟩ := Vals.int2 r
  refine PySem.W.mg_lcm_v ha hb (c := ((Nat.lcm a.natAbs b.natAbs : Nat) : Int)) (by rw [Nat.lcm_one_left]) (by simpa using lcm_small ha hb) ⟨.int _, H, I.tok _, ⟨_, rfl⟩, q⟩
def fLcm : FS := fun ds k => match ds with
  | [.int a, .int b] => a.natAbs < 2 ^ 64 ∧ b.natAbs < 2 ^ 64 ∧ k (.int ((Nat.lcm a.natAbs b.natAbs : Nat) : Int))
  | _ => False
theorem fLcm_of {ds : List PyData} {k : PyData → Prop} (h : fLcm ds k) : ∃ a b : Int, ds = [.int a, .int b] ∧ a.natAbs < 2 ^ 64 ∧ b.natAbs < 2 ^ 64 ∧ k (.int ((Nat.lcm a.natAbs b.natAbs : Nat) : Int)) := by
  unfold fLcm at h
  split at h
  · exact ⟨_, _, rfl, h⟩
  · exact h.elim
def rMin2 : List V → Hp → VK → Prop := fun xs H Q => ∃ i j, xs = [.int i, .int j] ∧ Q (.int (if j < i then j else i)) H
theorem c_min2 {X : Cx} (hc : X.calm = true) : CallR X (.builtin "min") rMin2 := call_min2 hc
def fMin2 : FS := fun ds k => match ds with
  | [.int a, .int b] => k (.int (if b < a then b else a))
  | _ => False
theorem fMin2_of {ds : List PyData} {k : PyData → Prop} (h : fMin2 ds k) : ∃ a b : Int, ds = [.int a, .int b] ∧ k (.int (if b < a then b else a)) := by
  unfold fMin2 at h
  split at h
  · exact ⟨_, _, rfl, h⟩
  · exact h.elim
/-- * of two ints, of a tuple or a list and an int -/
def rTimes (K : PySem.W.Frag) : R2 := fun x y H Q => rI CMul (fun i j => .int (i * j)) x y H Q ∨ rRepT K x y H Q ∨ rRep x y H Q
theorem op_times {X : Cx} : OpR X (binaryOp .Mult) (rTimes X.K) := either op_mul (either op_repT op_rep)
def timesD (x y : PyData) (k : PyData → Prop) : Prop := match x, y with
  | .int i, .int j => CMul i j ∧ k (.int (i * j))
  | .tuple xs, .int j => xs ≠ [] ∧ 2 ≤ j ∧ j ≤ 1000 ∧ xs.length ≤ 100 ∧ k (.tuple (List.replicate j.toNat xs).flatten)
  | .list xs, .int j => 0 ≤ j ∧ j ≤ 1000 ∧ xs.length ≤ 100 ∧ k (.list (List.replicate j.toNat xs).flatten)
  | _, _ => False
def pTimes (pa pb : PE') : PE' := fun ρ R => pa ρ fun x ρ1 => pb ρ1 fun y ρ2 => timesD x y fun d => R d ρ2
section
variable {K : PySem.W.Frag}
theorem dqs_rep {H : Hp} {vs : List V} {ds : List PyData} (r : Dqs K H vs ds) : ∀ n : Nat, Dqs K H (List.replicate n vs).flatten (List.replicate n ds).flatten
  | 0 => .nil
  | n + 1 => by
    rw [List.replicate_succ, List.replicate_succ, List.flatten_cons, List.flatten_cons]
    exact dqs_app r (dqs_rep r n)
theorem sim_times {ta tb : TE} {pa pb : PE'} (sa : Sim K ta pa) (sb : Sim K tb pb) : Sim K (tOp (rTimes K) ta tb) (pTimes pa pb) := fun B Z A H0 M σ H ρ R E h Q q =>
  two sa sb E h fun v w x y ρ2 H2 h2 E2 d1 d2 => by
    cases x with
    | int i =>
      cases y with
      | int j =>
        rw [of_int d1, of_int d2]
        exact .inl ⟨i, j, rfl, rfl, h2.1, q _ _ _ _ h2.2 E2 (.int _)⟩
      | _ => exact h2.elim
    | tuple xs =>
      cases y with
      | int j =>
        obtain ⟨h3, h4, h5, h6, h7⟩ := h2
        rw [of_int d2]
        cases d1 with
        | @tup a vs _ hl r =>
          refine .inr (.inl ⟨a, j, vs, rfl, rfl, grow_t (veil_grow _ _) hl, fun e => h3 ?_, h4, h5, by rw [dqs_len r]; omega, fun p hp => q _ _ _ _ h7 (E2.grown (grow_new hp)) (.new (E2.veiled hp) hp (dqs_rep r _))⟩)
          subst e
          exact nil_of r
      | _ => exact h2.elim
    | list xs =>
      cases y with
      | int j =>
        obtain ⟨h3, h4, h5, h6⟩ := h2
        rw [of_int d2]
        cases d1 with
        | @lst a vs _ hl r =>
          refine .inr (.inr ⟨a, j, vs, rfl, rfl, veil_grow _ _ _ _ hl, by omega, by omega, sz5 ?_, fun p hp => q _ _ _ _ h6 (E2.grown (grow_new hp)) (.newL (E2.veiled hp) hp (dqs_rep r _))⟩)
          rw [dqs_len r]
          have : xs.length * j.toNat ≤ 100 * 1000 := Nat.mul_le_mul h5 (by omega)
          omega
      | _ => exact h2.elim
    | _ => exact h2.elim
theorem sim_sum {ta : TA} {pa : PA'} (sa : SimA K ta pa) : Sim K (tCB (rSum2 K) ta) (pFn fSum pa) := fun B Z A H0 M σ H ρ R E h Q q =>
  sa B Z A H0 M σ H ρ _ E h _ fun vs ds ρ1 H1 h1 E1 d1 => by
    obtain ⟨ns, rfl | rfl, h2⟩ := fSum_of h1
    · obtain ⟨v, rfl, dv⟩ := one_of d1
      cases dv with
      | lst hl r =>
        have e := dqs_of_ints r
        subst e
        exact ⟨_, ns, rfl, .inl (.of (veil_grow _ _ _ _ hl)), q _ _ _ _ h2 E1 (.int _)⟩
    · obtain ⟨v, rfl, dv⟩ := one_of d1
      cases dv with
      | tup hl r =>
        have e := dqs_of_ints r
        subst e
        exact ⟨_, ns, rfl, .inr (grow_t (veil_grow _ _) hl), q _ _ _ _ h2 E1 (.int _)⟩
theorem dqs_of_bools {H : Hp} : ∀ {vs : List V} {ns : List Bool}, Dqs K H vs (ns.map PyData.bool) → vs = ns.map V.bl
  | _, [], .nil => rfl
  | _, n :: ns, .cons (.bl _) r => congrArg (V.bl n :: ·) (dqs_of_bools r)
theorem sim_all {ta : TA} {pa : PA'} (sa : SimA K ta pa) : Sim K (tCB (rAll K) ta) (pFn fAll pa) := fun B Z A H0 M σ H ρ R E h Q q =>
  sa B Z A H0 M σ H ρ _ E h _ fun vs ds ρ1 H1 h1 E1 d1 => by
    obtain ⟨ns, rfl, h2⟩ := fAll_of h1
    obtain ⟨v, rfl, dv⟩ := one_of d1
    cases dv with
    | lst hl r =>
      have e := dqs_of_bools r
      subst e
      exact ⟨_, ns, rfl, .of (veil_grow _ _ _ _ hl), q _ _ _ _ h2 E1 (.bl _)⟩
theorem two_of {H : Hp} {vs : List V} {d e : PyData} (r : Dqs K H vs [d, e]) : ∃ v w, vs = [v, w] ∧ Dq K H v d ∧ Dq K H w e := by
  cases r with
  | cons h r =>
    obtain ⟨w, rfl, hw⟩ := one_of r
    exact ⟨_, w, rfl, h, hw⟩
theorem sim_lcm {ta : TA} {pa : PA'} (sa : SimA K ta pa) : Sim K (tCB rLcm ta) (pFn fLcm pa) := fun B Z A H0 M σ H ρ R E h Q q =>
  sa B Z A H0 M σ H ρ _ E h _ fun vs ds ρ1 H1 h1 E1 d1 => by
    obtain ⟨a, b, rfl, ha, hb, h2⟩ := fLcm_of h1
    obtain ⟨v, w, rfl, dv, dw⟩ := two_of d1
    rw [of_int dv, of_int dw]
    exact ⟨a, b, rfl, ha, hb, q _ _ _ _ h2 E1 (.int _)⟩
theorem sim_min2 {ta : TA} {pa : PA'} (sa : SimA K ta pa) : Sim K (tCB rMin2 ta) (pFn fMin2 pa) := fun B Z A H0 M σ H ρ R E h Q q =>
  sa B Z A H0 M σ H ρ _ E h _ fun vs ds ρ1 H1 h1 E1 d1 => by
    obtain ⟨a, b, rfl, h2⟩ := fMin2_of h1
    obtain ⟨v, w, rfl, dv, dw⟩ := two_of d1
    rw [of_int dv, of_int dw]
    exact ⟨a, b, rfl, q _ _ _ _ h2 E1 (.int _)⟩
end
end Pu
namespace Cal
/-! ### the mathematics of years -/
abbrev Rules := List (Int × Bool)
abbrev Terms := List (Int × Int)
def ind (d y : Int) : Int := if y % d = 0 then 1 else 0
def lcmI (a b : Int) : Int := ((Nat.lcm a.natAbs b.natAbs : Nat) : Int)
def getT (ts : Terms) (k : Int) : Int := ((ts.find? fun p => decide (p.1 = k)).map (·.2)).getD 0
def putT (ts : Terms) (k v : Int) : Terms := if (ts.any fun p => decide (p.1 = k)) = true then ts.map (fun p => if p.1 = k then (p.1, v) else p) else ts ++ [(k, v)]
def ev (y : Int) : Terms → Int
  | [] => 0
  | p :: r => p.2 * ind p.1 y + ev y r
def mass : Terms → Int
  | [] => 0
  | p :: r => (p.2.natAbs : Int) + mass r
def step1 (n : Int) (acc : Terms) (p : Int × Int) : Terms := putT acc (lcmI p.1 n) (getT acc (lcmI p.1 n) - p.2)
def stepR (acc : Terms) (r : Int × Bool) : Terms :=
  let a := acc.foldl (step1 r.1) acc
  if r.2 then putT a r.1 (getT a r.1 + 1) else a
def longTerms (rs : Rules) : Terms := rs.foldl stepR []
def longStep (y : Int) (b : Bool) (r : Int × Bool) : Bool := if y % r.1 = 0 then r.2 else b
def isLong (rs : Rules) (y : Int) : Bool := rs.foldl (longStep y) false
def b2 (b : Bool) : Int := if b then 1 else 0
def Nd (ts : Terms) : Prop := (ts.map (·.1)).Nodup

theorem any_mem {ts : Terms} {k : Int} : (ts.any fun p => decide (p.1 = k)) = true ↔ k ∈ ts.map (·.1) := by
  rw [List.any_eq_true, List.mem_map]
  constructor
  · rintro ⟨p, hp, e⟩
    exact ⟨p, hp, of_decide_eq_true e⟩
  · rintro ⟨p, hp, e⟩
    exact ⟨p, hp, decide_eq_true e⟩
theorem get_no : ∀ {ts : Terms} {k : Int}, k ∉ ts.map (·.1) → getT ts k = 0
  | [], _, _ => rfl
  | p :: r, k, h => by
    have h1 : ¬ p.1 = k := fun e => h (by rw [List.map_cons, e]; exact List.mem_cons_self)
    have h2 := get_no (ts := r) (k := k) fun m => h (by rw [List.map_cons]; exact List.mem_cons_of_mem _ m)
    unfold getT at h2 ⊢
    rw [List.find?_cons_of_neg (by simpa using h1)]
    exact h2
theorem get_pos {p : Int × Int} {r : Terms} : getT (p :: r) p.1 = p.2 := by
  unfold getT
  rw [List.find?_cons_of_pos (by simp)]
  rfl
theorem get_neg {p : Int × Int} {r : Terms} {k : Int} (h : ¬ p.1 = k) : getT (p :: r) k = getT r k := by
  unfold getT
  rw [List.find?_cons_of_neg (by simpa using h)]
theorem map_off : ∀ {ts : Terms} {k v : Int}, k ∉ ts.map (·.1) → (ts.map fun p => if p.1 = k then (p.1, v) else p) = ts
  | [], _, _, _ => rfl
  | p :: r, k, v, h => by
    have h1 : ¬ p.1 = k := fun e => h (by rw [List.map_cons, e]; exact List.mem_cons_self)
    rw [List.map_cons, if_neg h1, map_off fun m => h (by rw [List.map_cons]; exact List.mem_cons_of_mem _ m)]
/-- a measure of terms that adds up -/
theorem sum_put (f : Int × Int → Int) (k v : Int) : ∀ {ts : Terms}, Nd ts → k ∈ ts.map (·.1) → ((ts.map fun p => if p.1 = k then (p.1, v) else p).map f).sum = (ts.map f).sum - f (k, getT ts k) + f (k, v)
  | [], _, h => by simp at h
  | p :: r, nd, h => by
    have nd' := List.nodup_cons.mp (show (p.1 :: r.map (·.1)).Nodup from nd)
    by_cases e : p.1 = k
    · have off : k ∉ r.map (·.1) := by rw [← e]; exact nd'.1
      have g : getT (p :: r) k = p.2 := by rw [← e]; exact get_pos
      rw [List.map_cons, if_pos e, map_off off, List.map_cons, List.map_cons, List.sum_cons, List.sum_cons, g]
      have : p = (k, p.2) := by rw [← e]
      rw [e, ← this]
      omega
    · have hm : k ∈ r.map (·.1) := by
        rcases List.mem_cons.mp (show k ∈ p.1 :: r.map (·.1) from h) with z | z
        · exact absurd z.symm e
        · exact z
      have ih := sum_put f k v (ts := r) nd'.2 hm
      rw [List.map_cons, if_neg e, List.map_cons, List.map_cons, List.sum_cons, List.sum_cons, get_neg e, ih]
      omega
theorem put_sum (f : Int × Int → Int) (k v : Int) {ts : Terms} (nd : Nd ts) (h0 : ∀ k, f (k, 0) = 0) : ((putT ts k v).map f).sum = (ts.map f).sum - f (k, getT ts k) + f (k, v) := by
  unfold putT
  by_cases h : k ∈ ts.map (·.1)
  · rw [if_pos (any_mem.mpr h)]
    exact sum_put f k v nd h
  · rw [if_neg (fun z => h (any_mem.mp z)), get_no h, h0, List.map_append, List.sum_append]
    simp
theorem ev_sum (y : Int) : ∀ ts : Terms, ev y ts = (ts.map fun p => p.2 * ind p.1 y).sum
  | [] => rfl
  | p :: r => by
    rw [List.map_cons, List.sum_cons, ← ev_sum y r]
    rfl
theorem mass_sum : ∀ ts : Terms, mass ts = (ts.map fun p => (p.2.natAbs : Int)).sum
  | [] => rfl
  | p :: r => by
    rw [List.map_cons, List.sum_cons, ← mass_sum r]
    rfl
theorem ev_put {y k v : Int} {ts : Terms} (nd : Nd ts) : ev y (putT ts k v) = ev y ts + (v - getT ts k) * ind k y := by
  rw [ev_sum, ev_sum, put_sum (fun p => p.2 * ind p.1 y) k v nd (fun _ => Int.zero_mul _)]
  show _ - getT ts k * ind k y + v * ind k y = _
  rw [Int.sub_mul]
  omega
theorem mass_put {k δ : Int} {ts : Terms} (nd : Nd ts) : mass (putT ts k (getT ts k + δ)) ≤ mass ts + δ.natAbs := by
  rw [mass_sum, mass_sum, put_sum (fun p => (p.2.natAbs : Int)) k _ nd (fun _ => rfl)]
  show _ - ((getT ts k).natAbs : Int) + ((getT ts k + δ).natAbs : Int) ≤ _
  omega
theorem put_keys {ts : Terms} {k v : Int} : ∀ x, x ∈ (putT ts k v).map (·.1) → x ∈ ts.map (·.1) ∨ x = k := fun x hx => by
  unfold putT at hx
  by_cases h : (ts.any fun p => decide (p.1 = k)) = true
  · rw [if_pos h, List.map_map] at hx
    obtain ⟨p, hp, e⟩ := List.mem_map.mp hx
    refine .inl (List.mem_map.mpr ⟨p, hp, ?_⟩)
    rw [← e]
    show p.1 = (if p.1 = k then (p.1, v) else p).1
    split <;> rfl
  · rw [if_neg h, List.map_append] at hx
    rcases List.mem_append.mp hx with z | z
    · exact .inl z
    · exact .inr (List.mem_singleton.mp z)
theorem put_nd {ts : Terms} {k v : Int} (nd : Nd ts) : Nd (putT ts k v) := by
  unfold putT Nd
  by_cases h : (ts.any fun p => decide (p.1 = k)) = true
  · rw [if_pos h, List.map_map]
    have e : ((fun p : Int × Int => p.1) ∘ fun p => if p.1 = k then (p.1, v) else p) = fun p : Int × Int => p.1 := by
      funext p
      show (if p.1 = k then (p.1, v) else p).1 = p.1
      split <;> rfl
    rw [e]
    exact nd
  · rw [if_neg h, List.map_append]
    refine List.nodup_append.mpr ⟨nd, by simp, fun a ha b hb e => h (any_mem.mpr ?_)⟩
    have hb := List.mem_singleton.mp hb
    have hk : b = k := hb
    rw [← hk, ← e]
    exact ha
/-- rules: divisors from 1 on -/
def Pos (rs : Rules) : Prop := ∀ r ∈ rs, 1 ≤ r.1
def PosT (ts : Terms) : Prop := ∀ x ∈ ts.map (·.1), 1 ≤ x
theorem ind_lcm {a b : Int} (y : Int) : ind (lcmI a b) y = ind a y * ind b y := by
  have key : (lcmI a b ∣ y) ↔ (a ∣ y ∧ b ∣ y) := by
    unfold lcmI
    rw [Int.ofNat_dvd_left]
    constructor
    · intro h
      exact ⟨Int.natAbs_dvd_natAbs.mp (Nat.dvd_trans (Nat.dvd_lcm_left _ _) h), Int.natAbs_dvd_natAbs.mp (Nat.dvd_trans (Nat.dvd_lcm_right _ _) h)⟩
    · rintro ⟨h1, h2⟩
      exact Nat.lcm_dvd (Int.natAbs_dvd_natAbs.mpr h1) (Int.natAbs_dvd_natAbs.mpr h2)
  have e : ∀ d : Int, (y % d = 0) ↔ d ∣ y := fun d => (Int.dvd_iff_emod_eq_zero).symm
  unfold ind
  by_cases ha : y % a = 0
  · by_cases hb : y % b = 0
    · rw [if_pos ((e _).mpr (key.mpr ⟨(e _).mp ha, (e _).mp hb⟩)), if_pos ha, if_pos hb]
      rfl
    · rw [if_neg (fun z => hb ((e _).mpr (key.mp ((e _).mp z)).2)), if_neg hb, Int.mul_zero]
  · rw [if_neg (fun z => ha ((e _).mpr (key.mp ((e _).mp z)).1)), if_neg ha, Int.zero_mul]
theorem lcm_pos {a b : Int} (ha : 1 ≤ a) (hb : 1 ≤ b) : 1 ≤ lcmI a b := by
  unfold lcmI
  have := Nat.lcm_pos (show 0 < a.natAbs by omega) (show 0 < b.natAbs by omega)
  omega
structure Good (L : Int) (ts : Terms) : Prop where
  nd : Nd ts
  pos : PosT ts
  dvd : ∀ x ∈ ts.map (·.1), x ∣ L
theorem step1_fold {n y L : Int} (hn : 1 ≤ n) (hL : n ∣ L) : ∀ {ps : Terms} {acc : Terms}, (∀ x ∈ ps.map (·.1), 1 ≤ x ∧ x ∣ L) → Good L acc →
    Good L (ps.foldl (step1 n) acc) ∧ ev y (ps.foldl (step1 n) acc) = ev y acc - ev y ps * ind n y ∧ mass (ps.foldl (step1 n) acc) ≤ mass acc + mass ps
  | [], acc, _, g => ⟨g, by show ev y acc = ev y acc - 0 * _; rw [Int.zero_mul]; omega, by show mass acc ≤ mass acc + 0; omega⟩
  | p :: ps, acc, hp, g => by
    have hp1 := hp p.1 (by rw [List.map_cons]; exact List.mem_cons_self)
    have g1 : Good L (step1 n acc p) := by
      refine ⟨put_nd g.nd, fun x hx => ?_, fun x hx => ?_⟩
      · rcases put_keys x hx with z | z
        · exact g.pos x z
        · rw [z]
          exact lcm_pos hp1.1 hn
      · rcases put_keys x hx with z | z
        · exact g.dvd x z
        · rw [z]
          unfold lcmI
          rw [Int.ofNat_dvd_left]
          exact Nat.lcm_dvd (Int.natAbs_dvd_natAbs.mpr hp1.2) (Int.natAbs_dvd_natAbs.mpr hL)
    obtain ⟨h1, h2, h3⟩ := step1_fold hn hL (ps := ps) (acc := step1 n acc p) (fun x hx => hp x (by rw [List.map_cons]; exact List.mem_cons_of_mem _ hx)) g1
    refine ⟨h1, ?_, ?_⟩
    · show ev y (ps.foldl (step1 n) (step1 n acc p)) = _
      rw [h2]
      unfold step1
      rw [ev_put g.nd, ind_lcm]
      show ev y acc + (getT acc (lcmI p.1 n) - p.2 - getT acc (lcmI p.1 n)) * (ind p.1 y * ind n y) - ev y ps * ind n y = ev y acc - (p.2 * ind p.1 y + ev y ps) * ind n y
      rw [show getT acc (lcmI p.1 n) - p.2 - getT acc (lcmI p.1 n) = - p.2 by omega, Int.add_mul, Int.neg_mul, Int.mul_assoc]
      omega
    · show mass (ps.foldl (step1 n) (step1 n acc p)) ≤ mass acc + ((p.2.natAbs : Int) + mass ps)
      have := mass_put (k := lcmI p.1 n) (δ := -p.2) g.nd
      have e : getT acc (lcmI p.1 n) + -p.2 = getT acc (lcmI p.1 n) - p.2 := by omega
      rw [e] at this
      unfold step1 at h3 ⊢
      omega
theorem stepR_good {L : Int} {acc : Terms} {r : Int × Bool} (y : Int) (g : Good L acc) (hr : 1 ≤ r.1) (hL : r.1 ∣ L) : Good L (stepR acc r) ∧ ev y (stepR acc r) = ev y acc - ev y acc * ind r.1 y + b2 r.2 * ind r.1 y ∧ mass (stepR acc r) ≤ 2 * mass acc + 1 := by
  obtain ⟨h1, h2, h3⟩ := step1_fold (y := y) hr hL (ps := acc) (acc := acc) (fun x hx => ⟨g.pos x hx, g.dvd x hx⟩) g
  unfold stepR
  cases e : r.2 with
  | false =>
    refine ⟨h1, ?_, by show mass (acc.foldl (step1 r.1) acc) ≤ _; omega⟩
    show ev y (acc.foldl (step1 r.1) acc) = _ + 0 * _
    rw [h2, Int.zero_mul]
    omega
  | true =>
    refine ⟨⟨put_nd h1.nd, fun x hx => ?_, fun x hx => ?_⟩, ?_, ?_⟩
    · rcases put_keys x hx with z | z
      · exact h1.pos x z
      · rw [z]; exact hr
    · rcases put_keys x hx with z | z
      · exact h1.dvd x z
      · rw [z]; exact hL
    · show ev y (putT (acc.foldl (step1 r.1) acc) r.1 _) = _ + 1 * _
      rw [ev_put h1.nd, h2, Int.one_mul]
      have : getT (acc.foldl (step1 r.1) acc) r.1 + 1 - getT (acc.foldl (step1 r.1) acc) r.1 = 1 := by omega
      rw [this, Int.one_mul]
    · show mass (putT (acc.foldl (step1 r.1) acc) r.1 _) ≤ _
      have := mass_put (k := r.1) (δ := 1) h1.nd
      have e1 : ((1 : Int).natAbs : Int) = 1 := rfl
      rw [e1] at this
      omega
theorem terms_fold {L : Int} (y : Int) : ∀ {rs : Rules} {acc : Terms} {b : Bool}, (∀ r ∈ rs, 1 ≤ r.1 ∧ r.1 ∣ L) → Good L acc → ev y acc = b2 b →
    Good L (rs.foldl stepR acc) ∧ ev y (rs.foldl stepR acc) = b2 (rs.foldl (longStep y) b) ∧ mass (rs.foldl stepR acc) + 1 ≤ 2 ^ rs.length * (mass acc + 1)
  | [], acc, b, _, g, h => ⟨g, h, by simp⟩
  | r :: rs, acc, b, hr, g, h => by
    have hr1 := hr r List.mem_cons_self
    obtain ⟨h1, h2, h3⟩ := stepR_good y g hr1.1 hr1.2
    have h4 : ev y (stepR acc r) = b2 (longStep y b r) := by
      rw [h2, h]
      unfold longStep ind
      by_cases z : y % r.1 = 0
      · rw [if_pos z, if_pos z]
        omega
      · rw [if_neg z, if_neg z]
        omega
    obtain ⟨q1, q2, q3⟩ := terms_fold (L := L) y (rs := rs) (fun x hx => hr x (List.mem_cons_of_mem _ hx)) h1 h4
    refine ⟨q1, q2, Int.le_trans q3 ?_⟩
    rw [List.length_cons, Int.pow_succ, Int.mul_assoc]
    refine Int.mul_le_mul_of_nonneg_left (by omega) ?_
    exact Int.le_of_lt (Int.pow_pos (by decide))
theorem good_nil (L : Int) : Good L [] := ⟨List.nodup_nil, fun _ z => (nomatch z), fun _ z => (nomatch z)⟩
theorem terms_ev {L : Int} {rs : Rules} (h : ∀ r ∈ rs, 1 ≤ r.1 ∧ r.1 ∣ L) (y : Int) : ev y (longTerms rs) = b2 (isLong rs y) := (terms_fold y h (good_nil L) rfl).2.1
theorem terms_good {L : Int} {rs : Rules} (h : ∀ r ∈ rs, 1 ≤ r.1 ∧ r.1 ∣ L) : Good L (longTerms rs) := (terms_fold 0 h (good_nil L) (b := false) rfl).1
theorem mass_mem : ∀ {ts : Terms} {p : Int × Int}, p ∈ ts → (p.2.natAbs : Int) ≤ mass ts
  | q :: r, p, h => by
    have hn : ∀ ts : Terms, 0 ≤ mass ts := fun ts => by
      induction ts with
      | nil => exact Int.le_refl 0
      | cons a r ih =>
        show (0 : Int) ≤ (a.2.natAbs : Int) + mass r
        omega
    rcases List.mem_cons.mp h with rfl | h
    · show _ ≤ (p.2.natAbs : Int) + mass r
      have := hn r
      omega
    · show _ ≤ (q.2.natAbs : Int) + mass r
      have := mass_mem h
      omega
/-! years' begins -/
def cdiv (y d : Int) : Int := -(-y / d)
theorem cdiv_succ {y d : Int} (hd : 1 ≤ d) : cdiv (y + 1) d = cdiv y d + ind d y := by
  unfold cdiv ind
  have e1 := Int.mul_ediv_add_emod (-y) d
  have r0 := Int.emod_nonneg (-y) (show d ≠ 0 by omega)
  have r1 := Int.emod_lt_of_pos (-y) (show 0 < d by omega)
  have hz : (y % d = 0) ↔ (-y) % d = 0 := by
    rw [← Int.dvd_iff_emod_eq_zero, ← Int.dvd_iff_emod_eq_zero, Int.dvd_neg]
  generalize hq : -y / d = q at *
  generalize hr : (-y) % d = r at *
  by_cases z : r = 0
  · rw [if_pos (hz.mpr z)]
    have : (-(y + 1)) / d = q - 1 := by
      have e : -(y + 1) = (d - 1) + d * (q - 1) := by
        rw [Int.mul_sub, Int.mul_one]
        omega
      rw [e, Int.add_mul_ediv_left _ _ (by omega), Int.ediv_eq_zero_of_lt (by omega) (by omega)]
      omega
    rw [this]
    omega
  · rw [if_neg (fun h => z (hz.mp h))]
    have : (-(y + 1)) / d = q := by
      have e : -(y + 1) = (r - 1) + d * q := by omega
      rw [e, Int.add_mul_ediv_left _ _ (by omega), Int.ediv_eq_zero_of_lt (by omega) (by omega)]
      omega
    rw [this]
    omega
def longs (y : Int) : Terms → Int
  | [] => 0
  | p :: r => p.2 * cdiv y p.1 + longs y r
theorem longs_succ {y : Int} : ∀ {ts : Terms}, PosT ts → longs (y + 1) ts = longs y ts + ev y ts
  | [], _ => rfl
  | p :: r, h => by
    show p.2 * cdiv (y + 1) p.1 + longs (y + 1) r = p.2 * cdiv y p.1 + longs y r + (p.2 * ind p.1 y + ev y r)
    rw [cdiv_succ (h p.1 (by rw [List.map_cons]; exact List.mem_cons_self)), longs_succ fun x hx => h x (by rw [List.map_cons]; exact List.mem_cons_of_mem _ hx), Int.mul_add]
    omega
theorem longs_zero : ∀ ts : Terms, longs 0 ts = 0
  | [] => rfl
  | p :: r => by
    show p.2 * cdiv 0 p.1 + longs 0 r = 0
    rw [longs_zero r]
    simp [cdiv]
/-- the first day of a year -/
def yb (days extra : Int) (rs : Rules) (y : Int) : Int := days * y + extra * longs y (longTerms rs)
theorem yb_succ {L days extra : Int} {rs : Rules} (h : ∀ r ∈ rs, 1 ≤ r.1 ∧ r.1 ∣ L) (y : Int) : yb days extra rs (y + 1) = yb days extra rs y + (days + extra * b2 (isLong rs y)) := by
  unfold yb
  rw [longs_succ (terms_good h).pos, terms_ev h, Int.mul_add, Int.mul_add]
  omega
theorem yb_zero (days extra : Int) (rs : Rules) : yb days extra rs 0 = 0 := by
  unfold yb
  rw [longs_zero]
  simp
end Cal
namespace Pr
open PySem L2 Pu Cal
/-! ### what a datum is -/
def isI : PyData → Bool
  | .int _ => true
  | _ => false
def isF : PyData → Bool
  | .bool _ => true
  | _ => false
def isT : PyData → Bool
  | .tuple _ => true
  | _ => false
def inR : PyData → Int → Int → Bool
  | .int i, lo, hi => decide (lo ≤ i) && decide (i ≤ hi)
  | _, _, _ => false
def lenT : PyData → Nat
  | .tuple ds => ds.length
  | _ => 0
def S_is_whole : FS := fn1 fun d => .bool (isI d)
def S_is_flag : FS := fn1 fun d => .bool (isF d)
def S_is_tuple : FS := fn1 fun d => .bool (isT d)
def S_is_from_to : FS := fun ds k => match ds with
  | [v, .int lo, .int hi] => k (.bool (inR v lo hi))
  | _ => False
def S_is_tuple_of : FS := fun ds k => match ds with
  | [v, .int n] => k (.bool (isT v && decide ((lenT v : Int) = n)))
  | _ => False
def txt (s : String) : PyData := .str (Str.ofString s)
-- is_whole: ['value']
abbrev N_is_whole : List Str := ["value"]
def p_is_whole : PS' := (pRet (pIsTy "int" (pVar 0)))
-- is_from_to: ['value', 'low', 'high']
abbrev N_is_from_to : List Str := ["value", "low", "high"]
def p_is_from_to : PS' := (pRet (pAndV (pCall 1 S_is_whole (pCons (pVar 0) pNil)) (pChain (fun i j => decide (i ≤ j)) (fun i j => decide (i ≤ j)) (pVar 1) (pVar 0) (pVar 2))))
-- is_flag: ['value']
abbrev N_is_flag : List Str := ["value"]
def p_is_flag : PS' := (pRet (pOrV (pIsB true (pVar 0)) (pIsB false (pVar 0))))
-- is_tuple: ['value']
abbrev N_is_tuple : List Str := ["value"]
def p_is_tuple : PS' := (pRet (pIsTy "tuple" (pVar 0)))
-- is_tuple_of: ['value', 'many']
abbrev N_is_tuple_of : List Str := ["value", "many"]
def p_is_tuple_of : PS' := (pRet (pAndV (pCall 1 S_is_tuple (pCons (pVar 0) pNil)) (pEqD false (pFn fLen (pCons (pVar 0) pNil)) (pVar 1))))
abbrev fin (c : PyData → Prop) : PEnds := ⟨fun _ => c .none, fun d _ => c d, fun _ => False, fun _ => False⟩
theorem eqv_int (i j : Int) : PyData.eqv (.int i) (.int j) = decide (i = j) := by
  rw [Bool.eq_iff_iff]
  simp [PyData.eqv]
theorem pure_is_whole (ds : List PyData) (c : PyData → Prop) (hl : ds.length = 1) (h : S_is_whole ds c) : p_is_whole (fin c) (startE N_is_whole ds) := by
  unfold S_is_whole fn1 at h
  split at h
  · rename_i d
    show c (.bool (decide (tyN d = "int")))
    cases d <;> exact h
  · exact h.elim
theorem pure_is_flag (ds : List PyData) (c : PyData → Prop) (hl : ds.length = 1) (h : S_is_flag ds c) : p_is_flag (fin c) (startE N_is_flag ds) := by
  unfold S_is_flag fn1 at h
  split at h
  · rename_i d
    cases d with
    | bool b => cases b <;> exact h
    | _ => exact h
  · exact h.elim
theorem pure_is_tuple (ds : List PyData) (c : PyData → Prop) (hl : ds.length = 1) (h : S_is_tuple ds c) : p_is_tuple (fin c) (startE N_is_tuple ds) := by
  unfold S_is_tuple fn1 at h
  split at h
  · rename_i d
    show c (.bool (decide (tyN d = "tuple")))
    cases d <;> exact h
  · exact h.elim
theorem ifd {A B : Prop} {q : Prop} [Decidable q] (h1 : q → A) (h2 : ¬ q → B) : if decide q = true then A else B := by
  by_cases z : q
  · rw [if_pos (decide_eq_true z)]
    exact h1 z
  · rw [if_neg (by simpa using z)]
    exact h2 z
theorem pure_is_from_to (ds : List PyData) (c : PyData → Prop) (hl : ds.length = 3) (h : S_is_from_to ds c) : p_is_from_to (fin c) (startE N_is_from_to ds) := by
  unfold S_is_from_to at h
  split at h
  · rename_i v lo hi
    refine ⟨rfl, ?_⟩
    cases v with
    | int i =>
      have h : c (.bool (decide (lo ≤ i) && decide (i ≤ hi))) := h
      show (if decide (lo ≤ i) = true then c (.bool (decide (i ≤ hi))) else c (.bool false))
      refine ifd (fun z => ?_) fun z => ?_
      · rw [decide_eq_true z] at h
        exact h
      · rw [decide_eq_false z] at h
        exact h
    | _ => exact h
  · exact h.elim
theorem pure_is_tuple_of (ds : List PyData) (c : PyData → Prop) (hl : ds.length = 2) (h : S_is_tuple_of ds c) : p_is_tuple_of (fin c) (startE N_is_tuple_of ds) := by
  unfold S_is_tuple_of at h
  split at h
  · rename_i v n
    cases v with
    | tuple ds =>
      refine ⟨rfl, _, rfl, rfl, rfl, ?_⟩
      show c (.bool (PyData.eqv (.int ds.length) (.int n)))
      rw [eqv_int]
      exact h
    | _ => exact ⟨rfl, h⟩
  · exact h.elim
theorem tt {b : Bool} {A B : Prop} (h : b = true) (a : A) : if b = true then A else B := by rw [if_pos h]; exact a
theorem ff {b : Bool} {A B : Prop} (h : b = false) (a : B) : if b = true then A else B := by rw [h, if_neg Bool.false_ne_true]; exact a
theorem tf {b : Bool} {A B : Prop} (h1 : b = true → A) (h2 : b = false → B) : if b = true then A else B := by
  cases b with
  | true => exact tt rfl (h1 rfl)
  | false => exact ff rfl (h2 rfl)
theorem len3 {l : List PyData} (h : (l.length : Int) = 3) : ∃ a b c, l = [a, b, c] := by
  match l, h with
  | [a, b, c], _ => exact ⟨a, b, c, rfl⟩
  | [], h => simp at h
  | [_], h => simp at h
  | [_, _], h => simp at h
  | _ :: _ :: _ :: _ :: _, h => simp at h; omega
theorem len2 {l : List PyData} (h : (l.length : Int) = 2) : ∃ a b, l = [a, b] := by
  match l, h with
  | [a, b], _ => exact ⟨a, b, rfl⟩
  | [], h => simp at h
  | [_], h => simp at h
  | _ :: _ :: _ :: _, h => simp at h; omega
theorem drop_at {l : List PyData} {k : Nat} {d : PyData} (hk : l[k]? = some d) : l.drop k = d :: l.drop (k + 1) := by
  have hlt := (List.getElem?_eq_some_iff.mp hk).1
  rw [List.drop_eq_getElem_cons hlt, (List.getElem?_eq_some_iff.mp hk).2]
theorem isI_of {d : PyData} (h : isI d = true) : ∃ i, d = .int i := by
  cases d <;> first | exact ⟨_, rfl⟩ | cases h
theorem isT_of {d : PyData} (h : isT d = true) : ∃ i, d = .tuple i := by
  cases d <;> first | exact ⟨_, rfl⟩ | cases h
theorem oSome {o : Option PyData} {d : PyData} {k : PyData → Prop} (h : o = some d) (q : k d) : asO o k := by
  rw [h]
  exact q
abbrev finB (c : PyData → Prop) : PEnds := ⟨fun ρ => Pu.cellAt ρ 0 = .box ∧ c .none, fun d ρ => Pu.cellAt ρ 0 = .box ∧ c d, fun _ => False, fun _ => False⟩
def S_law_draws : FS := fun ds k => match ds with
  | [.int _, .int m, .int n] => 0 < m ∧ m < 1073741824 ∧ 0 ≤ n ∧ n ≤ 100 ∧ ∀ ns : List Int, ns.length = n.toNat → (∀ x ∈ ns, 0 ≤ x ∧ x < m) → k (.list (ns.map PyData.int))
  | _ => False
def S_law_next : FS := fun ds k => match ds with
  | [.int m] => 0 < m ∧ ∀ v : Int, 0 ≤ v → v < m → k (.int v)
  | _ => False
-- _law_draws: ['cell', 'modulus', 'count', 'number', 'row', 'k', 'mixed']
abbrev N_law_draws : List Str := ["cell", "modulus", "count", "number", "row", "k", "mixed"]
def p_law_draws : PS' := (pSeq (pAsg (pVar 0) (pgN 3))
      (pSeq (pIfS (pTst (pII (fun i j => .bool (decide (i < j))) (pVar 3) (pC (.int 0)))) (pAsg (pII (fun i j => .int (i - j)) (pII (fun i j => .int (i - j)) (pC (.int 0)) (pC (.int 1))) (pVar 3)) (pgN 3)) pNext)
      (pSeq (pAsgO (pLst pNil) 4)
      (pSeq (pIfS (pTst (pII (fun i j => .bool (decide (j ≤ i))) (pVar 3) (pIIc CPow (fun i j => .int (i ^ j.toNat)) (pC (.int 10)) (pC (.int 18))))) (pSeq (pRng (pCons (pVar 2) pNil) (pgN 5) (pSeq (pApp 4 (pIIc (fun _ j => 0 < j) (fun i j => .int (i % j)) (pFn fInt (pCons (pVar 3) pNil)) (pVar 1)))
      (pAsg (pIIc CDiv (fun i j => .int (i / j)) (pVar 3) (pVar 1)) (pgN 3))))
      (pRetO 4)) pNext)
      (pSeq (pRng (pCons (pVar 2) pNil) (pgN 5) (pSeq (pAsg (pIIc (fun _ j => 0 < j) (fun i j => .int (i % j)) (pFn fInt (pCons (pIIc CMul (fun i j => .int (i * j)) (pPlus (pPlus (pVar 3) (pIIc CMul (fun i j => .int (i * j)) (pC (.int 7)) (pVar 5))) (pC (.int 1))) (pC (.int 48271))) pNil)) (pC (.int 2147483647))) (pgN 6))
      (pSeq (pAsg (pIIc (fun _ j => 0 < j) (fun i j => .int (i % j)) (pFn fInt (pCons (pPlus (pIIc CMul (fun i j => .int (i * j)) (pVar 6) (pC (.int 69621))) (pIIc CMul (fun i j => .int (i * j)) (pC (.int 31)) (pVar 5))) pNil)) (pC (.int 2147483629))) (pgN 6))
      (pApp 4 (pIIc (fun _ j => 0 < j) (fun i j => .int (i % j)) (pFn fInt (pCons (pIIc CDiv (fun i j => .int (i / j)) (pVar 6) (pC (.int 7))) pNil)) (pVar 1))))))
      (pRetO 4))))))
theorem pure_law_draws (ds : List PyData) (c : PyData → Prop) (hl : ds.length = 3) (h : S_law_draws ds c) : p_law_draws (fin c) (startE N_law_draws ds) := by
  unfold S_law_draws at h
  split at h
  · rename_i cell m n
    obtain ⟨m0, m1, n0, n1, h⟩ := h
    -- the two loops, from any number
    have loop1 : ∀ number : Int, (pSeq (pRng (pCons (pVar 2) pNil) (pgN 5) (pSeq (pApp 4 (pIIc (fun _ j => 0 < j) (fun i j => .int (i % j)) (pFn fInt (pCons (pVar 3) pNil)) (pVar 1)))
      (pAsg (pIIc CDiv (fun i j => .int (i / j)) (pVar 3) (pVar 1)) (pgN 3)))) (pRetO 4)) { fin c with nx := fun _ => c .none } [.d (.int cell), .d (.int m), .d (.int n), .d (.int number), .own [], .no, .no] := fun number => by
      refine ⟨0, n, .inl ⟨rfl, rfl⟩, ⟨by omega, by omega, by omega, by omega⟩, fun k ρ => ∃ (num : Int) (o : Cell) (ns : List Int), ρ = [.d (.int cell), .d (.int m), .d (.int n), .d (.int num), .own (ns.map PyData.int), o, .no] ∧ ns.length = k ∧ ∀ x ∈ ns, 0 ≤ x ∧ x < m, ⟨number, _, [], rfl, rfl, fun _ z => nomatch z⟩, ?_, ?_⟩
      · rintro i ρ hi ⟨num, o, ns, rfl, hn, hb⟩
        refine ⟨m0, ?_, ⟨m0, m1⟩, num / m, .d (.int (0 + (i : Int))), ns ++ [num % m], ?_, by simp [hn], ?_⟩
        · rw [List.length_map, hn]
          omega
        · rw [List.map_append]
          rfl
        · intro x hx
          rcases List.mem_append.mp hx with hx | hx
          · exact hb x hx
          · rw [List.mem_singleton.mp hx]
            exact ⟨Int.emod_nonneg _ (by omega), Int.emod_lt_of_pos _ m0⟩
      · rintro ρ ⟨num, o, ns, rfl, hn, hb⟩
        exact h ns (by rw [hn, Int.sub_zero]) hb
    have loop2 : ∀ number : Int, (pSeq (pRng (pCons (pVar 2) pNil) (pgN 5) (pSeq (pAsg (pIIc (fun _ j => 0 < j) (fun i j => .int (i % j)) (pFn fInt (pCons (pIIc CMul (fun i j => .int (i * j)) (pPlus (pPlus (pVar 3) (pIIc CMul (fun i j => .int (i * j)) (pC (.int 7)) (pVar 5))) (pC (.int 1))) (pC (.int 48271))) pNil)) (pC (.int 2147483647))) (pgN 6))
      (pSeq (pAsg (pIIc (fun _ j => 0 < j) (fun i j => .int (i % j)) (pFn fInt (pCons (pPlus (pIIc CMul (fun i j => .int (i * j)) (pVar 6) (pC (.int 69621))) (pIIc CMul (fun i j => .int (i * j)) (pC (.int 31)) (pVar 5))) pNil)) (pC (.int 2147483629))) (pgN 6))
      (pApp 4 (pIIc (fun _ j => 0 < j) (fun i j => .int (i % j)) (pFn fInt (pCons (pIIc CDiv (fun i j => .int (i / j)) (pVar 6) (pC (.int 7))) pNil)) (pVar 1)))))) (pRetO 4)) (fin c) [.d (.int cell), .d (.int m), .d (.int n), .d (.int number), .own [], .no, .no] := fun number => by
      refine ⟨0, n, .inl ⟨rfl, rfl⟩, ⟨by omega, by omega, by omega, by omega⟩, fun k ρ => ∃ (o1 o2 : Cell) (ns : List Int), ρ = [.d (.int cell), .d (.int m), .d (.int n), .d (.int number), .own (ns.map PyData.int), o1, o2] ∧ ns.length = k ∧ ∀ x ∈ ns, 0 ≤ x ∧ x < m, ⟨_, _, [], rfl, rfl, fun _ z => nomatch z⟩, ?_, ?_⟩
      · rintro i ρ hi ⟨o1, o2, ns, rfl, hn, hb⟩
        refine ⟨.inl (by decide), .inr (by decide), (by decide : (0 : Int) < 2147483647), .inr (by decide), .inl (by decide), (by decide : (0 : Int) < 2147483629), ⟨by decide, by decide⟩, m0, ?len, ?a, ?b, ns ++ [?x], ?e, by simp [hn], ?m⟩
        case len =>
          rw [List.length_map, hn]
          omega
        case e =>
          rw [List.map_append]
          exact rfl
        case m =>
          intro x hx
          rcases List.mem_append.mp hx with hx | hx
          · exact hb x hx
          · rw [List.mem_singleton.mp hx]
            exact ⟨Int.emod_nonneg _ (by omega), Int.emod_lt_of_pos _ m0⟩
      · rintro ρ ⟨o1, o2, ns, rfl, hn, hb⟩
        exact h ns (by rw [hn, Int.sub_zero]) hb
    have rest : ∀ number : Int, (pSeq (pAsgO (pLst pNil) 4)
      (pSeq (pIfS (pTst (pII (fun i j => .bool (decide (j ≤ i))) (pVar 3) (pIIc CPow (fun i j => .int (i ^ j.toNat)) (pC (.int 10)) (pC (.int 18))))) (pSeq (pRng (pCons (pVar 2) pNil) (pgN 5) (pSeq (pApp 4 (pIIc (fun _ j => 0 < j) (fun i j => .int (i % j)) (pFn fInt (pCons (pVar 3) pNil)) (pVar 1)))
      (pAsg (pIIc CDiv (fun i j => .int (i / j)) (pVar 3) (pVar 1)) (pgN 3))))
      (pRetO 4)) pNext)
      (pSeq (pRng (pCons (pVar 2) pNil) (pgN 5) (pSeq (pAsg (pIIc (fun _ j => 0 < j) (fun i j => .int (i % j)) (pFn fInt (pCons (pIIc CMul (fun i j => .int (i * j)) (pPlus (pPlus (pVar 3) (pIIc CMul (fun i j => .int (i * j)) (pC (.int 7)) (pVar 5))) (pC (.int 1))) (pC (.int 48271))) pNil)) (pC (.int 2147483647))) (pgN 6))
      (pSeq (pAsg (pIIc (fun _ j => 0 < j) (fun i j => .int (i % j)) (pFn fInt (pCons (pPlus (pIIc CMul (fun i j => .int (i * j)) (pVar 6) (pC (.int 69621))) (pIIc CMul (fun i j => .int (i * j)) (pC (.int 31)) (pVar 5))) pNil)) (pC (.int 2147483629))) (pgN 6))
      (pApp 4 (pIIc (fun _ j => 0 < j) (fun i j => .int (i % j)) (pFn fInt (pCons (pIIc CDiv (fun i j => .int (i / j)) (pVar 6) (pC (.int 7))) pNil)) (pVar 1))))))
      (pRetO 4)))) (fin c) [.d (.int cell), .d (.int m), .d (.int n), .d (.int number), .no, .no, .no] := fun number => by
      refine ⟨by decide, Nat.zero_le _, ⟨by decide, by decide, by decide⟩, ?_⟩
      refine tf (fun _ => ?_) (fun _ => ?_)
      · exact loop1 number
      · exact loop2 number
    show (if decide (cell < 0) = true then _ else _)
    refine ifd (fun _ => ?_) (fun _ => ?_)
    · exact rest _
    · exact rest _
  · exact h.elim
theorem atI_in {l : List PyData} {v : Int} (h0 : 0 ≤ v) (h1 : v < (l.length : Nat)) : ∃ d, atI l v = some d ∧ d ∈ l := by
  obtain ⟨n, rfl⟩ : ∃ n : Nat, v = n := ⟨v.toNat, by omega⟩
  have hv : n < l.length := by omega
  exact ⟨l[n], atI_nat (List.getElem?_eq_getElem hv), List.getElem_mem hv⟩
theorem cutP_len {xs : List PyData} {lo hi : Option Int} : (cutP xs lo hi).length ≤ xs.length := by
  unfold cutP
  rw [List.length_take, List.length_drop]
  omega
theorem same_txt (s : String) : PyData.eqv (txt s) (txt s) = true := by simp [txt, PyData.eqv]
/-- a word that is as it should be -/
theorem cmp_same {s : String} {d : PyData} {A B : Prop} (hs : shq (txt s) = true) (e : d = txt s) (h : B) : shq d = true ∧ shq (txt s) = true ∧ (if flipB true (PyData.eqv d (txt s)) = true then A else B) := by
  subst e
  refine ⟨hs, hs, ?_⟩
  rw [same_txt]
  exact ff rfl h
end Pr
namespace Pr
open PySem L2 Pu Cal
def rule2 : List PyData → Bool
  | [a, b] => inR a 1 1000 && isF b
  | _ => false
def ruleOk : PyData → Bool
  | .tuple l => rule2 l
  | _ => false
def rulesOk : PyData → Bool
  | .tuple l => decide (l.length ≤ 6) && l.all ruleOk
  | _ => false
def monthsOk : PyData → Bool
  | .tuple l => decide (1 ≤ l.length) && decide (l.length ≤ 24) && l.all (fun d => inR d 1 60)
  | _ => false
def S_is_rule : FS := fn1 fun d => .bool (ruleOk d)
def S_are_rules : FS := fn1 fun d => .bool (rulesOk d)
def S_are_months : FS := fn1 fun d => .bool (monthsOk d)
def k_MOST_MONTHS : PyData := .int 24
def k_LONGEST_MONTH : PyData := .int 60
def k_MOST_EXTRA : PyData := .int 30
def k_MOST_RULES : PyData := .int 6
def k_GREATEST_DIVISOR : PyData := .int 1000
def k_LONGEST_WEEK : PyData := .int 14
def k_MOST_MINUTES : PyData := .int 2000
def k_MOST_GREAT_CYCLE : PyData := .int 400000
/-- rules and terms as data -/
def ruleD (r : Int × Bool) : PyData := .tuple [.int r.1, .bool r.2]
def rulesD (rs : Rules) : PyData := .tuple (rs.map ruleD)
def termD (p : Int × Int) : PyData := .tuple [.int p.1, .int p.2]
def termsD (ts : Terms) : PyData := .list (ts.map termD)
def cyc (rs : Rules) : Int := rs.foldl (fun y r => lcmI y r.1) 1
/-- rules as they may be -/
def RulesIn (rs : Rules) : Prop := rs.length ≤ 6 ∧ ∀ r ∈ rs, 1 ≤ r.1 ∧ r.1 ≤ 1000
def S_cycle_years : FS := fun ds k => match ds with
  | [.tuple [_, _, _, d, _, _, _]] => ∃ rs, d = rulesD rs ∧ RulesIn rs ∧ k (.int (cyc rs))
  | _ => False
def S_long_terms : FS := fun ds k => match ds with
  | [d] => ∃ rs, d = rulesD rs ∧ RulesIn rs ∧ k (termsD (longTerms rs))
  | _ => False
def S_shape_of : FS := fun ds k => match ds with
  | [.tuple [a, _, c, d, _, _, _]] => ∃ (ms : List Int) (rs : Rules), a = .tuple (ms.map PyData.int) ∧ d = rulesD rs ∧ RulesIn rs ∧ k (.tuple [.int ms.sum, c, termsD (longTerms rs)])
  | _ => False
def S_year_begin : FS := fun ds k => match ds with
  | [.tuple [.int days, .int extra, d], .int y] => ∃ ts, d = termsD ts ∧ ts.length ≤ 1000 ∧ (∀ p ∈ ts, 1 ≤ p.1 ∧ p.1 < 1073741824 ∧ p.2.natAbs < 2 ^ 63) ∧ days.natAbs < 2 ^ 63 ∧ extra.natAbs < 2 ^ 63 ∧ k (.int (days * y + extra * longs y ts))
  | _ => False
-- _is_rule: ['rule']
abbrev N_is_rule : List Str := ["rule"]
def p_is_rule : PS' := (pRet (pAndV (pCall 2 S_is_tuple_of (pCons (pVar 0) (pCons (pC (.int 2)) pNil))) (pAndV (pCall 3 S_is_from_to (pCons (pIx (pVar 0) (pC (.int 0))) (pCons (pC (.int 1)) (pCons (pC k_GREATEST_DIVISOR) pNil)))) (pCall 1 S_is_flag (pCons (pIx (pVar 0) (pC (.int 1))) pNil)))))
-- _are_rules: ['rules', 'rule']
abbrev N_are_rules : List Str := ["rules", "rule"]
def p_are_rules : PS' := (pSeq (pIfS (pOr (pNot (pTst (pCall 1 S_is_tuple (pCons (pVar 0) pNil)))) (pTst (pII (fun i j => .bool (decide (j < i))) (pFn fLen (pCons (pVar 0) pNil)) (pC k_MOST_RULES)))) (pRet (pC (.bool false))) pNext)
      (pRet (pFn fAll (pCons (pNew (pLcS [1] [1] (pTO (pVar 0)) (pgN 1) pYes (pCall 1 S_is_rule (pCons (pVar 1) pNil)))) pNil))))
-- _are_months: ['months', 'days']
abbrev N_are_months : List Str := ["months", "days"]
def p_are_months : PS' := (pSeq (pIfS (pOr (pNot (pTst (pCall 1 S_is_tuple (pCons (pVar 0) pNil)))) (pNot (pTst (pChain (fun i j => decide (i ≤ j)) (fun i j => decide (i ≤ j)) (pC (.int 1)) (pFn fLen (pCons (pVar 0) pNil)) (pC k_MOST_MONTHS))))) (pRet (pC (.bool false))) pNext)
      (pRet (pFn fAll (pCons (pNew (pLcS [1] [1] (pTO (pVar 0)) (pgN 1) pYes (pCall 3 S_is_from_to (pCons (pVar 1) (pCons (pC (.int 1)) (pCons (pC k_LONGEST_MONTH) pNil)))))) pNil))))
-- _cycle_years: ['calendar', 'years', 'divisor', '_']
abbrev N_cycle_years : List Str := ["calendar", "years", "divisor", "_"]
def p_cycle_years : PS' := (pSeq (pAsg (pC (.int 1)) (pgN 1))
      (pSeq (pFor (pTO (pIx (pVar 0) (pC (.int 3)))) (pgT [2, 3]) (pAsg (pFn fLcm (pCons (pVar 1) (pCons (pVar 2) pNil))) (pgN 1)))
      (pRet (pVar 1))))
-- _long_terms: ['rules', 'terms', 'divisor', 'yes', 'said', 'other', 'times', 'common']
abbrev N_long_terms : List Str := ["rules", "terms", "divisor", "yes", "said", "other", "times", "common"]
def p_long_terms : PS' := (pSeq (pAsgD 1)
      (pSeq (pFor (pTO (pVar 0)) (pgT [2, 3]) (pSeq (pAsg (pNew (pItemsD 1)) (pgN 4))
      (pSeq (pFor (pLO (pVar 4)) (pgT [5, 6]) (pSeq (pAsg (pFn fLcm (pCons (pVar 5) (pCons (pVar 2) pNil))) (pgN 7))
      (pPutD 1 (pVar 7) (pII (fun i j => .int (i - j)) (pGetD 1 (pVar 7) (pC (.int 0))) (pVar 6)))))
      (pIfS (pTru (pVar 3)) (pPutD 1 (pVar 2) (pPlus (pGetD 1 (pVar 2) (pC (.int 0))) (pC (.int 1)))) pNext))))
      (pRet (pNew (pItemsD 1)))))
-- _shape_of: ['calendar']
abbrev N_shape_of : List Str := ["calendar"]
def p_shape_of : PS' := (pRet (pTup (pCons (pFn fSum (pCons (pIx (pVar 0) (pC (.int 0))) pNil)) (pCons (pIx (pVar 0) (pC (.int 2))) (pCons (pCall 1 S_long_terms (pCons (pIx (pVar 0) (pC (.int 3))) pNil)) pNil)))))
-- _year_begin: ['shape', 'year', 'days', 'extra', 'terms', 'longs', 'divisor', 'times']
abbrev N_year_begin : List Str := ["shape", "year", "days", "extra", "terms", "longs", "divisor", "times"]
def p_year_begin : PS' := (pSeq (pAsg (pVar 0) (pgT [2, 3, 4]))
      (pSeq (pAsg (pFn fSum (pCons (pNew (pLcS [6, 7] [6, 7] (pLO (pVar 4)) (pgT [6, 7]) pYes (pIIc CMul (fun i j => .int (i * j)) (pVar 7) (pI (fun i => .int (-i)) (pIIc CDiv (fun i j => .int (i / j)) (pI (fun i => .int (-i)) (pVar 1)) (pVar 6)))))) pNil)) (pgN 5))
      (pRet (pPlus (pIIc CMul (fun i j => .int (i * j)) (pVar 2) (pVar 1)) (pIIc CMul (fun i j => .int (i * j)) (pVar 3) (pVar 5))))))
theorem pure_is_rule (ds : List PyData) (c : PyData → Prop) (hl : ds.length = 1) (h : S_is_rule ds c) : p_is_rule (fin c) (startE N_is_rule ds) := by
  unfold S_is_rule fn1 at h
  split at h
  · rename_i d
    have h : c (.bool (ruleOk d)) := h
    refine ⟨rfl, ?_⟩
    show (if (isT d && decide ((lenT d : Int) = 2)) = true then _ else c (.bool false))
    refine tf (fun z => ?_) (fun z => ?_)
    · rw [Bool.and_eq_true] at z
      obtain ⟨l, rfl⟩ := isT_of z.1
      obtain ⟨a, b, rfl⟩ := len2 (of_decide_eq_true z.2)
      refine ⟨rfl, ?_⟩
      show (if inR a 1 1000 = true then _ else c (.bool false))
      have h : c (.bool (inR a 1 1000 && isF b)) := h
      refine tf (fun z => ?_) (fun z => ?_)
      · rw [z] at h
        exact ⟨rfl, h⟩
      · rw [z] at h
        exact h
    · have e : ruleOk d = false := by
        cases d with
        | tuple l =>
          match l, z with
          | [a, b], z => simp [isT, lenT] at z
          | [], _ => rfl
          | [_], _ => rfl
          | _ :: _ :: _ :: _, _ => rfl
        | _ => rfl
      rw [e] at h
      exact h
  · exact h.elim
theorem all_map {α : Type} (f : α → Bool) : ∀ l : List α, (l.map f).all id = l.all f
  | [] => rfl
  | a :: l => by
    rw [List.map_cons, List.all_cons, List.all_cons, all_map f l]
    rfl
theorem take_snoc {α : Type} {l : List α} {i : Nat} {d : α} (h : l[i]? = some d) : l.take (i + 1) = l.take i ++ [d] := by
  rw [List.take_add_one, h]
  rfl
theorem pure_are_rules (ds : List PyData) (c : PyData → Prop) (hl : ds.length = 1) (h : S_are_rules ds c) : p_are_rules (fin c) (startE N_are_rules ds) := by
  unfold S_are_rules fn1 at h
  split at h
  · rename_i d
    have h : c (.bool (rulesOk d)) := h
    refine ⟨rfl, ?_⟩
    show (if (!(isT d)) = true then _ else _)
    refine tf (fun z => ?_) (fun z => ?_)
    · have e : rulesOk d = false := by cases d <;> first | rfl | simp [isT] at z
      rw [e] at h
      exact h
    · obtain ⟨l, rfl⟩ := isT_of (by simpa using z)
      have h : c (.bool (decide (l.length ≤ 6) && l.all ruleOk)) := h
      refine ⟨_, rfl, ?_⟩
      show (if decide ((6 : Int) < (l.length : Nat)) = true then c (.bool false) else _)
      refine ifd (fun z => ?_) (fun z => ?_)
      · rw [decide_eq_false (show ¬ l.length ≤ 6 by omega)] at h
        exact h
      · rw [decide_eq_true (show l.length ≤ 6 by omega), Bool.true_and] at h
        refine ⟨by simp [Pu.cellAt, startE], rfl, fun i acc => acc = (l.take i).map (fun d => .bool (ruleOk d)), rfl, ?_, ?_⟩
        · rintro i d acc hd rfl
          refine ⟨rfl, rfl, rfl, ?_, ?_⟩
          · rw [List.length_map, List.length_take]
            have := (List.getElem?_eq_some_iff.mp hd).1
            omega
          · show _ = _
            rw [take_snoc hd, List.map_append]
            rfl
        · rintro acc rfl
          refine ⟨l.map ruleOk, ?_, ?_⟩
          · rw [List.take_length, show (l.map fun d => PyData.bool (ruleOk d)) = (l.map ruleOk).map PyData.bool by rw [List.map_map]; rfl]
            exact boolsOf_map _
          · rw [all_map]
            exact h
  · exact h.elim
theorem pure_are_months (ds : List PyData) (c : PyData → Prop) (hl : ds.length = 1) (h : S_are_months ds c) : p_are_months (fin c) (startE N_are_months ds) := by
  unfold S_are_months fn1 at h
  split at h
  · rename_i d
    have h : c (.bool (monthsOk d)) := h
    refine ⟨rfl, ?_⟩
    show (if (!(isT d)) = true then _ else _)
    refine tf (fun z => ?_) (fun z => ?_)
    · have e : monthsOk d = false := by cases d <;> first | rfl | simp [isT] at z
      rw [e] at h
      exact h
    · obtain ⟨l, rfl⟩ := isT_of (by simpa using z)
      have h : c (.bool (decide (1 ≤ l.length) && decide (l.length ≤ 24) && l.all (fun d => inR d 1 60))) := h
      refine ⟨_, rfl, ?_⟩
      show (if decide ((1 : Int) ≤ (l.length : Nat)) = true then _ else _)
      refine ifd (fun z => ?_) (fun z => ?_)
      · rw [decide_eq_true (show 1 ≤ l.length by omega), Bool.true_and] at h
        show (if (!(decide ((l.length : Int) ≤ 24))) = true then c (.bool false) else _)
        refine tf (fun z => ?_) (fun z => ?_)
        · have z : decide ((l.length : Int) ≤ 24) = false := by simpa using z
          rw [decide_eq_false (show ¬ l.length ≤ 24 by have := of_decide_eq_false z; omega)] at h
          exact h
        · have z : decide ((l.length : Int) ≤ 24) = true := by simpa using z
          have z := of_decide_eq_true z
          rw [decide_eq_true (show l.length ≤ 24 by omega), Bool.true_and] at h
          refine ⟨by simp [Pu.cellAt, startE], rfl, fun i acc => acc = (l.take i).map (fun d => .bool (inR d 1 60)), rfl, ?_, ?_⟩
          · rintro i d acc hd rfl
            refine ⟨rfl, rfl, rfl, ?_, ?_⟩
            · rw [List.length_map, List.length_take]
              have := (List.getElem?_eq_some_iff.mp hd).1
              omega
            · show _ = _
              rw [take_snoc hd, List.map_append]
              rfl
          · rintro acc rfl
            refine ⟨l.map fun d => inR d 1 60, ?_, ?_⟩
            · rw [List.take_length, show (l.map fun d => PyData.bool (inR d 1 60)) = (l.map fun d => inR d 1 60).map PyData.bool by rw [List.map_map]; rfl]
              exact boolsOf_map _
            · rw [all_map]
              exact h
      · rw [decide_eq_false (show ¬ 1 ≤ l.length by omega)] at h
        exact h
  · exact h.elim
end Pr
namespace Pr
open PySem L2 Pu Cal
def cycF (y : Int) (rs : Rules) : Int := rs.foldl (fun y r => lcmI y r.1) y
theorem lcm_le {a b : Int} (ha : 1 ≤ a) (hb : 1 ≤ b) : lcmI a b ≤ a * b := by
  unfold lcmI
  have h1 : Nat.lcm a.natAbs b.natAbs ≤ a.natAbs * b.natAbs := Nat.div_le_self _ _
  have h2 : ((a.natAbs * b.natAbs : Nat) : Int) = a * b := by
    rw [Int.natCast_mul, Int.natAbs_of_nonneg (by omega), Int.natAbs_of_nonneg (by omega)]
  rw [← h2]
  exact Int.ofNat_le.mpr h1
theorem cyc_bound : ∀ {rs : Rules} {y : Int} {B : Int}, 1 ≤ y → y ≤ B → (∀ r ∈ rs, 1 ≤ r.1 ∧ r.1 ≤ 1000) → 1 ≤ cycF y rs ∧ cycF y rs ≤ B * 1000 ^ rs.length
  | [], y, B, h0, h1, _ => ⟨h0, by simpa [cycF] using h1⟩
  | r :: rs, y, B, h0, h1, hr => by
    have hr1 := hr r List.mem_cons_self
    have a1 := lcm_le h0 hr1.1
    have a2 := lcm_pos h0 hr1.1
    have a3 : y * r.1 ≤ B * 1000 := Int.mul_le_mul h1 hr1.2 (by omega) (by omega)
    obtain ⟨q1, q2⟩ := cyc_bound (rs := rs) (y := lcmI y r.1) (B := B * 1000) a2 (by omega) (fun x hx => hr x (List.mem_cons_of_mem _ hx))
    refine ⟨q1, ?_⟩
    show cycF (lcmI y r.1) rs ≤ _
    rw [List.length_cons, Int.pow_succ, Int.mul_comm (1000 ^ rs.length) 1000, ← Int.mul_assoc]
    exact q2
theorem cyc_18 {rs : Rules} (h : RulesIn rs) : 1 ≤ cyc rs ∧ cyc rs ≤ 1000000000000000000 := by
  obtain ⟨h1, h2⟩ := cyc_bound (rs := rs) (y := 1) (B := 1) (by decide) (by decide) h.2
  refine ⟨h1, Int.le_trans h2 ?_⟩
  have : ∀ n : Nat, n ≤ 6 → (1 : Int) * 1000 ^ n ≤ 1000000000000000000 := by decide
  exact this _ h.1
theorem rules_take {rs : Rules} (h : RulesIn rs) (i : Nat) : RulesIn (rs.take i) := ⟨by rw [List.length_take]; have := h.1; omega, fun r hr => h.2 r (List.mem_of_mem_take hr)⟩
theorem dvd_lcm_l {a b : Int} : a ∣ lcmI a b := Int.natAbs_dvd_natAbs.mp (by unfold lcmI; rw [Int.natAbs_natCast]; exact Nat.dvd_lcm_left _ _)
theorem dvd_lcm_r {a b : Int} : b ∣ lcmI a b := Int.natAbs_dvd_natAbs.mp (by unfold lcmI; rw [Int.natAbs_natCast]; exact Nat.dvd_lcm_right _ _)
theorem cyc_dvd0 : ∀ {rs : Rules} {y : Int}, y ∣ cycF y rs
  | [], y => Int.dvd_refl y
  | r :: rs, y => Int.dvd_trans dvd_lcm_l (cyc_dvd0 (rs := rs))
theorem cyc_dvd : ∀ {rs : Rules} {y : Int} {r : Int × Bool}, r ∈ rs → r.1 ∣ cycF y rs
  | q :: rs, y, r, h => by
    rcases List.mem_cons.mp h with rfl | h
    · exact Int.dvd_trans dvd_lcm_r (cyc_dvd0 (rs := rs))
    · exact cyc_dvd (rs := rs) h
theorem rule_at {rs : Rules} {i : Nat} {d : PyData} (h : (rs.map ruleD)[i]? = some d) : ∃ r, rs[i]? = some r ∧ d = ruleD r := by
  rw [List.getElem?_map] at h
  cases e : rs[i]? with
  | none => rw [e] at h; cases h
  | some r =>
    rw [e] at h
    exact ⟨r, rfl, (Option.some.inj h).symm⟩
theorem term_at {ts : Terms} {i : Nat} {d : PyData} (h : (ts.map termD)[i]? = some d) : ∃ p, ts[i]? = some p ∧ d = termD p := by
  rw [List.getElem?_map] at h
  cases e : ts[i]? with
  | none => rw [e] at h; cases h
  | some r =>
    rw [e] at h
    exact ⟨r, rfl, (Option.some.inj h).symm⟩
theorem pure_cycle_years (ds : List PyData) (c : PyData → Prop) (hl : ds.length = 1) (h : S_cycle_years ds c) : p_cycle_years (fin c) (startE N_cycle_years ds) := by
  unfold S_cycle_years at h
  split at h
  · rename_i a b e d w f m
    obtain ⟨rs, rfl, hr, h⟩ := h
    refine ⟨fun i ρ => ∃ o1 o2 : Cell, ρ = [.d (.tuple [a, b, e, rulesD rs, w, f, m]), .d (.int (cyc (rs.take i))), o1, o2], ⟨_, _, rfl⟩, ?_, ?_⟩
    · rintro i d ρ hd ⟨o1, o2, rfl⟩
      obtain ⟨r, hri, rfl⟩ := rule_at hd
      have b1 := cyc_18 (rules_take hr i)
      have b2 := hr.2 r (List.mem_of_getElem? hri)
      refine ⟨rfl, by omega, by omega, .d (.int r.1), .d (.bool r.2), ?_⟩
      rw [take_snoc hri]
      show _ = [Cell.d (.tuple [a, b, e, rulesD rs, w, f, m]), Cell.d (.int ((rs.take i ++ [r]).foldl (fun y r => lcmI y r.1) 1)), _, _]
      rw [List.foldl_append]
      rfl
    · rintro ρ ⟨o1, o2, rfl⟩
      show c (.int (cyc (rs.take (rs.map ruleD).length)))
      rw [List.length_map, List.take_length]
      exact h
  · exact h.elim
/-! the terms as a dict -/
def kvsD (ts : Terms) : List (Int × PyData) := ts.map fun p => (p.1, .int p.2)
theorem kvsD_any {n : Int} : ∀ ts : Terms, ((kvsD ts).any fun kv => decide (kv.1 = n)) = ts.any fun p => decide (p.1 = n)
  | [] => rfl
  | p :: r => by
    show (decide (p.1 = n) || (kvsD r).any _) = (decide (p.1 = n) || r.any _)
    rw [kvsD_any r]
theorem getA_kvs {n : Int} : ∀ ts : Terms, (getA (kvsD ts) n).getD (.int 0) = .int (getT ts n)
  | [] => rfl
  | p :: r => by
    have ih := getA_kvs (n := n) r
    by_cases e : p.1 = n
    · subst e
      rw [get_pos]
      unfold getA kvsD
      rw [List.map_cons, List.find?_cons_of_pos (by simp)]
      rfl
    · rw [get_neg e, ← ih]
      unfold getA kvsD
      rw [List.map_cons, List.find?_cons_of_neg (by simpa using e)]
theorem putA_kvs {n v : Int} (ts : Terms) : putA (kvsD ts) n (.int v) = kvsD (putT ts n v) := by
  unfold putA putT
  rw [kvsD_any]
  by_cases e : (ts.any fun p => decide (p.1 = n)) = true
  · rw [if_pos e, if_pos e]
    unfold kvsD
    rw [List.map_map, List.map_map]
    refine List.map_congr_left fun p _ => ?_
    show (if p.1 = n then (p.1, PyData.int v) else (p.1, PyData.int p.2)) = _
    show _ = ((if p.1 = n then (p.1, v) else p).1, PyData.int (if p.1 = n then (p.1, v) else p).2)
    split <;> rfl
  · rw [if_neg e, if_neg e]
    unfold kvsD
    rw [List.map_append]
    rfl
theorem put_len {ts : Terms} {k v : Int} : (putT ts k v).length ≤ ts.length + 1 := by
  unfold putT
  split
  · rw [List.length_map]; omega
  · rw [List.length_append]; exact Nat.le_refl _
theorem step1_len {n : Int} : ∀ {ps acc : Terms}, (ps.foldl (step1 n) acc).length ≤ acc.length + ps.length
  | [], acc => Nat.le_refl _
  | p :: ps, acc => by
    have h := step1_len (n := n) (ps := ps) (acc := step1 n acc p)
    have h2 : (step1 n acc p).length ≤ acc.length + 1 := put_len
    show (ps.foldl (step1 n) (step1 n acc p)).length ≤ acc.length + (ps.length + 1)
    omega
theorem stepR_len {acc : Terms} {r : Int × Bool} : (stepR acc r).length ≤ 2 * acc.length + 1 := by
  have h := step1_len (n := r.1) (ps := acc) (acc := acc)
  unfold stepR
  cases r.2 with
  | false =>
    show (acc.foldl (step1 r.1) acc).length ≤ _
    omega
  | true =>
    show (putT (acc.foldl (step1 r.1) acc) r.1 _).length ≤ _
    have := put_len (ts := acc.foldl (step1 r.1) acc) (k := r.1) (v := getT (acc.foldl (step1 r.1) acc) r.1 + 1)
    omega
theorem terms_len : ∀ {rs : Rules} {acc : Terms}, (rs.foldl stepR acc).length + 1 ≤ 2 ^ rs.length * (acc.length + 1)
  | [], acc => by simp
  | r :: rs, acc => by
    have h := terms_len (rs := rs) (acc := stepR acc r)
    have h2 := stepR_len (acc := acc) (r := r)
    refine Nat.le_trans h ?_
    rw [List.length_cons, Nat.pow_succ, Nat.mul_assoc]
    exact Nat.mul_le_mul_left _ (by omega)
theorem terms_64 {rs : Rules} (h : rs.length ≤ 6) : (longTerms rs).length ≤ 63 := by
  have q := terms_len (rs := rs) (acc := [])
  have : ∀ n : Nat, n ≤ 6 → 2 ^ n * (([] : Terms).length + 1) ≤ 64 := by decide
  have := this _ h
  unfold longTerms
  omega
theorem pure_long_terms (ds : List PyData) (c : PyData → Prop) (hl : ds.length = 1) (h : S_long_terms ds c) : p_long_terms (fin c) (startE N_long_terms ds) := by
  unfold S_long_terms at h
  split at h
  · obtain ⟨rs, rfl, hr, h⟩ := h
    refine ⟨by decide, fun i ρ => ∃ o2 o3 o4 o5 o6 o7 : Cell, ρ = [.d (rulesD rs), .dct (kvsD (longTerms (rs.take i))), o2, o3, o4, o5, o6, o7], ⟨_, _, _, _, _, _, rfl⟩, ?_, ?_⟩
    · rintro i d ρ hd ⟨o2, o3, o4, o5, o6, o7, rfl⟩
      obtain ⟨r, hri, rfl⟩ := rule_at hd
      have hr1 := hr.2 r (List.mem_of_getElem? hri)
      have ht := rules_take hr i
      have l1 := terms_64 ht.1
      obtain ⟨acc, ea⟩ : ∃ acc, acc = longTerms (rs.take i) := ⟨_, rfl⟩
      rw [← ea] at l1
      have L := cyc_18 hr
      have gd : Good (cyc rs) acc := by
        rw [ea]
        exact terms_good fun x hx => ⟨(ht.2 x hx).1, cyc_dvd (List.mem_of_mem_take hx)⟩
      have key : ∀ p ∈ acc, p.1.natAbs < 2 ^ 64 := fun p hp => by
        have m : p.1 ∈ acc.map (·.1) := List.mem_map.mpr ⟨p, hp, rfl⟩
        have a1 := gd.pos _ m
        have a2 := Int.le_of_dvd (by omega) (gd.dvd _ m)
        omega
      have en : longTerms (rs.take (i + 1)) = stepR acc r := by
        rw [take_snoc hri, ea]
        unfold longTerms
        rw [List.foldl_append]
        rfl
      rw [← ea]
      refine ⟨rfl, by unfold kvsD; rw [List.length_map]; omega, ?_⟩
      have es : (kvsD acc).map (fun kv => PyData.tuple [.int kv.1, kv.2]) = acc.map termD := by
        unfold kvsD
        rw [List.map_map]
        rfl
      refine ⟨fun j ρ => ∃ o5 o6 o7 : Cell, ρ = [.d (rulesD rs), .dct (kvsD ((acc.take j).foldl (step1 r.1) acc)), .d (.int r.1), .d (.bool r.2), .d (.list (acc.map termD)), o5, o6, o7], ?_, ?_, ?_⟩
      · refine ⟨o5, o6, o7, ?_⟩
        show [Cell.d (rulesD rs), .dct (kvsD acc), .d (.int r.1), .d (.bool r.2), .d (.list ((kvsD acc).map fun kv => PyData.tuple [.int kv.1, kv.2])), o5, o6, o7] = _
        rw [es]
        rfl
      · rintro j d ρ hd ⟨o5, o6, o7, rfl⟩
        have hd : ((kvsD acc).map fun kv => PyData.tuple [.int kv.1, kv.2])[j]? = some d := hd
        rw [es] at hd
        obtain ⟨p, hp, rfl⟩ := term_at hd
        have hpm := List.mem_of_getElem? hp
        refine ⟨rfl, key p hpm, by omega, ?_⟩
        obtain ⟨cur, ec⟩ : ∃ cur, cur = (acc.take j).foldl (step1 r.1) acc := ⟨_, rfl⟩
        rw [← ec]
        show asI ((getA (kvsD cur) (lcmI p.1 r.1)).getD (.int 0)) _
        rw [getA_kvs]
        refine ⟨?_, .d (.int p.1), .d (.int p.2), .d (.int (lcmI p.1 r.1)), ?_⟩
        · have := step1_len (n := r.1) (ps := acc.take j) (acc := acc)
          rw [← ec, List.length_take] at this
          unfold kvsD
          rw [List.length_map]
          omega
        · show [Cell.d (rulesD rs), .dct (putA (kvsD cur) (lcmI p.1 r.1) (.int (getT cur (lcmI p.1 r.1) - p.2))), _, _, _, _, _, _] = _
          rw [putA_kvs, take_snoc hp, List.foldl_append, ← ec]
          rfl
      · rintro ρ ⟨o5, o6, o7, rfl⟩
        have e2 : (acc.take ((kvsD acc).map fun kv => PyData.tuple [.int kv.1, kv.2]).length).foldl (step1 r.1) acc = acc.foldl (step1 r.1) acc := by
          rw [es, List.length_map, List.take_length]
        rw [e2]
        refine ⟨r.2, rfl, tf (fun z => ?_) (fun z => ?_)⟩
        · simp only [pPutD, pPlus, pGetD, pVar, pC, Pu.cellAt, asD, asDct, asI, getA_kvs, addD]
          have := step1_len (n := r.1) (ps := acc) (acc := acc)
          refine ⟨by unfold kvsD; rw [List.length_map]; omega, .d (.int r.1), .d (.bool r.2), .d (.list (acc.map termD)), o5, o6, o7, ?_⟩
          show [Cell.d (rulesD rs), .dct (putA (kvsD (acc.foldl (step1 r.1) acc)) r.1 (.int (getT (acc.foldl (step1 r.1) acc) r.1 + 1))), _, _, _, _, _, _] = _
          rw [putA_kvs, en]
          unfold stepR
          rw [z]
          rfl
        · refine ⟨.d (.int r.1), .d (.bool r.2), .d (.list (acc.map termD)), o5, o6, o7, ?_⟩
          rw [en]
          unfold stepR
          rw [z]
          rfl
    · rintro ρ ⟨o2, o3, o4, o5, o6, o7, rfl⟩
      have l1 := terms_64 hr.1
      have e1 : rs.take (rs.map ruleD).length = rs := by rw [List.length_map, List.take_length]
      show (kvsD (longTerms (rs.take (rs.map ruleD).length))).length ≤ 100000 ∧ c (.list ((kvsD (longTerms (rs.take (rs.map ruleD).length))).map fun kv => PyData.tuple [.int kv.1, kv.2]))
      rw [e1]
      refine ⟨by unfold kvsD; rw [List.length_map]; omega, ?_⟩
      unfold kvsD
      rw [List.map_map]
      exact h
  · exact h.elim
end Pr
namespace Pr
open PySem L2 Pu Cal
theorem longs_sum (y : Int) : ∀ ts : Terms, longs y ts = (ts.map fun p => p.2 * cdiv y p.1).sum
  | [] => rfl
  | p :: r => by
    rw [List.map_cons, List.sum_cons, ← longs_sum y r]
    rfl
theorem pure_shape_of (ds : List PyData) (c : PyData → Prop) (hl : ds.length = 1) (h : S_shape_of ds c) : p_shape_of (fin c) (startE N_shape_of ds) := by
  unfold S_shape_of at h
  split at h
  · rename_i a b e d w f m
    obtain ⟨ms, rs, rfl, rfl, hr, h⟩ := h
    refine ⟨ms, intsOf_map ms, rfl, rs, rfl, hr, Nat.le_of_ble_eq_true rfl, h⟩
  · exact h.elim
theorem pure_year_begin (ds : List PyData) (c : PyData → Prop) (hl : ds.length = 2) (h : S_year_begin ds c) : p_year_begin (fin c) (startE N_year_begin ds) := by
  unfold S_year_begin at h
  split at h
  · rename_i days extra d y
    obtain ⟨ts, rfl, hz, ht, hd, he, h⟩ := h
    refine ⟨rfl, by simp [Pu.cellAt, startE, setAll, Pu.cellSet], rfl, fun i acc => acc = (ts.take i).map (fun p => .int (p.2 * cdiv y p.1)), rfl, ?_, ?_⟩
    · rintro i d acc hd rfl
      obtain ⟨p, hp, rfl⟩ := term_at hd
      obtain ⟨h1, h2, h3⟩ := ht p (List.mem_of_getElem? hp)
      refine ⟨rfl, rfl, ⟨by omega, h2⟩, .inl ⟨by omega, by omega⟩, rfl, ?_, ?_⟩
      · rw [List.length_map, List.length_take]
        have := (List.getElem?_eq_some_iff.mp hp).1
        omega
      · show _ = _
        rw [take_snoc hp, List.map_append]
        rfl
    · rintro acc rfl
      have e1 : ts.take (ts.map termD).length = ts := by rw [List.length_map, List.take_length]
      refine ⟨ts.map fun p => p.2 * cdiv y p.1, ?_, ⟨.inl ⟨by omega, by omega⟩, .inl ⟨by omega, by omega⟩, ?_⟩⟩
      · rw [e1, show (ts.map fun p => PyData.int (p.2 * cdiv y p.1)) = (ts.map fun p => p.2 * cdiv y p.1).map PyData.int by rw [List.map_map]; rfl]
        exact intsOf_map _
      · rw [longs_sum] at h
        exact h
  · exact h.elim
/-- calendars as they may be, the great cycle's days -/
def great (ms : List Int) (extra : Int) (rs : Rules) (week : Int) : Int := lcmI (yb ms.sum extra rs (cyc rs)) week
def S_cycle_of : FS := fun ds k => match ds with
  | [.tuple [a, b, e, d, w, f, m]] => ∃ (ms : List Int) (extra : Int) (rs : Rules) (week : Int), a = .tuple (ms.map PyData.int) ∧ e = .int extra ∧ d = rulesD rs ∧ w = .int week ∧ RulesIn rs ∧ cyc rs < 1073741824 ∧
      1 ≤ ms.sum ∧ ms.sum ≤ 2000 ∧ 0 ≤ extra ∧ extra ≤ 30 ∧ 1 ≤ week ∧ week ≤ 14 ∧ k (.tuple [.int (cyc rs), .int (great ms extra rs week)])
  | _ => False
theorem yb_bound {rs : Rules} (hr : RulesIn rs) {days extra : Int} (hd : 0 ≤ days) (he : 0 ≤ extra) : ∀ n : Nat, days * n ≤ yb days extra rs n ∧ yb days extra rs n ≤ (days + extra) * n
  | 0 => by
    show days * 0 ≤ yb days extra rs 0 ∧ yb days extra rs 0 ≤ (days + extra) * 0
    rw [yb_zero]
    simp
  | n + 1 => by
    obtain ⟨h1, h2⟩ := yb_bound hr hd he n
    have e := yb_succ (L := cyc rs) (days := days) (extra := extra) (rs := rs) (fun x hx => ⟨(hr.2 x hx).1, cyc_dvd hx⟩) (n : Int)
    have b0 : 0 ≤ extra * b2 (isLong rs n) ∧ extra * b2 (isLong rs n) ≤ extra := by
      unfold b2
      split
      · omega
      · omega
    have c1 : ((n + 1 : Nat) : Int) = (n : Int) + 1 := rfl
    rw [c1, e, Int.mul_add, Int.mul_add, Int.mul_one, Int.mul_one]
    omega
end Pr
namespace Pr
open PySem L2 Pu Cal
-- cycle_of: ['calendar', 'years']
abbrev N_cycle_of : List Str := ["calendar", "years"]
def p_cycle_of : PS' := (pSeq (pAsg (pCall 1 S_cycle_years (pCons (pVar 0) pNil)) (pgN 1))
      (pRet (pTup (pCons (pVar 1) (pCons (pFn fLcm (pCons (pCall 2 S_year_begin (pCons (pCall 1 S_shape_of (pCons (pVar 0) pNil)) (pCons (pVar 1) pNil))) (pCons (pIx (pVar 0) (pC (.int 4))) pNil))) pNil)))))
theorem terms_in {rs : Rules} (hr : RulesIn rs) (hc : cyc rs < 1073741824) : (longTerms rs).length ≤ 1000 ∧ ∀ p ∈ longTerms rs, 1 ≤ p.1 ∧ p.1 < 1073741824 ∧ p.2.natAbs < 2 ^ 63 := by
  have gd : Good (cyc rs) (longTerms rs) := terms_good fun x hx => ⟨(hr.2 x hx).1, cyc_dvd hx⟩
  have L := (cyc_18 hr).1
  refine ⟨by have := terms_64 hr.1; omega, fun p hp => ?_⟩
  have m : p.1 ∈ (longTerms rs).map (·.1) := List.mem_map.mpr ⟨p, hp, rfl⟩
  have a1 := gd.pos _ m
  have a2 := Int.le_of_dvd (by omega) (gd.dvd _ m)
  have q := (terms_fold 0 (L := cyc rs) (rs := rs) (acc := []) (b := false) (fun x hx => ⟨(hr.2 x hx).1, cyc_dvd hx⟩) (good_nil _) rfl).2.2
  have q2 : ∀ n : Nat, n ≤ 6 → (2 : Int) ^ n * (mass [] + 1) ≤ 64 := by decide
  have q3 := q2 _ hr.1
  have q4 := mass_mem hp
  unfold longTerms at q4
  exact ⟨a1, by omega, by omega⟩
theorem yb_cyc {rs : Rules} (hr : RulesIn rs) {days extra : Int} (hd : 0 ≤ days) (he : 0 ≤ extra) : days * cyc rs ≤ yb days extra rs (cyc rs) ∧ yb days extra rs (cyc rs) ≤ (days + extra) * cyc rs := by
  have L := (cyc_18 hr).1
  obtain ⟨n, hn⟩ : ∃ n : Nat, cyc rs = n := ⟨(cyc rs).toNat, by omega⟩
  rw [hn]
  exact yb_bound hr hd he n
theorem pure_cycle_of (ds : List PyData) (c : PyData → Prop) (hl : ds.length = 1) (h : S_cycle_of ds c) : p_cycle_of (fin c) (startE N_cycle_of ds) := by
  unfold S_cycle_of at h
  split at h
  · rename_i a b e d w f m
    obtain ⟨ms, extra, rs, week, rfl, rfl, rfl, rfl, hr, hc, m1, m2, e1, e2, w1, w2, h⟩ := h
    have L := (cyc_18 hr).1
    obtain ⟨t1, t2⟩ := terms_in hr hc
    obtain ⟨y1, y2⟩ := yb_cyc hr (days := ms.sum) (extra := extra) (by omega) e1
    have y3 : (0 : Int) ≤ ms.sum * cyc rs := Int.mul_nonneg (by omega) (by omega)
    have y4 : (ms.sum + extra) * cyc rs ≤ 2030 * 1073741824 := Int.mul_le_mul (by omega) (by omega) (by omega) (by omega)
    refine ⟨rfl, rs, rfl, hr, ?_⟩
    refine ⟨rfl, ms, rs, rfl, rfl, hr, rfl, longTerms rs, rfl, t1, t2, by omega, by omega, ?_⟩
    have hy : ms.sum * cyc rs + extra * longs (cyc rs) (longTerms rs) = yb ms.sum extra rs (cyc rs) := rfl
    refine ⟨?_, by omega, Nat.le_of_ble_eq_true rfl, h⟩
    show (ms.sum * cyc rs + extra * longs (cyc rs) (longTerms rs)).natAbs < 2 ^ 64
    rw [hy]
    omega
  · exact h.elim
def intOf : PyData → Int
  | .int i => i
  | _ => 0
def boolOf : PyData → Bool
  | .bool b => b
  | _ => false
def monthsOf : PyData → List Int
  | .tuple l => l.map intOf
  | _ => []
def rule2Of : List PyData → Int × Bool
  | [a, b] => (intOf a, boolOf b)
  | _ => (1, false)
def ruleOf : PyData → Int × Bool
  | .tuple l => rule2Of l
  | _ => (1, false)
def rulesOf : PyData → Rules
  | .tuple l => l.map ruleOf
  | _ => []
theorem inR_of {d : PyData} {lo hi : Int} (h : inR d lo hi = true) : ∃ i, d = .int i ∧ lo ≤ i ∧ i ≤ hi := by
  cases d with
  | int i =>
    have h : (decide (lo ≤ i) && decide (i ≤ hi)) = true := h
    rw [Bool.and_eq_true] at h
    exact ⟨i, rfl, of_decide_eq_true h.1, of_decide_eq_true h.2⟩
  | _ => cases h
theorem ints_all {lo hi : Int} : ∀ {l : List PyData}, l.all (fun d => inR d lo hi) = true → l = (l.map intOf).map PyData.int ∧ lo * (l.length : Nat) ≤ (l.map intOf).sum ∧ (l.map intOf).sum ≤ hi * (l.length : Nat)
  | [], _ => ⟨rfl, by simp, by simp⟩
  | d :: l, h => by
    rw [List.all_cons, Bool.and_eq_true] at h
    obtain ⟨i, rfl, h1, h2⟩ := inR_of h.1
    obtain ⟨e, h3, h4⟩ := ints_all h.2
    refine ⟨?_, ?_, ?_⟩
    · rw [List.map_cons, List.map_cons, ← e]
      rfl
    · rw [List.map_cons, List.sum_cons, List.length_cons]
      show lo * ((l.length : Int) + 1) ≤ i + _
      rw [Int.mul_add, Int.mul_one]
      omega
    · rw [List.map_cons, List.sum_cons, List.length_cons]
      show i + _ ≤ hi * ((l.length : Int) + 1)
      rw [Int.mul_add, Int.mul_one]
      omega
theorem months_of {a : PyData} (h : monthsOk a = true) : a = .tuple ((monthsOf a).map PyData.int) ∧ 1 ≤ (monthsOf a).sum ∧ (monthsOf a).sum ≤ 2000 ∧ 1 ≤ lenT a := by
  cases a with
  | tuple l =>
    have h : (decide (1 ≤ l.length) && decide (l.length ≤ 24) && l.all (fun d => inR d 1 60)) = true := h
    rw [Bool.and_eq_true, Bool.and_eq_true] at h
    obtain ⟨e, h3, h4⟩ := ints_all h.2
    have h1 := of_decide_eq_true h.1.1
    have h2 := of_decide_eq_true h.1.2
    refine ⟨congrArg PyData.tuple e, ?_, ?_, h1⟩
    · show 1 ≤ (l.map intOf).sum
      omega
    · show (l.map intOf).sum ≤ 2000
      omega
  | _ => cases h
theorem rule_of {d : PyData} (h : ruleOk d = true) : d = ruleD (ruleOf d) ∧ 1 ≤ (ruleOf d).1 ∧ (ruleOf d).1 ≤ 1000 := by
  cases d with
  | tuple l =>
    match l, h with
    | [a, b], h =>
      have h : (inR a 1 1000 && isF b) = true := h
      rw [Bool.and_eq_true] at h
      obtain ⟨i, rfl, h1, h2⟩ := inR_of h.1
      cases b with
      | bool b => exact ⟨rfl, h1, h2⟩
      | _ => cases h.2
    | [], h => cases h
    | [_], h => cases h
    | _ :: _ :: _ :: _, h => cases h
  | _ => cases h
theorem rules_of {d : PyData} (h : rulesOk d = true) : d = rulesD (rulesOf d) ∧ RulesIn (rulesOf d) := by
  cases d with
  | tuple l =>
    have h : (decide (l.length ≤ 6) && l.all ruleOk) = true := h
    rw [Bool.and_eq_true] at h
    have h2 := List.all_eq_true.mp h.2
    refine ⟨?_, ?_, ?_⟩
    · show PyData.tuple l = PyData.tuple ((l.map ruleOf).map ruleD)
      rw [List.map_map]
      have : l.map (ruleD ∘ ruleOf) = l.map id := List.map_congr_left fun x hx => ((rule_of (h2 x hx)).1).symm
      rw [this, List.map_id]
    · show (l.map ruleOf).length ≤ 6
      rw [List.length_map]
      exact of_decide_eq_true h.1
    · intro r hr
      obtain ⟨x, hx, rfl⟩ := List.mem_map.mp (show r ∈ l.map ruleOf from hr)
      exact (rule_of (h2 x hx)).2
  | _ => cases h
def fault7 (a b c d e f g : PyData) : PyData :=
  if monthsOk a = false then txt "months" else if inR b 1 (lenT a : Nat) = false then txt "longer" else if inR c 0 30 = false then txt "extra" else if rulesOk d = false then txt "rules" else
  if inR e 1 14 = false then txt "week" else if inR f 0 (intOf e - 1) = false then txt "first" else if inR g 1 2000 = false then txt "minutes" else
  if 400000 < great (monthsOf a) (intOf c) (rulesOf d) (intOf e) then txt "cycle" else .none
def S_calendar_fault : FS := fun ds k => match ds with
  | [.tuple [a, b, c, d, e, f, g]] => (rulesOk d = true → cyc (rulesOf d) < 1073741824) ∧ k (fault7 a b c d e f g)
  | _ => False
-- calendar_fault: ['calendar', 'months', 'longer', 'extra', 'rules', 'week', 'first', 'minutes']
abbrev N_calendar_fault : List Str := ["calendar", "months", "longer", "extra", "rules", "week", "first", "minutes"]
def p_calendar_fault : PS' := (pSeq (pAsg (pVar 0) (pgT [1, 2, 3, 4, 5, 6, 7]))
      (pSeq (pIfS (pNot (pTst (pCall 1 S_are_months (pCons (pVar 1) pNil)))) (pRet (pC (.str (Str.ofString "months")))) pNext)
      (pSeq (pIfS (pNot (pTst (pCall 3 S_is_from_to (pCons (pVar 2) (pCons (pC (.int 1)) (pCons (pFn fLen (pCons (pVar 1) pNil)) pNil)))))) (pRet (pC (.str (Str.ofString "longer")))) pNext)
      (pSeq (pIfS (pNot (pTst (pCall 3 S_is_from_to (pCons (pVar 3) (pCons (pC (.int 0)) (pCons (pC k_MOST_EXTRA) pNil)))))) (pRet (pC (.str (Str.ofString "extra")))) pNext)
      (pSeq (pIfS (pNot (pTst (pCall 1 S_are_rules (pCons (pVar 4) pNil)))) (pRet (pC (.str (Str.ofString "rules")))) pNext)
      (pSeq (pIfS (pNot (pTst (pCall 3 S_is_from_to (pCons (pVar 5) (pCons (pC (.int 1)) (pCons (pC k_LONGEST_WEEK) pNil)))))) (pRet (pC (.str (Str.ofString "week")))) pNext)
      (pSeq (pIfS (pNot (pTst (pCall 3 S_is_from_to (pCons (pVar 6) (pCons (pC (.int 0)) (pCons (pII (fun i j => .int (i - j)) (pVar 5) (pC (.int 1))) pNil)))))) (pRet (pC (.str (Str.ofString "first")))) pNext)
      (pSeq (pIfS (pNot (pTst (pCall 3 S_is_from_to (pCons (pVar 7) (pCons (pC (.int 1)) (pCons (pC k_MOST_MINUTES) pNil)))))) (pRet (pC (.str (Str.ofString "minutes")))) pNext)
      (pSeq (pIfS (pTst (pII (fun i j => .bool (decide (j < i))) (pIx (pCall 1 S_cycle_of (pCons (pVar 0) pNil)) (pC (.int 1))) (pC k_MOST_GREAT_CYCLE))) (pRet (pC (.str (Str.ofString "cycle")))) pNext)
      (pRet (pC .none)))))))))))
theorem pure_calendar_fault (ds : List PyData) (k : PyData → Prop) (hl : ds.length = 1) (h : S_calendar_fault ds k) : p_calendar_fault (fin k) (startE N_calendar_fault ds) := by
  unfold S_calendar_fault at h
  split at h
  · rename_i a b c d e f g
    obtain ⟨hc, h⟩ := h
    unfold fault7 at h
    refine ⟨rfl, rfl, ?_⟩
    show (if (!(monthsOk a)) = true then k (txt "months") else _)
    refine tf (fun z => ?_) (fun z => ?_)
    · rw [if_pos (by simpa using z)] at h
      exact h
    have ga : monthsOk a = true := by simpa using z
    rw [if_neg (by rw [ga]; decide)] at h
    obtain ⟨ea, ma1, ma2, ma3⟩ := months_of ga
    have ia : lenD a = some (lenT a) := by rw [ea]; rfl
    refine ⟨_, ia, rfl, ?_⟩
    show (if (!(inR b 1 (lenT a : Nat))) = true then k (txt "longer") else _)
    refine tf (fun z => ?_) (fun z => ?_)
    · rw [if_pos (by simpa using z)] at h
      exact h
    rw [if_neg (by simpa using z)] at h
    refine ⟨rfl, ?_⟩
    show (if (!(inR c 0 30)) = true then k (txt "extra") else _)
    refine tf (fun z => ?_) (fun z => ?_)
    · rw [if_pos (by simpa using z)] at h
      exact h
    rw [if_neg (by simpa using z)] at h
    obtain ⟨extra, rfl, x1, x2⟩ := inR_of (show inR c 0 30 = true by simpa using z)
    refine ⟨rfl, ?_⟩
    show (if (!(rulesOk d)) = true then k (txt "rules") else _)
    refine tf (fun z => ?_) (fun z => ?_)
    · rw [if_pos (by simpa using z)] at h
      exact h
    rw [if_neg (by simpa using z)] at h
    have gd : rulesOk d = true := by simpa using z
    obtain ⟨ed, rd⟩ := rules_of gd
    refine ⟨rfl, ?_⟩
    show (if (!(inR e 1 14)) = true then k (txt "week") else _)
    refine tf (fun z => ?_) (fun z => ?_)
    · rw [if_pos (by simpa using z)] at h
      exact h
    rw [if_neg (by simpa using z)] at h
    obtain ⟨week, rfl, w1, w2⟩ := inR_of (show inR e 1 14 = true by simpa using z)
    have h : k (if inR f 0 (week - 1) = false then txt "first" else if inR g 1 2000 = false then txt "minutes" else if 400000 < great (monthsOf a) extra (rulesOf d) week then txt "cycle" else .none) := h
    refine ⟨rfl, ?_⟩
    show (if (!(inR f 0 (week - 1))) = true then k (txt "first") else _)
    refine tf (fun z => ?_) (fun z => ?_)
    · rw [if_pos (by simpa using z)] at h
      exact h
    rw [if_neg (by simpa using z)] at h
    refine ⟨rfl, ?_⟩
    show (if (!(inR g 1 2000)) = true then k (txt "minutes") else _)
    refine tf (fun z => ?_) (fun z => ?_)
    · rw [if_pos (by simpa using z)] at h
      exact h
    rw [if_neg (by simpa using z)] at h
    refine ⟨rfl, monthsOf a, extra, rulesOf d, week, ea, rfl, ed, rfl, rd, hc gd, ma1, ma2, x1, x2, w1, w2, ?_⟩
    show (if decide ((400000 : Int) < great (monthsOf a) extra (rulesOf d) week) = true then k (txt "cycle") else k .none)
    refine ifd (fun z => ?_) (fun z => ?_)
    · rw [if_pos z] at h
      exact h
    · rw [if_neg z] at h
      exact h
  · exact h.elim
end Pr
namespace Pr
open PySem L2 Pu Cal
structure Valid (a b c d e f g : PyData) : Prop where
  v0 : monthsOk a = true
  v1 : inR b 1 (lenT a : Nat) = true
  v2 : inR c 0 30 = true
  v3 : rulesOk d = true
  v4 : inR e 1 14 = true
  v5 : inR f 0 (intOf e - 1) = true
  v6 : inR g 1 2000 = true
def S_law_calendar : FS := fun ds k => match ds with
  | [] => ∀ a b c d e f g, Valid a b c d e f g → cyc (rulesOf d) < 1000000 → great (monthsOf a) (intOf c) (rulesOf d) (intOf e) ≤ 400000 → k (.tuple [a, b, c, d, e, f, g])
  | _ => False
def S_law_common : FS := fun ds k => match ds with
  | [.int one, .int two] => 1 ≤ one ∧ one < 2 ^ 60 ∧ 1 ≤ two ∧ two < 2 ^ 30 ∧ k (.int (lcmI one two))
  | _ => False
def S_law_great : FS := fun ds k => match ds with
  | [.tuple [a, _, e, d, w, _, _]] => ∃ (ms : List Int) (extra : Int) (rs : Rules) (week : Int), a = .tuple (ms.map PyData.int) ∧ e = .int extra ∧ d = rulesD rs ∧ w = .int week ∧ RulesIn rs ∧ cyc rs < 1073741824 ∧
      1 ≤ ms.sum ∧ ms.sum ≤ 2000 ∧ 0 ≤ extra ∧ extra ≤ 30 ∧ 1 ≤ week ∧ week ≤ 14 ∧ k (.int (great ms extra rs week))
  | _ => False
-- _law_calendar: ['box', 'months', 'longer', 'rules', 'week', 'k']
abbrev N_law_calendar : List Str := ["box", "months", "longer", "rules", "week", "k"]
def p_law_calendar : PS' := (pSeq (pAsg (pFn fTuple (pCons (pNew (pLcR [5] [5] (pCons (pPlus (pC (.int 1)) (pCallB 1 S_law_next 0 (pCons (pC (.int 4)) pNil))) pNil) (pgN 5) pYes (pPlus (pC (.int 1)) (pCallB 1 S_law_next 0 (pCons (pC (.int 6)) pNil))))) pNil)) (pgN 1))
      (pSeq (pAsg (pPlus (pC (.int 1)) (pCallB 1 S_law_next 0 (pCons (pFn fLen (pCons (pVar 1) pNil)) pNil))) (pgN 2))
      (pSeq (pAsg (pFn fTuple (pCons (pNew (pLcR [5] [5] (pCons (pCallB 1 S_law_next 0 (pCons (pC (.int 3)) pNil)) pNil) (pgN 5) pYes (pTup (pCons (pPlus (pC (.int 1)) (pCallB 1 S_law_next 0 (pCons (pC (.int 4)) pNil))) (pCons (pEqD false (pCallB 1 S_law_next 0 (pCons (pC (.int 2)) pNil)) (pC (.int 1))) pNil))))) pNil)) (pgN 3))
      (pSeq (pAsg (pPlus (pC (.int 1)) (pCallB 1 S_law_next 0 (pCons (pC (.int 5)) pNil))) (pgN 4))
      (pRet (pTup (pCons (pVar 1) (pCons (pVar 2) (pCons (pCallB 1 S_law_next 0 (pCons (pC (.int 3)) pNil)) (pCons (pVar 3) (pCons (pVar 4) (pCons (pCallB 1 S_law_next 0 (pCons (pVar 4) pNil)) (pCons (pPlus (pC (.int 1)) (pCallB 1 S_law_next 0 (pCons (pC (.int 6)) pNil))) pNil)))))))))))))
-- _law_common: ['one', 'two', 'rest']
abbrev N_law_common : List Str := ["one", "two", "rest"]
def p_law_common : PS' := (pSeq (pAsg (pNew (pLst (pCons (pVar 0) (pCons (pVar 1) pNil)))) (pgN 2))
      (pSeq (pWhile (pTst (pII (fun i j => .bool (decide (j < i))) (pIx (pVar 2) (pC (.int 1))) (pC (.int 0)))) (pAsg (pNew (pLst (pCons (pIx (pVar 2) (pC (.int 1))) (pCons (pIIc (fun _ j => 0 < j) (fun i j => .int (i % j)) (pIx (pVar 2) (pC (.int 0))) (pIx (pVar 2) (pC (.int 1)))) pNil)))) (pgN 2)))
      (pRet (pIIc CMul (fun i j => .int (i * j)) (pIIc CDiv (fun i j => .int (i / j)) (pVar 0) (pIx (pVar 2) (pC (.int 0)))) (pVar 1)))))
-- _law_great: ['calendar', 'years', 'pair', 'days', 'year', 'long']
abbrev N_law_great : List Str := ["calendar", "years", "pair", "days", "year", "long"]
def p_law_great : PS' := (pSeq (pAsg (pC (.int 1)) (pgN 1))
      (pSeq (pFor (pTO (pIx (pVar 0) (pC (.int 3)))) (pgN 2) (pAsg (pCall 2 S_law_common (pCons (pVar 1) (pCons (pIx (pVar 2) (pC (.int 0))) pNil))) (pgN 1)))
      (pSeq (pAsg (pC (.int 0)) (pgN 3))
      (pSeq (pRng (pCons (pVar 1) pNil) (pgN 4) (pSeq (pAsg (pC (.bool false)) (pgN 5))
      (pSeq (pFor (pTO (pIx (pVar 0) (pC (.int 3)))) (pgN 2) (pIfS (pTst (pEqD false (pIIc (fun _ j => 0 < j) (fun i j => .int (i % j)) (pVar 4) (pIx (pVar 2) (pC (.int 0)))) (pC (.int 0)))) (pAsg (pIx (pVar 2) (pC (.int 1))) (pgN 5)) pNext))
      (pAsg (pPlus (pPlus (pVar 3) (pFn fSum (pCons (pIx (pVar 0) (pC (.int 0))) pNil))) (pIIc CMul (fun i j => .int (i * j)) (pIx (pVar 0) (pC (.int 2))) (pFn fInt (pCons (pVar 5) pNil)))) (pgN 3)))))
      (pRet (pCall 2 S_law_common (pCons (pVar 3) (pCons (pIx (pVar 0) (pC (.int 4))) pNil))))))))
theorem pure_law_common (ds : List PyData) (c : PyData → Prop) (hl : ds.length = 2) (h : S_law_common ds c) : p_law_common (fin c) (startE N_law_common ds) := by
  unfold S_law_common at h
  split at h
  · rename_i one two
    obtain ⟨o1, o2, t1, t2, h⟩ := h
    obtain ⟨m, rfl⟩ : ∃ m : Nat, one = m := ⟨one.toNat, by omega⟩
    obtain ⟨n, rfl⟩ : ∃ n : Nat, two = n := ⟨two.toNat, by omega⟩
    refine ⟨Nat.le_of_ble_eq_true rfl, fun w ρ => ∃ x y : Nat, ρ = [.d (.int m), .d (.int n), .d (.list [.int x, .int y])] ∧ 1 ≤ x ∧ Nat.gcd x y = Nat.gcd m n ∧ w = y, ⟨_, m, n, rfl, by omega, rfl, rfl⟩, ?_⟩
    rintro w ρ ⟨x, y, rfl, hx, hg, rfl⟩
    show (if decide ((0 : Int) < (w : Nat)) = true then _ else _)
    refine ifd (fun z => ?_) (fun z => ?_)
    · refine ⟨z, Nat.le_of_ble_eq_true rfl, x % w, Nat.mod_lt _ (by omega), w, x % w, ?_, by omega, ?_, rfl⟩
      · show [Cell.d (.int m), .d (.int n), .d (.list [.int w, .int ((x : Int) % (w : Int))])] = _
        rfl
      · rw [← hg, Nat.gcd_comm x w, Nat.gcd_rec w x]
        exact Nat.gcd_comm _ _
    · have w0 : w = 0 := by omega
      subst w0
      rw [Nat.gcd_zero_right] at hg
      have g1 : x ∣ n := hg ▸ Nat.gcd_dvd_right m n
      have g2 : x ∣ m := hg ▸ Nat.gcd_dvd_left m n
      have g3 := Nat.le_of_dvd (by omega) g1
      refine ⟨⟨by omega, by omega⟩, .inr ⟨by omega, by omega⟩, ?_⟩
      have e : ((m : Int) / (x : Int)) * (n : Int) = lcmI m n := by
        unfold lcmI
        rw [Int.natAbs_natCast, Int.natAbs_natCast]
        have : m / x * n = Nat.lcm m n := by
          unfold Nat.lcm
          rw [← hg]
          exact Nat.div_mul_right_comm g2 n
        rw [← this]
        rfl
      show c (.int (((m : Int) / (x : Int)) * (n : Int)))
      rw [e]
      exact h
  · exact h.elim
theorem b2_int (b : Bool) : (if b then (1 : Int) else 0) = b2 b := rfl
theorem pure_law_great (ds : List PyData) (c : PyData → Prop) (hl : ds.length = 1) (h : S_law_great ds c) : p_law_great (fin c) (startE N_law_great ds) := by
  unfold S_law_great at h
  split at h
  · rename_i a b e d w f m
    obtain ⟨ms, extra, rs, week, rfl, rfl, rfl, rfl, hr, hc, m1, m2, e1, e2, w1, w2, h⟩ := h
    have L := cyc_18 hr
    obtain ⟨y1, y2⟩ := yb_cyc hr (days := ms.sum) (extra := extra) (by omega) e1
    have y3 : (1 : Int) * 1 ≤ ms.sum * cyc rs := Int.mul_le_mul (by omega) L.1 (by omega) (by omega)
    have y4 : (ms.sum + extra) * cyc rs ≤ 2030 * 1073741824 := Int.mul_le_mul (by omega) (by omega) (by omega) (by omega)
    obtain ⟨C, hC⟩ : ∃ C, C = PyData.tuple [.tuple (ms.map PyData.int), b, .int extra, rulesD rs, .int week, f, m] := ⟨_, rfl⟩
    refine ⟨fun i ρ => ∃ o1 : Cell, ρ = [.d (.tuple [.tuple (ms.map PyData.int), b, .int extra, rulesD rs, .int week, f, m]), .d (.int (cyc (rs.take i))), o1, .no, .no, .no], ⟨_, rfl⟩, ?_, ?_⟩
    · rintro i d ρ hd ⟨o1, rfl⟩
      obtain ⟨r, hri, rfl⟩ := rule_at hd
      have b1 := cyc_18 (rules_take hr i)
      have b2 := hr.2 r (List.mem_of_getElem? hri)
      refine ⟨rfl, b1.1, by omega, b2.1, by omega, .d (ruleD r), ?_⟩
      rw [take_snoc hri]
      show _ = [_, Cell.d (.int ((rs.take i ++ [r]).foldl (fun y r => lcmI y r.1) 1)), _, _, _, _]
      rw [List.foldl_append]
      rfl
    · rintro ρ ⟨o1, rfl⟩
      have ec : cyc (rs.take (rs.map ruleD).length) = cyc rs := by rw [List.length_map, List.take_length]
      rw [ec]
      refine ⟨0, cyc rs, .inl ⟨rfl, rfl⟩, ⟨by omega, by omega, by omega, by omega⟩, fun i ρ => ∃ o1 o2 o3 : Cell, ρ = [.d (.tuple [.tuple (ms.map PyData.int), b, .int extra, rulesD rs, .int week, f, m]), .d (.int (cyc rs)), o1, .d (.int (yb ms.sum extra rs i)), o2, o3], ⟨o1, .no, .no, ?_⟩, ?_, ?_⟩
      · show [_, _, _, Cell.d (.int 0), _, _] = [_, _, _, Cell.d (.int (yb ms.sum extra rs 0)), _, _]
        rw [yb_zero]
      · rintro i ρ hi ⟨o1, o2, o3, rfl⟩
        refine ⟨fun j ρ => ∃ o1 : Cell, ρ = [.d (.tuple [.tuple (ms.map PyData.int), b, .int extra, rulesD rs, .int week, f, m]), .d (.int (cyc rs)), o1, .d (.int (yb ms.sum extra rs i)), .d (.int (0 + (i : Int))), .d (.bool ((rs.take j).foldl (longStep (0 + (i : Int))) false))], ⟨o1, rfl⟩, ?_, ?_⟩
        · rintro j d ρ hd ⟨o1, rfl⟩
          obtain ⟨r, hrj, rfl⟩ := rule_at hd
          have br := hr.2 r (List.mem_of_getElem? hrj)
          have en : (rs.take (j + 1)).foldl (longStep (0 + (i : Int))) false = longStep (0 + (i : Int)) ((rs.take j).foldl (longStep (0 + (i : Int))) false) r := by
            rw [take_snoc hrj, List.foldl_append]
            rfl
          refine ⟨by omega, rfl, rfl, ?_⟩
          show (if PyData.eqv (.int ((0 + (i : Int)) % r.1)) (.int 0) = true then _ else _)
          rw [eqv_int]
          refine ifd (fun z => ?_) (fun z => ?_)
          · refine ⟨.d (ruleD r), ?_⟩
            rw [en]
            unfold longStep
            rw [if_pos z]
            rfl
          · refine ⟨.d (ruleD r), ?_⟩
            rw [en]
            unfold longStep
            rw [if_neg z]
            rfl
        · rintro ρ ⟨o1, rfl⟩
          have el : (rs.take (rs.map ruleD).length).foldl (longStep (0 + (i : Int))) false = isLong rs i := by
            rw [List.length_map, List.take_length, Int.zero_add]
            rfl
          rw [el]
          have es := yb_succ (L := cyc rs) (days := ms.sum) (extra := extra) (rs := rs) (fun x hx => ⟨(hr.2 x hx).1, cyc_dvd hx⟩) (i : Int)
          refine ⟨ms, intsOf_map ms, .inl ⟨by omega, by omega⟩, o1, .d (.int (0 + (i : Int))), .d (.bool (isLong rs i)), ?_⟩
          show [_, _, _, Cell.d (.int (yb ms.sum extra rs i + ms.sum + extra * (if isLong rs i then (1 : Int) else 0))), _, _] = [_, _, _, Cell.d (.int (yb ms.sum extra rs ((i : Int) + 1))), _, _]
          rw [es, b2_int, Int.add_assoc]
      · rintro ρ ⟨o1, o2, o3, rfl⟩
        have e9 : (((cyc rs - 0).toNat : Nat) : Int) = cyc rs := by omega
        rw [e9]
        refine ⟨rfl, by omega, by omega, w1, by omega, h⟩
  · exact h.elim
end Pr
namespace Pr
open PySem L2 Pu Cal
theorem cyc_boundK {k : Int} (hk : 1 ≤ k) : ∀ {rs : Rules} {y : Int} {B : Int}, 1 ≤ y → y ≤ B → (∀ r ∈ rs, 1 ≤ r.1 ∧ r.1 ≤ k) → 1 ≤ cycF y rs ∧ cycF y rs ≤ B * k ^ rs.length
  | [], y, B, h0, h1, _ => ⟨h0, by simpa [cycF] using h1⟩
  | r :: rs, y, B, h0, h1, hr => by
    have hr1 := hr r List.mem_cons_self
    have a1 := lcm_le h0 hr1.1
    have a2 := lcm_pos h0 hr1.1
    have a3 : y * r.1 ≤ B * k := Int.mul_le_mul h1 hr1.2 (by omega) (by omega)
    obtain ⟨q1, q2⟩ := cyc_boundK hk (rs := rs) (y := lcmI y r.1) (B := B * k) a2 (by omega) (fun x hx => hr x (List.mem_cons_of_mem _ hx))
    refine ⟨q1, ?_⟩
    show cycF (lcmI y r.1) rs ≤ _
    rw [List.length_cons, Int.pow_succ, Int.mul_comm (k ^ rs.length) k, ← Int.mul_assoc]
    exact q2
theorem great_le {ms : List Int} {extra : Int} {rs : Rules} {week S X C W : Int} (hr : RulesIn rs) (m1 : 1 ≤ ms.sum) (m2 : ms.sum ≤ S) (e1 : 0 ≤ extra) (e2 : extra ≤ X) (w1 : 1 ≤ week) (w2 : week ≤ W) (hc : cyc rs ≤ C) : great ms extra rs week ≤ (S + X) * C * W := by
  have L := (cyc_18 hr).1
  obtain ⟨y1, y2⟩ := yb_cyc hr (days := ms.sum) (extra := extra) (by omega) e1
  have y3 : (1 : Int) * 1 ≤ ms.sum * cyc rs := Int.mul_le_mul (by omega) L (by omega) (by omega)
  have y4 : (ms.sum + extra) * cyc rs ≤ (S + X) * C := Int.mul_le_mul (by omega) hc (by omega) (by omega)
  refine Int.le_trans (lcm_le (by omega) w1) ?_
  exact Int.mul_le_mul (by omega) w2 (by omega) (by omega)
theorem ints_back : ∀ ns : List Int, (ns.map PyData.int).map intOf = ns
  | [] => rfl
  | n :: ns => congrArg (n :: ·) (ints_back ns)
theorem rules_back : ∀ rs : Rules, (rs.map ruleD).map ruleOf = rs
  | [] => rfl
  | r :: rs => congrArg (r :: ·) (rules_back rs)
theorem months_ok {ns : List Int} (h1 : 1 ≤ ns.length) (h2 : ns.length ≤ 24) (h : ∀ x ∈ ns, 1 ≤ x ∧ x ≤ 60) : monthsOk (.tuple (ns.map PyData.int)) = true := by
  show (decide (1 ≤ (ns.map PyData.int).length) && decide ((ns.map PyData.int).length ≤ 24) && (ns.map PyData.int).all (fun d => inR d 1 60)) = true
  rw [List.length_map, decide_eq_true h1, decide_eq_true h2, Bool.true_and, Bool.true_and, List.all_eq_true]
  intro d hd
  obtain ⟨x, hx, rfl⟩ := List.mem_map.mp hd
  show (decide (1 ≤ x) && decide (x ≤ 60)) = true
  rw [decide_eq_true (h x hx).1, decide_eq_true (h x hx).2]
  rfl
theorem rules_ok {rs : Rules} (h : RulesIn rs) : rulesOk (rulesD rs) = true := by
  show (decide ((rs.map ruleD).length ≤ 6) && (rs.map ruleD).all ruleOk) = true
  rw [List.length_map, decide_eq_true h.1, Bool.true_and, List.all_eq_true]
  intro d hd
  obtain ⟨r, hr, rfl⟩ := List.mem_map.mp hd
  show (decide (1 ≤ r.1) && decide (r.1 ≤ 1000) && true) = true
  rw [decide_eq_true (h.2 r hr).1, decide_eq_true (h.2 r hr).2]
  rfl
theorem inR_ok {i lo hi : Int} (h1 : lo ≤ i) (h2 : i ≤ hi) : inR (.int i) lo hi = true := by
  show (decide (lo ≤ i) && decide (i ≤ hi)) = true
  rw [decide_eq_true h1, decide_eq_true h2]
  rfl
theorem inR_no {i lo hi : Int} (h : i < lo ∨ hi < i) : inR (.int i) lo hi = false := by
  show (decide (lo ≤ i) && decide (i ≤ hi)) = false
  rcases h with h | h
  · rw [decide_eq_false (show ¬ lo ≤ i by omega), Bool.false_and]
  · rw [decide_eq_false (show ¬ i ≤ hi by omega), Bool.and_false]
theorem sum_bound {lo hi : Int} : ∀ {ns : List Int}, (∀ x ∈ ns, lo ≤ x ∧ x ≤ hi) → lo * ns.length ≤ ns.sum ∧ ns.sum ≤ hi * ns.length
  | [], _ => by simp
  | n :: ns, h => by
    obtain ⟨h1, h2⟩ := sum_bound (ns := ns) fun x hx => h x (List.mem_cons_of_mem _ hx)
    obtain ⟨h3, h4⟩ := h n List.mem_cons_self
    rw [List.sum_cons, List.length_cons]
    show lo * ((ns.length : Int) + 1) ≤ _ ∧ _ ≤ hi * ((ns.length : Int) + 1)
    rw [Int.mul_add, Int.mul_add, Int.mul_one, Int.mul_one]
    omega
theorem pure_law_calendar (ds : List PyData) (c : PyData → Prop) (hl : ds.length = 0) (h : S_law_calendar ds c) : p_law_calendar (finB c) (.box :: startE N_law_calendar.tail ds) := by
  cases ds with
  | cons _ _ => cases hl
  | nil =>
    have h : ∀ a b c' d e f g, Valid a b c' d e f g → cyc (rulesOf d) < 1000000 → great (monthsOf a) (intOf c') (rulesOf d) (intOf e) ≤ 400000 → c (.tuple [a, b, c', d, e, f, g]) := h
    refine ⟨by simp [Pu.cellAt, startE], rfl, rfl, rfl, by decide, fun n n0 n1 => ⟨rfl, 0, 1 + n, .inl ⟨rfl, rfl⟩, ⟨by omega, by omega, by omega, by omega⟩, fun i acc => ∃ ns : List Int, acc = ns.map PyData.int ∧ ns.length = i ∧ ∀ x ∈ ns, 1 ≤ x ∧ x ≤ 6, ⟨[], rfl, rfl, fun _ z => nomatch z⟩, ?_, ?_⟩⟩
    · rintro i acc hi ⟨ns, rfl, hn, hb⟩
      refine ⟨rfl, rfl, rfl, rfl, by decide, fun v v0 v1 => ⟨rfl, by rw [List.length_map]; omega, ns ++ [1 + v], by rw [List.map_append]; rfl, by simp [hn], fun x hx => ?_⟩⟩
      rcases List.mem_append.mp hx with hx | hx
      · exact hb x hx
      · rw [List.mem_singleton.mp hx]
        omega
    · rintro acc ⟨ns, rfl, hn, hb⟩
      have hn : ns.length = (1 + n).toNat := by rw [hn, Int.sub_zero]
      have lenE : ((ns.map PyData.int).length : Int) = 1 + n := by rw [List.length_map]; omega
      refine ⟨rfl, _, rfl, rfl, rfl, by show (0 : Int) < ((ns.map PyData.int).length : Nat); omega, fun lo l0 l1 => ?_⟩
      have l1 : lo < ((ns.map PyData.int).length : Nat) := l1
      refine ⟨by simp [Pu.cellAt, Pu.cellSet, startE], rfl, rfl, rfl, by decide, fun q q0 q1 => ⟨rfl, 0, q, .inl ⟨rfl, rfl⟩, ⟨by omega, by omega, by omega, by omega⟩, fun i acc => ∃ rs : Rules, acc = rs.map ruleD ∧ rs.length = i ∧ ∀ r ∈ rs, 1 ≤ r.1 ∧ r.1 ≤ 4, ⟨[], rfl, rfl, fun _ z => nomatch z⟩, ?_, ?_⟩⟩
      · rintro i acc hi ⟨rs, rfl, hm, hr⟩
        refine ⟨rfl, rfl, rfl, rfl, by decide, fun v v0 v1 => ?_⟩
        refine ⟨rfl, rfl, rfl, by decide, fun u u0 u1 => ⟨rfl, rfl, Nat.le_of_ble_eq_true rfl, rfl, by rw [List.length_map]; omega, rs ++ [(1 + v, PyData.eqv (.int u) (.int 1))], by rw [List.map_append]; rfl, by simp [hm], fun x hx => ?_⟩⟩
        rcases List.mem_append.mp hx with hx | hx
        · exact hr x hx
        · rw [List.mem_singleton.mp hx]
          show 1 ≤ 1 + v ∧ 1 + v ≤ 4
          omega
      · rintro acc ⟨rs, rfl, hm, hr⟩
        refine ⟨rfl, rfl, rfl, by decide, fun w w0 w1 => ?_⟩
        refine ⟨rfl, rfl, rfl, by decide, fun ex x0 x1 => ?_⟩
        refine ⟨rfl, rfl, rfl, by show (0 : Int) < 1 + w; omega, fun f f0 f1 => ?_⟩
        have f1 : f < 1 + w := f1
        refine ⟨rfl, rfl, rfl, by decide, fun g g0 g1 => ⟨Nat.le_of_ble_eq_true rfl, rfl, ?_⟩⟩
        have hri : RulesIn rs := ⟨by omega, fun r hr' => ⟨(hr r hr').1, by have := (hr r hr').2; omega⟩⟩
        obtain ⟨s1, s2⟩ := sum_bound hb
        have hcy := (cyc_boundK (k := 4) (by decide) (rs := rs) (y := 1) (B := 1) (by decide) (by decide) hr).2
        have hp : ∀ m : Nat, m ≤ 2 → (1 : Int) * 4 ^ m ≤ 16 := by decide
        have hcy : cyc rs ≤ 16 := Int.le_trans hcy (hp _ (by omega))
        have eR : rulesOf (.tuple (rs.map ruleD)) = rs := rules_back rs
        have eM : monthsOf (.tuple (ns.map PyData.int)) = ns := ints_back ns
        refine h (.tuple (ns.map PyData.int)) (.int (1 + lo)) (.int ex) (.tuple (rs.map ruleD)) (.int (1 + w)) (.int f) (.int (1 + g)) ⟨months_ok (by omega) (by omega) (fun x hx => by have := hb x hx; omega), ?_, inR_ok (by omega) (by omega), rules_ok hri, inR_ok (by omega) (by omega), ?_, inR_ok (by omega) (by omega)⟩ ?_ ?_
        · refine inR_ok (by omega) ?_
          show 1 + lo ≤ ((ns.map PyData.int).length : Nat)
          omega
        · refine inR_ok (by omega) ?_
          show f ≤ 1 + w - 1
          omega
        · rw [eR]
          omega
        · rw [eR, eM]
          refine Int.le_trans (great_le (S := 24) (X := 2) (C := 16) (W := 5) hri (by omega) (by omega) x0 (by show ex ≤ 2; omega) (by show (1 : Int) ≤ 1 + w; omega) (by show 1 + w ≤ 5; omega) hcy) (by decide)
end Pr
namespace Pu
open PySem L2
/-! divmod, list of a value, a list's item changed in place, a statement that is not reached -/
def rDivmod : List V → Hp → VK → Prop := fun xs H Q => ∃ i j, xs = [.int i, .int j] ∧ CDiv i j ∧ ∀ p, H p = none → Q (.ref p) (upd H p (.tup [.int (i / j), .int (i % j)]))
theorem c_divmod {X : Cx} : CallR X (.builtin "divmod") rDivmod := call_divmod
def fDivmod : FS := fun ds k => match ds with
  | [.int i, .int j] => CDiv i j ∧ k (.tuple [.int (i / j), .int (i % j)])
  | _ => False
theorem fDivmod_of {ds : List PyData} {k : PyData → Prop} (h : fDivmod ds k) : ∃ a b : Int, ds = [.int a, .int b] ∧ CDiv a b ∧ k (.tuple [.int (a / b), .int (a % b)]) := by
  unfold fDivmod at h
  split at h
  · exact ⟨_, _, rfl, h.1, h.2⟩
  · exact h.elim
/-- any statement, where the reading never comes to it -/
theorem ps_dead {X : Cx} {st : Stmt} : PS X st (fun _ _ _ => False) := ⟨fun _ _ _ _ _ _ z => z.elim⟩
/-- an item of a list, read to be changed -/
theorem get_item {X : Cx} : PGet X (rIxL X.K) := fun pins s σ H o i ov iv Q I ro ri h => by
  obtain ⟨p, xs, k, z, rfl, rfl, hq, hz, q⟩ := h
  cases ro
  obtain ⟨t, rfl⟩ := ri
  obtain ⟨its, r, pl, hs⟩ := I.list hq
  obtain ⟨j, e1, e2, e3, e4, e5⟩ := atI_get hz
  obtain ⟨w, ew, rw'⟩ := r.get e2
  have len := r.length
  have big := line63
  have done : EP X pins σ Q w s := ⟨z, H, I, rw', q⟩
  by_cases k0 : 0 ≤ k
  · have ej : k.toNat = j := Option.some.inj ((seqIndex_of k0 e5).symm.trans e1)
    exact wpAny_getItem_list pl.isList k0 (by omega) (by rw [ej]; simpa using ew) done
  · have ej : (k + (its.toArray.size : Int)).toNat = j := by
      rw [List.size_toArray, ← len]
      exact Option.some.inj ((seqIndex_neg (by omega) e4).symm.trans e1)
    exact wpAny_getItem_list_neg pl.isList (by omega) (by rw [List.size_toArray]; omega) (by omega) (by rw [ej]; simpa using ew) done
section
variable {K : PySem.W.Frag}
theorem sim_divmod {ta : TA} {pa : PA'} (sa : SimA K ta pa) : Sim K (tCB rDivmod ta) (pFn fDivmod pa) := fun B Z A H0 M σ H ρ R E h Q q =>
  sa B Z A H0 M σ H ρ _ E h _ fun vs ds ρ1 H1 h1 E1 d1 => by
    obtain ⟨a, b, rfl, hc, h2⟩ := fDivmod_of h1
    obtain ⟨v, w, rfl, dv, dw⟩ := two_of d1
    rw [of_int dv, of_int dw]
    exact ⟨a, b, rfl, hc, fun p hp => q _ _ _ _ h2 (E1.grown (grow_new hp)) (.new (E1.veiled hp) hp (dqs_ints (ns := [a / b, a % b])))⟩
/-- list(x) of a tuple or of a list -/
def rListOf (K : PySem.W.Frag) : List V → Hp → VK → Prop := fun xs H Q => ∃ p ys, xs = [.ref p] ∧ (SqL K H p ys ∨ SqT K H p ys) ∧ ∀ l, H l = none → Q (.ref l) (upd H l (.lst ys))
theorem c_listOf {X : Cx} : CallR X (.type "list") (rListOf X.K) := call_list_of
def pListOf (pa : PE') : PA' := fun ρ R => pa ρ fun x ρ1 => asS x fun ds => R ds ρ1
theorem sim_listOf {ta : TE} {pa : PE'} (sa : Sim K ta pa) : SimL K (tCB (rListOf K) (tCons ta tNil)) (pListOf pa) := fun B Z A H0 M σ H ρ R E h Q q =>
  sa B Z A H0 M σ H ρ _ E h _ fun v x ρ1 H1 h1 E1 d1 => by
    cases x with
    | list ds =>
      cases d1 with
      | @lst a vs _ hs r => exact ⟨a, vs, rfl, .inl (.of (veil_grow _ _ _ _ hs)), fun l hl => q l vs ds ρ1 H1 h1 E1 hl r⟩
    | tuple ds =>
      cases d1 with
      | @tup a vs _ hs r => exact ⟨a, vs, rfl, .inr (grow_t (veil_grow _ _) hs), fun l hl => q l vs ds ρ1 H1 h1 E1 hl r⟩
    | _ => exact h1.elim
/-- a statement that is not reached -/
def pDead : PS' := fun _ _ => False
theorem s_dead : SimS K (fun _ _ _ => False) pDead := fun _ _ _ _ _ _ _ _ _ _ _ h => h.elim
/-- xs[i] += e of a list of the def's own -/
def pAugI (i : Nat) (f : Int → Int → Int) (pb pv : PE') : PS' := fun G ρ => asOwn (cellAt ρ i) fun _ => pb ρ fun y ρ1 => asI y fun j => asOwn (cellAt ρ1 i) fun ds => asO (atI ds j) fun x => asI x fun a =>
  pv ρ1 fun w ρ2 => asI w fun b => asOwn (cellAt ρ2 i) fun ds2 => ∃ m, ixN ds2.length j = some m ∧ G.nx (cellSet ρ2 i (.own (ds2.set m (.int (f a b)))))
theorem dqs_setA {H : Hp} {v : V} {d : PyData} (h : Dq K H v d) : ∀ {vs : List V} {ds : List PyData} (m : Nat), Dqs K H vs ds → Dqs K H (vs.set m v) (ds.set m d)
  | _, _, _, .nil => .nil
  | _, _, 0, .cons _ r => .cons h r
  | _, _, m + 1, .cons h1 r => .cons h1 (dqs_setA h m r)
theorem s_augI {i : Nat} {tb tv : TE} {pb pv : PE'} {f : Int → Int → Int} (sb : Sim K tb pb) (sv : Sim K tv pv) : SimS K (tAugS (tVar i) tb tv (rIxL K) (ipI f) L2.rSetL) (pAugI i f pb pv) := fun B Z A H0 M σ H ρ D G E h C => by
  obtain ⟨ds, hc, h⟩ := asOwn_of h
  obtain ⟨l, vs, e, m, hl, r⟩ := own_at E hc
  refine ⟨.ref l, e, sb B Z A H0 M σ H ρ _ E h _ fun w y ρ1 H1 h1 E1 d1 => ?_⟩
  obtain ⟨j, rfl, h2⟩ := asI_of h1
  rw [of_int d1]
  obtain ⟨ds1, hc1, h2⟩ := asOwn_of h2
  obtain ⟨l1, vs1, e1, m1, hl1, r1⟩ := own_at E1 hc1
  rw [m] at m1
  cases m1
  obtain ⟨x, hx, h3⟩ := asO_of h2
  obtain ⟨a, rfl, h3⟩ := asI_of h3
  obtain ⟨u, hu, du⟩ := at_dq r1 hx
  rw [of_int du] at hu
  refine ⟨l, vs1, j, .int a, rfl, rfl, .of hl1, hu, sv B Z A H0 M σ H1 ρ1 _ E1 h3 _ fun w2 y2 ρ2 H2 h4 E2 d2 => ?_⟩
  obtain ⟨b, rfl, h5⟩ := asI_of h4
  rw [of_int d2]
  obtain ⟨ds2, hc2, n, hn, h6⟩ := asOwn_of h5
  obtain ⟨l2, vs2, e2, m2, hl2, r2⟩ := own_at E2 hc2
  rw [m] at m2
  cases m2
  refine ⟨a, b, rfl, rfl, l, vs2, j, n, rfl, rfl, hl2, by rw [dqs_len r2]; exact hn, ?_⟩
  exact C.nx M σ _ _ (E2.putO (by rw [e2]; rfl) m (dqs_setA (.int (f a b)) n r2) (by rw [hc2]; intro z; cases z)) h6
end
end Pu
namespace Pu
open PySem L2
/-! dicts as data: returned by a def, read at a key -/
def keyEq : PyData → PyData → Bool
  | .int a, .int b => decide (a = b)
  | .str a, .str b => decide (a = b)
  | _, _ => false
theorem keyEq_key (k l : Key) : keyEq (keyD k) (keyD l) = decide (k = l) := by
  cases k <;> cases l <;> simp [keyD, keyEq]
def findK : List (PyData × PyData) → PyData → Option PyData
  | [], _ => none
  | (k, d) :: r, x => if keyEq k x = true then some d else findK r x
theorem key_of : ∀ {kvs : List (PyData × PyData)} {x d : PyData}, findK kvs x = some d → ∃ k : Key, x = keyD k
  | [], _, _, h => by cases h
  | (k, d) :: r, x, e, h => by
    unfold findK at h
    by_cases z : keyEq k x = true
    · cases k <;> cases x <;> first | exact ⟨.inl _, rfl⟩ | exact ⟨.inr _, rfl⟩ | cases z
    · rw [if_neg z] at h
      exact key_of h
def asK : PyData → (List (PyData × PyData) → Prop) → Prop
  | .dict kvs, k => k kvs
  | _, _ => False
theorem asK_of {d : PyData} {k : List (PyData × PyData) → Prop} (h : asK d k) : ∃ x, d = .dict x ∧ k x := by
  cases d <;> first | exact ⟨_, rfl, h⟩ | exact h.elim
section
variable {K : PySem.W.Frag}
theorem dks_get {H : Hp} {k : Key} {d : PyData} : ∀ {ws : List (Key × V)} {kvs : List (PyData × PyData)}, Dks K H ws kvs → findK kvs (keyD k) = some d → ∃ v, valV ws k = some v ∧ Dq K H v d
  | _, _, .nil, h => by cases h
  | (k0, v0) :: ws, _, .cons h0 r, h => by
    unfold findK at h
    rw [keyEq_key] at h
    unfold valV
    by_cases z : k0 = k
    · rw [if_pos (by simpa using z)] at h
      rw [List.find?_cons_of_pos (by simpa using z)]
      exact ⟨v0, rfl, Option.some.inj h ▸ h0⟩
    · rw [if_neg (by simpa using z)] at h
      rw [List.find?_cons_of_neg (by simpa using z)]
      exact dks_get r h
def pGetK (pa pk : PE') : PE' := fun ρ R => pa ρ fun x ρ1 => pk ρ1 fun y ρ2 => asK x fun kvs => asO (findK kvs y) fun d => R d ρ2
theorem sim_getK {ta tb : TE} {pa pb : PE'} (sa : Sim K ta pa) (sb : Sim K tb pb) : Sim K (tDGet ta tb) (pGetK pa pb) := fun B Z A H0 M σ H ρ R E h Q q =>
  two sa sb E h fun v w x y ρ2 H2 h2 E2 d1 d2 => by
    obtain ⟨kvs, rfl, h3⟩ := asK_of h2
    obtain ⟨d, hd, h4⟩ := asO_of h3
    obtain ⟨k, rfl⟩ := key_of hd
    cases d1 with
    | @dct a ws _ hs r =>
      obtain ⟨u, hu, du⟩ := dks_get r hd
      have ew : w = kV k := by
        cases k with
        | inl n => exact of_int d2
        | inr z => cases d2; rfl
      refine ⟨a, u, rfl, ?_, q _ _ _ _ h4 E2 du⟩
      rw [ew, ← hu]
      exact DGet.k (veil_grow _ _ _ _ hs)
/-- a dict of the def's own, returned -/
def dctD (kvs : List (Int × PyData)) : PyData := .dict (kvs.map fun kv => (.int kv.1, kv.2))
def pRetD (i : Nat) : PS' := fun G ρ => asDct (cellAt ρ i) fun kvs => G.rt (dctD kvs) ρ
theorem kvs_dks {H : Hp} : ∀ {ws : List (Key × V)} {kvs : List (Int × PyData)}, Kvs K H ws kvs → Dks K H ws (kvs.map fun kv => (.int kv.1, kv.2))
  | _, _, .nil => .nil
  | _, _, .cons h r => .cons (k := .inl _) h (kvs_dks r)
theorem s_retD {i : Nat} (hi : i ≠ 0 := by decide) : SimS K (tRet (tVar i)) (pRetD i) := fun B Z A H0 M σ H ρ D G E h C => by
  obtain ⟨kvs, hc, h⟩ := asDct_of h
  obtain ⟨l, ws, e, m, hl, r⟩ := dct_at E hc
  exact ⟨.ref l, e, C.rt M σ H ρ _ _ E h (.dct (veil_on (fun z => z.elim (E.off i l m) fun b => hi (E.inj i 0 l m (E.m0 l b))) hl) (kvs_dks (kvs_grow (hid_zb E) r)))⟩
end
end Pu
namespace Pu
open PySem L2
/-! isinstance(x, T) where it is so; a loop down a range; a key of the def's own dict; an item of the def's own list set -/
def pIsi (T : String) (pa : PE') : PE' := fun ρ R => pa ρ fun x ρ1 => tyN x = T ∧ R (.bool true) ρ1
section
variable {K : PySem.W.Frag}
theorem tyX_of {Z : Addr → Prop} {H : Hp} {v : V} {d : PyData} (h : Dq K (veil Z H) v d) : TyX K H v (.type (tyN d)) := by
  cases h with
  | non => exact .base .non
  | bl b => exact .base (.bl b)
  | int i => exact .base (.int i)
  | str x => exact .base (.str x)
  | lst h r => exact .base (.lst (veil_grow _ _ _ _ h))
  | tup h r =>
    rcases grow_t (veil_grow _ _) h with (h | ⟨o, h⟩) | ⟨o, its, n, h1, h2, _⟩
    · exact .base (.tup h)
    · exact .fTuple h
    · exact .kTuple h1 h2
  | dct h r => exact .base (.dK (veil_grow _ _ _ _ h))
theorem sim_isi {ta : TE} {pa : PE'} {T : String} (hk : PySem.W.kitOne K (.type T) (.type T) = some true) (sa : Sim K ta pa) : Sim K (tCB (rIsi K) (tCons ta (tCons (tC (.ty T)) tNil))) (pIsi T pa) := fun B Z A H0 M σ H ρ R E h Q q =>
  sa B Z A H0 M σ H ρ _ E h _ fun v x ρ1 H1 h1 E1 d1 => ⟨v, .ty T, .type T, .type T, true, rfl, .ty T, h1.1 ▸ tyX_of d1, hk, q _ _ _ _ h1.2 E1 (.bl true)⟩
/-- for x in reversed(range(a, b)) -/
def pRev (pa pb : PE') (pg : PG') (pd : PS') : PS' := fun G ρ => pa ρ fun x ρ1 => pb ρ1 fun y ρ2 => asI x fun a => asI y fun b => (-(2 ^ 62) ≤ a ∧ a < 2 ^ 62 ∧ -(2 ^ 62) ≤ b ∧ b < 2 ^ 62) ∧
  ∃ I : Nat → En → Prop, I 0 ρ2 ∧ (∀ i ρ, i < (b - a).toNat → I i ρ → pg (.int (a + (((b - a).toNat : Nat) : Int) - 1 + (i : Int) * -1)) ρ fun ρ3 => pd { G with nx := I (i + 1), ct := I (i + 1), bk := G.nx } ρ3) ∧ (∀ ρ, I (b - a).toNat ρ → G.nx ρ)
theorem s_rev {ta tb : TE} {g : TG} {td : TS} {pa pb : PE'} {pg : PG'} {pd : PS'} (sa : Sim K ta pa) (sb : Sim K tb pb) (sg : SimG K g pg) (sd : SimS K td pd) : SimS K (tFor (iRevR (tRg2 ta tb)) g td) (pRev pa pb pg pd) := fun B Z A H0 M σ H ρ D G E h C =>
  two sa sb E h fun v w x y ρ2 H2 h2 E2 d1 d2 => by
    obtain ⟨a, rfl, h3⟩ := asI_of h2
    obtain ⟨b, rfl, hb, I, i0, is, ie⟩ := asI_of h3
    rw [of_int d1, of_int d2]
    refine ⟨a, b, rfl, rfl, hb.1, hb.2.1, hb.2.2.1, hb.2.2.2, for_rangeC (fun i σ' H' => ∃ M' ρ', EnvR K B Z (veil (hid Z M) H2) H0 M' σ' H' ρ' ∧ I i ρ') ⟨M, ρ2, E2.anchor, i0⟩ (fun i σ' H' hlt ⟨M', ρ', E', hI⟩ => ?_)
      fun σ' H' ⟨M', ρ', E', hI⟩ => C.nx M' σ' H' ρ' (E'.weak E2.anch) (ie ρ' hI)⟩
    exact sg B Z _ H0 M' σ' H' ρ' _ _ _ E' (.int _) (is i ρ' (by omega) hI) _ fun σ2 ρ3 hR E3 => sd B Z _ H0 M' σ2 H' ρ3 _ _ E3 hR
      ⟨fun M σ H ρ E h => ⟨M, ρ, E, h⟩, fun M σ H ρ E h => C.nx M σ H ρ (E.weak E2.anch) h, fun M σ H ρ E h => ⟨M, ρ, E, h⟩, fun M σ H ρ v d E h k => C.rt M σ H ρ v d (E.weak E2.anch) h k⟩
/-- d[k] of a dict of the def's own, with an int key that is there -/
def pGetO (i : Nat) (pk : PE') : PE' := fun ρ R => asDct (cellAt ρ i) fun _ => pk ρ fun k ρ1 => asI k fun n => asDct (cellAt ρ1 i) fun kvs => asO (getA kvs n) fun d => R d ρ1
theorem sim_getO {i : Nat} {tk : TE} {pk : PE'} (sk : Sim K tk pk) : Sim K (tDGet (tVar i) tk) (pGetO i pk) := fun B Z A H0 M σ H ρ R E h Q q => by
  obtain ⟨kvs, hc, h⟩ := asDct_of h
  obtain ⟨l, ws, e, m, hl, r⟩ := dct_at E hc
  refine ⟨.ref l, e, sk B Z A H0 M σ H ρ _ E h _ fun w y ρ1 H1 h1 E1 d1 => ?_⟩
  obtain ⟨n, rfl, h2⟩ := asI_of h1
  rw [of_int d1]
  obtain ⟨kvs1, hc1, h3⟩ := asDct_of h2
  obtain ⟨l1, ws1, e1, m1, hl1, r1⟩ := dct_at E1 hc1
  rw [m] at m1
  cases m1
  obtain ⟨d, hd, h4⟩ := asO_of h3
  rcases kvs_get (n := n) r1 with ⟨z, _⟩ | ⟨d2, u, hd2, hu, du⟩
  · rw [z] at hd
    cases hd
  · rw [hd2] at hd
    cases hd
    refine ⟨l, u, rfl, ?_, q _ _ _ _ h4 E1 du⟩
    rw [← hu]
    exact DGet.k (k := .inl n) hl1
/-- xs[i] = e of a list of the def's own -/
def pSetI (i : Nat) (pb pv : PE') : PS' := fun G ρ => pv ρ fun w ρ1 => asOwn (cellAt ρ1 i) fun _ => pb ρ1 fun y ρ2 => asI y fun j => asOwn (cellAt ρ2 i) fun ds => ∃ m, ixN ds.length j = some m ∧ G.nx (cellSet ρ2 i (.own (ds.set m w)))
theorem s_setI {i : Nat} {tb tv : TE} {pb pv : PE'} (sb : Sim K tb pb) (sv : Sim K tv pv) : SimS K (tAsg tv (gSub (tVar i) tb L2.rSetL)) (pSetI i pb pv) := fun B Z A H0 M σ H ρ D G E h C =>
  sv B Z A H0 M σ H ρ _ E h _ fun w d ρ1 H1 h1 E1 d1 => by
    obtain ⟨ds, hc, h2⟩ := asOwn_of h1
    obtain ⟨l, vs, e, m, hl, r⟩ := own_at E1 hc
    refine ⟨.ref l, e, sb B Z _ H0 M σ H1 ρ1 _ E1.anchor h2 _ fun u y ρ2 H2 h3 E2 d2 => ?_⟩
    obtain ⟨j, rfl, h4⟩ := asI_of h3
    rw [of_int d2]
    obtain ⟨ds2, hc2, n, hn, h6⟩ := asOwn_of h4
    obtain ⟨l2, vs2, e2, m2, hl2, r2⟩ := own_at E2 hc2
    rw [m] at m2
    cases m2
    refine ⟨l, vs2, j, n, rfl, rfl, hl2, by rw [dqs_len r2]; exact hn, ?_⟩
    exact C.nx M σ _ _ ((E2.weak E1.anch).putO (by rw [e2]; rfl) m (dqs_setA (dp_grow E2.anch _ _ d1) n r2) (by rw [hc2]; intro z; cases z)) h6
end
end Pu
namespace Pu
open PySem L2
/-- xs.index(y) of a list of ints that has it -/
def pIndex (pa pb : PE') : PE' := fun ρ R => pa ρ fun x ρ1 => asL x fun ds => pb ρ1 fun y ρ2 => ∃ (ns : List Int) (n : Int) (j : Nat), ds = ns.map PyData.int ∧ y = .int n ∧ ns[j]? = some n ∧ (∀ m z, m < j → ns[m]? = some z → ¬ z = n) ∧ R (.int (j : Nat)) ρ2
section
variable {K : PySem.W.Frag}
theorem flat_ints : ∀ ns : List Int, (ns.map V.int).all flatV = true
  | [] => rfl
  | _ :: ns => flat_ints ns
theorem sim_index {ta tb : TE} {pa pb : PE'} (sa : Sim K ta pa) (sb : Sim K tb pb) : Sim K (tBM K "list" (rIndex K) ta (tCons tb tNil)) (pIndex pa pb) := fun B Z A H0 M σ H ρ R E h Q q =>
  sa B Z A H0 M σ H ρ _ E h _ fun v x ρ1 H1 h1 E1 d1 => by
    obtain ⟨ds, rfl, h2⟩ := asL_of h1
    cases d1 with
    | @lst a vs _ hs r =>
      refine ⟨.inl ⟨rfl, vs, .of (veil_grow _ _ _ _ hs)⟩, sb B Z _ H0 M σ H1 ρ1 _ E1.anchor h2 _ fun w y ρ2 H2 h3 E2 d2 => ?_⟩
      obtain ⟨ns, n, j, rfl, rfl, hj, hm, h4⟩ := h3
      have ev := dqs_of_ints r
      subst ev
      rw [of_int d2]
      refine ⟨a, ns.map V.int, .int n, j, .int n, rfl, rfl, .of (veil_grow _ _ _ _ (E2.anch _ _ hs)), rfl, flat_ints ns, by rw [List.getElem?_map, hj]; rfl, by simp [eqV], fun m z' hlt hz => ?_, q _ _ _ _ h4 (E2.weak E1.anch) (.int _)⟩
      rw [List.getElem?_map] at hz
      cases e : ns[m]? with
      | none =>
        rw [e] at hz
        cases hz
      | some z =>
        rw [e] at hz
        have hz : V.int z = z' := Option.some.inj hz
        subst hz
        have ne := hm m z hlt e
        simp [eqV, ne]
theorem sim_lcR2 {ta : TA} {g : TG} {tt : TT} {te : TE} {vs is : List Nat} {pa : PA'} {pg : PG'} {pt : PT'} {pe : PE'} (sa : SimA K ta pa) (sg : SimGV K vs g pg) (st : SimT K tt pt) (se : Sim K te pe) (hn : ∀ ρ R, pa ρ R → pa ρ fun x ρ1 => x.length = 2 ∧ R x ρ1) :
    SimL K (tLc (iRng2 ta) g tt te vs) (pLcR vs is pa pg pt pe) := fun B Z A H0 M σ H ρ R E ⟨hv, h⟩ Q q =>
  sa B Z A H0 M σ H ρ _ E (hn _ _ h) _ fun us x ρ1 H1 ⟨hx, e1, lo, hi, hx2, hb, I, i0, is, ie⟩ E1 d1 => by
    subst e1
    rcases hx2 with ⟨rfl, rfl⟩ | rfl
    · exact absurd hx (by simp)
    · have e : us = [.int lo, .int hi] := dqs_of_ints (ns := [lo, hi]) d1
      subst e
      refine ⟨lo, hi, rfl, hb, fun D hD => ?_⟩
      obtain ⟨h0, nB, nZ⟩ := lc_start E1 hD
      refine lc_range (lo := lo) (n := (hi - lo).toNat) (fun i H' => ∃ va acc, EnvR K B (plus Z D) (veil (hid Z M) H1) H0 M (wipe σ vs) H' ρ1 ∧ H' D = some (.lst va) ∧ Dqs K (veil (hid (plus Z D) M) H') va acc ∧ I i acc) ⟨[], [], E1.enter hv hD, upd_same, .nil, i0⟩
        (fun i H' hlt ⟨va, acc, E', hd', ra, hI⟩ => lc_turn sg st se E' hv hd' h0 nB (.int _) ra wipe_wipe (is i acc (by omega) hI) fun H2 va' acc' E2 h2 r2 y2 => ⟨va', acc', E2, h2, r2, y2⟩) fun H' ⟨va, acc, E', hd', ra, hI⟩ => ?_
      have z := q D va acc ρ1 (wiped H' D) (ie acc hI) (E'.leave E1.anch h0 nZ) wiped_at (dps_grow veil_in _ _ ra)
      rw [wiped_upd hd'] at z
      exact z
end
end Pu
namespace Pu
open PySem L2
/-- a, b = x, y -/
def two2 (ds : List PyData) (k : PyData → PyData → Prop) : Prop := match ds with
  | [x, y] => k x y
  | _ => False
theorem two2_of {ds : List PyData} {k : PyData → PyData → Prop} (h : two2 ds k) : ∃ x y, ds = [x, y] ∧ k x y := by
  unfold two2 at h
  split at h
  · exact ⟨_, _, rfl, h⟩
  · exact h.elim
def pPar (i j : Nat) (pa : PA') : PS' := fun G ρ => pa ρ fun ds ρ1 => two2 ds fun x y => G.nx (cellSet (cellSet ρ1 i (.d x)) j (.d y))
section
variable {K : PySem.W.Frag}
theorem s_par {i j : Nat} {ta : TA} {pa : PA'} (sa : SimA K ta pa) : SimS K (tPar i j ta) (pPar i j pa) := fun B Z A H0 M σ H ρ D G E h C =>
  sa B Z A H0 M σ H ρ _ E h _ fun vs ds ρ1 H1 h1 E1 d1 => by
    obtain ⟨x, y, rfl, h2⟩ := two2_of h1
    obtain ⟨v, w, rfl, dv, dw⟩ := two_of d1
    refine ⟨v, w, rfl, ?_⟩
    exact g_name (i := i) B Z A H0 M σ H1 ρ1 v x (fun ρ2 => ρ2 = cellSet ρ1 i (.d x)) E1 dv rfl (fun σ2 _ => D.nx (σ2.set j (some w)) H1) fun σ2 ρ2 e E2 => by
      subst e
      exact g_name (i := j) B Z A H0 M σ2 H1 _ w y (fun ρ3 => G.nx ρ3) E2 dw h2 (fun σ3 _ => D.nx σ3 H1) fun σ3 ρ3 hR E3 => C.nx M σ3 H1 ρ3 E3 hR
end
end Pu
namespace Cal
open Pr
theorem cdiv_cycle {d L : Int} (hd : 1 ≤ d) (h : d ∣ L) (y c : Int) : cdiv (c * L + y) d = c * cdiv L d + cdiv y d := by
  obtain ⟨q, rfl⟩ := h
  unfold cdiv
  have e1 : -(d * q) / d = -q := by rw [← Int.mul_neg, Int.mul_ediv_cancel_left _ (by omega)]
  have e2 : -(c * (d * q) + y) / d = -(c * q) + -y / d := by
    rw [show -(c * (d * q) + y) = -y + d * -(c * q) by rw [Int.neg_add, Int.add_comm, Int.mul_neg, Int.mul_left_comm], Int.add_mul_ediv_left _ _ (by omega)]
    omega
  rw [e1, e2, Int.neg_neg, Int.neg_add, Int.neg_neg]
theorem longs_cycle {L : Int} : ∀ {ts : Terms}, (∀ x ∈ ts.map (·.1), 1 ≤ x ∧ x ∣ L) → ∀ y c : Int, longs (c * L + y) ts = c * longs L ts + longs y ts
  | [], _, y, c => by simp [longs]
  | p :: r, h, y, c => by
    have h1 := h p.1 (by simp)
    have ih := longs_cycle (ts := r) (fun x hx => h x (by rw [List.map_cons]; exact List.mem_cons_of_mem _ hx)) y c
    show p.2 * cdiv (c * L + y) p.1 + longs (c * L + y) r = c * (p.2 * cdiv L p.1 + longs L r) + (p.2 * cdiv y p.1 + longs y r)
    rw [ih, cdiv_cycle h1.1 h1.2, Int.mul_add, Int.mul_add, Int.mul_left_comm p.2 c]
    omega
theorem yb_cycle {rs : Rules} (hr : RulesIn rs) (days extra c y : Int) : yb days extra rs (c * cyc rs + y) = c * yb days extra rs (cyc rs) + yb days extra rs y := by
  have gd : Good (cyc rs) (longTerms rs) := terms_good fun x hx => ⟨(hr.2 x hx).1, cyc_dvd hx⟩
  unfold yb
  rw [longs_cycle (L := cyc rs) (fun x hx => ⟨gd.pos x hx, gd.dvd x hx⟩), Int.mul_add, Int.mul_add, Int.mul_add, Int.mul_left_comm days c, Int.mul_left_comm extra c]
  omega
theorem yb_step {rs : Rules} (hr : RulesIn rs) {days extra : Int} (he : 0 ≤ extra) (y : Int) : yb days extra rs y + days ≤ yb days extra rs (y + 1) := by
  have e := yb_succ (L := cyc rs) (days := days) (extra := extra) (rs := rs) (fun x hx => ⟨(hr.2 x hx).1, cyc_dvd hx⟩) y
  have b0 : 0 ≤ extra * b2 (isLong rs y) := by
    unfold b2
    split
    · omega
    · omega
  omega
theorem yb_up {rs : Rules} (hr : RulesIn rs) {days extra : Int} (hd : 1 ≤ days) (he : 0 ≤ extra) (y : Int) : ∀ n : Nat, yb days extra rs y + n ≤ yb days extra rs (y + n)
  | 0 => by simp
  | n + 1 => by
    have ih := yb_up hr hd he y n
    have s := yb_step hr (days := days) he (y + n)
    have c1 : y + ((n + 1 : Nat) : Int) = y + n + 1 := by omega
    rw [c1]
    omega
theorem yb_le {rs : Rules} (hr : RulesIn rs) {days extra : Int} (hd : 1 ≤ days) (he : 0 ≤ extra) {y z : Int} (h : y ≤ z) : yb days extra rs y ≤ yb days extra rs z := by
  have q := yb_up hr hd he y (z - y).toNat
  have e : y + ((z - y).toNat : Int) = z := by omega
  rw [e] at q
  omega
end Cal
namespace Pr
open PySem L2 Pu Cal
structure Calp where
  ms : List Int
  longer : Int
  extra : Int
  rs : Rules
  week : Int
  first : Int
  minutes : Int
def calD (c : Calp) : PyData := .tuple [.tuple (c.ms.map PyData.int), .int c.longer, .int c.extra, rulesD c.rs, .int c.week, .int c.first, .int c.minutes]
structure Calp.Ok (c : Calp) : Prop where
  m1 : 1 ≤ c.ms.length
  m2 : c.ms.length ≤ 24
  mo : ∀ x ∈ c.ms, 1 ≤ x ∧ x ≤ 60
  l1 : 1 ≤ c.longer
  l2 : c.longer ≤ (c.ms.length : Nat)
  x1 : 0 ≤ c.extra
  x2 : c.extra ≤ 30
  rs : RulesIn c.rs
  w1 : 1 ≤ c.week
  w2 : c.week ≤ 14
  f1 : 0 ≤ c.first
  f2 : c.first < c.week
  gr : great c.ms c.extra c.rs c.week ≤ 400000
  cy : cyc c.rs < 1073741824
/-- the first day of a year -/
def Calp.yb (c : Calp) (y : Int) : Int := Cal.yb c.ms.sum c.extra c.rs y
/-- the days of a year's months -/
def Calp.mdays (c : Calp) (y : Int) : List Int := if isLong c.rs y then c.ms.set (c.longer - 1).toNat (c.ms.getD (c.longer - 1).toNat 0 + c.extra) else c.ms
/-- the days of the months ahead of one -/
def Calp.ahead (c : Calp) (y : Int) (m : Nat) : Int := ((c.mdays y).take m).sum
def Calp.date (c : Calp) (y : Int) (m : Nat) (n : Int) : Prop := ∃ x, (c.mdays y)[m]? = some x ∧ 1 ≤ n ∧ n ≤ x
def S_is_long : FS := fun ds k => match ds with
  | [x, .int y] => ∃ c : Calp, x = calD c ∧ c.Ok ∧ k (.bool (isLong c.rs y))
  | _ => False
def S_month_days : FS := fun ds k => match ds with
  | [x, .int y] => ∃ c : Calp, x = calD c ∧ c.Ok ∧ k (.list ((c.mdays y).map PyData.int))
  | _ => False
def S_year_of : FS := fun ds k => match ds with
  | [x, .int t] => ∃ c : Calp, x = calD c ∧ c.Ok ∧ ∀ y, c.yb y ≤ t → t < c.yb (y + 1) → k (.int y)
  | _ => False
def S_day_of : FS := fun ds k => match ds with
  | [x, .int y, .int m, .int n] => ∃ c : Calp, x = calD c ∧ c.Ok ∧ 1 ≤ m ∧ c.date y (m - 1).toNat n ∧ k (.int (c.yb y + c.ahead y (m - 1).toNat + n - 1))
  | _ => False
def S_date_of : FS := fun ds k => match ds with
  | [x, .int t] => ∃ c : Calp, x = calD c ∧ c.Ok ∧ ∀ y (m : Nat) n, c.date y m n → t = c.yb y + c.ahead y m + n - 1 → k (.tuple [.int y, .int (m + 1), .int n])
  | _ => False
-- is_long: ['calendar', 'year', 'long', 'divisor', 'yes']
abbrev N_is_long : List Str := ["calendar", "year", "long", "divisor", "yes"]
def p_is_long : PS' := (pSeq (pAsg (pC (.bool false)) (pgN 2))
      (pSeq (pFor (pTO (pIx (pVar 0) (pC (.int 3)))) (pgT [3, 4]) (pIfS (pTst (pEqD false (pIIc (fun _ j => 0 < j) (fun i j => .int (i % j)) (pVar 1) (pVar 3)) (pC (.int 0)))) (pAsg (pVar 4) (pgN 2)) pNext))
      (pRet (pVar 2))))
-- _year_of: ['calendar', 'day', 'shape', 'years', 'cycles', 'rest', 'low', 'high', 'middle']
abbrev N_year_of : List Str := ["calendar", "day", "shape", "years", "cycles", "rest", "low", "high", "middle"]
def p_year_of : PS' := (pSeq (pAsg (pCall 1 S_shape_of (pCons (pVar 0) pNil)) (pgN 2))
      (pSeq (pAsg (pCall 1 S_cycle_years (pCons (pVar 0) pNil)) (pgN 3))
      (pSeq (pAsg (pFn fDivmod (pCons (pVar 1) (pCons (pCall 2 S_year_begin (pCons (pVar 2) (pCons (pVar 3) pNil))) pNil))) (pgT [4, 5]))
      (pSeq (pPar 6 7 (pCons (pIIc CDiv (fun i j => .int (i / j)) (pVar 5) (pPlus (pIx (pVar 2) (pC (.int 0))) (pIx (pVar 2) (pC (.int 1))))) (pCons (pPlus (pIIc CDiv (fun i j => .int (i / j)) (pVar 5) (pIx (pVar 2) (pC (.int 0)))) (pC (.int 1))) pNil)))
      (pSeq (pWhile (pTst (pII (fun i j => .bool (decide (j < i))) (pII (fun i j => .int (i - j)) (pVar 7) (pVar 6)) (pC (.int 1)))) (pSeq (pAsg (pIIc CDiv (fun i j => .int (i / j)) (pPlus (pVar 6) (pVar 7)) (pC (.int 2))) (pgN 8))
      (pIfS (pTst (pII (fun i j => .bool (decide (i ≤ j))) (pCall 2 S_year_begin (pCons (pVar 2) (pCons (pVar 8) pNil))) (pVar 5))) (pAsg (pVar 8) (pgN 6)) (pAsg (pVar 8) (pgN 7)))))
      (pRet (pPlus (pIIc CMul (fun i j => .int (i * j)) (pVar 4) (pVar 3)) (pVar 6))))))))
-- _month_days: ['calendar', 'year', 'days']
abbrev N_month_days : List Str := ["calendar", "year", "days"]
def p_month_days : PS' := (pSeq (pAsgO (pListOf (pIx (pVar 0) (pC (.int 0)))) 2)
      (pSeq (pIfS (pTst (pCall 2 S_is_long (pCons (pVar 0) (pCons (pVar 1) pNil)))) (pAugI 2 (fun i j => i + j) (pII (fun i j => .int (i - j)) (pIx (pVar 0) (pC (.int 1))) (pC (.int 1))) (pIx (pVar 0) (pC (.int 2)))) pNext)
      (pRetO 2)))
-- day_of: ['calendar', 'year', 'month', 'number', 'days']
abbrev N_day_of : List Str := ["calendar", "year", "month", "number", "days"]
def p_day_of : PS' := (pSeq (pAsg (pCall 2 S_month_days (pCons (pVar 0) (pCons (pVar 1) pNil))) (pgN 4))
      (pSeq (pIfS (pOr (pNot (pTst (pChain (fun i j => decide (i ≤ j)) (fun i j => decide (i ≤ j)) (pC (.int 1)) (pVar 2) (pFn fLen (pCons (pVar 4) pNil))))) (pNot (pTst (pChain (fun i j => decide (i ≤ j)) (fun i j => decide (i ≤ j)) (pC (.int 1)) (pVar 3) (pIx (pVar 4) (pII (fun i j => .int (i - j)) (pVar 2) (pC (.int 1)))))))) pDead pNext)
      (pRet (pII (fun i j => .int (i - j)) (pPlus (pPlus (pCall 2 S_year_begin (pCons (pCall 1 S_shape_of (pCons (pVar 0) pNil)) (pCons (pVar 1) pNil))) (pFn fSum (pCons (pCut (pVar 4) pNoP (pPart (pII (fun i j => .int (i - j)) (pVar 2) (pC (.int 1))))) pNil))) (pVar 3)) (pC (.int 1))))))
-- date_of: ['calendar', 'day', 'year', 'rest', 'month', 'days']
abbrev N_date_of : List Str := ["calendar", "day", "year", "rest", "month", "days"]
def p_date_of : PS' := (pSeq (pAsg (pCall 2 S_year_of (pCons (pVar 0) (pCons (pVar 1) pNil))) (pgN 2))
      (pSeq (pAsg (pII (fun i j => .int (i - j)) (pVar 1) (pCall 2 S_year_begin (pCons (pCall 1 S_shape_of (pCons (pVar 0) pNil)) (pCons (pVar 2) pNil)))) (pgN 3))
      (pSeq (pAsg (pC (.int 1)) (pgN 4))
      (pSeq (pFor (pLO (pCall 2 S_month_days (pCons (pVar 0) (pCons (pVar 2) pNil)))) (pgN 5) (pSeq (pIfS (pTst (pII (fun i j => .bool (decide (i < j))) (pVar 3) (pVar 5))) pBrk pNext)
      (pSeq (pAug 3 (fun i j => i - j) (pVar 5))
      (pAug 4 (fun i j => i + j) (pC (.int 1))))))
      (pRet (pTup (pCons (pVar 2) (pCons (pVar 4) (pCons (pPlus (pVar 3) (pC (.int 1))) pNil)))))))))
theorem sum_pos {c : Calp} (h : c.Ok) : 1 ≤ c.ms.sum ∧ c.ms.sum ≤ 1440 := by
  obtain ⟨s1, s2⟩ := sum_bound h.mo
  have := h.m1
  have := h.m2
  omega
theorem pure_is_long (ds : List PyData) (c : PyData → Prop) (hl : ds.length = 2) (h : S_is_long ds c) : p_is_long (fin c) (startE N_is_long ds) := by
  unfold S_is_long at h
  split at h
  · rename_i x y
    obtain ⟨q, rfl, ok, h⟩ := h
    refine ⟨fun j ρ => ∃ o3 o4 : Cell, ρ = [.d (calD q), .d (.int y), .d (.bool ((q.rs.take j).foldl (longStep y) false)), o3, o4], ⟨_, _, rfl⟩, ?_, ?_⟩
    · rintro j d ρ hd ⟨o3, o4, rfl⟩
      obtain ⟨r, hrj, rfl⟩ := rule_at hd
      have br := ok.rs.2 r (List.mem_of_getElem? hrj)
      have en : (q.rs.take (j + 1)).foldl (longStep y) false = longStep y ((q.rs.take j).foldl (longStep y) false) r := by
        rw [take_snoc hrj, List.foldl_append]
        rfl
      refine ⟨rfl, by show 0 < r.1; omega, rfl, rfl, ?_⟩
      show (if PyData.eqv (.int (y % r.1)) (.int 0) = true then _ else _)
      rw [eqv_int]
      refine ifd (fun z => ?_) (fun z => ?_)
      · refine ⟨.d (.int r.1), .d (.bool r.2), ?_⟩
        rw [en]
        unfold longStep
        rw [if_pos z]
        rfl
      · refine ⟨.d (.int r.1), .d (.bool r.2), ?_⟩
        rw [en]
        unfold longStep
        rw [if_neg z]
        rfl
    · rintro ρ ⟨o3, o4, rfl⟩
      have el : (q.rs.take (q.rs.map ruleD).length).foldl (longStep y) false = isLong q.rs y := by
        rw [List.length_map, List.take_length]
        rfl
      show c (.bool ((q.rs.take (q.rs.map ruleD).length).foldl (longStep y) false))
      rw [el]
      exact h
  · exact h.elim
theorem pure_month_days (ds : List PyData) (c : PyData → Prop) (hl : ds.length = 2) (h : S_month_days ds c) : p_month_days (fin c) (startE N_month_days ds) := by
  unfold S_month_days at h
  split at h
  · rename_i x y
    obtain ⟨q, rfl, ok, h⟩ := h
    refine ⟨by decide, rfl, q, rfl, ok, ?_⟩
    show (if isLong q.rs y = true then _ else _)
    refine tf (fun z => ?_) (fun z => ?_)
    · obtain ⟨n, hn⟩ : ∃ n : Nat, q.longer - 1 = n := ⟨(q.longer - 1).toNat, by have := ok.l1; omega⟩
      have hlt : n < q.ms.length := by have := ok.l2; omega
      have hget : q.ms[n]? = some q.ms[n] := List.getElem?_eq_getElem hlt
      refine oSome (d := .int q.ms[n]) ?_ ⟨n, ?_, ?_⟩
      · show atI (q.ms.map PyData.int) (q.longer - 1) = _
        rw [hn]
        exact atI_nat (by rw [List.getElem?_map, hget]; rfl)
      · show ixN (q.ms.map PyData.int).length (q.longer - 1) = _
        rw [hn]
        unfold ixN
        rw [List.length_map, if_pos (by omega), if_pos (by omega)]
        rfl
      · have e : (q.longer - 1).toNat = n := by omega
        unfold Calp.mdays at h
        rw [if_pos z, e] at h
        have g : q.ms.getD n 0 = q.ms[n] := by rw [List.getD_eq_getElem?_getD, hget]; rfl
        rw [g, List.map_set] at h
        exact h
    · unfold Calp.mdays at h
      rw [if_neg (by rw [z]; decide)] at h
      exact h
  · exact h.elim
theorem yb_pos {q : Calp} (ok : q.Ok) : 1 ≤ q.yb (cyc q.rs) ∧ q.yb (cyc q.rs) ≤ 400000 := by
  have L := (cyc_18 ok.rs).1
  obtain ⟨s1, s2⟩ := sum_pos ok
  obtain ⟨y1, y2⟩ := yb_cyc ok.rs (days := q.ms.sum) (extra := q.extra) (by omega) ok.x1
  have y3 : (1 : Int) * 1 ≤ q.ms.sum * cyc q.rs := Int.mul_le_mul s1 L (by omega) (by omega)
  have p1 : 1 ≤ q.yb (cyc q.rs) := by
    show 1 ≤ Cal.yb q.ms.sum q.extra q.rs (cyc q.rs)
    omega
  refine ⟨p1, ?_⟩
  have d : q.yb (cyc q.rs) ∣ great q.ms q.extra q.rs q.week := dvd_lcm_l
  have g1 : 1 ≤ great q.ms q.extra q.rs q.week := lcm_pos p1 ok.w1
  have := Int.le_of_dvd (by omega) d
  have := ok.gr
  omega
theorem pure_year_of (ds : List PyData) (c : PyData → Prop) (hl : ds.length = 2) (h : S_year_of ds c) : p_year_of (fin c) (startE N_year_of ds) := by
  unfold S_year_of at h
  split at h
  · rename_i x t
    obtain ⟨q, rfl, ok, h⟩ := h
    obtain ⟨s1, s2⟩ := sum_pos ok
    obtain ⟨L1, L2⟩ := yb_pos ok
    have C1 := (cyc_18 ok.rs).1
    obtain ⟨t1, t2⟩ := terms_in ok.rs ok.cy
    have x1 := ok.x1
    have x2 := ok.x2
    have ybE : ∀ y : Int, q.ms.sum * y + q.extra * longs y (longTerms q.rs) = q.yb y := fun _ => rfl
    refine ⟨rfl, q.ms, q.rs, rfl, rfl, ok.rs, rfl, q.rs, rfl, ok.rs, ?_⟩
    refine ⟨rfl, longTerms q.rs, rfl, t1, t2, by omega, by omega, ?_⟩
    refine ⟨⟨by rw [ybE]; omega, by rw [ybE]; omega⟩, ?_⟩
    rw [ybE]
    obtain ⟨L, hL⟩ : ∃ L, L = q.yb (cyc q.rs) := ⟨_, rfl⟩
    rw [← hL] at L1 L2 ⊢
    have r0 := Int.emod_nonneg t (show L ≠ 0 by omega)
    have r1 := Int.emod_lt_of_pos t (show 0 < L by omega)
    have rt := Int.mul_ediv_add_emod t L
    obtain ⟨a, ha⟩ : ∃ a, a = t / L := ⟨_, rfl⟩
    obtain ⟨r, hr⟩ : ∃ r, r = t % L := ⟨_, rfl⟩
    rw [← ha, ← hr] at rt
    rw [← hr] at r0 r1
    rw [← ha, ← hr]
    refine ⟨rfl, ⟨by omega, by omega⟩, ⟨by omega, by omega⟩, ?_⟩
    have i1 := Int.mul_ediv_add_emod r (q.ms.sum + q.extra)
    have i2 := Int.emod_nonneg r (show q.ms.sum + q.extra ≠ 0 by omega)
    have i3 := Int.mul_ediv_add_emod r q.ms.sum
    have i4 := Int.emod_lt_of_pos r (show 0 < q.ms.sum by omega)
    have i5 := Int.ediv_nonneg r0 (show 0 ≤ q.ms.sum + q.extra by omega)
    have i6 := Int.ediv_nonneg r0 (show 0 ≤ q.ms.sum by omega)
    have init1 : q.yb (r / (q.ms.sum + q.extra)) ≤ r := by
      obtain ⟨n, hn⟩ : ∃ n : Nat, r / (q.ms.sum + q.extra) = n := ⟨(r / (q.ms.sum + q.extra)).toNat, by omega⟩
      have b := (yb_bound ok.rs (days := q.ms.sum) (extra := q.extra) (by omega) x1 n).2
      rw [hn] at i1 ⊢
      show Cal.yb _ _ _ _ ≤ r
      omega
    have init2 : r < q.yb (r / q.ms.sum + 1) := by
      obtain ⟨n, hn⟩ : ∃ n : Nat, r / q.ms.sum + 1 = n := ⟨(r / q.ms.sum + 1).toNat, by omega⟩
      have b := (yb_bound ok.rs (days := q.ms.sum) (extra := q.extra) (by omega) x1 n).1
      have e : q.ms.sum * (r / q.ms.sum + 1) = q.ms.sum * (r / q.ms.sum) + q.ms.sum := by rw [Int.mul_add, Int.mul_one]
      rw [hn] at e ⊢
      show r < Cal.yb _ _ _ _
      omega
    have mono : ∀ {y z : Int}, q.yb y < q.yb z → y < z := fun {y z} hlt => by
      by_cases c : y < z
      · exact c
      · have := yb_le ok.rs (days := q.ms.sum) (extra := q.extra) s1 x1 (show z ≤ y by omega)
        have e1 : Cal.yb q.ms.sum q.extra q.rs z = q.yb z := rfl
        have e2 : Cal.yb q.ms.sum q.extra q.rs y = q.yb y := rfl
        omega
    refine ⟨fun w ρ => ∃ (lo hi : Int) (o8 : Cell), ρ = [.d (calD q), .d (.int t), .d (.tuple [.int q.ms.sum, .int q.extra, termsD (longTerms q.rs)]), .d (.int (cyc q.rs)), .d (.int a), .d (.int r), .d (.int lo), .d (.int hi), o8] ∧ q.yb lo ≤ r ∧ r < q.yb hi ∧ w = (hi - lo).toNat, ⟨_, _, _, _, rfl, init1, init2, rfl⟩, ?_⟩
    rintro w ρ ⟨lo, hi, o8, rfl, b1, b2, rfl⟩
    have lt := mono (Int.lt_of_le_of_lt b1 b2)
    show (if decide ((1 : Int) < hi - lo) = true then _ else _)
    refine ifd (fun z => ?_) (fun z => ?_)
    · refine ⟨⟨by decide, by decide⟩, rfl, longTerms q.rs, rfl, t1, t2, by omega, by omega, ?_⟩
      show (if decide (q.yb ((lo + hi) / 2) ≤ r) = true then _ else _)
      have m1 : lo < (lo + hi) / 2 := by omega
      have m2 : (lo + hi) / 2 < hi := by omega
      refine ifd (fun z2 => ?_) (fun z2 => ?_)
      · exact ⟨(hi - (lo + hi) / 2).toNat, by omega, (lo + hi) / 2, hi, .d (.int ((lo + hi) / 2)), rfl, z2, b2, rfl⟩
      · exact ⟨((lo + hi) / 2 - lo).toNat, by omega, lo, (lo + hi) / 2, .d (.int ((lo + hi) / 2)), rfl, b1, by omega, rfl⟩
    · have eh : hi = lo + 1 := by omega
      subst eh
      have p1 : q.yb (a * cyc q.rs + lo) = a * L + q.yb lo := by
        rw [hL]
        exact yb_cycle ok.rs _ _ a lo
      have p2 : q.yb (a * cyc q.rs + lo + 1) = a * L + q.yb (lo + 1) := by
        rw [hL, Int.add_assoc]
        exact yb_cycle ok.rs _ _ a (lo + 1)
      have cm := Int.mul_comm L a
      have cy := ok.cy
      refine ⟨.inr ⟨by omega, by omega⟩, ?_⟩
      exact h _ (by omega) (by omega)
  · exact h.elim
end Pr
namespace Pr
open PySem L2 Pu Cal
theorem mdays_len (q : Calp) (y : Int) : (q.mdays y).length = q.ms.length := by
  unfold Calp.mdays
  split
  · rw [List.length_set]
  · rfl
theorem sum_set : ∀ {l : List Int} {i : Nat} {v : Int}, i < l.length → (l.set i v).sum = l.sum - l.getD i 0 + v
  | a :: l, 0, v, _ => by
    rw [List.set_cons_zero, List.sum_cons, List.sum_cons]
    show v + l.sum = a + l.sum - a + v
    omega
  | a :: l, i + 1, v, h => by
    rw [List.set_cons_succ, List.sum_cons, List.sum_cons, sum_set (l := l) (i := i) (v := v) (by simpa using h)]
    show a + (l.sum - l.getD i 0 + v) = a + l.sum - l.getD i 0 + v
    omega
theorem mdays_sum {q : Calp} (ok : q.Ok) (y : Int) : (q.mdays y).sum = q.ms.sum + q.extra * b2 (isLong q.rs y) := by
  unfold Calp.mdays b2
  have l1 := ok.l1
  have l2 := ok.l2
  split
  · rw [sum_set (by omega)]
    omega
  · omega
theorem mdays_pos {q : Calp} (ok : q.Ok) (y : Int) : ∀ x ∈ q.mdays y, 1 ≤ x ∧ x ≤ 90 := by
  intro x hx
  have x1 := ok.x1
  have x2 := ok.x2
  unfold Calp.mdays at hx
  have ge : ∀ i : Nat, 0 ≤ q.ms.getD i 0 ∧ q.ms.getD i 0 ≤ 60 ∧ (i < q.ms.length → 1 ≤ q.ms.getD i 0) := fun i => by
    rw [List.getD_eq_getElem?_getD]
    by_cases h : i < q.ms.length
    · rw [List.getElem?_eq_getElem h]
      have := ok.mo _ (List.getElem_mem h)
      show 0 ≤ q.ms[i] ∧ q.ms[i] ≤ 60 ∧ _
      exact ⟨by omega, this.2, fun _ => this.1⟩
    · rw [List.getElem?_eq_none (by omega)]
      exact ⟨Int.le_refl 0, by decide, fun z => absurd z h⟩
  split at hx
  · have l1 := ok.l1
    have l2 := ok.l2
    rcases List.mem_or_eq_of_mem_set hx with h | rfl
    · have := ok.mo x h
      omega
    · have := ge (q.longer - 1).toNat
      have := this.2.2 (by omega)
      omega
  · have := ok.mo x hx
    omega
theorem yb_next {q : Calp} (ok : q.Ok) (y : Int) : q.yb (y + 1) = q.yb y + (q.mdays y).sum := by
  rw [mdays_sum ok]
  exact yb_succ (L := cyc q.rs) (fun x hx => ⟨(ok.rs.2 x hx).1, cyc_dvd hx⟩) y
theorem ahead_succ {q : Calp} {y : Int} {m : Nat} {x : Int} (h : (q.mdays y)[m]? = some x) : q.ahead y (m + 1) = q.ahead y m + x := by
  unfold Calp.ahead
  rw [take_snoc h, List.sum_append]
  simp
theorem pure_date_of (ds : List PyData) (c : PyData → Prop) (hl : ds.length = 2) (h : S_date_of ds c) : p_date_of (fin c) (startE N_date_of ds) := by
  unfold S_date_of at h
  split at h
  · rename_i x t
    obtain ⟨q, rfl, ok, h⟩ := h
    obtain ⟨s1, s2⟩ := sum_pos ok
    obtain ⟨t1, t2⟩ := terms_in ok.rs ok.cy
    have x1 := ok.x1
    have x2 := ok.x2
    have ybE : ∀ y : Int, q.ms.sum * y + q.extra * longs y (longTerms q.rs) = q.yb y := fun _ => rfl
    refine ⟨rfl, q, rfl, ok, fun y y1 y2 => ?_⟩
    refine ⟨rfl, q.ms, q.rs, rfl, rfl, ok.rs, rfl, longTerms q.rs, rfl, t1, t2, by omega, by omega, ?_⟩
    refine ⟨rfl, q, rfl, ok, ?_⟩
    refine ⟨fun i ρ => ∃ o5 : Cell, ρ = [.d (calD q), .d (.int t), .d (.int y), .d (.int (t - q.yb y - q.ahead y i)), .d (.int (1 + (i : Int))), o5] ∧ 0 ≤ t - q.yb y - q.ahead y i, ⟨.no, ?_, ?_⟩, ?_, ?_⟩
    · have e : q.ahead y 0 = 0 := rfl
      rw [e, Int.sub_zero]
      rfl
    · have e : q.ahead y 0 = 0 := rfl
      omega
    · rintro i d ρ hd ⟨o5, rfl, nn⟩
      rw [List.getElem?_map] at hd
      obtain ⟨x, hx, rfl⟩ : ∃ x, (q.mdays y)[i]? = some x ∧ d = .int x := by
        cases e : (q.mdays y)[i]? with
        | none => rw [e] at hd; cases hd
        | some x => rw [e] at hd; exact ⟨x, rfl, (Option.some.inj hd).symm⟩
      show (if decide (t - q.yb y - q.ahead y i < x) = true then _ else _)
      refine ifd (fun z => ?_) (fun z => ?_)
      · refine ⟨Nat.le_of_ble_eq_true rfl, ?_⟩
        have g := h y i (t - q.yb y - q.ahead y i + 1) ⟨x, hx, by omega, by omega⟩ (by omega)
        rw [Int.add_comm (i : Int) 1] at g
        exact g
      · have e := ahead_succ hx
        refine ⟨.d (.int x), ?_, by omega⟩
        have e1 : t - q.yb y - q.ahead y (i + 1) = t - q.yb y - q.ahead y i - x := by omega
        have e2 : 1 + ((i + 1 : Nat) : Int) = 1 + (i : Int) + 1 := by omega
        rw [e1, e2]
        rfl
    · rintro ρ ⟨o5, rfl, nn⟩
      exfalso
      have e : q.ahead y ((q.mdays y).map PyData.int).length = (q.mdays y).sum := by
        unfold Calp.ahead
        rw [List.length_map, List.take_length]
      have := yb_next ok y
      omega
  · exact h.elim
end Pr
namespace Pr
open PySem L2 Pu Cal
theorem cut_take (xs : List PyData) {n : Nat} (h : n ≤ xs.length) : cutP xs none (some (n : Int)) = xs.take n := by
  have e1 : HT.sIx xs.length 0 none = 0 := rfl
  have e2 : HT.sIx xs.length xs.length (some (n : Int)) = n := by
    rw [HT.sIx_nat]
    omega
  unfold cutP
  rw [e1, e2, List.drop_zero, Nat.sub_zero]
theorem pure_day_of (ds : List PyData) (c : PyData → Prop) (hl : ds.length = 4) (h : S_day_of ds c) : p_day_of (fin c) (startE N_day_of ds) := by
  unfold S_day_of at h
  split at h
  · rename_i x y m n
    obtain ⟨q, rfl, ok, m1, ⟨v, hv, n1, n2⟩, h⟩ := h
    obtain ⟨s1, s2⟩ := sum_pos ok
    obtain ⟨t1, t2⟩ := terms_in ok.rs ok.cy
    have x1 := ok.x1
    have x2 := ok.x2
    obtain ⟨i, hi⟩ : ∃ i : Nat, m - 1 = i := ⟨(m - 1).toNat, by omega⟩
    have hi2 : (m - 1).toNat = i := by omega
    rw [hi2] at hv h
    have hlt : i < (q.mdays y).length := (List.getElem?_eq_some_iff.mp hv).1
    have ybE : q.ms.sum * y + q.extra * longs y (longTerms q.rs) = q.yb y := rfl
    refine ⟨rfl, q, rfl, ok, ?_⟩
    show (if decide ((1 : Int) ≤ m) = true then _ else _)
    refine tt (decide_eq_true m1) ⟨_, rfl, ?_⟩
    show (if (!(decide (m ≤ (((q.mdays y).map PyData.int).length : Nat)))) = true then _ else _)
    refine ff (by rw [decide_eq_true (by rw [List.length_map]; omega)]; rfl) ?_
    show (if decide ((1 : Int) ≤ n) = true then _ else _)
    refine tt (decide_eq_true n1) ?_
    refine oSome (d := .int v) ?_ ?_
    · show atI ((q.mdays y).map PyData.int) (m - 1) = _
      rw [hi]
      exact atI_nat (by rw [List.getElem?_map, hv]; rfl)
    show (if (!(decide (n ≤ v))) = true then _ else _)
    refine ff (by rw [decide_eq_true n2]; rfl) ?_
    refine ⟨rfl, q.ms, q.rs, rfl, rfl, ok.rs, rfl, longTerms q.rs, rfl, t1, t2, by omega, by omega, ?_⟩
    refine ⟨(q.mdays y).take i, ?_, ?_⟩
    · show intsOf (cutP ((q.mdays y).map PyData.int) none (some (m - 1))) = _
      rw [hi, cut_take _ (by rw [List.length_map]; omega), ← List.map_take]
      exact intsOf_map _
    · exact h
  · exact h.elim
def S_weekday_of : FS := fun ds k => match ds with
  | [x, .int t] => ∃ c : Calp, x = calD c ∧ c.Ok ∧ k (.int ((t + c.first) % c.week))
  | _ => False
end Pr
namespace Pr
open PySem L2 Pu Cal
inductive Un where
  | d | w | m | y
def uD : Un → PyData
  | .d => txt "day"
  | .w => txt "week"
  | .m => txt "month"
  | .y => txt "year"
/-- the first day of a period -/
def Calp.fd (c : Calp) : Un → Int → Int
  | .d, p => p
  | .w, p => p * c.week - c.first
  | .y, p => c.yb p
  | .m, p => c.yb (p / (c.ms.length : Nat)) + c.ahead (p / (c.ms.length : Nat)) (p % (c.ms.length : Nat)).toNat
def S_period_of : FS := fun ds k => match ds with
  | [x, u, .int t] => ∃ (c : Calp) (un : Un), x = calD c ∧ c.Ok ∧ u = uD un ∧ ∀ p, c.fd un p ≤ t → t < c.fd un (p + 1) → k (.int p)
  | _ => False
def S_first_day : FS := fun ds k => match ds with
  | [x, u, .int p] => ∃ (c : Calp) (un : Un), x = calD c ∧ c.Ok ∧ u = uD un ∧ k (.int (c.fd un p))
  | _ => False
def S_places_of : FS := fun ds k => match ds with
  | [x, u, .int t] => ∃ (c : Calp) (un : Un), x = calD c ∧ c.Ok ∧ u = uD un ∧ ∀ p, c.fd un p ≤ t → t < c.fd un (p + 1) → k (.tuple [.int (t - c.fd un p + 1), .int (t - c.fd un (p + 1))])
  | _ => False
-- period_of: ['calendar', 'unit', 'day', 'year', 'month', '_']
abbrev N_period_of : List Str := ["calendar", "unit", "day", "year", "month", "_"]
def p_period_of : PS' := (pSeq (pIfS (pTst (pEqD false (pVar 1) (pC (.str (Str.ofString "day"))))) (pRet (pVar 2)) pNext)
      (pSeq (pIfS (pTst (pEqD false (pVar 1) (pC (.str (Str.ofString "week"))))) (pRet (pIIc CDiv (fun i j => .int (i / j)) (pPlus (pVar 2) (pIx (pVar 0) (pC (.int 5)))) (pIx (pVar 0) (pC (.int 4))))) pNext)
      (pSeq (pIfS (pTst (pEqD false (pVar 1) (pC (.str (Str.ofString "year"))))) (pRet (pCall 2 S_year_of (pCons (pVar 0) (pCons (pVar 2) pNil)))) pNext)
      (pSeq (pAsg (pCall 2 S_date_of (pCons (pVar 0) (pCons (pVar 2) pNil))) (pgT [3, 4, 5]))
      (pRet (pII (fun i j => .int (i - j)) (pPlus (pIIc CMul (fun i j => .int (i * j)) (pVar 3) (pFn fLen (pCons (pIx (pVar 0) (pC (.int 0))) pNil))) (pVar 4)) (pC (.int 1))))))))
-- first_day: ['calendar', 'unit', 'period', 'year', 'month']
abbrev N_first_day : List Str := ["calendar", "unit", "period", "year", "month"]
def p_first_day : PS' := (pSeq (pIfS (pTst (pEqD false (pVar 1) (pC (.str (Str.ofString "day"))))) (pRet (pVar 2)) pNext)
      (pSeq (pIfS (pTst (pEqD false (pVar 1) (pC (.str (Str.ofString "week"))))) (pRet (pII (fun i j => .int (i - j)) (pIIc CMul (fun i j => .int (i * j)) (pVar 2) (pIx (pVar 0) (pC (.int 4)))) (pIx (pVar 0) (pC (.int 5))))) pNext)
      (pSeq (pIfS (pTst (pEqD false (pVar 1) (pC (.str (Str.ofString "year"))))) (pRet (pCall 2 S_year_begin (pCons (pCall 1 S_shape_of (pCons (pVar 0) pNil)) (pCons (pVar 2) pNil)))) pNext)
      (pSeq (pAsg (pFn fDivmod (pCons (pVar 2) (pCons (pFn fLen (pCons (pIx (pVar 0) (pC (.int 0))) pNil)) pNil))) (pgT [3, 4]))
      (pRet (pCall 4 S_day_of (pCons (pVar 0) (pCons (pVar 3) (pCons (pPlus (pVar 4) (pC (.int 1))) (pCons (pC (.int 1)) pNil))))))))))
-- places_of: ['calendar', 'unit', 'day', 'period']
abbrev N_places_of : List Str := ["calendar", "unit", "day", "period"]
def p_places_of : PS' := (pSeq (pAsg (pCall 3 S_period_of (pCons (pVar 0) (pCons (pVar 1) (pCons (pVar 2) pNil)))) (pgN 3))
      (pRet (pTup (pCons (pPlus (pII (fun i j => .int (i - j)) (pVar 2) (pCall 3 S_first_day (pCons (pVar 0) (pCons (pVar 1) (pCons (pVar 3) pNil))))) (pC (.int 1))) (pCons (pII (fun i j => .int (i - j)) (pVar 2) (pCall 3 S_first_day (pCons (pVar 0) (pCons (pVar 1) (pCons (pPlus (pVar 3) (pC (.int 1))) pNil))))) pNil)))))
theorem shu : ∀ un, shq (uD un) = true
  | .d => by decide +kernel
  | .w => by decide +kernel
  | .m => by decide +kernel
  | .y => by decide +kernel
theorem cmp_diff {d e : PyData} {A B : Prop} (hd : shq d = true) (he : shq e = true) (ne : PyData.eqv d e = false) (h : B) : shq d = true ∧ shq e = true ∧ (if flipB false (PyData.eqv d e) = true then A else B) := by
  refine ⟨hd, he, ?_⟩
  rw [ne]
  exact ff rfl h
theorem cmp_eq {s : String} {A B : Prop} (hd : shq (txt s) = true) (h : A) : shq (txt s) = true ∧ shq (txt s) = true ∧ (if flipB false (PyData.eqv (txt s) (txt s)) = true then A else B) := by
  refine ⟨hd, hd, ?_⟩
  rw [same_txt]
  exact tt rfl h
theorem pure_first_day (ds : List PyData) (c : PyData → Prop) (hl : ds.length = 3) (h : S_first_day ds c) : p_first_day (fin c) (startE N_first_day ds) := by
  unfold S_first_day at h
  split at h
  · rename_i x u p
    obtain ⟨q, un, rfl, ok, rfl, h⟩ := h
    obtain ⟨s1, s2⟩ := sum_pos ok
    obtain ⟨t1, t2⟩ := terms_in ok.rs ok.cy
    have x1 := ok.x1
    have x2 := ok.x2
    have n1 := ok.m1
    have n2 := ok.m2
    have w1 := ok.w1
    have w2 := ok.w2
    have day : shq (txt "day") = true := shu .d
    have week : shq (txt "week") = true := shu .w
    have year : shq (txt "year") = true := shu .y
    have month : shq (txt "month") = true := shu .m
    cases un with
    | d => exact ⟨day, day, h⟩
    | w => exact ⟨week, day, week, week, .inr ⟨by omega, by omega⟩, h⟩
    | y => exact ⟨year, day, year, week, year, year, rfl, q.ms, q.rs, rfl, rfl, ok.rs, rfl, longTerms q.rs, rfl, t1, t2, by omega, by omega, h⟩
    | m =>
      have len : (((q.ms.map PyData.int).length : Nat) : Int) = (q.ms.length : Nat) := by rw [List.length_map]
      have r0 := Int.emod_nonneg p (show ((q.ms.length : Nat) : Int) ≠ 0 by omega)
      have r1 := Int.emod_lt_of_pos p (show (0 : Int) < ((q.ms.length : Nat) : Int) by omega)
      refine ⟨month, day, month, week, month, year, _, rfl, ⟨by show (0 : Int) < ((q.ms.map PyData.int).length : Nat); omega, by show (((q.ms.map PyData.int).length : Nat) : Int) < (1073741824 : Int); omega⟩, ?_⟩
      refine ⟨rfl, rfl, q, rfl, ok, ?_, ?_, ?_⟩
      · show (1 : Int) ≤ p % ((q.ms.map PyData.int).length : Nat) + 1
        rw [len]
        omega
      · rw [len, Int.add_sub_cancel]
        have hlt : (p % (q.ms.length : Nat)).toNat < (q.mdays (p / (q.ms.length : Nat))).length := by rw [mdays_len]; omega
        exact ⟨_, List.getElem?_eq_getElem hlt, by decide, (mdays_pos ok _ _ (List.getElem_mem hlt)).1⟩
      · rw [len, Int.add_sub_cancel, Int.add_sub_cancel]
        exact h
  · exact h.elim
theorem pure_period_of (ds : List PyData) (c : PyData → Prop) (hl : ds.length = 3) (h : S_period_of ds c) : p_period_of (fin c) (startE N_period_of ds) := by
  unfold S_period_of at h
  split at h
  · rename_i x u t
    obtain ⟨q, un, rfl, ok, rfl, h⟩ := h
    have n1 := ok.m1
    have n2 := ok.m2
    have w1 := ok.w1
    have w2 := ok.w2
    have f1 := ok.f1
    have f2 := ok.f2
    have day : shq (txt "day") = true := shu .d
    have week : shq (txt "week") = true := shu .w
    have year : shq (txt "year") = true := shu .y
    have month : shq (txt "month") = true := shu .m
    cases un with
    | d => exact ⟨day, day, h t (Int.le_refl t) (Int.lt_succ t)⟩
    | w =>
      refine ⟨week, day, week, week, ⟨by omega, by omega⟩, ?_⟩
      have e1 := Int.mul_ediv_add_emod (t + q.first) q.week
      have e2 := Int.emod_nonneg (t + q.first) (show q.week ≠ 0 by omega)
      have e3 := Int.emod_lt_of_pos (t + q.first) (show 0 < q.week by omega)
      refine h ((t + q.first) / q.week) ?_ ?_
      · show (t + q.first) / q.week * q.week - q.first ≤ t
        rw [Int.mul_comm]
        omega
      · show t < ((t + q.first) / q.week + 1) * q.week - q.first
        rw [Int.add_mul, Int.one_mul, Int.mul_comm]
        omega
    | y => exact ⟨year, day, year, week, year, year, rfl, q, rfl, ok, h⟩
    | m =>
      have len : (((q.ms.map PyData.int).length : Nat) : Int) = (q.ms.length : Nat) := by rw [List.length_map]
      refine ⟨month, day, month, week, month, year, rfl, q, rfl, ok, fun y m n hd ht => ⟨rfl, _, rfl, .inr ⟨by rw [len]; omega, by rw [len]; omega⟩, ?_⟩⟩
      obtain ⟨v, hv, b1, b2⟩ := hd
      have hlt : m < q.ms.length := by
        have := (List.getElem?_eq_some_iff.mp hv).1
        rwa [mdays_len] at this
      rw [len]
      show c (.int (y * (q.ms.length : Nat) + ((m : Int) + 1) - 1))
      rw [← Int.add_assoc, Int.add_sub_cancel]
      have d1 : (y * (q.ms.length : Nat) + (m : Int)) / (q.ms.length : Nat) = y := by
        rw [Int.add_comm, Int.add_mul_ediv_right _ _ (by omega), Int.ediv_eq_zero_of_lt (by omega) (by omega), Int.zero_add]
      have d2 : (y * (q.ms.length : Nat) + (m : Int)) % (q.ms.length : Nat) = m := by
        rw [Int.add_comm, Int.add_mul_emod_self_right, Int.emod_eq_of_lt (by omega) (by omega)]
      refine h _ ?_ ?_
      · show q.yb ((y * (q.ms.length : Nat) + (m : Int)) / (q.ms.length : Nat)) + q.ahead ((y * (q.ms.length : Nat) + (m : Int)) / (q.ms.length : Nat)) ((y * (q.ms.length : Nat) + (m : Int)) % (q.ms.length : Nat)).toNat ≤ t
        rw [d1, d2, Int.toNat_natCast]
        omega
      · have as := ahead_succ hv
        by_cases z : m + 1 < q.ms.length
        · have d3 : (y * (q.ms.length : Nat) + (m : Int) + 1) / (q.ms.length : Nat) = y := by
            rw [Int.add_assoc, Int.add_comm, Int.add_mul_ediv_right _ _ (by omega), Int.ediv_eq_zero_of_lt (by omega) (by omega), Int.zero_add]
          have d4 : (y * (q.ms.length : Nat) + (m : Int) + 1) % (q.ms.length : Nat) = ((m + 1 : Nat) : Int) := by
            rw [Int.add_assoc, Int.add_comm, Int.add_mul_emod_self_right, Int.emod_eq_of_lt (by omega) (by omega)]
            rfl
          show t < q.yb ((y * (q.ms.length : Nat) + (m : Int) + 1) / (q.ms.length : Nat)) + q.ahead ((y * (q.ms.length : Nat) + (m : Int) + 1) / (q.ms.length : Nat)) ((y * (q.ms.length : Nat) + (m : Int) + 1) % (q.ms.length : Nat)).toNat
          rw [d3, d4, Int.toNat_natCast]
          omega
        · have ez : y * (q.ms.length : Nat) + (m : Int) + 1 = (y + 1) * (q.ms.length : Nat) := by
            rw [Int.add_mul, Int.one_mul]
            omega
          have d3 : (y * (q.ms.length : Nat) + (m : Int) + 1) / (q.ms.length : Nat) = y + 1 := by
            rw [ez, Int.mul_ediv_cancel _ (by omega)]
          have d4 : (y * (q.ms.length : Nat) + (m : Int) + 1) % (q.ms.length : Nat) = 0 := by
            rw [ez, Int.mul_emod_left]
          have al : q.ahead y (m + 1) = (q.mdays y).sum := by
            unfold Calp.ahead
            rw [show m + 1 = (q.mdays y).length by rw [mdays_len]; omega, List.take_length]
          have yn := yb_next ok y
          show t < q.yb ((y * (q.ms.length : Nat) + (m : Int) + 1) / (q.ms.length : Nat)) + q.ahead ((y * (q.ms.length : Nat) + (m : Int) + 1) / (q.ms.length : Nat)) ((y * (q.ms.length : Nat) + (m : Int) + 1) % (q.ms.length : Nat)).toNat
          rw [d3, d4]
          have a0 : q.ahead (y + 1) (0 : Int).toNat = 0 := rfl
          omega
  · exact h.elim
theorem pure_places_of (ds : List PyData) (c : PyData → Prop) (hl : ds.length = 3) (h : S_places_of ds c) : p_places_of (fin c) (startE N_places_of ds) := by
  unfold S_places_of at h
  split at h
  · rename_i x u t
    obtain ⟨q, un, rfl, ok, rfl, h⟩ := h
    refine ⟨rfl, q, un, rfl, ok, rfl, fun p p1 p2 => ?_⟩
    refine ⟨rfl, q, un, rfl, ok, rfl, rfl, q, un, rfl, ok, rfl, Nat.le_of_ble_eq_true rfl, ?_⟩
    exact h p p1 p2
  · exact h.elim
end Pr
namespace Pr
open PySem L2 Pu Cal
/-- how many days of a week lie in a year, if any -/
def Calp.ov (c : Calp) (wk y : Int) : Int := min (c.fd .w (wk + 1)) (c.yb (y + 1)) - max (c.fd .w wk) (c.yb y)
/-- the year to which a week belongs -/
def Calp.Own (c : Calp) (wk y : Int) : Prop := 0 < c.ov wk y ∧ ∀ z, c.ov wk z < c.ov wk y ∨ (c.ov wk z = c.ov wk y ∧ z ≤ y)
def S_year_of_week : FS := fun ds k => match ds with
  | [x, .int wk, .int nr] => ∃ c : Calp, x = calD c ∧ c.Ok ∧ 0 < c.ov wk nr ∧ ∀ y, c.Own wk y → k (.int y)
  | _ => False
def S_weeks_of : FS := fun ds k => match ds with
  | [x, .int y] => ∃ c : Calp, x = calD c ∧ c.Ok ∧ ∀ f l, (∀ v, c.Own v y ↔ f ≤ v ∧ v ≤ l) → k (.tuple [.int f, .int l])
  | _ => False
def S_places_of_week : FS := fun ds k => match ds with
  | [x, .int wk, .int nr] => ∃ c : Calp, x = calD c ∧ c.Ok ∧ 0 < c.ov wk nr ∧ ∀ y f l, c.Own wk y → (∀ v, c.Own v y ↔ f ≤ v ∧ v ≤ l) → k (.tuple [.int y, .int (wk - f + 1), .int (wk - l - 1)])
  | _ => False
def S_week_of : FS := fun ds k => match ds with
  | [x, .int t] => ∃ c : Calp, x = calD c ∧ c.Ok ∧ ∀ wk y f l, c.fd .w wk ≤ t → t < c.fd .w (wk + 1) → c.Own wk y → (∀ v, c.Own v y ↔ f ≤ v ∧ v ≤ l) → k (.tuple [.int y, .int (wk - f + 1), .int (wk - l - 1)])
  | _ => False
theorem ybm {q : Calp} (ok : q.Ok) {y z : Int} (h : y ≤ z) : q.yb y ≤ q.yb z := yb_le ok.rs (sum_pos ok).1 ok.x1 h
theorem ybs {q : Calp} (ok : q.Ok) (y : Int) : q.yb y < q.yb (y + 1) := by
  have s := yb_step ok.rs (days := q.ms.sum) ok.x1 y
  have := (sum_pos ok).1
  show Cal.yb _ _ _ y < Cal.yb _ _ _ (y + 1)
  omega
theorem week_next (q : Calp) (wk : Int) : q.fd .w (wk + 1) = q.fd .w wk + q.week := by
  show (wk + 1) * q.week - q.first = wk * q.week - q.first + q.week
  rw [Int.add_mul, Int.one_mul]
  omega
-- _year_of_week: ['calendar', 'week', 'near', 'begin', 'end', 'shape', 'year', 'owner', 'most', 'behind']
abbrev N_year_of_week : List Str := ["calendar", "week", "near", "begin", "end", "shape", "year", "owner", "most", "behind"]
def p_year_of_week : PS' := (pSeq (pAsg (pCall 3 S_first_day (pCons (pVar 0) (pCons (pC (.str (Str.ofString "week"))) (pCons (pVar 1) pNil)))) (pgN 3))
      (pSeq (pAsg (pPlus (pVar 3) (pIx (pVar 0) (pC (.int 4)))) (pgN 4))
      (pSeq (pAsg (pCall 1 S_shape_of (pCons (pVar 0) pNil)) (pgN 5))
      (pSeq (pAsg (pVar 2) (pgN 6))
      (pSeq (pWhile (pTst (pII (fun i j => .bool (decide (j < i))) (pCall 2 S_year_begin (pCons (pVar 5) (pCons (pVar 6) pNil))) (pVar 3))) (pAug 6 (fun i j => i - j) (pC (.int 1))))
      (pSeq (pPar 7 8 (pCons (pVar 6) (pCons (pC (.int 0)) pNil)))
      (pSeq (pWhile (pTst (pII (fun i j => .bool (decide (i < j))) (pVar 3) (pVar 4))) (pSeq (pAsg (pFn fMin2 (pCons (pVar 4) (pCons (pCall 2 S_year_begin (pCons (pVar 5) (pCons (pPlus (pVar 6) (pC (.int 1))) pNil))) pNil))) (pgN 9))
      (pSeq (pIfS (pTst (pII (fun i j => .bool (decide (j ≤ i))) (pII (fun i j => .int (i - j)) (pVar 9) (pVar 3)) (pVar 8))) (pPar 7 8 (pCons (pVar 6) (pCons (pII (fun i j => .int (i - j)) (pVar 9) (pVar 3)) pNil))) pNext)
      (pSeq (pAsg (pVar 9) (pgN 3))
      (pAug 6 (fun i j => i + j) (pC (.int 1)))))))
      (pRet (pVar 7)))))))))
theorem pure_year_of_week (ds : List PyData) (c : PyData → Prop) (hl : ds.length = 3) (h : S_year_of_week ds c) : p_year_of_week (fin c) (startE N_year_of_week ds) := by
  unfold S_year_of_week at h
  split at h
  · rename_i x wk nr
    obtain ⟨q, rfl, ok, hov, h⟩ := h
    obtain ⟨s1, s2⟩ := sum_pos ok
    obtain ⟨t1, t2⟩ := terms_in ok.rs ok.cy
    have x1 := ok.x1
    have x2 := ok.x2
    have w1 := ok.w1
    have wn := week_next q wk
    have ybE : ∀ y : Int, q.ms.sum * y + q.extra * longs y (longTerms q.rs) = q.yb y := fun _ => rfl
    refine ⟨rfl, q, .w, rfl, ok, rfl, ?_⟩
    obtain ⟨B, hB⟩ : ∃ B, B = q.fd .w wk := ⟨_, rfl⟩
    rw [← hB] at wn ⊢
    have ovE : ∀ y, q.ov wk y = min (B + q.week) (q.yb (y + 1)) - max B (q.yb y) := fun y => by
      unfold Calp.ov
      rw [wn, ← hB]
    have hov2 := ovE nr
    refine ⟨rfl, q.ms, q.rs, rfl, rfl, ok.rs, ?_⟩
    refine ⟨fun w ρ => ∃ y : Int, ρ = [.d (calD q), .d (.int wk), .d (.int nr), .d (.int B), .d (.int (B + q.week)), .d (.tuple [.int q.ms.sum, .int q.extra, termsD (longTerms q.rs)]), .d (.int y), .no, .no, .no] ∧ B < q.yb (y + 1) ∧ w = (q.yb y - B).toNat, ⟨_, nr, rfl, by omega, rfl⟩, ?_⟩
    rintro w ρ ⟨y0, rfl, y02, rfl⟩
    refine ⟨rfl, longTerms q.rs, rfl, t1, t2, by omega, by omega, ?_⟩
    rw [ybE]
    show (if decide (B < q.yb y0) = true then _ else _)
    refine ifd (fun z => ?_) (fun z => ?_)
    · have st := ybs ok (y0 - 1)
      rw [Int.sub_add_cancel] at st
      exact ⟨(q.yb (y0 - 1) - B).toNat, by omega, y0 - 1, rfl, by rw [Int.sub_add_cancel]; exact z, rfl⟩
    have y01 : q.yb y0 ≤ B := by omega
    refine ⟨fun w ρ => ∃ (b y o m : Int) (o8 : Cell), ρ = [.d (calD q), .d (.int wk), .d (.int nr), .d (.int b), .d (.int (B + q.week)), .d (.tuple [.int q.ms.sum, .int q.extra, termsD (longTerms q.rs)]), .d (.int y), .d (.int o), .d (.int m), o8] ∧
      B ≤ b ∧ b ≤ B + q.week ∧ (b < B + q.week → q.yb y ≤ b ∧ b < q.yb (y + 1) ∧ (b = B ∨ b = q.yb y)) ∧ (b = B + q.week → b ≤ q.yb y) ∧ (∀ z, z < y → q.ov wk z ≤ m) ∧
      ((m = 0 ∧ b = B) ∨ (0 < m ∧ q.ov wk o = m ∧ ∀ z, z < y → q.ov wk z < m ∨ (q.ov wk z = m ∧ z ≤ o))) ∧ w = (B + q.week - b).toNat,
      ⟨_, B, y0, y0, 0, .no, rfl, by omega, by omega, fun _ => ⟨y01, y02, .inl rfl⟩, fun z => by omega, fun z hz => ?_, .inl ⟨rfl, rfl⟩, rfl⟩, ?_⟩
    · have := ybm ok (show z + 1 ≤ y0 by omega)
      rw [ovE]
      omega
    rintro w ρ ⟨b, y, o, m, o8, rfl, b1, b2, b3, b4, b5, b6, rfl⟩
    show (if decide (b < B + q.week) = true then _ else _)
    refine ifd (fun z => ?_) (fun z => ?_)
    · obtain ⟨c1, c2, c3⟩ := b3 z
      refine ⟨rfl, longTerms q.rs, rfl, t1, t2, by omega, by omega, ?_⟩
      obtain ⟨e, he⟩ : ∃ e, e = (if q.yb (y + 1) < B + q.week then q.yb (y + 1) else B + q.week) := ⟨_, rfl⟩
      have e1 : b < e ∧ e ≤ B + q.week ∧ e ≤ q.yb (y + 1) ∧ (e = q.yb (y + 1) ∨ e = B + q.week) ∧ q.ov wk y = e - b := by
        rw [he, ovE]
        by_cases c : q.yb (y + 1) < B + q.week
        · rw [if_pos c]
          omega
        · rw [if_neg c]
          omega
      obtain ⟨e1, e2, e3, e4, e5⟩ := e1
      have st := ybs ok (y + 1)
      show (if decide (m ≤ (if q.yb (y + 1) < B + q.week then q.yb (y + 1) else B + q.week) - b) = true then _ else _)
      rw [← he]
      refine ifd (fun z2 => ?_) (fun z2 => ?_)
      · refine ⟨(B + q.week - e).toNat, by omega, e, y + 1, y, e - b, .d (.int e), ?_, by omega, e2, fun u => ?_, fun u => ?_, fun v hv => ?_, .inr ⟨by omega, e5, fun v hv => ?_⟩, rfl⟩
        · rw [he]
          rfl
        · have : e = q.yb (y + 1) := by omega
          exact ⟨by omega, by omega, .inr this⟩
        · omega
        · by_cases vy : v = y
          · rw [vy, e5]
            exact Int.le_refl _
          · have := b5 v (by omega)
            omega
        · by_cases vy : v = y
          · rw [vy, e5]
            exact .inr ⟨rfl, Int.le_refl _⟩
          · have := b5 v (by omega)
            omega
      · rcases b6 with ⟨m0, _⟩ | ⟨m0, mo, mz⟩
        · omega
        refine ⟨(B + q.week - e).toNat, by omega, e, y + 1, o, m, .d (.int e), ?_, by omega, e2, fun u => ?_, fun u => ?_, fun v hv => ?_, .inr ⟨m0, mo, fun v hv => ?_⟩, rfl⟩
        · rw [he]
          rfl
        · have : e = q.yb (y + 1) := by omega
          exact ⟨by omega, by omega, .inr this⟩
        · omega
        · by_cases vy : v = y
          · rw [vy, e5]
            omega
          · exact b5 v (by omega)
        · by_cases vy : v = y
          · rw [vy, e5]
            exact .inl (by omega)
          · exact mz v (by omega)
    · have be : b = B + q.week := by omega
      have b4 := b4 be
      rcases b6 with ⟨m0, bB⟩ | ⟨m0, mo, mz⟩
      · omega
      refine h o ⟨by omega, fun v => ?_⟩
      by_cases vy : v < y
      · rw [mo]
        exact mz v vy
      · have := ybm ok (show y ≤ v by omega)
        have e9 := ovE v
        exact .inl (by omega)
  · exact h.elim
end Pr
namespace Pr
open PySem L2 Pu Cal
-- weeks_of: ['calendar', 'year', 'shape', 'begin', 'end', 'first', 'last']
abbrev N_weeks_of : List Str := ["calendar", "year", "shape", "begin", "end", "first", "last"]
def p_weeks_of : PS' := (pSeq (pAsg (pCall 1 S_shape_of (pCons (pVar 0) pNil)) (pgN 2))
      (pSeq (pPar 3 4 (pCons (pCall 2 S_year_begin (pCons (pVar 2) (pCons (pVar 1) pNil))) (pCons (pCall 2 S_year_begin (pCons (pVar 2) (pCons (pPlus (pVar 1) (pC (.int 1))) pNil))) pNil)))
      (pSeq (pAsg (pCall 3 S_period_of (pCons (pVar 0) (pCons (pC (.str (Str.ofString "week"))) (pCons (pVar 3) pNil)))) (pgN 5))
      (pSeq (pAsg (pCall 3 S_period_of (pCons (pVar 0) (pCons (pC (.str (Str.ofString "week"))) (pCons (pII (fun i j => .int (i - j)) (pVar 4) (pC (.int 1))) pNil)))) (pgN 6))
      (pSeq (pIfS (pTst (pEqD true (pCall 3 S_year_of_week (pCons (pVar 0) (pCons (pVar 5) (pCons (pVar 1) pNil)))) (pVar 1))) (pAug 5 (fun i j => i + j) (pC (.int 1))) pNext)
      (pSeq (pIfS (pAnd (pTst (pII (fun i j => .bool (decide (j ≤ i))) (pVar 6) (pVar 5))) (pTst (pEqD true (pCall 3 S_year_of_week (pCons (pVar 0) (pCons (pVar 6) (pCons (pVar 1) pNil)))) (pVar 1)))) (pAug 6 (fun i j => i - j) (pC (.int 1))) pNext)
      (pRet (pTup (pCons (pVar 5) (pCons (pVar 6) pNil))))))))))
-- places_of_week: ['calendar', 'week', 'near', 'year', 'first', 'last']
abbrev N_places_of_week : List Str := ["calendar", "week", "near", "year", "first", "last"]
def p_places_of_week : PS' := (pSeq (pAsg (pCall 3 S_year_of_week (pCons (pVar 0) (pCons (pVar 1) (pCons (pVar 2) pNil)))) (pgN 3))
      (pSeq (pAsg (pCall 2 S_weeks_of (pCons (pVar 0) (pCons (pVar 3) pNil))) (pgT [4, 5]))
      (pRet (pTup (pCons (pVar 3) (pCons (pPlus (pII (fun i j => .int (i - j)) (pVar 1) (pVar 4)) (pC (.int 1))) (pCons (pII (fun i j => .int (i - j)) (pII (fun i j => .int (i - j)) (pVar 1) (pVar 5)) (pC (.int 1))) pNil)))))))
-- week_of: ['calendar', 'day']
abbrev N_week_of : List Str := ["calendar", "day"]
def p_week_of : PS' := (pRet (pCall 3 S_places_of_week (pCons (pVar 0) (pCons (pCall 3 S_period_of (pCons (pVar 0) (pCons (pC (.str (Str.ofString "week"))) (pCons (pVar 1) pNil)))) (pCons (pCall 2 S_year_of (pCons (pVar 0) (pCons (pVar 1) pNil))) pNil)))))
theorem fd_week {q : Calp} (ok : q.Ok) {v v' : Int} (h : v < v') : q.fd .w v + q.week ≤ q.fd .w v' := by
  have w1 := ok.w1
  show v * q.week - q.first + q.week ≤ v' * q.week - q.first
  have : (v + 1) * q.week ≤ v' * q.week := Int.mul_le_mul_of_nonneg_right (by omega) (by omega)
  rw [Int.add_mul, Int.one_mul] at this
  omega
theorem own_one {q : Calp} {v y z : Int} (h1 : q.Own v y) (h2 : q.Own v z) : y = z := by
  have a := h1.2 z
  have b := h2.2 y
  omega
theorem own_range {q : Calp} (ok : q.Ok) {y F L f l : Int} (F1 : q.fd .w F ≤ q.yb y) (F2 : q.yb y < q.fd .w (F + 1)) (L1 : q.fd .w L ≤ q.yb (y + 1) - 1) (L2 : q.yb (y + 1) - 1 < q.fd .w (L + 1))
    (hf : (f = F ∧ q.Own F y) ∨ (f = F + 1 ∧ ¬ q.Own F y)) (hl : (l = L ∧ (q.Own L y ∨ L < f)) ∨ (l = L - 1 ∧ ¬ q.Own L y)) (v : Int) : q.Own v y ↔ f ≤ v ∧ v ≤ l := by
  have w1 := ok.w1
  have wF := week_next q F
  have wL := week_next q L
  have wv := week_next q v
  constructor
  · intro h
    have p := h.1
    unfold Calp.ov at p
    have a1 : F ≤ v := by
      by_cases c : F ≤ v
      · exact c
      · have := fd_week ok (show v < F by omega)
        omega
    have a2 : v ≤ L := by
      by_cases c : v ≤ L
      · exact c
      · have := fd_week ok (show L < v by omega)
        omega
    refine ⟨?_, ?_⟩
    · rcases hf with ⟨e, _⟩ | ⟨e, no⟩
      · omega
      · by_cases c : v = F
        · exact absurd (c ▸ h) no
        · omega
    · rcases hl with ⟨e, _⟩ | ⟨e, no⟩
      · omega
      · by_cases c : v = L
        · exact absurd (c ▸ h) no
        · omega
  · rintro ⟨b1, b2⟩
    by_cases c : v = F
    · rcases hf with ⟨_, yes⟩ | ⟨e, _⟩
      · rw [c]
        exact yes
      · omega
    by_cases c2 : v = L
    · rcases hl with ⟨_, yes | no⟩ | ⟨e, _⟩
      · rw [c2]
        exact yes
      · omega
      · omega
    have a1 : F < v := by
      rcases hf with ⟨e, _⟩ | ⟨e, _⟩ <;> omega
    have a2 : v < L := by
      rcases hl with ⟨e, _⟩ | ⟨e, _⟩ <;> omega
    have g1 := fd_week ok a1
    have g2 := fd_week ok a2
    have e : q.ov v y = q.week := by
      unfold Calp.ov
      omega
    refine ⟨by omega, fun z => ?_⟩
    rw [e]
    by_cases zy : z = y
    · rw [zy, e]
      exact .inr ⟨rfl, Int.le_refl _⟩
    · refine .inl ?_
      unfold Calp.ov
      by_cases c : z < y
      · have := ybm ok (show z + 1 ≤ y by omega)
        omega
      · have := ybm ok (show y + 1 ≤ z by omega)
        omega
theorem pure_weeks_of (ds : List PyData) (c : PyData → Prop) (hl : ds.length = 2) (h : S_weeks_of ds c) : p_weeks_of (fin c) (startE N_weeks_of ds) := by
  unfold S_weeks_of at h
  split at h
  · rename_i x y
    obtain ⟨q, rfl, ok, h⟩ := h
    obtain ⟨s1, s2⟩ := sum_pos ok
    obtain ⟨t1, t2⟩ := terms_in ok.rs ok.cy
    have x1 := ok.x1
    have x2 := ok.x2
    have st := ybs ok y
    have ybE : ∀ y : Int, q.ms.sum * y + q.extra * longs y (longTerms q.rs) = q.yb y := fun _ => rfl
    refine ⟨rfl, q.ms, q.rs, rfl, rfl, ok.rs, ?_⟩
    refine ⟨rfl, longTerms q.rs, rfl, t1, t2, by omega, by omega, ?_⟩
    refine ⟨rfl, longTerms q.rs, rfl, t1, t2, by omega, by omega, ?_⟩
    rw [ybE, ybE]
    refine ⟨rfl, q, .w, rfl, ok, rfl, fun F F1 F2 => ?_⟩
    refine ⟨rfl, q, .w, rfl, ok, rfl, fun L L1 L2 => ?_⟩
    have wF := week_next q F
    have wL := week_next q L
    have ovF : 0 < q.ov F y := by
      unfold Calp.ov
      omega
    have ovL : 0 < q.ov L y := by
      unfold Calp.ov
      omega
    have rest : ∀ f : Int, ((f = F ∧ q.Own F y) ∨ (f = F + 1 ∧ ¬ q.Own F y)) →
        (pSeq (pIfS (pAnd (pTst (pII (fun i j => .bool (decide (j ≤ i))) (pVar 6) (pVar 5))) (pTst (pEqD true (pCall 3 S_year_of_week (pCons (pVar 0) (pCons (pVar 6) (pCons (pVar 1) pNil)))) (pVar 1)))) (pAug 6 (fun i j => i - j) (pC (.int 1))) pNext)
      (pRet (pTup (pCons (pVar 5) (pCons (pVar 6) pNil))))) (fin c) [.d (calD q), .d (.int y), .d (.tuple [.int q.ms.sum, .int q.extra, termsD (longTerms q.rs)]), .d (.int (q.yb y)), .d (.int (q.yb (y + 1))), .d (.int f), .d (.int L)] := fun f hf => by
      show (if decide (f ≤ L) = true then _ else _)
      refine ifd (fun z0 => ?_) (fun z0 => ?_)
      · refine ⟨rfl, q, rfl, ok, ovL, fun y2 own2 => ?_⟩
        refine ⟨rfl, rfl, ?_⟩
        show (if flipB true (PyData.eqv (.int y2) (.int y)) = true then _ else _)
        rw [eqv_int]
        by_cases z : y2 = y
        · refine ff (by rw [decide_eq_true z]; rfl) ?_
          refine ⟨Nat.le_of_ble_eq_true rfl, ?_⟩
          exact h f L (own_range ok F1 F2 L1 L2 hf (.inl ⟨rfl, .inl (z ▸ own2)⟩))
        · refine tt (by rw [decide_eq_false z]; rfl) ?_
          refine ⟨Nat.le_of_ble_eq_true rfl, ?_⟩
          exact h f (L - 1) (own_range ok F1 F2 L1 L2 hf (.inr ⟨rfl, fun o => z (own_one own2 o)⟩))
      · refine ⟨Nat.le_of_ble_eq_true rfl, ?_⟩
        exact h f L (own_range ok F1 F2 L1 L2 hf (.inl ⟨rfl, .inr (by omega)⟩))
    refine ⟨rfl, q, rfl, ok, ovF, fun y1 own1 => ?_⟩
    refine ⟨rfl, rfl, ?_⟩
    show (if flipB true (PyData.eqv (.int y1) (.int y)) = true then _ else _)
    rw [eqv_int]
    by_cases z : y1 = y
    · refine ff (by rw [decide_eq_true z]; rfl) ?_
      exact rest F (.inl ⟨rfl, z ▸ own1⟩)
    · refine tt (by rw [decide_eq_false z]; rfl) ?_
      exact rest (F + 1) (.inr ⟨rfl, fun o => z (own_one own1 o)⟩)
  · exact h.elim
theorem pure_places_of_week (ds : List PyData) (c : PyData → Prop) (hl : ds.length = 3) (h : S_places_of_week ds c) : p_places_of_week (fin c) (startE N_places_of_week ds) := by
  unfold S_places_of_week at h
  split at h
  · rename_i x wk nr
    obtain ⟨q, rfl, ok, ov, h⟩ := h
    exact ⟨rfl, q, rfl, ok, ov, fun y own => ⟨rfl, q, rfl, ok, fun f l hfl => ⟨rfl, Nat.le_of_ble_eq_true rfl, h y f l own hfl⟩⟩⟩
  · exact h.elim
theorem pure_week_of (ds : List PyData) (c : PyData → Prop) (hl : ds.length = 2) (h : S_week_of ds c) : p_week_of (fin c) (startE N_week_of ds) := by
  unfold S_week_of at h
  split at h
  · rename_i x t
    obtain ⟨q, rfl, ok, h⟩ := h
    refine ⟨rfl, q, .w, rfl, ok, rfl, fun wk k1 k2 => ?_⟩
    refine ⟨rfl, q, rfl, ok, fun y y1 y2 => ?_⟩
    refine ⟨rfl, q, rfl, ok, ?_, fun z f l own hfl => h wk z f l k1 k2 own hfl⟩
    unfold Calp.ov
    omega
  · exact h.elim
end Pr
namespace Pr
open PySem L2 Pu Cal
def S_law_length : FS := fun ds k => match ds with
  | [x, .int y, .int m] => ∃ (c : Calp) (v : Int), x = calD c ∧ c.Ok ∧ 1 ≤ m ∧ (c.mdays y)[(m - 1).toNat]? = some v ∧ k (.int v)
  | _ => False
def dateD (y : Int) (m : Nat) (n : Int) : PyData := .tuple [.int y, .int ((m : Int) + 1), .int n]
def S_law_period : FS := fun ds k => match ds with
  | [x, u, .int t, d] => ∃ (c : Calp) (un : Un) (y : Int) (m : Nat) (n : Int), x = calD c ∧ c.Ok ∧ u = uD un ∧ d = dateD y m n ∧ c.date y m n ∧ t = c.yb y + c.ahead y m + n - 1 ∧ ∀ p, c.fd un p ≤ t → t < c.fd un (p + 1) → k (.int p)
  | _ => False
-- _law_length: ['calendar', 'year', 'month', 'long', 'pair']
abbrev N_law_length : List Str := ["calendar", "year", "month", "long", "pair"]
def p_law_length : PS' := (pSeq (pAsg (pC (.bool false)) (pgN 3))
      (pSeq (pFor (pTO (pIx (pVar 0) (pC (.int 3)))) (pgN 4) (pIfS (pTst (pEqD false (pIIc (fun _ j => 0 < j) (fun i j => .int (i % j)) (pVar 1) (pIx (pVar 4) (pC (.int 0)))) (pC (.int 0)))) (pAsg (pIx (pVar 4) (pC (.int 1))) (pgN 3)) pNext))
      (pRet (pPlus (pIx (pIx (pVar 0) (pC (.int 0))) (pII (fun i j => .int (i - j)) (pVar 2) (pC (.int 1)))) (pIIc CMul (fun i j => .int (i * j)) (pIx (pVar 0) (pC (.int 2))) (pFn fInt (pCons (pAndV (pVar 3) (pEqD false (pVar 2) (pIx (pVar 0) (pC (.int 1))))) pNil)))))))
-- _law_period: ['calendar', 'unit', 'day', 'date']
abbrev N_law_period : List Str := ["calendar", "unit", "day", "date"]
def p_law_period : PS' := (pSeq (pIfS (pTst (pEqD false (pVar 1) (pC (.str (Str.ofString "day"))))) (pRet (pVar 2)) pNext)
      (pSeq (pIfS (pTst (pEqD false (pVar 1) (pC (.str (Str.ofString "week"))))) (pRet (pIIc CDiv (fun i j => .int (i / j)) (pPlus (pVar 2) (pIx (pVar 0) (pC (.int 5)))) (pIx (pVar 0) (pC (.int 4))))) pNext)
      (pSeq (pIfS (pTst (pEqD false (pVar 1) (pC (.str (Str.ofString "month"))))) (pRet (pII (fun i j => .int (i - j)) (pPlus (pIIc CMul (fun i j => .int (i * j)) (pIx (pVar 3) (pC (.int 0))) (pFn fLen (pCons (pIx (pVar 0) (pC (.int 0))) pNil))) (pIx (pVar 3) (pC (.int 1)))) (pC (.int 1)))) pNext)
      (pRet (pIx (pVar 3) (pC (.int 0)))))))
theorem mdays_at {q : Calp} (ok : q.Ok) {y v w : Int} {i : Nat} (h : (q.mdays y)[i]? = some v) (hw : q.ms[i]? = some w) : v = w + q.extra * b2 (isLong q.rs y && decide ((i : Int) + 1 = q.longer)) := by
  have l1 := ok.l1
  have l2 := ok.l2
  have hi : i < q.ms.length := (List.getElem?_eq_some_iff.mp hw).1
  unfold Calp.mdays at h
  unfold b2
  by_cases z : isLong q.rs y = true
  · rw [if_pos z] at h
    rw [z, Bool.true_and]
    by_cases c : (i : Int) + 1 = q.longer
    · have e : (q.longer - 1).toNat = i := by omega
      rw [e, List.getElem?_set_self hi, List.getD_eq_getElem?_getD, hw] at h
      have h := Option.some.inj h
      rw [if_pos (decide_eq_true c)]
      have : w + q.extra = v := h
      omega
    · rw [List.getElem?_set_ne (by omega), hw] at h
      have h := Option.some.inj h
      rw [if_neg (by simpa using c)]
      omega
  · rw [if_neg z, hw] at h
    have h := Option.some.inj h
    have zf : isLong q.rs y = false := by simpa using z
    rw [zf, Bool.false_and, if_neg (by decide)]
    omega
theorem pure_law_length (ds : List PyData) (c : PyData → Prop) (hl : ds.length = 3) (h : S_law_length ds c) : p_law_length (fin c) (startE N_law_length ds) := by
  unfold S_law_length at h
  split at h
  · rename_i x y m
    obtain ⟨q, v, rfl, ok, m1, hv, h⟩ := h
    obtain ⟨i, hi⟩ : ∃ i : Nat, m - 1 = i := ⟨(m - 1).toNat, by omega⟩
    have hi2 : (m - 1).toNat = i := by omega
    rw [hi2] at hv
    have hlt : i < q.ms.length := by
      have := (List.getElem?_eq_some_iff.mp hv).1
      rwa [mdays_len] at this
    have hw : q.ms[i]? = some q.ms[i] := List.getElem?_eq_getElem hlt
    have hx := mdays_at ok hv hw
    have x1 := ok.x1
    have x2 := ok.x2
    refine ⟨fun j ρ => ∃ o4 : Cell, ρ = [.d (calD q), .d (.int y), .d (.int m), .d (.bool ((q.rs.take j).foldl (longStep y) false)), o4], ⟨_, rfl⟩, ?_, ?_⟩
    · rintro j d ρ hd ⟨o4, rfl⟩
      obtain ⟨r, hrj, rfl⟩ := rule_at hd
      have br := ok.rs.2 r (List.mem_of_getElem? hrj)
      have en : (q.rs.take (j + 1)).foldl (longStep y) false = longStep y ((q.rs.take j).foldl (longStep y) false) r := by
        rw [take_snoc hrj, List.foldl_append]
        rfl
      refine ⟨by show 0 < r.1; omega, rfl, rfl, ?_⟩
      show (if PyData.eqv (.int (y % r.1)) (.int 0) = true then _ else _)
      rw [eqv_int]
      refine ifd (fun z => ?_) (fun z => ?_)
      · refine ⟨.d (ruleD r), ?_⟩
        rw [en]
        unfold longStep
        rw [if_pos z]
        rfl
      · refine ⟨.d (ruleD r), ?_⟩
        rw [en]
        unfold longStep
        rw [if_neg z]
        rfl
    · rintro ρ ⟨o4, rfl⟩
      have el : (q.rs.take (q.rs.map ruleD).length).foldl (longStep y) false = isLong q.rs y := by
        rw [List.length_map, List.take_length]
        rfl
      rw [el]
      refine oSome (d := .int q.ms[i]) ?_ ?_
      · show atI (q.ms.map PyData.int) (m - 1) = _
        rw [hi]
        exact atI_nat (by rw [List.getElem?_map, hw]; rfl)
      show (if isLong q.rs y = true then _ else _)
      refine tf (fun z => ?_) (fun z => ?_)
      · refine ⟨rfl, rfl, .inl ⟨by omega, by omega⟩, ?_⟩
        rw [z, Bool.true_and] at hx
        have e : decide ((i : Int) + 1 = q.longer) = PyData.eqv (.int m) (.int q.longer) := by
          rw [eqv_int, show (i : Int) + 1 = m by omega]
        rw [e] at hx
        rw [hx] at h
        exact h
      · refine ⟨.inl ⟨by omega, by omega⟩, ?_⟩
        rw [z, Bool.false_and] at hx
        rw [hx] at h
        exact h
  · exact h.elim
end Pr
namespace Pr
open PySem L2 Pu Cal
theorem per_month {q : Calp} (ok : q.Ok) {y t n : Int} {m : Nat} (hd : q.date y m n) (ht : t = q.yb y + q.ahead y m + n - 1) :
    q.fd .m (y * (q.ms.length : Nat) + (m : Int)) ≤ t ∧ t < q.fd .m (y * (q.ms.length : Nat) + (m : Int) + 1) := by
  have n1 := ok.m1
  have n2 := ok.m2
  obtain ⟨v, hv, b1, b2⟩ := hd
  have hlt : m < q.ms.length := by
    have := (List.getElem?_eq_some_iff.mp hv).1
    rwa [mdays_len] at this
  have d1 : (y * (q.ms.length : Nat) + (m : Int)) / (q.ms.length : Nat) = y := by
    rw [Int.add_comm, Int.add_mul_ediv_right _ _ (by omega), Int.ediv_eq_zero_of_lt (by omega) (by omega), Int.zero_add]
  have d2 : (y * (q.ms.length : Nat) + (m : Int)) % (q.ms.length : Nat) = m := by
    rw [Int.add_comm, Int.add_mul_emod_self_right, Int.emod_eq_of_lt (by omega) (by omega)]
  refine ⟨?_, ?_⟩
  · show q.yb ((y * (q.ms.length : Nat) + (m : Int)) / (q.ms.length : Nat)) + q.ahead ((y * (q.ms.length : Nat) + (m : Int)) / (q.ms.length : Nat)) ((y * (q.ms.length : Nat) + (m : Int)) % (q.ms.length : Nat)).toNat ≤ t
    rw [d1, d2, Int.toNat_natCast]
    omega
  · have as := ahead_succ hv
    by_cases z : m + 1 < q.ms.length
    · have d3 : (y * (q.ms.length : Nat) + (m : Int) + 1) / (q.ms.length : Nat) = y := by
        rw [Int.add_assoc, Int.add_comm, Int.add_mul_ediv_right _ _ (by omega), Int.ediv_eq_zero_of_lt (by omega) (by omega), Int.zero_add]
      have d4 : (y * (q.ms.length : Nat) + (m : Int) + 1) % (q.ms.length : Nat) = ((m + 1 : Nat) : Int) := by
        rw [Int.add_assoc, Int.add_comm, Int.add_mul_emod_self_right, Int.emod_eq_of_lt (by omega) (by omega)]
        rfl
      show t < q.yb ((y * (q.ms.length : Nat) + (m : Int) + 1) / (q.ms.length : Nat)) + q.ahead ((y * (q.ms.length : Nat) + (m : Int) + 1) / (q.ms.length : Nat)) ((y * (q.ms.length : Nat) + (m : Int) + 1) % (q.ms.length : Nat)).toNat
      rw [d3, d4, Int.toNat_natCast]
      omega
    · have ez : y * (q.ms.length : Nat) + (m : Int) + 1 = (y + 1) * (q.ms.length : Nat) := by
        rw [Int.add_mul, Int.one_mul]
        omega
      have d3 : (y * (q.ms.length : Nat) + (m : Int) + 1) / (q.ms.length : Nat) = y + 1 := by
        rw [ez, Int.mul_ediv_cancel _ (by omega)]
      have d4 : (y * (q.ms.length : Nat) + (m : Int) + 1) % (q.ms.length : Nat) = 0 := by
        rw [ez, Int.mul_emod_left]
      have al : q.ahead y (m + 1) = (q.mdays y).sum := by
        unfold Calp.ahead
        rw [show m + 1 = (q.mdays y).length by rw [mdays_len]; omega, List.take_length]
      have yn := yb_next ok y
      show t < q.yb ((y * (q.ms.length : Nat) + (m : Int) + 1) / (q.ms.length : Nat)) + q.ahead ((y * (q.ms.length : Nat) + (m : Int) + 1) / (q.ms.length : Nat)) ((y * (q.ms.length : Nat) + (m : Int) + 1) % (q.ms.length : Nat)).toNat
      rw [d3, d4]
      have a0 : q.ahead (y + 1) (0 : Int).toNat = 0 := rfl
      omega
theorem per_week {q : Calp} (ok : q.Ok) (t : Int) : q.fd .w ((t + q.first) / q.week) ≤ t ∧ t < q.fd .w ((t + q.first) / q.week + 1) := by
  have w1 := ok.w1
  have e1 := Int.mul_ediv_add_emod (t + q.first) q.week
  have e2 := Int.emod_nonneg (t + q.first) (show q.week ≠ 0 by omega)
  have e3 := Int.emod_lt_of_pos (t + q.first) (show 0 < q.week by omega)
  refine ⟨?_, ?_⟩
  · show (t + q.first) / q.week * q.week - q.first ≤ t
    rw [Int.mul_comm]
    omega
  · show t < ((t + q.first) / q.week + 1) * q.week - q.first
    rw [Int.add_mul, Int.one_mul, Int.mul_comm]
    omega
theorem ahead_le {q : Calp} (ok : q.Ok) (y : Int) : ∀ m : Nat, 0 ≤ q.ahead y m ∧ q.ahead y m ≤ (q.mdays y).sum := fun m => by
  have nn : ∀ l : List Int, (∀ x ∈ l, 1 ≤ x ∧ x ≤ 90) → 0 ≤ l.sum := fun l hl => by
    have := (sum_bound hl).1
    omega
  have e : (q.mdays y).sum = q.ahead y m + ((q.mdays y).drop m).sum := by
    unfold Calp.ahead
    rw [← List.sum_append, List.take_append_drop]
  have a := nn ((q.mdays y).take m) fun x hx => mdays_pos ok y x (List.mem_of_mem_take hx)
  have b := nn ((q.mdays y).drop m) fun x hx => mdays_pos ok y x (List.mem_of_mem_drop hx)
  have a : 0 ≤ q.ahead y m := a
  omega
theorem per_year {q : Calp} (ok : q.Ok) {y t n : Int} {m : Nat} (hd : q.date y m n) (ht : t = q.yb y + q.ahead y m + n - 1) : q.fd .y y ≤ t ∧ t < q.fd .y (y + 1) := by
  obtain ⟨v, hv, b1, b2⟩ := hd
  have a := ahead_le ok y m
  have a2 := ahead_le ok y (m + 1)
  rw [ahead_succ hv] at a2
  have yn := yb_next ok y
  refine ⟨?_, ?_⟩
  · show q.yb y ≤ t
    omega
  · show t < q.yb (y + 1)
    omega
theorem pure_law_period (ds : List PyData) (c : PyData → Prop) (hl : ds.length = 4) (h : S_law_period ds c) : p_law_period (fin c) (startE N_law_period ds) := by
  unfold S_law_period at h
  split at h
  · rename_i x u t d
    obtain ⟨q, un, y, m, n, rfl, ok, rfl, rfl, hd, ht, h⟩ := h
    have n1 := ok.m1
    have n2 := ok.m2
    have w1 := ok.w1
    have w2 := ok.w2
    have day : shq (txt "day") = true := shu .d
    have week : shq (txt "week") = true := shu .w
    have year : shq (txt "year") = true := shu .y
    have month : shq (txt "month") = true := shu .m
    cases un with
    | d => exact ⟨day, day, h t (Int.le_refl t) (Int.lt_succ t)⟩
    | w =>
      have p := per_week ok t
      exact ⟨week, day, week, week, ⟨by omega, by omega⟩, h _ p.1 p.2⟩
    | y =>
      have p := per_year ok hd ht
      exact ⟨year, day, year, week, year, month, h y p.1 p.2⟩
    | m =>
      have p := per_month ok hd ht
      have len : (((q.ms.map PyData.int).length : Nat) : Int) = (q.ms.length : Nat) := by rw [List.length_map]
      refine ⟨month, day, month, week, month, month, _, rfl, .inr ⟨by rw [len]; omega, by rw [len]; omega⟩, ?_⟩
      have e : y * (q.ms.length : Nat) + ((m : Int) + 1) - 1 = y * (q.ms.length : Nat) + (m : Int) := by omega
      rw [len]
      show c (.int (y * (q.ms.length : Nat) + ((m : Int) + 1) - 1))
      rw [e]
      exact h _ p.1 p.2
  · exact h.elim
end Pr
namespace Pr
open PySem L2 Pu Cal
theorem getA_cons (k : Int) (v : PyData) (r : List (Int × PyData)) (t : Int) : getA ((k, v) :: r) t = if k = t then some v else getA r t := by
  unfold getA
  by_cases z : k = t
  · rw [List.find?_cons_of_pos (by simpa using z), if_pos z]
    rfl
  · rw [List.find?_cons_of_neg (by simpa using z), if_neg z]
theorem getA_map (n : Int) (d : PyData) (t : Int) : ∀ kvs : List (Int × PyData), getA (kvs.map fun kv => if kv.1 = n then (kv.1, d) else kv) t = if t = n ∧ (kvs.any fun kv => decide (kv.1 = n)) = true then some d else getA kvs t
  | [] => by simp [getA]
  | (k, v) :: r => by
    rw [List.map_cons, List.any_cons]
    by_cases z : k = n
    · subst z
      rw [if_pos rfl, getA_cons, getA_cons, getA_map]
      by_cases c : k = t
      · subst c
        simp
      · have c2 : ¬ t = k := fun e => c e.symm
        simp [c, c2]
    · rw [if_neg z, getA_cons, getA_cons, getA_map]
      have dz : decide (k = n) = false := by simpa using z
      by_cases c : k = t
      · subst c
        simp [z]
      · rw [if_neg c, if_neg c, dz, Bool.false_or]
theorem getA_app (n : Int) (d : PyData) (t : Int) : ∀ kvs : List (Int × PyData), (kvs.any fun kv => decide (kv.1 = n)) = false → getA (kvs ++ [(n, d)]) t = if t = n then some d else getA kvs t
  | [], _ => by
    rw [List.nil_append, getA_cons]
    by_cases c : n = t
    · simp [c]
    · have c2 : ¬ t = n := fun e => c e.symm
      simp [c, c2]
  | (k, v) :: r, h => by
    rw [List.any_cons, Bool.or_eq_false_iff] at h
    have hk : ¬ k = n := by simpa using h.1
    rw [List.cons_append, getA_cons, getA_cons, getA_app n d t r h.2]
    by_cases c : k = t
    · subst c
      simp [hk]
    · simp [c]
theorem getA_put (kvs : List (Int × PyData)) (n : Int) (d : PyData) (t : Int) : getA (putA kvs n d) t = if t = n then some d else getA kvs t := by
  unfold putA
  by_cases z : (kvs.any fun kv => decide (kv.1 = n)) = true
  · rw [if_pos z, getA_map]
    simp [z]
  · rw [if_neg z, getA_app n d t kvs (Bool.eq_false_iff.mpr z)]
theorem putA_len (kvs : List (Int × PyData)) (n : Int) (d : PyData) : (putA kvs n d).length ≤ kvs.length + 1 := by
  unfold putA
  split
  · rw [List.length_map]
    omega
  · rw [List.length_append]
    exact Nat.le_refl _
/-- the dates of the days from a up to b -/
def Calp.Cov (c : Calp) (kvs : List (Int × PyData)) (a b : Int) : Prop := ∀ t, a ≤ t → t < b → ∃ y m n, c.date y m n ∧ t = c.yb y + c.ahead y m + n - 1 ∧ getA kvs t = some (dateD y m n)
theorem cov_put {c : Calp} {kvs : List (Int × PyData)} {a b a2 b2 t y n : Int} {m : Nat} (h : c.Cov kvs a b) (hd : c.date y m n) (ht : t = c.yb y + c.ahead y m + n - 1) (hs : ∀ u, a2 ≤ u → u < b2 → u = t ∨ (a ≤ u ∧ u < b)) : c.Cov (putA kvs t (dateD y m n)) a2 b2 := fun u u1 u2 => by
  by_cases z : u = t
  · exact ⟨y, m, n, hd, by omega, by rw [getA_put, if_pos z]⟩
  · rcases hs u u1 u2 with e | ⟨e1, e2⟩
    · exact absurd e z
    · obtain ⟨y', m', n', h1, h2, h3⟩ := h u e1 e2
      exact ⟨y', m', n', h1, h2, by rw [getA_put, if_neg z]; exact h3⟩
def S_law_dates : FS := fun ds k => match ds with
  | [x, .int lo, .int hi] => ∃ c : Calp, x = calD c ∧ c.Ok ∧ -1000 ≤ lo ∧ lo ≤ 0 ∧ 0 ≤ hi ∧ hi ≤ 1000 ∧ ∀ kvs, c.Cov kvs lo (hi + 1) → k (dctD kvs)
  | _ => False
-- _law_dates: ['calendar', 'low', 'high', 'dates', 'day', 'year', 'month', 'number']
abbrev N_law_dates : List Str := ["calendar", "low", "high", "dates", "day", "year", "month", "number"]
def p_law_dates : PS' := (pSeq (pAsgD 3)
      (pSeq (pAsg (pC (.int 0)) (pgN 4))
      (pSeq (pAsg (pC (.int 0)) (pgN 5))
      (pSeq (pWhile (pTst (pII (fun i j => .bool (decide (i ≤ j))) (pVar 4) (pVar 2))) (pSeq (pRng (pCons (pC (.int 1)) (pCons (pPlus (pFn fLen (pCons (pIx (pVar 0) (pC (.int 0))) pNil)) (pC (.int 1))) pNil)) (pgN 6) (pRng (pCons (pC (.int 1)) (pCons (pPlus (pCall 3 S_law_length (pCons (pVar 0) (pCons (pVar 5) (pCons (pVar 6) pNil)))) (pC (.int 1))) pNil)) (pgN 7) (pSeq (pPutD 3 (pVar 4) (pTup (pCons (pVar 5) (pCons (pVar 6) (pCons (pVar 7) pNil)))))
      (pAsg (pPlus (pVar 4) (pC (.int 1))) (pgN 4)))))
      (pAsg (pPlus (pVar 5) (pC (.int 1))) (pgN 5))))
      (pSeq (pAsg (pC (.int 0)) (pgN 4))
      (pSeq (pAsg (pI (fun i => .int (-i)) (pC (.int 1))) (pgN 5))
      (pSeq (pWhile (pTst (pII (fun i j => .bool (decide (j ≤ i))) (pVar 4) (pVar 1))) (pSeq (pRev (pC (.int 1)) (pPlus (pFn fLen (pCons (pIx (pVar 0) (pC (.int 0))) pNil)) (pC (.int 1))) (pgN 6) (pRev (pC (.int 1)) (pPlus (pCall 3 S_law_length (pCons (pVar 0) (pCons (pVar 5) (pCons (pVar 6) pNil)))) (pC (.int 1))) (pgN 7) (pSeq (pAsg (pII (fun i j => .int (i - j)) (pVar 4) (pC (.int 1))) (pgN 4))
      (pPutD 3 (pVar 4) (pTup (pCons (pVar 5) (pCons (pVar 6) (pCons (pVar 7) pNil))))))))
      (pAsg (pII (fun i j => .int (i - j)) (pVar 5) (pC (.int 1))) (pgN 5))))
      (pRetD 3))))))))
end Pr
namespace Pr
open PySem L2 Pu Cal
abbrev envD (q : Calp) (lo hi : Int) (kvs : List (Int × PyData)) (day Y : Int) (o6 o7 : Cell) : En := [.d (calD q), .d (.int lo), .d (.int hi), .dct kvs, .d (.int day), .d (.int Y), o6, o7]
theorem year_sum {q : Calp} (ok : q.Ok) (y : Int) : 1 ≤ (q.mdays y).sum ∧ (q.mdays y).sum ≤ 2160 := by
  obtain ⟨h1, h2⟩ := sum_bound (mdays_pos ok y)
  rw [mdays_len] at h1 h2
  have := ok.m1
  have := ok.m2
  omega
theorem pure_law_dates (ds : List PyData) (c : PyData → Prop) (hl : ds.length = 3) (h : S_law_dates ds c) : p_law_dates (fin c) (startE N_law_dates ds) := by
  unfold S_law_dates at h
  split at h
  · rename_i x lo hi
    obtain ⟨q, rfl, ok, lo1, lo2, hi1, hi2, h⟩ := h
    have n1 := ok.m1
    have n2 := ok.m2
    have hL : ((q.ms.map PyData.int).length : Int) = (q.ms.length : Nat) := by rw [List.length_map]
    have y00 : q.yb 0 = 0 := yb_zero _ _ _
    have aheadL : ∀ Y, q.ahead Y q.ms.length = (q.mdays Y).sum := fun Y => by
      unfold Calp.ahead
      rw [show q.ms.length = (q.mdays Y).length by rw [mdays_len], List.take_length]
    refine ⟨by decide, fun w ρ => ∃ (kvs : List (Int × PyData)) (Y : Int) (o6 o7 : Cell), ρ = envD q lo hi kvs (q.yb Y) Y o6 o7 ∧ 0 ≤ q.yb Y ∧ q.yb Y ≤ 3200 ∧ q.Cov kvs 0 (q.yb Y) ∧ (kvs.length : Int) ≤ q.yb Y ∧ w = (3300 - q.yb Y).toNat,
      ⟨_, [], 0, .no, .no, ?_, by omega, by omega, fun t t1 t2 => by omega, by rw [y00]; exact Int.le_refl 0, rfl⟩, ?_⟩
    · rw [y00]
      rfl
    rintro w ρ ⟨kvs, Y, o6, o7, rfl, p1, p2, cov, kl, rfl⟩
    have ys := year_sum ok Y
    have yn := yb_next ok Y
    show (if decide (q.yb Y ≤ hi) = true then _ else _)
    refine ifd (fun z => ?_) (fun z => ?_)
    · refine ⟨_, rfl, 1, ((q.ms.map PyData.int).length : Nat) + 1, .inr rfl, ⟨by omega, by omega, by omega, by omega⟩, fun i ρ => ∃ (kvs : List (Int × PyData)) (o6 o7 : Cell), ρ = envD q lo hi kvs (q.yb Y + q.ahead Y i) Y o6 o7 ∧ q.Cov kvs 0 (q.yb Y + q.ahead Y i) ∧ (kvs.length : Int) ≤ q.yb Y + q.ahead Y i,
        ⟨kvs, o6, o7, ?_, ?_, ?_⟩, ?_, ?_⟩
      · have e : q.ahead Y 0 = 0 := rfl
        rw [e, Int.add_zero]
      · have e : q.ahead Y 0 = 0 := rfl
        rw [e, Int.add_zero]
        exact cov
      · have e : q.ahead Y 0 = 0 := rfl
        rw [e, Int.add_zero]
        exact kl
      · rintro i ρ hi3 ⟨kvs, o6, o7, rfl, cov, kl⟩
        have hlt : i < (q.mdays Y).length := by rw [mdays_len]; omega
        obtain ⟨v, hv⟩ : ∃ v, (q.mdays Y)[i]? = some v := ⟨_, List.getElem?_eq_getElem hlt⟩
        have vb := mdays_pos ok Y v (List.mem_of_getElem? hv)
        have al := ahead_le ok Y i
        have as := ahead_succ hv
        have al2 := ahead_le ok Y (i + 1)
        refine ⟨rfl, q, v, rfl, ok, by omega, ?_, 1, v + 1, .inr rfl, ⟨by omega, by omega, by omega, by omega⟩, fun j ρ => ∃ (kvs : List (Int × PyData)) (o7 : Cell), ρ = envD q lo hi kvs (q.yb Y + q.ahead Y i + (j : Int)) Y (.d (.int (1 + (i : Int)))) o7 ∧ q.Cov kvs 0 (q.yb Y + q.ahead Y i + (j : Int)) ∧ (kvs.length : Int) ≤ q.yb Y + q.ahead Y i + (j : Int),
          ⟨kvs, o7, ?_, ?_, ?_⟩, ?_, ?_⟩
        · rw [show (1 + (i : Int) - 1).toNat = i by omega]
          exact hv
        · show _ = envD q lo hi kvs (q.yb Y + q.ahead Y i + 0) Y (.d (.int (1 + (i : Int)))) o7
          rw [Int.add_zero]
          rfl
        · show q.Cov kvs 0 (q.yb Y + q.ahead Y i + 0)
          rw [Int.add_zero]
          exact cov
        · show (kvs.length : Int) ≤ q.yb Y + q.ahead Y i + 0
          omega
        · rintro j ρ hj ⟨kvs, o7, rfl, cov, kl⟩
          refine ⟨Nat.le_of_ble_eq_true rfl, by omega, putA kvs (q.yb Y + q.ahead Y i + (j : Int)) (dateD Y i (1 + (j : Int))), .d (.int (1 + (j : Int))), ?_, ?_, ?_⟩
          · have e1 : dateD Y i (1 + (j : Int)) = .tuple [.int Y, .int (1 + (i : Int)), .int (1 + (j : Int))] := by
              unfold dateD
              rw [Int.add_comm (i : Int) 1]
            rw [e1]
            have e2 : q.yb Y + q.ahead Y i + ((j + 1 : Nat) : Int) = q.yb Y + q.ahead Y i + (j : Int) + 1 := by omega
            rw [e2]
            rfl
          · exact cov_put cov ⟨v, hv, by omega, by omega⟩ (by omega) fun u u1 u2 => by omega
          · have := putA_len kvs (q.yb Y + q.ahead Y i + (j : Int)) (dateD Y i (1 + (j : Int)))
            omega
        · rintro ρ ⟨kvs, o7, rfl, cov, kl⟩
          have e : q.yb Y + q.ahead Y i + (((v + 1 - 1).toNat : Nat) : Int) = q.yb Y + q.ahead Y (i + 1) := by omega
          rw [e] at cov kl ⊢
          exact ⟨kvs, _, _, rfl, cov, kl⟩
      · rintro ρ ⟨kvs, o6, o7, rfl, cov, kl⟩
        have e : ((((q.ms.map PyData.int).length : Nat) : Int) + 1 - 1).toNat = q.ms.length := by omega
        rw [e, aheadL, ← yn] at cov kl ⊢
        exact ⟨(3300 - q.yb (Y + 1)).toNat, by omega, kvs, Y + 1, o6, o7, rfl, by omega, by omega, cov, kl, rfl⟩
    · refine ⟨fun w ρ => ∃ (kvs : List (Int × PyData)) (Y : Int) (o6 o7 : Cell), ρ = envD q lo hi kvs (q.yb (Y + 1)) Y o6 o7 ∧ q.yb (Y + 1) ≤ 0 ∧ -3200 ≤ q.yb (Y + 1) ∧ q.Cov kvs (q.yb (Y + 1)) (hi + 1) ∧ (kvs.length : Int) ≤ 3200 - q.yb (Y + 1) ∧ w = (q.yb (Y + 1) + 3300).toNat,
        ⟨_, kvs, -1, o6, o7, ?_, by rw [show (-1 : Int) + 1 = 0 from rfl]; omega, by rw [show (-1 : Int) + 1 = 0 from rfl]; omega, fun t t1 t2 => cov t (by rw [show (-1 : Int) + 1 = 0 from rfl] at t1; omega) (by omega), by rw [show (-1 : Int) + 1 = 0 from rfl]; omega, rfl⟩, ?_⟩
      · rw [show (-1 : Int) + 1 = 0 from rfl, y00]
        rfl
      clear cov kl p1 p2 ys yn z
      rintro w ρ ⟨kvs, Y, o6, o7, rfl, p1, p2, cov, kl, rfl⟩
      have ys := year_sum ok Y
      have yn := yb_next ok Y
      show (if decide (lo ≤ q.yb (Y + 1)) = true then _ else _)
      refine ifd (fun z => ?_) (fun z => ?_)
      · refine ⟨_, rfl, ⟨by omega, by omega, by omega, by omega⟩, fun i ρ => ∃ (kvs : List (Int × PyData)) (o6 o7 : Cell), ρ = envD q lo hi kvs (q.yb Y + q.ahead Y (q.ms.length - i)) Y o6 o7 ∧ q.Cov kvs (q.yb Y + q.ahead Y (q.ms.length - i)) (hi + 1) ∧ (kvs.length : Int) ≤ 3200 - (q.yb Y + q.ahead Y (q.ms.length - i)),
          ⟨kvs, o6, o7, ?_, ?_, ?_⟩, ?_, ?_⟩
        · rw [Nat.sub_zero, aheadL, ← yn]
        · rw [Nat.sub_zero, aheadL, ← yn]
          exact cov
        · rw [Nat.sub_zero, aheadL, ← yn]
          exact kl
        · rintro i ρ hi3 ⟨kvs, o6, o7, rfl, cov, kl⟩
          obtain ⟨k, hk⟩ : ∃ k : Nat, k + 1 + i = q.ms.length := ⟨q.ms.length - i - 1, by omega⟩
          have ek : q.ms.length - i = k + 1 := by omega
          have ek2 : q.ms.length - (i + 1) = k := by omega
          rw [ek] at cov kl ⊢
          have hlt : k < (q.mdays Y).length := by rw [mdays_len]; omega
          obtain ⟨v, hv⟩ : ∃ v, (q.mdays Y)[k]? = some v := ⟨_, List.getElem?_eq_getElem hlt⟩
          have vb := mdays_pos ok Y v (List.mem_of_getElem? hv)
          have al := ahead_le ok Y k
          have as := ahead_succ hv
          have al2 := ahead_le ok Y (k + 1)
          have eM : (1 : Int) + (((((q.ms.map PyData.int).length : Nat) : Int) + 1 - 1).toNat : Int) - 1 + (i : Int) * -1 = (k : Int) + 1 := by omega
          rw [eM]
          refine ⟨rfl, q, v, rfl, ok, by omega, ?_, ⟨by omega, by omega, by omega, by omega⟩, fun j ρ => ∃ (kvs : List (Int × PyData)) (o7 : Cell), ρ = envD q lo hi kvs (q.yb Y + q.ahead Y (k + 1) - (j : Int)) Y (.d (.int ((k : Int) + 1))) o7 ∧ q.Cov kvs (q.yb Y + q.ahead Y (k + 1) - (j : Int)) (hi + 1) ∧ (kvs.length : Int) ≤ 3200 - (q.yb Y + q.ahead Y (k + 1) - (j : Int)),
            ⟨kvs, o7, ?_, ?_, ?_⟩, ?_, ?_⟩
          · rw [show ((k : Int) + 1 - 1).toNat = k by omega]
            exact hv
          · show _ = envD q lo hi kvs (q.yb Y + q.ahead Y (k + 1) - 0) Y (.d (.int ((k : Int) + 1))) o7
            rw [Int.sub_zero]
            rfl
          · show q.Cov kvs (q.yb Y + q.ahead Y (k + 1) - 0) (hi + 1)
            rw [Int.sub_zero]
            exact cov
          · show (kvs.length : Int) ≤ 3200 - (q.yb Y + q.ahead Y (k + 1) - 0)
            omega
          · rintro j ρ hj ⟨kvs, o7, rfl, cov, kl⟩
            have eN : (1 : Int) + ((v + 1 - 1).toNat : Int) - 1 + (j : Int) * -1 = v - (j : Int) := by omega
            rw [eN]
            refine ⟨Nat.le_of_ble_eq_true rfl, by omega, putA kvs (q.yb Y + q.ahead Y (k + 1) - (j : Int) - 1) (dateD Y k (v - (j : Int))), .d (.int (v - (j : Int))), ?_, ?_, ?_⟩
            · have e2 : q.yb Y + q.ahead Y (k + 1) - ((j + 1 : Nat) : Int) = q.yb Y + q.ahead Y (k + 1) - (j : Int) - 1 := by omega
              rw [e2]
              rfl
            · exact cov_put cov ⟨v, hv, by omega, by omega⟩ (by omega) fun u u1 u2 => by omega
            · have := putA_len kvs (q.yb Y + q.ahead Y (k + 1) - (j : Int) - 1) (dateD Y k (v - (j : Int)))
              omega
          · rintro ρ ⟨kvs, o7, rfl, cov, kl⟩
            have e : q.yb Y + q.ahead Y (k + 1) - (((v + 1 - 1).toNat : Nat) : Int) = q.yb Y + q.ahead Y k := by omega
            rw [e] at cov kl ⊢
            refine ⟨kvs, .d (.int ((k : Int) + 1)), o7, ?_, ?_, ?_⟩
            · rw [ek2]
            · rw [ek2]
              exact cov
            · rw [ek2]
              exact kl
        · rintro ρ ⟨kvs, o6, o7, rfl, cov, kl⟩
          have e : q.ms.length - ((((q.ms.map PyData.int).length : Nat) : Int) + 1 - 1).toNat = 0 := by omega
          have a0 : q.ahead Y 0 = 0 := rfl
          rw [e, a0, Int.add_zero] at cov kl ⊢
          have ey : Y - 1 + 1 = Y := by omega
          refine ⟨(q.yb Y + 3300).toNat, by omega, kvs, Y - 1, o6, o7, ?_, ?_, ?_, ?_, ?_, ?_⟩
          · rw [ey]
            rfl
          · rw [ey]
            omega
          · rw [ey]
            omega
          · rw [ey]
            exact cov
          · rw [ey]
            exact kl
          · rw [ey]
      · exact h kvs fun t t1 t2 => cov t (by omega) t2
  · exact h.elim
end Pr
namespace Pr
open PySem L2 Pu Cal
/-- a calendar that the law has drawn -/
theorem calp_of {a b e d w f g : PyData} (v : Valid a b e d w f g) (hc : cyc (rulesOf d) < 1000000) (hg : great (monthsOf a) (intOf e) (rulesOf d) (intOf w) ≤ 400000) : ∃ q : Calp, PyData.tuple [a, b, e, d, w, f, g] = calD q ∧ q.Ok := by
  obtain ⟨ea, m1, m2, m3⟩ := months_of v.v0
  obtain ⟨lo, rfl, l1, l2⟩ := inR_of v.v1
  obtain ⟨ex, rfl, x1, x2⟩ := inR_of v.v2
  obtain ⟨ed, rd⟩ := rules_of v.v3
  obtain ⟨wk, rfl, w1, w2⟩ := inR_of v.v4
  obtain ⟨fi, rfl, f1, f2⟩ := inR_of v.v5
  obtain ⟨mi, rfl, g1, g2⟩ := inR_of v.v6
  have f2 : fi ≤ wk - 1 := f2
  have len : lenT a = (monthsOf a).length := by rw [ea]; show (List.map PyData.int (monthsOf a)).length = (monthsOf (.tuple (List.map PyData.int (monthsOf a)))).length; rw [show monthsOf (.tuple (List.map PyData.int (monthsOf a))) = monthsOf a from ints_back _, List.length_map]
  have v0 := v.v0
  rw [ea] at v0
  have v0 : (decide (1 ≤ ((monthsOf a).map PyData.int).length) && decide (((monthsOf a).map PyData.int).length ≤ 24) && ((monthsOf a).map PyData.int).all (fun d => inR d 1 60)) = true := v0
  rw [Bool.and_eq_true, Bool.and_eq_true, List.length_map] at v0
  refine ⟨⟨monthsOf a, lo, ex, rulesOf d, wk, fi, mi⟩, ?_, ⟨of_decide_eq_true v0.1.1, of_decide_eq_true v0.1.2, fun x hx => ?_, l1, by rw [← len]; exact l2, x1, x2, rd, w1, w2, f1, by show fi < wk; omega, hg, by show cyc (rulesOf d) < _; omega⟩⟩
  · show PyData.tuple [a, .int lo, .int ex, d, .int wk, .int fi, .int mi] = PyData.tuple [.tuple ((monthsOf a).map PyData.int), .int lo, .int ex, rulesD (rulesOf d), .int wk, .int fi, .int mi]
    rw [← ea, ← ed]
  · have q := List.all_eq_true.mp v0.2 (.int x) (List.mem_map.mpr ⟨x, hx, rfl⟩)
    obtain ⟨i, e, i1, i2⟩ := inR_of q
    cases e
    exact ⟨i1, i2⟩
theorem findK_dct {t : Int} : ∀ kvs : List (Int × PyData), findK (kvs.map fun kv => (.int kv.1, kv.2)) (.int t) = getA kvs t
  | [] => rfl
  | (k, v) :: r => by
    rw [getA_cons, ← findK_dct r]
    show (if keyEq (.int k) (.int t) = true then some v else _) = _
    by_cases z : k = t
    · rw [if_pos (show keyEq (.int k) (.int t) = true from decide_eq_true z), if_pos z]
    · rw [if_neg (show ¬ keyEq (.int k) (.int t) = true by simpa [keyEq] using z), if_neg z]
theorem fd_up {q : Calp} (ok : q.Ok) (un : Un) (p : Int) : q.fd un p < q.fd un (p + 1) := by
  cases un with
  | d => exact Int.lt_succ p
  | w =>
    have := week_next q p
    have := ok.w1
    omega
  | y => exact ybs ok p
  | m =>
    have n1 := ok.m1
    have n2 := ok.m2
    have r0 := Int.emod_nonneg p (show ((q.ms.length : Nat) : Int) ≠ 0 by omega)
    have r1 := Int.emod_lt_of_pos p (show (0 : Int) < ((q.ms.length : Nat) : Int) by omega)
    obtain ⟨m, hm⟩ : ∃ m : Nat, p % (q.ms.length : Nat) = m := ⟨(p % (q.ms.length : Nat)).toNat, by omega⟩
    have ep : p = p / (q.ms.length : Nat) * (q.ms.length : Nat) + (m : Int) := by
      have := Int.mul_ediv_add_emod p (q.ms.length : Nat)
      rw [hm, Int.mul_comm] at this
      omega
    have hlt : m < (q.mdays (p / (q.ms.length : Nat))).length := by rw [mdays_len]; omega
    have hv := List.getElem?_eq_getElem hlt
    have vb := mdays_pos ok _ _ (List.getElem_mem hlt)
    have pm := per_month ok (y := p / (q.ms.length : Nat)) (m := m) (n := 1) ⟨_, hv, by omega, by omega⟩ rfl
    rw [← ep] at pm
    omega
theorem fd_mono {q : Calp} (ok : q.Ok) (un : Un) (p : Int) : ∀ n : Nat, q.fd un p ≤ q.fd un (p + n)
  | 0 => by simp
  | n + 1 => by
    have h1 := fd_mono ok un p n
    have h2 := fd_up ok un (p + n)
    have e : p + ((n + 1 : Nat) : Int) = p + n + 1 := by omega
    rw [e]
    omega
/-- a day has one period -/
theorem per_one {q : Calp} (ok : q.Ok) {un : Un} {t p r : Int} (p1 : q.fd un p ≤ t) (p2 : t < q.fd un (p + 1)) (r1 : q.fd un r ≤ t) (r2 : t < q.fd un (r + 1)) : p = r := by
  have le : ∀ {a b : Int}, a < b → q.fd un (a + 1) ≤ q.fd un b := fun {a b} h => by
    have := fd_mono ok un (a + 1) (b - (a + 1)).toNat
    have e : a + 1 + ((b - (a + 1)).toNat : Int) = b := by omega
    rwa [e] at this
  by_cases c1 : p < r
  · have := le c1
    omega
  · by_cases c2 : r < p
    · have := le c2
      omega
    · omega
end Pr
namespace Pu
open PySem L2
/-! any(xs) of a list of truth values; xs.count(y) of a list of ints -/
def fAny : FS := fun ds k => match ds with
  | [d] => asL d fun xs => ∃ ns, boolsOf xs = some ns ∧ k (.bool (ns.any id))
  | _ => False
theorem fAny_of {ds : List PyData} {k : PyData → Prop} (h : fAny ds k) : ∃ ns : List Bool, ds = [.list (ns.map PyData.bool)] ∧ k (.bool (ns.any id)) := by
  unfold fAny at h
  split at h
  · obtain ⟨xs, rfl, ns, e, h⟩ := asL_of h
    rw [boolsOf_eq e]
    exact ⟨ns, rfl, h⟩
  · exact h.elim
def pCount (pa pb : PE') : PE' := fun ρ R => pa ρ fun x ρ1 => asL x fun ds => pb ρ1 fun y ρ2 => asI y fun n => ∃ ns : List Int, ds = ns.map PyData.int ∧ R (.int (ns.count n : Nat)) ρ2
/-- a slice of a list of the def's own -/
def pCutO (i : Nat) (pl ph : PO') : PE' := fun ρ R => asOwn (cellAt ρ i) fun _ => pl ρ fun l ρ1 => ph ρ1 fun h ρ2 => asOwn (cellAt ρ2 i) fun ds => R (.list (cutP ds l h)) ρ2
section
variable {K : PySem.W.Frag}
theorem sim_cutO {i : Nat} {tl th : TO} {pl ph : PO'} (sl : SimO K tl pl) (sh : SimO K th ph) : Sim K (tSl (rCut K) (tVar i) tl th) (pCutO i pl ph) := fun B Z A H0 M σ H ρ R E h Q q => by
  obtain ⟨ds, hc, h⟩ := asOwn_of h
  obtain ⟨l, vs, e, m, hl, r⟩ := own_at E hc
  refine ⟨.ref l, e, sl B Z A H0 M σ H ρ _ E h _ fun lo ρ1 H1 h1 E1 => sh B Z _ H0 M σ H1 ρ1 _ E1.anchor h1 _ fun hi ρ2 H2 h2 E2 => ?_⟩
  obtain ⟨ds2, hc2, h3⟩ := asOwn_of h2
  obtain ⟨l2, vs2, e2, m2, hl2, r2⟩ := own_at E2 hc2
  rw [m] at m2
  cases m2
  have E4 := E2.weak E1.anch
  exact .inl ⟨l, vs2, rfl, .of hl2, fun p hp => q _ _ _ _ h3 (E4.grown (grow_new hp)) (.newL (E4.veiled hp) hp (cut_dq r2 lo hi))⟩
theorem sim_any {ta : TA} {pa : PA'} (sa : SimA K ta pa) : Sim K (tCB (rAny K) ta) (pFn fAny pa) := fun B Z A H0 M σ H ρ R E h Q q =>
  sa B Z A H0 M σ H ρ _ E h _ fun vs ds ρ1 H1 h1 E1 d1 => by
    obtain ⟨ns, rfl, h2⟩ := fAny_of h1
    obtain ⟨v, rfl, dv⟩ := one_of d1
    cases dv with
    | lst hl r =>
      have e := dqs_of_bools r
      subst e
      exact ⟨_, ns, rfl, .of (veil_grow _ _ _ _ hl), q _ _ _ _ h2 E1 (.bl _)⟩
theorem sim_count {ta tb : TE} {pa pb : PE'} (sa : Sim K ta pa) (sb : Sim K tb pb) : Sim K (tBM K "list" (rCntI K) ta (tCons tb tNil)) (pCount pa pb) := fun B Z A H0 M σ H ρ R E h Q q =>
  sa B Z A H0 M σ H ρ _ E h _ fun v x ρ1 H1 h1 E1 d1 => by
    obtain ⟨ds, rfl, h2⟩ := asL_of h1
    cases d1 with
    | @lst a vs _ hs r =>
      refine ⟨.inl ⟨rfl, vs, .of (veil_grow _ _ _ _ hs)⟩, sb B Z _ H0 M σ H1 ρ1 _ E1.anchor h2 _ fun w y ρ2 H2 h3 E2 d2 => ?_⟩
      obtain ⟨n, rfl, ns, rfl, h4⟩ := asI_of h3
      have ev := dqs_of_ints r
      subst ev
      rw [of_int d2]
      exact ⟨a, ns, n, rfl, rfl, .of (veil_grow _ _ _ _ (E2.anch _ _ hs)), q _ _ _ _ h4 (E2.weak E1.anch) (.int _)⟩
end
end Pu
namespace Pu
open PySem L2
/-! a dict written out, its keys written texts -/
def dispD (ks : List Str) (ds : List PyData) : PyData := .dict ((ks.map PyData.str).zip ds)
def pDisp (ks : List Str) (pa : PA') : PE' := fun ρ R => pa ρ fun ds ρ1 => R (dispD ks ds) ρ1
section
variable {K : PySem.W.Frag}
def SimK (K : PySem.W.Frag) (trs : List (TE × TE)) (ks : List Str) (p : PA') : Prop := ∀ B Z A H0 M σ H ρ R, EnvR K B Z A H0 M σ H ρ → p ρ R →
  ∀ Q : List (V × V) → Hp → Prop, (∀ vs ds ρ' H2, R ds ρ' → EnvR K B Z A H0 M σ H2 ρ' → Dqs K (veil (hid Z M) H2) vs ds → vs.length = ks.length → Q ((ks.map V.str).zip vs) H2) → tPairs trs σ H Q
theorem k_nil : SimK K [] [] pNil := fun B Z A H0 M σ H ρ R E h Q q => q [] [] ρ H h E .nil rfl
theorem k_cons {k : Str} {tv : TE} {trs : List (TE × TE)} {ks : List Str} {pv : PE'} {pr : PA'} (sv : Sim K tv pv) (sr : SimK K trs ks pr) : SimK K ((tC (.str k), tv) :: trs) (k :: ks) (pCons pv pr) := fun B Z A H0 M σ H ρ R E h Q q =>
  sv B Z A H0 M σ H ρ _ E h _ fun v x ρ1 H1 h1 E1 d1 => sr B Z _ H0 M σ H1 ρ1 _ E1.anchor h1 _ fun vs ds ρ2 H2 h2 E2 d2 hl =>
    q _ _ ρ2 H2 h2 (E2.weak E1.anch) (.cons (dp_grow E2.anch _ _ d1) d2) (congrArg (· + 1) hl)
theorem put_new {kvs : List (Key × V)} {k : Key} {v : V} (h : k ∉ kvs.map (·.1)) : putK kvs k v = kvs ++ [(k, v)] := by
  unfold putK
  rw [if_neg]
  intro z
  rw [List.any_eq_true] at z
  obtain ⟨x, hx, e⟩ := z
  exact h (List.mem_map.mpr ⟨x, hx, of_decide_eq_true e⟩)
theorem merge_new : ∀ {more kvs : List (Key × V)}, ((kvs ++ more).map (·.1)).Nodup → mergeK kvs more = kvs ++ more
  | [], kvs, _ => (List.append_nil kvs).symm
  | (k, v) :: r, kvs, h => by
    have h2 : (kvs.map (·.1) ++ k :: r.map (·.1)).Nodup := by simpa using h
    have nk : k ∉ kvs.map (·.1) := fun m => (List.nodup_append.mp h2).2.2 k m k List.mem_cons_self rfl
    show mergeK (putK kvs k v) r = _
    rw [put_new nk, merge_new (more := r) (kvs := kvs ++ [(k, v)]) (by simpa using h)]
    simp
theorem zip_keys : ∀ {ks : List Str} {vs : List V}, vs.length = ks.length → ((ks.map (Sum.inr : Str → Key)).zip vs).map (·.1) = ks.map Sum.inr
  | [], [], _ => rfl
  | k :: ks, v :: vs, h => by
    show Sum.inr k :: ((ks.map (Sum.inr : Str → Key)).zip vs).map (·.1) = _
    rw [zip_keys (ks := ks) (vs := vs) (by simpa using h)]
    rfl
theorem zip_vals : ∀ {ks : List Str} {vs : List V}, (ks.map V.str).zip vs = ((ks.map (Sum.inr : Str → Key)).zip vs).map fun kv => (kV kv.1, kv.2)
  | [], _ => rfl
  | _ :: _, [] => rfl
  | k :: ks, v :: vs => congrArg ((V.str k, v) :: ·) (zip_vals (ks := ks) (vs := vs))
theorem zip_dks {H : Hp} : ∀ {ks : List Str} {vs : List V} {ds : List PyData}, Dqs K H vs ds → Dks K H ((ks.map (Sum.inr : Str → Key)).zip vs) ((ks.map PyData.str).zip ds)
  | [], _, _, _ => .nil
  | _ :: _, _, _, .nil => .nil
  | k :: ks, _, _, .cons h r => .cons (k := .inr k) h (zip_dks r)
theorem wiped_put {H : Hp} {D : Addr} {u : HO} : upd (wiped H D) D u = upd H D u := by
  funext a
  by_cases e : a = D
  · rw [e, upd_same, upd_same]
  · rw [upd_ne e, upd_ne e, wiped_ne e]
theorem sim_disp {trs : List (TE × TE)} {ks : List Str} {pa : PA'} (nd : ks.Nodup) (hl : ks.length ≤ 15) (sa : SimK K trs ks pa) : Sim K (tDisp trs) (pDisp ks pa) := fun B Z A H0 M σ H ρ R E h Q q p hp => by
  obtain ⟨h0, nB, nZ⟩ := lc_start E hp
  have E0 : EnvR K B (plus Z p) (veil (hid Z M) H) H0 M σ (upd H p (.dK [])) ρ := E.enter (vs := []) (fun v hv => absurd hv (List.not_mem_nil)) hp
  have nM : ∀ i l, M i = some l → l ≠ p := fun i l m e => E0.off i l m (.inr e)
  refine sa B (plus Z p) _ _ M σ _ ρ _ (E0.hold upd_same nM) h _ fun vs ds ρ' H2 hR E2 dv hlen => ?_
  have hD : H2 p = some (.dK []) := E2.ext p _ nB upd_same
  refine ⟨hD, (ks.map (Sum.inr : Str → Key)).zip vs, zip_vals, ?_, ?_⟩
  · rw [List.length_zip, List.length_map]
    omega
  have hk : ((ks.map (Sum.inr : Str → Key)).zip vs).map (·.1) = ks.map Sum.inr := zip_keys hlen
  have ndk : (ks.map (Sum.inr : Str → Key)).Nodup := by
    unfold List.Nodup at nd ⊢
    rw [List.pairwise_map]
    exact nd.imp fun hab e => hab (Sum.inr.inj e)
  rw [merge_new (by rw [List.nil_append, hk]; exact ndk), List.nil_append]
  have E3 : EnvR K B Z A H0 M σ (wiped H2 p) ρ' := EnvR.leave (vs := []) (E2.unhold h0 nM) E.anch h0 nZ
  have E4 := E3.grown (grow_new (o := HO.dK ((ks.map (Sum.inr : Str → Key)).zip vs)) wiped_at)
  rw [wiped_put] at E4
  refine q _ _ ρ' _ hR E4 (.dct (veil_on (E3.veiled wiped_at) upd_same) (zip_dks (dqs_up ?_ dv)))
  have g1 : Grow (veil (hid (plus Z p) M) H2) (veil (hid Z M) (wiped H2 p)) := veil_in
  have g2 := grow_veil (Z := hid Z M) (grow_new (o := HO.dK ((ks.map (Sum.inr : Str → Key)).zip vs)) (wiped_at (H := H2) (D := p)))
  rw [wiped_put] at g2
  exact g1.trans g2
end
end Pu
namespace Pu
open PySem PySem.Spec PyProof.Rows L2
/-! sorted(d) of a dict with int keys, of any length -/
def rSortDI : List V → Hp → VK → Prop := fun zs H Q => ∃ (a : Addr) (kvs : List (Key × V)) (ns : List Int), zs = [.ref a] ∧ Rd H a (.dK kvs) ∧ kvs.map (·.1) = ns.map Sum.inl ∧ ns.length ≤ sizeLine ∧
  ∀ (ms : List Int) (p : Addr), ms.Perm ns → ms.Pairwise (· ≤ ·) → H p = none → Q (.ref p) (upd H p (.lst (ms.map V.int)))
theorem c_sortDI {X : Cx} (hc : X.calm = true) : CallR X (.builtin "sorted") rSortDI := by
  intro pins s σ H zs us Q I r h
  obtain ⟨a, kvs, ns, ez, hd, hns, hsz, h⟩ := h
  subst ez
  obtain ⟨u, eu, rx⟩ := vals1 r
  subst eu
  cases rx
  obtain ⟨z, lo, vs, rel, dd⟩ := dk_rd I.hok hd
  obtain ⟨ep, hat⟩ := dd.dictAt
  have kk : vs.map (·.1) = ns.map Sum.inl := rel.keys.symm.trans hns
  have lv : vs.length = ns.length := by simpa using congrArg List.length kk
  refine Calls.call_function_entry PyProof.Rows.kind_sorted
    PyProof.Rows.plain_sorted PyProof.Rows.entry_sorted
    (PyProof.Rows.args_sorted1 _) ?_
  unfold Builtin.«sorted»
  refine wpAny_bind (m := checkCount "sorted" 1 1 _)
    (wpAny_pure ?_)
  refine wpAny_bind (PySem.W.kdu_collect (A := X.A.in1) (PySem.W.kdl_dict
    (knd := mixKind X.prog X.w) (kvs := vs) (ep := ep) lo)
    (I.ok.hd hc) hat (by rw [lv]; exact hsz) fun g tk acc hk ha => ?_)
  have la : acc.toList.length = ns.length := by
    rw [Array.length_toList, ha.1, lv]
  have ia : IntsAre acc.toList ns := ints_each la fun j w e => by
    obtain ⟨k, x, e1, e2⟩ := ha.2 j w (by rw [← Array.getElem?_toList]
                                          exact e)
    have e3 : (vs.map (·.1))[j]? = some k := by rw [List.getElem?_map, e1]
                                                rfl
    rw [kk, List.getElem?_map] at e3
    cases e4 : ns[j]? with
    | none => rw [e4] at e3
              cases e3
    | some y =>
      rw [e4] at e3
      cases (show Sum.inl y = k from Option.some.inj e3)
      rcases keyIs_shape (show keyIs (Sum.inl y) w = true from e2) with ⟨i, t, ek, ew⟩ | ⟨i, t, ek, ew⟩
      · cases ek
        exact ⟨y, t, rfl, ew⟩
      · cases ek
  have J : Inv X pins σ H { s with heap := g, toks := tk } := I.kept hk
  refine wpAny_bind (wpAny_newList ?_ (by rw [la]
                                          exact hsz))
  have at0 : (g.push (seqObj "list" acc.toList.toArray 0)).get? g.objs.size =
      some (seqObj "list" acc.toList.toArray 0) := Heap.get?_push_size _ rfl
  show wpAny _ _ _ _ _ { s with heap := g.push (seqObj "list" acc.toList.toArray 0), toks := tk }
  refine wpAny_bind (wpAny_holding (wpAny_call_entry PyProof.Rows.slot_list_sort ⟨_, at0, rfl⟩
    PyProof.Rows.entry_list_sort (PyProof.Rows.list_sort_treeAny
      (s := { s with heap := g.push (seqObj "list" acc.toList.toArray 0), toks := tk })
      at0 ia (by rw [la]; exact hsz) fun out ms g1 g2 g3 => ⟨_, rfl, ?_⟩)
    (PyProof.Rows.args_list_sort _)))
  obtain ⟨n', hn'⟩ := PyProof.Rows.sortedHeap_at (vs := acc.toList)
    (out := out) at0
  have lm : (ms.map V.int).length ≤ sizeLine := by rw [List.length_map, g2.length_eq]; exact hsz
  refine wpAny_pure ⟨_, rfl, .ref g.objs.size, upd H g.objs.size (.lst (ms.map V.int)),
    J.laid (t' := tk) (fun b o e => ?_) (Nat.le_refl _)
      (show ObjOk X.prog X.w _ _ _ (.lst (ms.map V.int)) from ⟨lm, out.toList, n',
        vals_of_ints g1, by rw [Array.toArray_toList]; exact hn'⟩), rfl,
    h ms _ g2 g3 (J.hok.fresh (Nat.le_refl _))⟩
  have hb : b < g.objs.size := Heap.lt_size e
  rw [PyProof.Rows.sortedHeap_old (Nat.ne_of_lt hb)
    (by rw [size_push']; exact Nat.lt_succ_of_lt hb)]
  exact Heap.get?_push_of_some _ e
def intK : List (PyData × PyData) → Option (List Int)
  | [] => some []
  | (.int i, _) :: r => (intK r).map (i :: ·)
  | _ => none
def pSortK (pa : PE') : PA' := fun ρ R => pa ρ fun x ρ1 => asK x fun kvs => ∃ ns, intK kvs = some ns ∧ ns.length ≤ 100000 ∧ ∀ ms : List Int, ms.Perm ns → ms.Pairwise (· ≤ ·) → R (ms.map PyData.int) ρ1
section
variable {K : PySem.W.Frag}
theorem dks_keys {H : Hp} : ∀ {ws : List (Key × V)} {kvs : List (PyData × PyData)} {ns : List Int}, Dks K H ws kvs → intK kvs = some ns → ws.map (·.1) = ns.map Sum.inl
  | [], _, ns, .nil, e => by
    cases e
    rfl
  | (k, v) :: ws, _, ns, .cons (kvs := kvs) h r, e => by
    cases k with
    | inl n =>
      have e : (intK kvs).map (n :: ·) = some ns := e
      cases q : intK kvs with
      | none => rw [q] at e; cases e
      | some ms =>
        rw [q] at e
        cases e
        rw [List.map_cons, List.map_cons, dks_keys r q]
    | inr z => cases e
theorem sim_sortK {ta : TE} {pa : PE'} (sa : Sim K ta pa) : SimL K (tCB rSortDI (tCons ta tNil)) (pSortK pa) := fun B Z A H0 M σ H ρ R E h Q q =>
  sa B Z A H0 M σ H ρ _ E h _ fun v x ρ1 H1 h1 E1 d1 => by
    obtain ⟨kvs, rfl, ns, hn, hl, h2⟩ := asK_of h1
    cases d1 with
    | @dct a ws _ hs r =>
      exact ⟨a, ws, ns, rfl, .inl (veil_grow _ _ _ _ hs), dks_keys r hn, sz5 hl, fun ms p pm pw hp => q p _ _ ρ1 H1 (h2 ms pm pw) E1 hp dqs_ints⟩
end
end Pu
namespace Pu
open PySem L2
/-! a def that raises: an own class of error, without fields; its raise is read as a break of the body -/
abbrev FSX := List PyData → (PyData → Prop) → Prop → Prop
def spX (K : PySem.W.Frag) (C : Addr) (n : Nat) (S : FSX) : Sp := fun vs H Q E => vs.length = n ∧ ∃ (Z : Addr → Prop) (ds : List PyData) (k : PyData → Prop) (kx : Prop), (∀ a, Z a → H a ≠ none) ∧ Dqs K (veil Z H) vs ds ∧
  S ds k kx ∧ (∀ d v H', k d → Grow H H' → Dq K (veil Z H') v d → Q v H') ∧ (kx → ∀ H', Grow H H' → E (.ref C) none H')
/-- the way out by a raise -/
def tR (C : Addr) (E : XK) : TS := fun _ _ H => E (.ref C) none H
def SimS2 (K : PySem.W.Frag) (Hx : Hp) (C : Addr) (E : XK) (t : TS) (p : PS') : Prop := ∀ Z A M σ H ρ D G, EnvR K (fun _ => False) Z A Hx M σ H ρ → p G ρ →
  (∀ M σ H ρ, EnvR K (fun _ => False) Z A Hx M σ H ρ → G.nx ρ → D.nx σ H) → (∀ M σ H ρ v d, EnvR K (fun _ => False) Z A Hx M σ H ρ → G.rt d ρ → Dq K (veil (fun a => Z a ∨ False) H) v d → D.rt v H) →
  (∀ M σ H ρ, EnvR K (fun _ => False) Z A Hx M σ H ρ → G.bk ρ → E (.ref C) none H) → t D σ H
section
variable {K : PySem.W.Frag} {Hx : Hp} {C : Addr} {E : XK}
theorem s2_raise : SimS2 K Hx C E (tR C E) pBrk := fun Z A M σ H ρ D G e h n r x => x M σ H ρ e h
theorem s2_of {t : TS} {p : PS'} (st : SimS K t p) (hp : ∀ G ρ, p G ρ → p { nx := G.nx, rt := G.rt } ρ) : SimS2 K Hx C E t p := fun Z A M σ H ρ D G e h n r x =>
  st (fun _ => False) Z A Hx M σ H ρ D _ e (hp G ρ h) ⟨n, fun _ _ _ _ _ z => z.elim, fun _ _ _ _ _ z => z.elim, r⟩
theorem s2_seq {t u : TS} {p q : PS'} (st : SimS2 K Hx C E t p) (su : SimS2 K Hx C E u q) : SimS2 K Hx C E (tSeq t u) (pSeq p q) := fun Z A M σ H ρ D G e h n r x =>
  st Z A M σ H ρ _ _ e h (fun M σ H ρ e h => su Z A M σ H ρ D G e h n r x) r x
theorem s2_if {tt : TT} {t u : TS} {pt : PT'} {p q : PS'} (sc : SimT K tt pt) (st : SimS2 K Hx C E t p) (su : SimS2 K Hx C E u q) : SimS2 K Hx C E (tIfS tt t u) (pIfS pt p q) := fun Z A M σ H ρ D G e h n r x =>
  sc (fun _ => False) Z A Hx M σ H ρ _ e h _ fun c ρ1 H1 h1 E1 => by
    cases c with
    | true => exact st Z A M σ H1 ρ1 D G E1 h1 n r x
    | false => exact su Z A M σ H1 ρ1 D G E1 h1 n r x
end
section
variable {P : Program} {w : World} {K : PySem.W.Frag} {mg : Str → Option Value} {base : Heap}
def BodyX (P : Program) (w : World) (K : PySem.W.Frag) (mg : Str → Option Value) (base : Heap) (C : Addr) (N : List Str) (qual : Str) (st : Stmt) (f : Addr) (k : Nat) (go : PS' → Prop) : Prop :=
  ∀ (cdv : Value) (A : Around) (outer : List Env) (s : Shared) (H : Hp) (E : XK), Room k (A.deeper (PyProof.Rows.envOfC qual (defScope st) s.heap.objs.size f cdv)) →
    ∃ t p, PSs (cxOf (L2.CX P w) P w K mg base N qual (defScope st) f cdv A outer s H E) (defBody st) t ∧ SimS2 K H C E t p ∧ go p
theorem ok_PX {x qual : Str} {st : Stmt} {f : Addr} {fd : FuncData} {N ps : List Str} {k n : Nat} {C : Addr} {S : FSX} (F : Fun K x qual st f fd) (Sc : FnScope N ps (defScope st)) (hn : ps.length = n)
    (hb : BodyX P w K mg base C N qual st f k fun p => ∀ ds c kx, ds.length = n → S ds c kx → p ⟨fun _ => c .none, fun d _ => c d, fun _ => kx, fun _ => False⟩ (startE N ds)) : FnOk P w K mg base (L2.CX P w) (k + 1) f fd ps (spX K C n S) := by
  refine F.okX Sc (fun vs H Q E h => by rw [h.1, hn]) (fun cdv A outer s H vs Q E hr h => ?_)
  obtain ⟨hl, Z, ds, c, kx, hz, r, hS, q, qx⟩ := h
  obtain ⟨t, p, ht, hs, hp⟩ := hb cdv A outer s H E hr
  have hnl : ps.length ≤ N.length := by
    have := congrArg List.length Sc.pre
    rw [List.length_take] at this
    omega
  have dl := dqs_len r
  refine ⟨t, ht, hs Z (fun _ => none) (fun _ => none) _ H (startE N ds) _ _ ?_ (hp ds c kx (by omega) hS) (fun M σ H' ρ E' k => q .none .non H' k (fun a o e => E'.ext a o id e) .non) (fun M σ H' ρ v d E' k dv => q d v H' k (fun a o e => E'.ext a o id e) (dp_grow (veil_less fun _ z => .inl z) _ _ dv)) (fun M σ H' ρ E' k => qx k H' (fun a o e => E'.ext a o id e))⟩
  refine ⟨by rw [start_len (by omega), startE_len (by omega)], fun _ _ _ z => (nomatch z), fun _ _ z => (nomatch z), fun _ _ z => (nomatch z), hz, fun _ _ _ h => h, fun _ _ z => (nomatch z), fun _ z => False.elim z, fun _ _ z => (nomatch z), fun i cc hc => ?_⟩
  rcases start_cell r hc with rfl | ⟨v, d, rfl, e, dv⟩
  · trivial
  · refine ⟨v, e, ?_⟩
    rw [no_hid]
    exact dv
end
end Pu
set_option maxHeartbeats 2000000
namespace Pr
open PySem L2 Pu Cal
def S_day_ofX : FSX := fun ds k kx => match ds with
  | [x, .int y, .int m, .int n] => ∃ c : Calp, x = calD c ∧ c.Ok ∧ (1 ≤ m → c.date y (m - 1).toNat n → k (.int (c.yb y + c.ahead y (m - 1).toNat + n - 1))) ∧ (¬ (1 ≤ m ∧ c.date y (m - 1).toNat n) → kx)
  | _ => False
def noneD : PyData := .tuple [txt "none", .bool true]
def S_law_day : FS := fun ds k => S_day_ofX ds k (k noneD)
-- day_of: ['calendar', 'year', 'month', 'number', 'days']
def p_day_ofX : PS' := (pSeq (pAsg (pCall 2 S_month_days (pCons (pVar 0) (pCons (pVar 1) pNil))) (pgN 4))
      (pSeq (pIfS (pOr (pNot (pTst (pChain (fun i j => decide (i ≤ j)) (fun i j => decide (i ≤ j)) (pC (.int 1)) (pVar 2) (pFn fLen (pCons (pVar 4) pNil))))) (pNot (pTst (pChain (fun i j => decide (i ≤ j)) (fun i j => decide (i ≤ j)) (pC (.int 1)) (pVar 3) (pIx (pVar 4) (pII (fun i j => .int (i - j)) (pVar 2) (pC (.int 1)))))))) pBrk pNext)
      (pRet (pII (fun i j => .int (i - j)) (pPlus (pPlus (pCall 2 S_year_begin (pCons (pCall 1 S_shape_of (pCons (pVar 0) pNil)) (pCons (pVar 1) pNil))) (pFn fSum (pCons (pCut (pVar 4) pNoP (pPart (pII (fun i j => .int (i - j)) (pVar 2) (pC (.int 1))))) pNil))) (pVar 3)) (pC (.int 1))))))
-- weekday_of: ['calendar', 'day']
abbrev N_weekday_of : List Str := ["calendar", "day"]
def p_weekday_of : PS' := (pRet (pIIc (fun _ j => 0 < j) (fun i j => .int (i % j)) (pPlus (pVar 1) (pIx (pVar 0) (pC (.int 5)))) (pIx (pVar 0) (pC (.int 4)))))
theorem pure_weekday_of (ds : List PyData) (c : PyData → Prop) (hl : ds.length = 2) (h : S_weekday_of ds c) : p_weekday_of (fin c) (startE N_weekday_of ds) := by
  unfold S_weekday_of at h
  split at h
  · rename_i x t
    obtain ⟨q, rfl, ok, h⟩ := h
    have w1 := ok.w1
    exact ⟨by show 0 < q.week; omega, h⟩
  · exact h.elim

theorem pure_day_ofX (ds : List PyData) (c : PyData → Prop) (kx : Prop) (hl : ds.length = 4) (h : S_day_ofX ds c kx) : p_day_ofX ⟨fun _ => c .none, fun d _ => c d, fun _ => kx, fun _ => False⟩ (startE N_day_of ds) := by
  unfold S_day_ofX at h
  split at h
  · rename_i x y m n
    obtain ⟨q, rfl, ok, h1, h2⟩ := h
    obtain ⟨s1, s2⟩ := sum_pos ok
    obtain ⟨t1, t2⟩ := terms_in ok.rs ok.cy
    have x1 := ok.x1
    have x2 := ok.x2
    have ybE : q.ms.sum * y + q.extra * longs y (longTerms q.rs) = q.yb y := rfl
    refine ⟨rfl, q, rfl, ok, ?_⟩
    have no : ∀ i : Nat, (m - 1).toNat = i → ¬ i < (q.mdays y).length → ¬ (1 ≤ m ∧ q.date y (m - 1).toNat n) := fun i e ni ⟨_, v, hv, _⟩ => ni (by rw [← e]; exact (List.getElem?_eq_some_iff.mp hv).1)
    show (if decide ((1 : Int) ≤ m) = true then _ else _)
    refine ifd (fun z1 => ?_) (fun z1 => h2 fun k => z1 k.1)
    refine ⟨_, rfl, ?_⟩
    obtain ⟨i, hi⟩ : ∃ i : Nat, m - 1 = i := ⟨(m - 1).toNat, by omega⟩
    have hi2 : (m - 1).toNat = i := by omega
    show (if (!(decide (m ≤ (((q.mdays y).map PyData.int).length : Nat)))) = true then _ else _)
    have hlen : ((((q.mdays y).map PyData.int).length : Nat) : Int) = ((q.mdays y).length : Nat) := by rw [List.length_map]
    by_cases z2 : m ≤ (((q.mdays y).map PyData.int).length : Nat)
    · refine ff (by rw [decide_eq_true z2]; rfl) ?_
      have hlt : i < (q.mdays y).length := by omega
      have hv : (q.mdays y)[i]? = some (q.mdays y)[i] := List.getElem?_eq_getElem hlt
      show (if decide ((1 : Int) ≤ n) = true then _ else _)
      refine ifd (fun z3 => ?_) (fun z3 => h2 fun ⟨_, v, _, n1, _⟩ => z3 n1)
      refine oSome (d := .int (q.mdays y)[i]) ?_ ?_
      · show atI ((q.mdays y).map PyData.int) (m - 1) = _
        rw [hi]
        exact atI_nat (by rw [List.getElem?_map, hv]; rfl)
      show (if (!(decide (n ≤ (q.mdays y)[i]))) = true then _ else _)
      by_cases z4 : n ≤ (q.mdays y)[i]
      · refine ff (by rw [decide_eq_true z4]; rfl) ?_
        refine ⟨rfl, q.ms, q.rs, rfl, rfl, ok.rs, rfl, longTerms q.rs, rfl, t1, t2, by omega, by omega, ?_⟩
        refine ⟨(q.mdays y).take i, ?_, ?_⟩
        · show intsOf (cutP ((q.mdays y).map PyData.int) none (some (m - 1))) = _
          rw [hi, cut_take _ (by rw [List.length_map]; omega), ← List.map_take]
          exact intsOf_map _
        · have k := h1 z1 (by rw [hi2]; exact ⟨_, hv, z3, z4⟩)
          rw [hi2] at k
          exact k
      · refine tt (by rw [decide_eq_false z4]; rfl) ?_
        refine h2 fun ⟨_, v, hv2, _, n2⟩ => z4 ?_
        rw [hi2, hv] at hv2
        cases hv2
        exact n2
    · refine tt (by rw [decide_eq_false z2]; rfl) ?_
      exact h2 (no i hi2 (by omega))
  · exact h.elim
-- law: ['script', 'box', 'calendar', 'dates', 'day', 'date', 'k', 'year', 'month', 'days', 'wrong', 'far', 'long', 'pair']
abbrev N_law : List Str := ["script", "box", "calendar", "dates", "day", "date", "k", "year", "month", "days", "wrong", "far", "long", "pair"]
def p_law : PS' := (pSeq (pAsg (pCallB 0 S_law_calendar 1 pNil) (pgN 2))
      (pSeq (pAsg (pCall 3 S_law_dates (pCons (pVar 2) (pCons (pI (fun i => .int (-i)) (pC (.int 60))) (pCons (pC (.int 60)) pNil)))) (pgN 3))
      (pSeq (pRng (pCons (pI (fun i => .int (-i)) (pC (.int 60))) (pCons (pC (.int 61)) pNil)) (pgN 4) (pSeq (pAsg (pGetK (pVar 3) (pVar 4)) (pgN 5))
      (pSeq (pIfS (pOr (pTst (pEqD true (pCall 2 S_date_of (pCons (pVar 2) (pCons (pVar 4) pNil))) (pVar 5))) (pTst (pEqD true (pCall 4 S_law_day (pCons (pVar 2) (pCons (pIx (pVar 5) (pC (.int 0))) (pCons (pIx (pVar 5) (pC (.int 1))) (pCons (pIx (pVar 5) (pC (.int 2))) pNil))))) (pVar 4)))) (pRet (pC (.bool false))) pNext)
      (pIfS (pTst (pEqD true (pCall 2 S_weekday_of (pCons (pVar 2) (pCons (pVar 4) pNil))) (pIIc (fun _ j => 0 < j) (fun i j => .int (i % j)) (pPlus (pIx (pVar 2) (pC (.int 5))) (pVar 4)) (pIx (pVar 2) (pC (.int 4)))))) (pRet (pC (.bool false))) pNext))))
      (pSeq (pRng (pCons (pC (.int 4)) pNil) (pgN 6) (pSeq (pAsg (pII (fun i j => .int (i - j)) (pCallB 1 S_law_next 1 (pCons (pC (.int 20)) pNil)) (pC (.int 10))) (pgN 7))
      (pSeq (pAsg (pPlus (pC (.int 1)) (pCallB 1 S_law_next 1 (pCons (pFn fLen (pCons (pIx (pVar 2) (pC (.int 0))) pNil)) pNil))) (pgN 8))
      (pSeq (pAsg (pCall 3 S_law_length (pCons (pVar 2) (pCons (pVar 7) (pCons (pVar 8) pNil)))) (pgN 9))
      (pSeq (pFor (pLO (pNew (pLst (pCons (pTup (pCons (pC (.int 0)) (pCons (pC (.int 1)) pNil))) (pCons (pTup (pCons (pPlus (pFn fLen (pCons (pIx (pVar 2) (pC (.int 0))) pNil)) (pC (.int 1))) (pCons (pC (.int 1)) pNil))) (pCons (pTup (pCons (pI (fun i => .int (-i)) (pC (.int 1))) (pCons (pC (.int 1)) pNil))) (pCons (pTup (pCons (pVar 8) (pCons (pC (.int 0)) pNil))) (pCons (pTup (pCons (pVar 8) (pCons (pPlus (pVar 9) (pC (.int 1))) pNil))) (pCons (pTup (pCons (pVar 8) (pCons (pI (fun i => .int (-i)) (pC (.int 1))) pNil))) pNil))))))))) (pgN 10) (pIfS (pTst (pEqD true (pCall 4 S_law_day (pCons (pVar 2) (pCons (pVar 7) (pCons (pIx (pVar 10) (pC (.int 0))) (pCons (pIx (pVar 10) (pC (.int 1))) pNil))))) (pTup (pCons (pC (.str (Str.ofString "none"))) (pCons (pC (.bool true)) pNil))))) (pRet (pC (.bool false))) pNext))
      (pFor (pLO (pNew (pLst (pCons (pVar 7) (pCons (pPlus (pVar 7) (pIIc CPow (fun i j => .int (i ^ j.toNat)) (pC (.int 10)) (pC (.int 15)))) (pCons (pII (fun i j => .int (i - j)) (pVar 7) (pIIc CPow (fun i j => .int (i ^ j.toNat)) (pC (.int 10)) (pC (.int 15)))) pNil)))))) (pgN 11) (pSeq (pAsg (pC (.bool false)) (pgN 12))
      (pSeq (pFor (pTO (pIx (pVar 2) (pC (.int 3)))) (pgN 13) (pIfS (pTst (pEqD false (pIIc (fun _ j => 0 < j) (fun i j => .int (i % j)) (pVar 11) (pIx (pVar 13) (pC (.int 0)))) (pC (.int 0)))) (pAsg (pIx (pVar 13) (pC (.int 1))) (pgN 12)) pNext))
      (pIfS (pOr (pNot (pTst (pIsi "bool" (pCall 2 S_is_long (pCons (pVar 2) (pCons (pVar 11) pNil)))))) (pTst (pEqD true (pCall 2 S_is_long (pCons (pVar 2) (pCons (pVar 11) pNil))) (pVar 12)))) (pRet (pC (.bool false))) pNext)))))))))
      (pRet (pC (.bool true)))))))
abbrev finL : PEnds := ⟨fun _ => False, fun d _ => d = .bool true, fun _ => False, fun _ => False⟩
theorem cmp_ne_int {i j : Int} {A B : Prop} (e : i = j) (h : B) : shq (.int i) = true ∧ shq (.int j) = true ∧ (if flipB true (PyData.eqv (.int i) (.int j)) = true then A else B) := by
  refine ⟨rfl, rfl, ?_⟩
  rw [eqv_int]
  exact ff (by rw [decide_eq_true e]; rfl) h
theorem cmp_ne_two {i j i2 j2 : Int} {A B : Prop} (e : i = i2) (e2 : j = j2) (h : B) : shq (.tuple [.int i, .int j]) = true ∧ shq (.tuple [.int i2, .int j2]) = true ∧ (if flipB true (PyData.eqv (.tuple [.int i, .int j]) (.tuple [.int i2, .int j2])) = true then A else B) := by
  subst e
  subst e2
  refine ⟨rfl, rfl, ?_⟩
  have : PyData.eqv (.tuple [.int i, .int j]) (.tuple [.int i, .int j]) = true := by simp [PyData.eqv, PyData.eqvAll]
  rw [this]
  exact ff rfl h
theorem cmp_ne_three {i j l i2 j2 l2 : Int} {A B : Prop} (e : i = i2) (e2 : j = j2) (e3 : l = l2) (h : B) : shq (.tuple [.int i, .int j, .int l]) = true ∧ shq (.tuple [.int i2, .int j2, .int l2]) = true ∧ (if flipB true (PyData.eqv (.tuple [.int i, .int j, .int l]) (.tuple [.int i2, .int j2, .int l2])) = true then A else B) := by
  subst e
  subst e2
  subst e3
  refine ⟨rfl, rfl, ?_⟩
  have : PyData.eqv (.tuple [.int i, .int j, .int l]) (.tuple [.int i, .int j, .int l]) = true := by simp [PyData.eqv, PyData.eqvAll]
  rw [this]
  exact ff rfl h
theorem date_one {q : Calp} (ok : q.Ok) {t y n y2 n2 : Int} {m m2 : Nat} (d1 : q.date y m n) (t1 : t = q.yb y + q.ahead y m + n - 1) (d2 : q.date y2 m2 n2) (t2 : t = q.yb y2 + q.ahead y2 m2 + n2 - 1) : y = y2 ∧ m = m2 ∧ n = n2 := by
  have p1 := per_month ok d1 t1
  have p2 := per_month ok d2 t2
  have e := per_one ok p1.1 p1.2 p2.1 p2.2
  have lt : ∀ {y n : Int} {m : Nat}, q.date y m n → m < q.ms.length := fun {y n m} ⟨v, hv, _⟩ => by
    have := (List.getElem?_eq_some_iff.mp hv).1
    rwa [mdays_len] at this
  have l1 := lt d1
  have l2 := lt d2
  have ey : y = y2 := by
    have h1 : (y * (q.ms.length : Nat) + (m : Int)) / (q.ms.length : Nat) = y := by
      rw [Int.add_comm, Int.add_mul_ediv_right _ _ (by omega), Int.ediv_eq_zero_of_lt (by omega) (by omega), Int.zero_add]
    have h2 : (y2 * (q.ms.length : Nat) + (m2 : Int)) / (q.ms.length : Nat) = y2 := by
      rw [Int.add_comm, Int.add_mul_ediv_right _ _ (by omega), Int.ediv_eq_zero_of_lt (by omega) (by omega), Int.zero_add]
    rw [← h1, ← h2, e]
  subst ey
  have em : m = m2 := by omega
  subst em
  exact ⟨rfl, rfl, by omega⟩

abbrev env2 (q : Calp) (kvs : List (Int × PyData)) (c4 c5 c6 c7 c8 c9 c10 c11 c12 c13 : Cell) : En := [.no, .box, .d (calD q), .d (dctD kvs), c4, c5, c6, c7, c8, c9, c10, c11, c12, c13]
theorem pow15 : CPow 10 15 := ⟨by decide, by decide, by decide⟩
theorem cmp_none {A B : Prop} (h : B) : shq noneD = true ∧ shq (.tuple [.str (Str.ofString "none"), .bool true]) = true ∧ (if flipB true (PyData.eqv noneD (.tuple [.str (Str.ofString "none"), .bool true])) = true then A else B) :=
  ⟨by decide +kernel, by decide +kernel, ff (by decide +kernel) h⟩
theorem eqv_boolS (a : Bool) : PyData.eqv (.bool a) (.bool a) = true := by
  cases a <;> simp [PyData.eqv]
theorem wrong_at {len m v : Int} {i : Nat} {d : PyData} (h : ([.tuple [.int 0, .int 1], .tuple [.int (len + 1), .int 1], .tuple [.int (-1), .int 1], .tuple [.int m, .int 0], .tuple [.int m, .int (v + 1)], .tuple [.int m, .int (-1)]] : List PyData)[i]? = some d) :
    ∃ a b : Int, d = .tuple [.int a, .int b] ∧ ((a = 0 ∨ a = len + 1 ∨ a = -1) ∨ (a = m ∧ (b = 0 ∨ b = v + 1 ∨ b = -1))) := by
  match i, h with
  | 0, h => exact ⟨0, 1, (Option.some.inj h).symm, .inl (.inl rfl)⟩
  | 1, h => exact ⟨len + 1, 1, (Option.some.inj h).symm, .inl (.inr (.inl rfl))⟩
  | 2, h => exact ⟨-1, 1, (Option.some.inj h).symm, .inl (.inr (.inr rfl))⟩
  | 3, h => exact ⟨m, 0, (Option.some.inj h).symm, .inr ⟨rfl, .inl rfl⟩⟩
  | 4, h => exact ⟨m, v + 1, (Option.some.inj h).symm, .inr ⟨rfl, .inr (.inl rfl)⟩⟩
  | 5, h => exact ⟨m, -1, (Option.some.inj h).symm, .inr ⟨rfl, .inr (.inr rfl)⟩⟩
theorem far_at {a b c : Int} {i : Nat} {d : PyData} (h : ([.int a, .int b, .int c] : List PyData)[i]? = some d) : ∃ y : Int, d = .int y := by
  match i, h with
  | 0, h => exact ⟨_, (Option.some.inj h).symm⟩
  | 1, h => exact ⟨_, (Option.some.inj h).symm⟩
  | 2, h => exact ⟨_, (Option.some.inj h).symm⟩
theorem pure_law : p_law finL [.no, .box, .no, .no, .no, .no, .no, .no, .no, .no, .no, .no, .no, .no] := by
  refine ⟨rfl, rfl, rfl, fun a b e d w f g v hc hg => ?_⟩
  obtain ⟨q, eq, ok⟩ := calp_of v hc hg
  rw [eq]
  have w1 := ok.w1
  have n1 := ok.m1
  refine ⟨rfl, q, rfl, ok, by decide, by decide, by decide, by decide, fun kvs cov => ?_⟩
  refine ⟨-60, 61, .inr rfl, ⟨by decide, by decide, by decide, by decide⟩, fun i ρ => ∃ c4 c5 : Cell, ρ = env2 q kvs c4 c5 .no .no .no .no .no .no .no .no, ⟨_, _, rfl⟩, ?_, ?_⟩
  · rintro i ρ hi ⟨c4, c5, rfl⟩
    obtain ⟨y, m, n, hd, ht, hgt⟩ := cov (-60 + (i : Int)) (by omega) (by omega)
    refine oSome ((findK_dct kvs).trans hgt) ?_
    refine ⟨rfl, q, rfl, ok, fun y2 m2 n2 d2 e2 => ?_⟩
    obtain ⟨z1, z2, z3⟩ := date_one ok d2 e2 hd ht
    refine cmp_ne_three z1 (by rw [z2]) z3 ?_
    have em : ((m : Int) + 1 - 1).toNat = m := by omega
    refine ⟨rfl, q, rfl, ok, fun _ _ => ?_, fun k => absurd ⟨by omega, by rw [em]; exact hd⟩ k⟩
    refine cmp_ne_int (by rw [em]; exact ht.symm) ?_
    refine ⟨rfl, q, rfl, ok, by show 0 < q.week; omega, ?_⟩
    exact cmp_ne_int (by rw [Int.add_comm]) ⟨_, _, rfl⟩
  · rintro ρ ⟨c4, c5, rfl⟩
    refine ⟨0, 4, .inl ⟨rfl, rfl⟩, ⟨by decide, by decide, by decide, by decide⟩, fun i ρ => ∃ c4 c5 c6 c7 c8 c9 c10 c11 c12 c13 : Cell, ρ = env2 q kvs c4 c5 c6 c7 c8 c9 c10 c11 c12 c13, ⟨_, _, _, _, _, _, _, _, _, _, rfl⟩, ?_, fun ρ ⟨c4, c5, c6, c7, c8, c9, c10, c11, c12, c13, e⟩ => by subst e; exact rfl⟩
    rintro i ρ hi ⟨c4, c5, c6, c7, c8, c9, c10, c11, c12, c13, rfl⟩
    have hL : ((q.ms.map PyData.int).length : Int) = (q.ms.length : Nat) := by rw [List.length_map]
    refine ⟨rfl, rfl, rfl, by decide, fun y0 y1 y2 => ⟨rfl, _, rfl, rfl, rfl, by omega, fun m0 m1 m2 => ?_⟩⟩
    have m2 : m0 < ((q.ms.map PyData.int).length : Nat) := m2
    obtain ⟨m, rfl⟩ : ∃ m : Nat, m0 = m := ⟨m0.toNat, by omega⟩
    obtain ⟨y, hy⟩ : ∃ y : Int, y = y0 - 10 := ⟨_, rfl⟩
    have hlt : m < (q.mdays y).length := by rw [mdays_len]; omega
    obtain ⟨v, hv⟩ : ∃ v, (q.mdays y)[m]? = some v := ⟨_, List.getElem?_eq_getElem hlt⟩
    have em : (1 + (m : Int) - 1).toNat = m := by omega
    refine ⟨rfl, q, v, rfl, ok, by omega, by rw [em, ← hy]; exact hv, ?_⟩
    refine ⟨Nat.le_of_ble_eq_true rfl, _, rfl, Nat.le_of_ble_eq_true rfl, Nat.le_of_ble_eq_true rfl, Nat.le_of_ble_eq_true rfl, Nat.le_of_ble_eq_true rfl, Nat.le_of_ble_eq_true rfl, Nat.le_of_ble_eq_true rfl, fun j ρ => ∃ c10 : Cell, ρ = env2 q kvs c4 c5 (.d (.int (0 + (i : Int)))) (.d (.int y)) (.d (.int (1 + (m : Int)))) (.d (.int v)) c10 c11 c12 c13, ⟨c10, by rw [hy]; rfl⟩, ?_, ?_⟩
    · rintro j d ρ hd ⟨c10, rfl⟩
      obtain ⟨a1, b1, rfl, hab⟩ := wrong_at hd
      refine ⟨rfl, q, rfl, ok, fun k1 k2 => ?_, fun _ => ⟨Nat.le_of_ble_eq_true rfl, by decide +kernel, by decide +kernel, _, rfl⟩⟩
      exfalso
      obtain ⟨u, hu, u1, u2⟩ := k2
      have hul := (List.getElem?_eq_some_iff.mp hu).1
      rw [mdays_len] at hul
      rcases hab with (e | e | e) | ⟨e, e2 | e2 | e2⟩
      · omega
      · omega
      · omega
      · omega
      · rw [e, em, hv] at hu
        cases hu
        omega
      · omega
    · rintro ρ ⟨c10, rfl⟩
      refine ⟨pow15, pow15, Nat.le_of_ble_eq_true rfl, fun j ρ => ∃ c11 c12 c13 : Cell, ρ = env2 q kvs c4 c5 (.d (.int (0 + (i : Int)))) (.d (.int y)) (.d (.int (1 + (m : Int)))) (.d (.int v)) c10 c11 c12 c13, ⟨_, _, _, rfl⟩, ?_, fun ρ ⟨c11, c12, c13, e⟩ => ⟨_, _, _, _, _, _, _, _, _, _, e⟩⟩
      rintro j d ρ hd ⟨c11, c12, c13, rfl⟩
      obtain ⟨fy, rfl⟩ := far_at hd
      refine ⟨fun l ρ => ∃ c13 : Cell, ρ = env2 q kvs c4 c5 (.d (.int (0 + (i : Int)))) (.d (.int y)) (.d (.int (1 + (m : Int)))) (.d (.int v)) c10 (.d (.int fy)) (.d (.bool ((q.rs.take l).foldl (longStep fy) false))) c13, ⟨_, rfl⟩, ?_, ?_⟩
      · rintro l d ρ hd ⟨c13, rfl⟩
        obtain ⟨r, hrj, rfl⟩ := rule_at hd
        have br := ok.rs.2 r (List.mem_of_getElem? hrj)
        have en : (q.rs.take (l + 1)).foldl (longStep fy) false = longStep fy ((q.rs.take l).foldl (longStep fy) false) r := by
          rw [take_snoc hrj, List.foldl_append]
          rfl
        refine ⟨by show 0 < r.1; omega, rfl, rfl, ?_⟩
        show (if PyData.eqv (.int (fy % r.1)) (.int 0) = true then _ else _)
        rw [eqv_int]
        refine ifd (fun z => ?_) (fun z => ?_)
        · refine ⟨.d (ruleD r), ?_⟩
          rw [en]
          unfold longStep
          rw [if_pos z]
          rfl
        · refine ⟨.d (ruleD r), ?_⟩
          rw [en]
          unfold longStep
          rw [if_neg z]
          rfl
      · rintro ρ ⟨c13, rfl⟩
        have el : (q.rs.take (q.rs.map ruleD).length).foldl (longStep fy) false = isLong q.rs fy := by
          rw [List.length_map, List.take_length]
          rfl
        rw [el]
        refine ⟨rfl, q, rfl, ok, rfl, rfl, q, rfl, ok, rfl, rfl, ?_⟩
        show (if flipB true (PyData.eqv (.bool (isLong q.rs fy)) (.bool (isLong q.rs fy))) = true then _ else _)
        rw [eqv_boolS]
        exact ff rfl ⟨_, _, _, rfl⟩
end Pr
set_option maxHeartbeats 4000000
namespace Pr
open PySem PySem.Spec PyProof.Rows L2 Pu
def topS (i : Nat) : Stmt := PySem.Challenge.pw_everydue_k02_dates_by_walking.main.body.getD i (.Pass ⟨0, 0, 0, 0⟩)
abbrev s_is_long : Stmt := topS 5
theorem sc_is_long : FnScope N_is_long ["calendar", "year"] (defScope s_is_long) := ⟨rfl, rfl, rfl, by decide +kernel, rfl, by decide +kernel, by decide +kernel⟩
abbrev s_cycle_years : Stmt := topS 6
theorem sc_cycle_years : FnScope N_cycle_years ["calendar"] (defScope s_cycle_years) := ⟨rfl, rfl, rfl, by decide +kernel, rfl, by decide +kernel, by decide +kernel⟩
abbrev s_shape_of : Stmt := topS 7
theorem sc_shape_of : FnScope N_shape_of ["calendar"] (defScope s_shape_of) := ⟨rfl, rfl, rfl, by decide +kernel, rfl, by decide +kernel, by decide +kernel⟩
abbrev s_long_terms : Stmt := topS 8
theorem sc_long_terms : FnScope N_long_terms ["rules"] (defScope s_long_terms) := ⟨rfl, rfl, rfl, by decide +kernel, rfl, by decide +kernel, by decide +kernel⟩
abbrev s_year_begin : Stmt := topS 9
theorem sc_year_begin : FnScope N_year_begin ["shape", "year"] (defScope s_year_begin) := ⟨rfl, rfl, rfl, by decide +kernel, rfl, by decide +kernel, by decide +kernel⟩
abbrev s_year_of : Stmt := topS 10
theorem sc_year_of : FnScope N_year_of ["calendar", "day"] (defScope s_year_of) := ⟨rfl, rfl, rfl, by decide +kernel, rfl, by decide +kernel, by decide +kernel⟩
abbrev s_month_days : Stmt := topS 11
theorem sc_month_days : FnScope N_month_days ["calendar", "year"] (defScope s_month_days) := ⟨rfl, rfl, rfl, by decide +kernel, rfl, by decide +kernel, by decide +kernel⟩
abbrev s_day_of : Stmt := topS 12
theorem sc_day_of : FnScope N_day_of ["calendar", "year", "month", "number"] (defScope s_day_of) := ⟨rfl, rfl, rfl, by decide +kernel, rfl, by decide +kernel, by decide +kernel⟩
abbrev s_date_of : Stmt := topS 13
theorem sc_date_of : FnScope N_date_of ["calendar", "day"] (defScope s_date_of) := ⟨rfl, rfl, rfl, by decide +kernel, rfl, by decide +kernel, by decide +kernel⟩
abbrev s_weekday_of : Stmt := topS 14
theorem sc_weekday_of : FnScope N_weekday_of ["calendar", "day"] (defScope s_weekday_of) := ⟨rfl, rfl, rfl, by decide +kernel, rfl, by decide +kernel, by decide +kernel⟩
abbrev s_law_draws : Stmt := topS 16
theorem sc_law_draws : FnScope N_law_draws ["cell", "modulus", "count"] (defScope s_law_draws) := ⟨rfl, rfl, rfl, by decide +kernel, rfl, by decide +kernel, by decide +kernel⟩
abbrev s_law_box : Stmt := topS 17
abbrev N_law_box : List Str := ["script", "row", "cell"]
theorem sc_law_box : FnScope N_law_box ["script"] (defScope s_law_box) := ⟨rfl, rfl, rfl, by decide +kernel, rfl, by decide +kernel, by decide +kernel⟩
abbrev s_law_next : Stmt := topS 18
abbrev N_law_next : List Str := ["box", "modulus", "at", "number"]
theorem sc_law_next : FnScope N_law_next ["box", "modulus"] (defScope s_law_next) := ⟨rfl, rfl, rfl, by decide +kernel, rfl, by decide +kernel, by decide +kernel⟩
abbrev s_law_calendar : Stmt := topS 19
theorem sc_law_calendar : FnScope N_law_calendar ["box"] (defScope s_law_calendar) := ⟨rfl, rfl, rfl, by decide +kernel, rfl, by decide +kernel, by decide +kernel⟩
abbrev s_law_length : Stmt := topS 20
theorem sc_law_length : FnScope N_law_length ["calendar", "year", "month"] (defScope s_law_length) := ⟨rfl, rfl, rfl, by decide +kernel, rfl, by decide +kernel, by decide +kernel⟩
abbrev s_law_dates : Stmt := topS 21
theorem sc_law_dates : FnScope N_law_dates ["calendar", "low", "high"] (defScope s_law_dates) := ⟨rfl, rfl, rfl, by decide +kernel, rfl, by decide +kernel, by decide +kernel⟩
abbrev s_law_day : Stmt := topS 22
abbrev N_law_day : List Str := ["calendar", "year", "month", "number", "e"]
theorem sc_law_day : FnScope N_law_day ["calendar", "year", "month", "number"] (defScope s_law_day) := ⟨rfl, rfl, rfl, by decide +kernel, rfl, by decide +kernel, by decide +kernel⟩
abbrev s_law : Stmt := topS 23
theorem sc_law : FnScope N_law ["script"] (defScope s_law) := ⟨rfl, rfl, rfl, by decide +kernel, rfl, by decide +kernel, by decide +kernel⟩
/-- what the top has left -/
structure Tx (K : PySem.W.Frag) (mg : Str → Option Value) where
  a_is_long : Addr
  d_is_long : FuncData
  f_is_long : Fun K "is_long" "is_long" s_is_long a_is_long d_is_long
  m_is_long : mg "is_long" = some (.ref a_is_long)
  b_is_long : Binds K d_is_long ["calendar", "year"] []
  a_cycle_years : Addr
  d_cycle_years : FuncData
  f_cycle_years : Fun K "_cycle_years" "_cycle_years" s_cycle_years a_cycle_years d_cycle_years
  m_cycle_years : mg "_cycle_years" = some (.ref a_cycle_years)
  b_cycle_years : Binds K d_cycle_years ["calendar"] []
  a_shape_of : Addr
  d_shape_of : FuncData
  f_shape_of : Fun K "_shape_of" "_shape_of" s_shape_of a_shape_of d_shape_of
  m_shape_of : mg "_shape_of" = some (.ref a_shape_of)
  b_shape_of : Binds K d_shape_of ["calendar"] []
  a_long_terms : Addr
  d_long_terms : FuncData
  f_long_terms : Fun K "_long_terms" "_long_terms" s_long_terms a_long_terms d_long_terms
  m_long_terms : mg "_long_terms" = some (.ref a_long_terms)
  b_long_terms : Binds K d_long_terms ["rules"] []
  a_year_begin : Addr
  d_year_begin : FuncData
  f_year_begin : Fun K "_year_begin" "_year_begin" s_year_begin a_year_begin d_year_begin
  m_year_begin : mg "_year_begin" = some (.ref a_year_begin)
  b_year_begin : Binds K d_year_begin ["shape", "year"] []
  a_year_of : Addr
  d_year_of : FuncData
  f_year_of : Fun K "_year_of" "_year_of" s_year_of a_year_of d_year_of
  m_year_of : mg "_year_of" = some (.ref a_year_of)
  b_year_of : Binds K d_year_of ["calendar", "day"] []
  a_month_days : Addr
  d_month_days : FuncData
  f_month_days : Fun K "month_days" "month_days" s_month_days a_month_days d_month_days
  m_month_days : mg "month_days" = some (.ref a_month_days)
  b_month_days : Binds K d_month_days ["calendar", "year"] []
  a_day_of : Addr
  d_day_of : FuncData
  f_day_of : Fun K "day_of" "day_of" s_day_of a_day_of d_day_of
  m_day_of : mg "day_of" = some (.ref a_day_of)
  b_day_of : Binds K d_day_of ["calendar", "year", "month", "number"] []
  a_date_of : Addr
  d_date_of : FuncData
  f_date_of : Fun K "date_of" "date_of" s_date_of a_date_of d_date_of
  m_date_of : mg "date_of" = some (.ref a_date_of)
  b_date_of : Binds K d_date_of ["calendar", "day"] []
  a_weekday_of : Addr
  d_weekday_of : FuncData
  f_weekday_of : Fun K "weekday_of" "weekday_of" s_weekday_of a_weekday_of d_weekday_of
  m_weekday_of : mg "weekday_of" = some (.ref a_weekday_of)
  b_weekday_of : Binds K d_weekday_of ["calendar", "day"] []
  a_law_draws : Addr
  d_law_draws : FuncData
  f_law_draws : Fun K "_law_draws" "_law_draws" s_law_draws a_law_draws d_law_draws
  m_law_draws : mg "_law_draws" = some (.ref a_law_draws)
  b_law_draws : Binds K d_law_draws ["cell", "modulus", "count"] []
  a_law_box : Addr
  d_law_box : FuncData
  f_law_box : Fun K "_law_box" "_law_box" s_law_box a_law_box d_law_box
  m_law_box : mg "_law_box" = some (.ref a_law_box)
  b_law_box : Binds K d_law_box ["script"] []
  a_law_next : Addr
  d_law_next : FuncData
  f_law_next : Fun K "_law_next" "_law_next" s_law_next a_law_next d_law_next
  m_law_next : mg "_law_next" = some (.ref a_law_next)
  b_law_next : Binds K d_law_next ["box", "modulus"] []
  a_law_calendar : Addr
  d_law_calendar : FuncData
  f_law_calendar : Fun K "_law_calendar" "_law_calendar" s_law_calendar a_law_calendar d_law_calendar
  m_law_calendar : mg "_law_calendar" = some (.ref a_law_calendar)
  b_law_calendar : Binds K d_law_calendar ["box"] []
  a_law_length : Addr
  d_law_length : FuncData
  f_law_length : Fun K "_law_length" "_law_length" s_law_length a_law_length d_law_length
  m_law_length : mg "_law_length" = some (.ref a_law_length)
  b_law_length : Binds K d_law_length ["calendar", "year", "month"] []
  a_law_dates : Addr
  d_law_dates : FuncData
  f_law_dates : Fun K "_law_dates" "_law_dates" s_law_dates a_law_dates d_law_dates
  m_law_dates : mg "_law_dates" = some (.ref a_law_dates)
  b_law_dates : Binds K d_law_dates ["calendar", "low", "high"] []
  a_law_day : Addr
  d_law_day : FuncData
  f_law_day : Fun K "_law_day" "_law_day" s_law_day a_law_day d_law_day
  m_law_day : mg "_law_day" = some (.ref a_law_day)
  b_law_day : Binds K d_law_day ["calendar", "year", "month", "number"] []
  a_law : Addr
  d_law : FuncData
  f_law : Fun K "law" "law" s_law a_law d_law
  m_law : mg "law" = some (.ref a_law)
  b_law : Binds K d_law ["script"] []
  c_NoSuchDay : Addr
  m_NoSuchDay : mg "NoSuchDay" = some (.ref c_NoSuchDay)
  x_NoSuchDay : PySem.W.excIn K c_NoSuchDay [.type "ValueError", .type "Exception", .type "BaseException", .type "object"] "ValueError.__new__" = true
  k_NoSuchDay : PySem.W.keepIn K (.ref c_NoSuchDay) = true
  b_NoSuchDay : PySem.W.subIn K (.ref c_NoSuchDay) (.type "BaseException") = some true
  t_NoSuchDay : PySem.W.typeIn K (.ref c_NoSuchDay) = some (.type "type")
  e_NoSuchDay : ExcC K c_NoSuchDay
  y_NoSuchDay : PySem.W.exmOne K (.ref c_NoSuchDay) (.ref c_NoSuchDay) = some true
  c_EverydueError : Addr
  m_EverydueError : mg "EverydueError" = some (.ref c_EverydueError)
  kit_NoSuchDay_EverydueError : PySem.W.kitOne K (.ref c_NoSuchDay) (.ref c_EverydueError) = some true
  bool : mg "bool" = none
  divmod : mg "divmod" = none
  int : mg "int" = none
  isinstance : mg "isinstance" = none
  len : mg "len" = none
  list : mg "list" = none
  range : mg "range" = none
  reversed : mg "reversed" = none
  sum : mg "sum" = none
  tuple : mg "tuple" = none
  lcm : mg "lcm" = some (.builtin "math.lcm")
section
variable {P : Program} {w : World} {K : PySem.W.Frag} {mg : Str → Option Value} {base : Heap}
theorem ok_is_long (T : Tx K mg) : FnOk P w K mg base CX0 1 T.a_is_long T.d_is_long ["calendar", "year"] (spP K 2 S_is_long) := by
  refine ok_P T.f_is_long sc_is_long rfl fun cdv A outer s H E hr => ?_
  exact ⟨_, p_is_long, (pss_cons (ps_set (i := 2) sc_is_long.nd rfl (.inl rfl) pe_bl)
      (pss_cons (ps_for PassesOwn.never rfl (pi_tup (pe_ix ix_seq (pv 0) pe_int (fun _ _ => rfl))) (pg_tup rfl (pgs_cons (pg_name (i := 3) sc_is_long.nd rfl (.inl rfl)) (pgs_cons (pg_name (i := 4) sc_is_long.nd rfl (.inl rfl)) pgs_nil))) (pss_one (ps_if (pt_cmpR (op_eqD (hu65 hr)) (pe_op op_mod (pv 1) (pv 3)) pe_int (nomark _)) (pss_one (ps_set (i := 2) sc_is_long.nd rfl (.inl rfl) (pv 4))) pss_nil)))
      (pss_one (ps_ret (pv 2))))),
    (s_seq (s_asg (sim_c (v := .bl false) rfl) (g_name (i := 2)))
      (s_seq (s_forT (sim_ix (sim_var (i := 0)) (sim_c (v := .int 3) rfl)) (g_tup (gs_cons (i := 3) (gs_cons (i := 4) gs_nil)) rfl) (s_if (sim_tst (sim_eqD (sim_iic (sim_var (i := 1)) (sim_var (i := 3)) fun _ _ => rfl) (sim_c (v := .int 0) rfl))) (s_asg (sim_var (i := 4)) (g_name (i := 2))) s_next))
      (s_ret (sim_var (i := 2))))), pure_is_long⟩
theorem ok_cycle_years (T : Tx K mg) : FnOk P w K mg base CX0 1 T.a_cycle_years T.d_cycle_years ["calendar"] (spP K 1 S_cycle_years) := by
  refine ok_P T.f_cycle_years sc_cycle_years rfl fun cdv A outer s H E hr => ?_
  exact ⟨_, p_cycle_years, (pss_cons (ps_set (i := 1) sc_cycle_years.nd rfl (.inl rfl) pe_int)
      (pss_cons (ps_for PassesOwn.never rfl (pi_tup (pe_ix ix_seq (pv 0) pe_int (fun _ _ => rfl))) (pg_tup rfl (pgs_cons (pg_name (i := 2) sc_cycle_years.nd rfl (.inl rfl)) (pgs_cons (pg_name (i := 3) sc_cycle_years.nd rfl (.inl rfl)) pgs_nil))) (pss_one (ps_set (i := 1) sc_cycle_years.nd rfl (.inl rfl) (pe_callBfun c_lcm (by rfl) T.lcm (pa_cons (pv 1) (pa_cons (pv 2) pa_nil))))))
      (pss_one (ps_ret (pv 1))))),
    (s_seq (s_asg (sim_c (v := .int 1) rfl) (g_name (i := 1)))
      (s_seq (s_forT (sim_ix (sim_var (i := 0)) (sim_c (v := .int 3) rfl)) (g_tup (gs_cons (i := 2) (gs_cons (i := 3) gs_nil)) rfl) (s_asg (sim_lcm (sim_cons (sim_var (i := 1)) (sim_cons (sim_var (i := 2)) sim_nil))) (g_name (i := 1))))
      (s_ret (sim_var (i := 1))))), pure_cycle_years⟩
theorem ok_shape_of (T : Tx K mg) (G_long_terms : FnOk P w K mg base CX0 1 T.a_long_terms T.d_long_terms ["rules"] (spP K 1 S_long_terms)) : FnOk P w K mg base CX0 2 T.a_shape_of T.d_shape_of ["calendar"] (spP K 1 S_shape_of) := by
  refine ok_P T.f_shape_of sc_shape_of rfl fun cdv A outer s H E hr => ?_
  exact ⟨_, p_shape_of, (pss_one (ps_ret (pe_tup (pa_cons (pe_callB (c_sum rfl) (by rfl) T.sum (by decide +kernel) (pa_cons (pe_ix ix_seq (pv 0) pe_int (fun _ _ => rfl)) pa_nil)) (pa_cons (pe_ix ix_seq (pv 0) pe_int (fun _ _ => rfl)) (pa_cons (pe_call G_long_terms (hr.mono (by decide)) (by rfl) T.m_long_terms T.f_long_terms.kp T.b_long_terms .nil pass0 (pa_cons (pe_ix ix_seq (pv 0) pe_int (fun _ _ => rfl)) pa_nil)) pa_nil)))))),
    (s_ret (sim_tup (sim_cons (sim_sum (sim_cons (sim_ix (sim_var (i := 0)) (sim_c (v := .int 0) rfl)) sim_nil)) (sim_cons (sim_ix (sim_var (i := 0)) (sim_c (v := .int 2) rfl)) (sim_cons (sim_call (sim_cons (sim_ix (sim_var (i := 0)) (sim_c (v := .int 3) rfl)) sim_nil)) sim_nil))))), pure_shape_of⟩
theorem ok_long_terms (T : Tx K mg) : FnOk P w K mg base CX0 1 T.a_long_terms T.d_long_terms ["rules"] (spP K 1 S_long_terms) := by
  refine ok_P T.f_long_terms sc_long_terms rfl fun cdv A outer s H E hr => ?_
  exact ⟨_, p_long_terms, (pss_cons (ps_set (i := 1) sc_long_terms.nd rfl (.inl rfl) pe_dnewK)
      (pss_cons (ps_for PassesOwn.never rfl (pi_tup (pv 0)) (pg_tup rfl (pgs_cons (pg_name (i := 2) sc_long_terms.nd rfl (.inl rfl)) (pgs_cons (pg_name (i := 3) sc_long_terms.nd rfl (.inl rfl)) pgs_nil))) (pss_cons (ps_set (i := 4) sc_long_terms.nd rfl (.inl rfl) (LiI.pe_listItems rfl (pv 1) (by rfl) T.list (by decide +kernel)))
      (pss_cons (ps_for PassesOwn.never rfl (pi_list (pv 4)) (pg_tup rfl (pgs_cons (pg_name (i := 5) sc_long_terms.nd rfl (.inl rfl)) (pgs_cons (pg_name (i := 6) sc_long_terms.nd rfl (.inl rfl)) pgs_nil))) (pss_cons (ps_set (i := 7) sc_long_terms.nd rfl (.inl rfl) (pe_callBfun c_lcm (by rfl) T.lcm (pa_cons (pv 5) (pa_cons (pv 2) pa_nil))))
      (pss_one (ps_dput (hu_of hr) (pv 1) (pv 7) (pe_op op_sub (pe_dget2 (hu_of hr) (pv 1) (pv 7) pe_int ⟨rfl, rfl, rfl, rfl⟩) (pv 6)) rfl))))
      (pss_one (ps_if (pt_tru (pv 3)) (pss_one (ps_dput (hu_of hr) (pv 1) (pv 2) (pe_op op_plus (pe_dget2 (hu_of hr) (pv 1) (pv 2) pe_int ⟨rfl, rfl, rfl, rfl⟩) pe_int) rfl)) pss_nil)))))
      (pss_one (ps_ret (LiI.pe_listItems rfl (pv 1) (by rfl) T.list (by decide +kernel)))))),
    (s_seq (s_asgD (i := 1))
      (s_seq (s_forT (sim_var (i := 0)) (g_tup (gs_cons (i := 2) (gs_cons (i := 3) gs_nil)) rfl) (s_seq (s_asg (sim_itemsD (i := 1)) (g_name (i := 4)))
      (s_seq (s_forL (sim_var (i := 4)) (g_tup (gs_cons (i := 5) (gs_cons (i := 6) gs_nil)) rfl) (s_seq (s_asg (sim_lcm (sim_cons (sim_var (i := 5)) (sim_cons (sim_var (i := 2)) sim_nil))) (g_name (i := 7)))
      (s_putD (i := 1) (sim_var (i := 7)) (sim_ii (sim_getD (i := 1) (sim_var (i := 7)) (sim_c (v := .int 0) rfl)) (sim_var (i := 6)) fun _ _ => rfl))))
      (s_if (sim_tru (sim_var (i := 3))) (s_putD (i := 1) (sim_var (i := 2)) (sim_plus (sim_getD (i := 1) (sim_var (i := 2)) (sim_c (v := .int 0) rfl)) (sim_c (v := .int 1) rfl))) s_next))))
      (s_ret (sim_itemsD (i := 1))))), pure_long_terms⟩
theorem ok_year_begin (T : Tx K mg) : FnOk P w K mg base CX0 1 T.a_year_begin T.d_year_begin ["shape", "year"] (spP K 2 S_year_begin) := by
  refine ok_P T.f_year_begin sc_year_begin rfl fun cdv A outer s H E hr => ?_
  exact ⟨_, p_year_begin, (pss_cons (ps_asg (pv 0) (pg_tup rfl (pgs_cons (pg_name (i := 2) sc_year_begin.nd rfl (.inl rfl)) (pgs_cons (pg_name (i := 3) sc_year_begin.nd rfl (.inl rfl)) (pgs_cons (pg_name (i := 4) sc_year_begin.nd rfl (.inl rfl)) pgs_nil)))))
      (pss_cons (ps_set (i := 5) sc_year_begin.nd rfl (.inl rfl) (pe_callB (c_sum rfl) (by rfl) T.sum (by decide +kernel) (pa_cons (pe_lc (own := [("divisor", 6), ("times", 7)]) (g := gTup K 2 (gCons (gName 6) (gCons (gName 7) gNil))) (tt := tYes) (by rfl) sc_year_begin.nd (pi_list (pv 4)) (blkOk_by (N := N_year_begin) (sc := defScope s_year_begin) (by decide +kernel)) (fun _ _ _ _ _ => pg_tup rfl (pgs_cons (pg_name (i := 6) sc_year_begin.nd rfl (.inl rfl)) (pgs_cons (pg_name (i := 7) sc_year_begin.nd rfl (.inl rfl)) pgs_nil))) (fun _ _ _ _ _ => pts_nil) (fun _ _ _ _ _ => (pe_op op_mul (pv 7) (pe_un un_neg (pe_op op_fdiv (pe_un un_neg (pv 1)) (pv 6)))))) pa_nil)))
      (pss_one (ps_ret (pe_op op_plus (pe_op op_mul (pv 2) (pv 1)) (pe_op op_mul (pv 3) (pv 5))))))),
    (s_seq (s_asg (sim_var (i := 0)) (g_tup (gs_cons (i := 2) (gs_cons (i := 3) (gs_cons (i := 4) gs_nil))) rfl))
      (s_seq (s_asg (sim_sum (sim_cons (sim_new (sim_lcL (vs := [6, 7]) (is := [6, 7]) (sim_var (i := 4)) (gv_tup (gsv_cons (by simp) (gsv_cons (by simp) gsv_nil)) rfl) t_yes (sim_iic (sim_var (i := 7)) (sim_u (sim_iic (sim_u (sim_var (i := 1)) fun _ => rfl) (sim_var (i := 6)) fun _ _ => rfl) fun _ => rfl) fun _ _ => rfl))) sim_nil)) (g_name (i := 5)))
      (s_ret (sim_plus (sim_iic (sim_var (i := 2)) (sim_var (i := 1)) fun _ _ => rfl) (sim_iic (sim_var (i := 3)) (sim_var (i := 5)) fun _ _ => rfl))))), pure_year_begin⟩
theorem ok_year_of (T : Tx K mg) (G_shape_of : FnOk P w K mg base CX0 2 T.a_shape_of T.d_shape_of ["calendar"] (spP K 1 S_shape_of)) (G_cycle_years : FnOk P w K mg base CX0 1 T.a_cycle_years T.d_cycle_years ["calendar"] (spP K 1 S_cycle_years)) (G_year_begin : FnOk P w K mg base CX0 1 T.a_year_begin T.d_year_begin ["shape", "year"] (spP K 2 S_year_begin)) : FnOk P w K mg base CX0 3 T.a_year_of T.d_year_of ["calendar", "day"] (spP K 2 S_year_of) := by
  refine ok_P T.f_year_of sc_year_of rfl fun cdv A outer s H E hr => ?_
  exact ⟨_, p_year_of, (pss_cons (ps_set (i := 2) sc_year_of.nd rfl (.inl rfl) (pe_call G_shape_of (hr.mono (by decide)) (by rfl) T.m_shape_of T.f_shape_of.kp T.b_shape_of .nil pass0 (pa_cons (pv 0) pa_nil)))
      (pss_cons (ps_set (i := 3) sc_year_of.nd rfl (.inl rfl) (pe_call G_cycle_years (hr.mono (by decide)) (by rfl) T.m_cycle_years T.f_cycle_years.kp T.b_cycle_years .nil pass0 (pa_cons (pv 0) pa_nil)))
      (pss_cons (ps_asg (pe_callB c_divmod (by rfl) T.divmod (by decide +kernel) (pa_cons (pv 1) (pa_cons (pe_call G_year_begin (hr.mono (by decide)) (by rfl) T.m_year_begin T.f_year_begin.kp T.b_year_begin .nil pass0 (pa_cons (pv 2) (pa_cons (pv 3) pa_nil))) pa_nil))) (pg_tup rfl (pgs_cons (pg_name (i := 4) sc_year_of.nd rfl (.inl rfl)) (pgs_cons (pg_name (i := 5) sc_year_of.nd rfl (.inl rfl)) pgs_nil))))
      (pss_cons (ps_par (by rfl) sc_year_of.nd rfl rfl (by decide) rfl rfl (pa_cons (pe_op op_fdiv (pv 5) (pe_op op_plus (pe_ix ix_seq (pv 2) pe_int (fun _ _ => rfl)) (pe_ix ix_seq (pv 2) pe_int (fun _ _ => rfl)))) (pa_cons (pe_op op_plus (pe_op op_fdiv (pv 5) (pe_ix ix_seq (pv 2) pe_int (fun _ _ => rfl))) pe_int) pa_nil)) (by rfl))
      (pss_cons (ps_while PassesOwn.never (pt_cmpR op_gt (pe_op op_sub (pv 7) (pv 6)) pe_int (nomark _)) (pss_cons (ps_set (i := 8) sc_year_of.nd rfl (.inl rfl) (pe_op op_fdiv (pe_op op_plus (pv 6) (pv 7)) pe_int))
      (pss_one (ps_if (pt_cmpR op_le (pe_call G_year_begin (hr.mono (by decide)) (by rfl) T.m_year_begin T.f_year_begin.kp T.b_year_begin .nil pass0 (pa_cons (pv 2) (pa_cons (pv 8) pa_nil))) (pv 5) (nomark _)) (pss_one (ps_set (i := 6) sc_year_of.nd rfl (.inl rfl) (pv 8))) (pss_one (ps_set (i := 7) sc_year_of.nd rfl (.inl rfl) (pv 8)))))))
      (pss_one (ps_ret (pe_op op_plus (pe_op op_mul (pv 4) (pv 3)) (pv 6))))))))),
    (s_seq (s_asg (sim_call (sim_cons (sim_var (i := 0)) sim_nil)) (g_name (i := 2)))
      (s_seq (s_asg (sim_call (sim_cons (sim_var (i := 0)) sim_nil)) (g_name (i := 3)))
      (s_seq (s_asg (sim_divmod (sim_cons (sim_var (i := 1)) (sim_cons (sim_call (sim_cons (sim_var (i := 2)) (sim_cons (sim_var (i := 3)) sim_nil))) sim_nil))) (g_tup (gs_cons (i := 4) (gs_cons (i := 5) gs_nil)) rfl))
      (s_seq (s_par (i := 6) (j := 7) (sim_cons (sim_iic (sim_var (i := 5)) (sim_plus (sim_ix (sim_var (i := 2)) (sim_c (v := .int 0) rfl)) (sim_ix (sim_var (i := 2)) (sim_c (v := .int 1) rfl))) fun _ _ => rfl) (sim_cons (sim_plus (sim_iic (sim_var (i := 5)) (sim_ix (sim_var (i := 2)) (sim_c (v := .int 0) rfl)) fun _ _ => rfl) (sim_c (v := .int 1) rfl)) sim_nil)))
      (s_seq (s_while (sim_tst (sim_ii (sim_ii (sim_var (i := 7)) (sim_var (i := 6)) fun _ _ => rfl) (sim_c (v := .int 1) rfl) fun _ _ => rfl)) (s_seq (s_asg (sim_iic (sim_plus (sim_var (i := 6)) (sim_var (i := 7))) (sim_c (v := .int 2) rfl) fun _ _ => rfl) (g_name (i := 8)))
      (s_if (sim_tst (sim_ii (sim_call (sim_cons (sim_var (i := 2)) (sim_cons (sim_var (i := 8)) sim_nil))) (sim_var (i := 5)) fun _ _ => rfl)) (s_asg (sim_var (i := 8)) (g_name (i := 6))) (s_asg (sim_var (i := 8)) (g_name (i := 7))))))
      (s_ret (sim_plus (sim_iic (sim_var (i := 4)) (sim_var (i := 3)) fun _ _ => rfl) (sim_var (i := 6))))))))), pure_year_of⟩
theorem ok_month_days (T : Tx K mg) (G_is_long : FnOk P w K mg base CX0 1 T.a_is_long T.d_is_long ["calendar", "year"] (spP K 2 S_is_long)) : FnOk P w K mg base CX0 2 T.a_month_days T.d_month_days ["calendar", "year"] (spP K 2 S_month_days) := by
  refine ok_P T.f_month_days sc_month_days rfl fun cdv A outer s H E hr => ?_
  exact ⟨_, p_month_days, (pss_cons (ps_set (i := 2) sc_month_days.nd rfl (.inl rfl) (pe_callTy c_listOf (by rfl) T.list (by decide +kernel) (pa_cons (pe_ix ix_seq (pv 0) pe_int (fun _ _ => rfl)) pa_nil)))
      (pss_cons (ps_if (pt_val (pe_call G_is_long (hr.mono (by decide)) (by rfl) T.m_is_long T.f_is_long.kp T.b_is_long .nil pass0 (pa_cons (pv 0) (pa_cons (pv 1) pa_nil)))) (pss_one (ps_augS (pv 2) (pe_op op_sub (pe_ix ix_seq (pv 0) pe_int (fun _ _ => rfl)) pe_int) get_item (pe_ix ix_seq (pv 0) pe_int (fun _ _ => rfl)) ip_add set_list)) pss_nil)
      (pss_one (ps_ret (pv 2))))),
    (s_seq (s_asgO (i := 2) (sim_listOf (sim_ix (sim_var (i := 0)) (sim_c (v := .int 0) rfl))))
      (s_seq (s_if (sim_tB (sim_call (sim_cons (sim_var (i := 0)) (sim_cons (sim_var (i := 1)) sim_nil)))) (s_augI (i := 2) (sim_ii (sim_ix (sim_var (i := 0)) (sim_c (v := .int 1) rfl)) (sim_c (v := .int 1) rfl) fun _ _ => rfl) (sim_ix (sim_var (i := 0)) (sim_c (v := .int 2) rfl))) s_next)
      (s_retO (i := 2)))), pure_month_days⟩
theorem ok_day_of (T : Tx K mg) (G_month_days : FnOk P w K mg base CX0 2 T.a_month_days T.d_month_days ["calendar", "year"] (spP K 2 S_month_days)) (G_year_begin : FnOk P w K mg base CX0 1 T.a_year_begin T.d_year_begin ["shape", "year"] (spP K 2 S_year_begin)) (G_shape_of : FnOk P w K mg base CX0 2 T.a_shape_of T.d_shape_of ["calendar"] (spP K 1 S_shape_of)) : FnOk P w K mg base (L2.CX P w) 3 T.a_day_of T.d_day_of ["calendar", "year", "month", "number"] (spX K T.c_NoSuchDay 4 S_day_ofX) := by
  refine ok_PX T.f_day_of sc_day_of rfl fun cdv A outer s H E hr => ?_
  exact ⟨_, p_day_ofX, (pss_cons (ps_set (i := 4) sc_day_of.nd rfl (.inl rfl) (pe_call G_month_days (hr.mono (by decide)) (by rfl) T.m_month_days T.f_month_days.kp T.b_month_days .nil pass0 (pa_cons (pv 0) (pa_cons (pv 1) pa_nil))))
      (pss_cons (ps_if (PW.pt (pw_or (pt_not (pt_chain op_le op_le pe_int (pv 2) (pe_callB c_len (by rfl) T.len PySem.boot_len (pa_cons (pv 4) pa_nil)))) (pw_or1 (pt_not (pt_chain op_le op_le pe_int (pv 3) (pe_ix ix_seq (pv 4) (pe_op op_sub (pv 2) pe_int) (fun _ _ => rfl))))))) (pss_one (ps_raise rfl (takes_of rfl rfl rfl rfl) (pmk_own PySem.F.excBase_ValueError T.x_NoSuchDay T.m_NoSuchDay T.k_NoSuchDay (raises_own T.b_NoSuchDay T.t_NoSuchDay) (by exact rfl)))) pss_nil)
      (pss_one (ps_ret (pe_op op_sub (pe_op op_plus (pe_op op_plus (pe_call G_year_begin (hr.mono (by decide)) (by rfl) T.m_year_begin T.f_year_begin.kp T.b_year_begin .nil pass0 (pa_cons (pe_call G_shape_of (hr.mono (by decide)) (by rfl) T.m_shape_of T.f_shape_of.kp T.b_shape_of .nil pass0 (pa_cons (pv 0) pa_nil)) (pa_cons (pv 1) pa_nil))) (pe_callB (c_sum rfl) (by rfl) T.sum (by decide +kernel) (pa_cons (pe_slice sl_cut (pv 4) po_none (po_some (pe_op op_sub (pv 2) pe_int))) pa_nil))) (pv 3)) pe_int))))),
    (s2_seq (s2_of (s_asg (sim_call (sim_cons (sim_var (i := 0)) (sim_cons (sim_var (i := 1)) sim_nil))) (g_name (i := 4))) (fun _ _ h => h))
      (s2_seq (s2_if (sim_or (sim_not (sim_tst (sim_chain (f := fun i j => decide (i ≤ j)) (g := fun i j => decide (i ≤ j)) (sim_c (v := .int 1) rfl) (sim_var (i := 2)) (sim_len (sim_cons (sim_var (i := 4)) sim_nil))))) (sim_not (sim_tst (sim_chain (f := fun i j => decide (i ≤ j)) (g := fun i j => decide (i ≤ j)) (sim_c (v := .int 1) rfl) (sim_var (i := 3)) (sim_ix (sim_var (i := 4)) (sim_ii (sim_var (i := 2)) (sim_c (v := .int 1) rfl) fun _ _ => rfl)))))) s2_raise (s2_of s_next (fun _ _ h => h)))
      (s2_of (s_ret (sim_ii (sim_plus (sim_plus (sim_call (sim_cons (sim_call (sim_cons (sim_var (i := 0)) sim_nil)) (sim_cons (sim_var (i := 1)) sim_nil))) (sim_sum (sim_cons (sim_cut (sim_var (i := 4)) o_none (o_some (sim_ii (sim_var (i := 2)) (sim_c (v := .int 1) rfl) fun _ _ => rfl))) sim_nil))) (sim_var (i := 3))) (sim_c (v := .int 1) rfl) fun _ _ => rfl)) (fun _ _ h => h)))), pure_day_ofX⟩
theorem ok_date_of (T : Tx K mg) (G_year_of : FnOk P w K mg base CX0 3 T.a_year_of T.d_year_of ["calendar", "day"] (spP K 2 S_year_of)) (G_month_days : FnOk P w K mg base CX0 2 T.a_month_days T.d_month_days ["calendar", "year"] (spP K 2 S_month_days)) (G_year_begin : FnOk P w K mg base CX0 1 T.a_year_begin T.d_year_begin ["shape", "year"] (spP K 2 S_year_begin)) (G_shape_of : FnOk P w K mg base CX0 2 T.a_shape_of T.d_shape_of ["calendar"] (spP K 1 S_shape_of)) : FnOk P w K mg base CX0 4 T.a_date_of T.d_date_of ["calendar", "day"] (spP K 2 S_date_of) := by
  refine ok_P T.f_date_of sc_date_of rfl fun cdv A outer s H E hr => ?_
  exact ⟨_, p_date_of, (pss_cons (ps_set (i := 2) sc_date_of.nd rfl (.inl rfl) (pe_call G_year_of (hr.mono (by decide)) (by rfl) T.m_year_of T.f_year_of.kp T.b_year_of .nil pass0 (pa_cons (pv 0) (pa_cons (pv 1) pa_nil))))
      (pss_cons (ps_set (i := 3) sc_date_of.nd rfl (.inl rfl) (pe_op op_sub (pv 1) (pe_call G_year_begin (hr.mono (by decide)) (by rfl) T.m_year_begin T.f_year_begin.kp T.b_year_begin .nil pass0 (pa_cons (pe_call G_shape_of (hr.mono (by decide)) (by rfl) T.m_shape_of T.f_shape_of.kp T.b_shape_of .nil pass0 (pa_cons (pv 0) pa_nil)) (pa_cons (pv 2) pa_nil)))))
      (pss_cons (ps_set (i := 4) sc_date_of.nd rfl (.inl rfl) pe_int)
      (pss_cons (ps_for PassesOwn.never rfl (pi_list (pe_call G_month_days (hr.mono (by decide)) (by rfl) T.m_month_days T.f_month_days.kp T.b_month_days .nil pass0 (pa_cons (pv 0) (pa_cons (pv 2) pa_nil)))) (pg_name (i := 5) sc_date_of.nd rfl (.inl rfl)) (pss_cons (ps_if (pt_cmpR op_lt (pv 3) (pv 5) (nomark _)) (pss_one ps_break) pss_nil)
      (pss_cons (ps_aug (i := 3) sc_date_of.nd rfl (.inl rfl) (pv 5) ip_sub)
      (pss_one (ps_aug (i := 4) sc_date_of.nd rfl (.inl rfl) pe_int ip_add)))))
      (pss_one (ps_ret (pe_tup (pa_cons (pv 2) (pa_cons (pv 4) (pa_cons (pe_op op_plus (pv 3) pe_int) pa_nil)))))))))),
    (s_seq (s_asg (sim_call (sim_cons (sim_var (i := 0)) (sim_cons (sim_var (i := 1)) sim_nil))) (g_name (i := 2)))
      (s_seq (s_asg (sim_ii (sim_var (i := 1)) (sim_call (sim_cons (sim_call (sim_cons (sim_var (i := 0)) sim_nil)) (sim_cons (sim_var (i := 2)) sim_nil))) fun _ _ => rfl) (g_name (i := 3)))
      (s_seq (s_asg (sim_c (v := .int 1) rfl) (g_name (i := 4)))
      (s_seq (s_forL (sim_call (sim_cons (sim_var (i := 0)) (sim_cons (sim_var (i := 2)) sim_nil))) (g_name (i := 5)) (s_seq (s_if (sim_tst (sim_ii (sim_var (i := 3)) (sim_var (i := 5)) fun _ _ => rfl)) s_brk s_next)
      (s_seq (s_aug (i := 3) (sim_var (i := 5)))
      (s_aug (i := 4) (sim_c (v := .int 1) rfl)))))
      (s_ret (sim_tup (sim_cons (sim_var (i := 2)) (sim_cons (sim_var (i := 4)) (sim_cons (sim_plus (sim_var (i := 3)) (sim_c (v := .int 1) rfl)) sim_nil))))))))), pure_date_of⟩
theorem ok_weekday_of (T : Tx K mg) : FnOk P w K mg base CX0 1 T.a_weekday_of T.d_weekday_of ["calendar", "day"] (spP K 2 S_weekday_of) := by
  refine ok_P T.f_weekday_of sc_weekday_of rfl fun cdv A outer s H E hr => ?_
  exact ⟨_, p_weekday_of, (pss_one (ps_ret (pe_op op_mod (pe_op op_plus (pv 1) (pe_ix ix_seq (pv 0) pe_int (fun _ _ => rfl))) (pe_ix ix_seq (pv 0) pe_int (fun _ _ => rfl))))),
    (s_ret (sim_iic (sim_plus (sim_var (i := 1)) (sim_ix (sim_var (i := 0)) (sim_c (v := .int 5) rfl))) (sim_ix (sim_var (i := 0)) (sim_c (v := .int 4) rfl)) fun _ _ => rfl)), pure_weekday_of⟩
theorem ok_law_draws (T : Tx K mg) : FnOk P w K mg base CX0 1 T.a_law_draws T.d_law_draws ["cell", "modulus", "count"] (spP K 3 S_law_draws) := by
  refine ok_P T.f_law_draws sc_law_draws rfl fun cdv A outer s H E hr => ?_
  exact ⟨_, p_law_draws, (pss_cons (ps_set (i := 3) sc_law_draws.nd rfl (.inl rfl) (pv 0))
      (pss_cons (ps_if (pt_cmpR op_lt (pv 3) pe_int (nomark _)) (pss_one (ps_set (i := 3) sc_law_draws.nd rfl (.inl rfl) (pe_op op_sub (pe_op op_sub pe_int pe_int) (pv 3)))) pss_nil)
      (pss_cons (ps_set (i := 4) sc_law_draws.nd rfl (.inl rfl) (pe_lst pa_nil))
      (pss_cons (ps_if (pt_cmpR op_ge (pv 3) (pe_op op_pow pe_int pe_int) (nomark _)) (pss_cons (ps_for PassesOwn.never rfl (pi_range1 rfl T.range (pa_cons (pv 2) pa_nil)) (pg_name (i := 5) sc_law_draws.nd rfl (.inl rfl)) (pss_cons (ps_expr (pe_bm PySem.F.plainAttrs_list PySem.F.slot_list_append PySem.F.type_list_append mt_append (pv 4) (pa_cons (pe_op op_mod (pe_callTy c_int (by rfl) T.int (by decide +kernel) (pa_cons (pv 3) pa_nil)) (pv 1)) pa_nil)))
      (pss_one (ps_set (i := 3) sc_law_draws.nd rfl (.inl rfl) (pe_op op_fdiv (pv 3) (pv 1))))))
      (pss_one (ps_ret (pv 4)))) pss_nil)
      (pss_cons (ps_for PassesOwn.never rfl (pi_range1 rfl T.range (pa_cons (pv 2) pa_nil)) (pg_name (i := 5) sc_law_draws.nd rfl (.inl rfl)) (pss_cons (ps_set (i := 6) sc_law_draws.nd rfl (.inl rfl) (pe_op op_mod (pe_callTy c_int (by rfl) T.int (by decide +kernel) (pa_cons (pe_op op_mul (pe_op op_plus (pe_op op_plus (pv 3) (pe_op op_mul pe_int (pv 5))) pe_int) pe_int) pa_nil)) pe_int))
      (pss_cons (ps_set (i := 6) sc_law_draws.nd rfl (.inl rfl) (pe_op op_mod (pe_callTy c_int (by rfl) T.int (by decide +kernel) (pa_cons (pe_op op_plus (pe_op op_mul (pv 6) pe_int) (pe_op op_mul pe_int (pv 5))) pa_nil)) pe_int))
      (pss_one (ps_expr (pe_bm PySem.F.plainAttrs_list PySem.F.slot_list_append PySem.F.type_list_append mt_append (pv 4) (pa_cons (pe_op op_mod (pe_callTy c_int (by rfl) T.int (by decide +kernel) (pa_cons (pe_op op_fdiv (pv 6) pe_int) pa_nil)) (pv 1)) pa_nil)))))))
      (pss_one (ps_ret (pv 4)))))))),
    (s_seq (s_asg (sim_var (i := 0)) (g_name (i := 3)))
      (s_seq (s_if (sim_tst (sim_ii (sim_var (i := 3)) (sim_c (v := .int 0) rfl) fun _ _ => rfl)) (s_asg (sim_ii (sim_ii (sim_c (v := .int 0) rfl) (sim_c (v := .int 1) rfl) fun _ _ => rfl) (sim_var (i := 3)) fun _ _ => rfl) (g_name (i := 3))) s_next)
      (s_seq (s_asgO (i := 4) (sim_lst sim_nil))
      (s_seq (s_if (sim_tst (sim_ii (sim_var (i := 3)) (sim_iic (sim_c (v := .int 10) rfl) (sim_c (v := .int 18) rfl) fun _ _ => rfl) fun _ _ => rfl)) (s_seq (s_rng1 (sim_cons (sim_var (i := 2)) sim_nil) (g_name (i := 5)) (s_seq (s_app (i := 4) (sim_iic (sim_int (sim_cons (sim_var (i := 3)) sim_nil)) (sim_var (i := 1)) fun _ _ => rfl))
      (s_asg (sim_iic (sim_var (i := 3)) (sim_var (i := 1)) fun _ _ => rfl) (g_name (i := 3)))) (fun ρ R h => by exact (pcons_len1 h)))
      (s_retO (i := 4))) s_next)
      (s_seq (s_rng1 (sim_cons (sim_var (i := 2)) sim_nil) (g_name (i := 5)) (s_seq (s_asg (sim_iic (sim_int (sim_cons (sim_iic (sim_plus (sim_plus (sim_var (i := 3)) (sim_iic (sim_c (v := .int 7) rfl) (sim_var (i := 5)) fun _ _ => rfl)) (sim_c (v := .int 1) rfl)) (sim_c (v := .int 48271) rfl) fun _ _ => rfl) sim_nil)) (sim_c (v := .int 2147483647) rfl) fun _ _ => rfl) (g_name (i := 6)))
      (s_seq (s_asg (sim_iic (sim_int (sim_cons (sim_plus (sim_iic (sim_var (i := 6)) (sim_c (v := .int 69621) rfl) fun _ _ => rfl) (sim_iic (sim_c (v := .int 31) rfl) (sim_var (i := 5)) fun _ _ => rfl)) sim_nil)) (sim_c (v := .int 2147483629) rfl) fun _ _ => rfl) (g_name (i := 6)))
      (s_app (i := 4) (sim_iic (sim_int (sim_cons (sim_iic (sim_var (i := 6)) (sim_c (v := .int 7) rfl) fun _ _ => rfl) sim_nil)) (sim_var (i := 1)) fun _ _ => rfl)))) (fun ρ R h => by exact (pcons_len1 h)))
      (s_retO (i := 4))))))), pure_law_draws⟩
theorem ok_law_calendar (T : Tx K mg) (G_law_next : FnOk P w K mg base CX0 1 T.a_law_next T.d_law_next ["box", "modulus"] (spB K 1 S_law_next)) : FnOk P w K mg base CX0 2 T.a_law_calendar T.d_law_calendar ["box"] (spB K 0 S_law_calendar) := by
  refine ok_B T.f_law_calendar sc_law_calendar rfl fun cdv A outer s H E hr => ?_
  exact ⟨_, p_law_calendar, (pss_cons (ps_set (i := 1) sc_law_calendar.nd rfl (.inl rfl) (pe_callTy c_tuple (by rfl) T.tuple (by decide +kernel) (pa_cons (pe_lc (own := [("k", 5)]) (g := gName 5) (tt := tYes) (by rfl) sc_law_calendar.nd (pi_range1 rfl T.range (pa_cons (pe_op op_plus pe_int (pe_call G_law_next (hr.mono (by decide)) (by rfl) T.m_law_next T.f_law_next.kp T.b_law_next .nil pass0 (pa_cons (pv 0) (pa_cons pe_int pa_nil)))) pa_nil)) (blkOk_by (N := N_law_calendar) (sc := defScope s_law_calendar) (by decide +kernel)) (fun _ _ _ _ _ => pg_name (i := 5) sc_law_calendar.nd rfl (Or.inl rfl)) (fun _ _ _ _ _ => pts_nil) (fun _ _ _ _ _ => (pe_op op_plus pe_int (pe_call G_law_next (hr.mono (by decide)) (by rfl) T.m_law_next T.f_law_next.kp T.b_law_next .nil pass0 (pa_cons (pv 0) (pa_cons pe_int pa_nil)))))) pa_nil)))
      (pss_cons (ps_set (i := 2) sc_law_calendar.nd rfl (.inl rfl) (pe_op op_plus pe_int (pe_call G_law_next (hr.mono (by decide)) (by rfl) T.m_law_next T.f_law_next.kp T.b_law_next .nil pass0 (pa_cons (pv 0) (pa_cons (pe_callB c_len (by rfl) T.len PySem.boot_len (pa_cons (pv 1) pa_nil)) pa_nil)))))
      (pss_cons (ps_set (i := 3) sc_law_calendar.nd rfl (.inl rfl) (pe_callTy c_tuple (by rfl) T.tuple (by decide +kernel) (pa_cons (pe_lc (own := [("k", 5)]) (g := gName 5) (tt := tYes) (by rfl) sc_law_calendar.nd (pi_range1 rfl T.range (pa_cons (pe_call G_law_next (hr.mono (by decide)) (by rfl) T.m_law_next T.f_law_next.kp T.b_law_next .nil pass0 (pa_cons (pv 0) (pa_cons pe_int pa_nil))) pa_nil)) (blkOk_by (N := N_law_calendar) (sc := defScope s_law_calendar) (by decide +kernel)) (fun _ _ _ _ _ => pg_name (i := 5) sc_law_calendar.nd rfl (Or.inl rfl)) (fun _ _ _ _ _ => pts_nil) (fun _ _ _ _ _ => (pe_tup (pa_cons (pe_op op_plus pe_int (pe_call G_law_next (hr.mono (by decide)) (by rfl) T.m_law_next T.f_law_next.kp T.b_law_next .nil pass0 (pa_cons (pv 0) (pa_cons pe_int pa_nil)))) (pa_cons (pe_cmpR (op_eqD (hu65 hr)) (pe_call G_law_next (hr.mono (by decide)) (by rfl) T.m_law_next T.f_law_next.kp T.b_law_next .nil pass0 (pa_cons (pv 0) (pa_cons pe_int pa_nil))) pe_int (nomark _)) pa_nil))))) pa_nil)))
      (pss_cons (ps_set (i := 4) sc_law_calendar.nd rfl (.inl rfl) (pe_op op_plus pe_int (pe_call G_law_next (hr.mono (by decide)) (by rfl) T.m_law_next T.f_law_next.kp T.b_law_next .nil pass0 (pa_cons (pv 0) (pa_cons pe_int pa_nil)))))
      (pss_one (ps_ret (pe_tup (pa_cons (pv 1) (pa_cons (pv 2) (pa_cons (pe_call G_law_next (hr.mono (by decide)) (by rfl) T.m_law_next T.f_law_next.kp T.b_law_next .nil pass0 (pa_cons (pv 0) (pa_cons pe_int pa_nil))) (pa_cons (pv 3) (pa_cons (pv 4) (pa_cons (pe_call G_law_next (hr.mono (by decide)) (by rfl) T.m_law_next T.f_law_next.kp T.b_law_next .nil pass0 (pa_cons (pv 0) (pa_cons (pv 4) pa_nil))) (pa_cons (pe_op op_plus pe_int (pe_call G_law_next (hr.mono (by decide)) (by rfl) T.m_law_next T.f_law_next.kp T.b_law_next .nil pass0 (pa_cons (pv 0) (pa_cons pe_int pa_nil)))) pa_nil)))))))))))))),
    (s_seq (s_asg (sim_tuple (sim_cons (sim_new (sim_lcR1 (vs := [5]) (is := [5]) (sim_cons (sim_plus (sim_c (v := .int 1) rfl) (sim_callB (i := 0) (sim_cons (sim_c (v := .int 4) rfl) sim_nil))) sim_nil) (gv_name (by simp)) t_yes (sim_plus (sim_c (v := .int 1) rfl) (sim_callB (i := 0) (sim_cons (sim_c (v := .int 6) rfl) sim_nil))) (fun ρ R h => by exact (pcons_len1 h)))) sim_nil)) (g_name (i := 1)))
      (s_seq (s_asg (sim_plus (sim_c (v := .int 1) rfl) (sim_callB (i := 0) (sim_cons (sim_len (sim_cons (sim_var (i := 1)) sim_nil)) sim_nil))) (g_name (i := 2)))
      (s_seq (s_asg (sim_tuple (sim_cons (sim_new (sim_lcR1 (vs := [5]) (is := [5]) (sim_cons (sim_callB (i := 0) (sim_cons (sim_c (v := .int 3) rfl) sim_nil)) sim_nil) (gv_name (by simp)) t_yes (sim_tup (sim_cons (sim_plus (sim_c (v := .int 1) rfl) (sim_callB (i := 0) (sim_cons (sim_c (v := .int 4) rfl) sim_nil))) (sim_cons (sim_eqD (sim_callB (i := 0) (sim_cons (sim_c (v := .int 2) rfl) sim_nil)) (sim_c (v := .int 1) rfl)) sim_nil))) (fun ρ R h => by exact (pcons_len1 h)))) sim_nil)) (g_name (i := 3)))
      (s_seq (s_asg (sim_plus (sim_c (v := .int 1) rfl) (sim_callB (i := 0) (sim_cons (sim_c (v := .int 5) rfl) sim_nil))) (g_name (i := 4)))
      (s_ret (sim_tup (sim_cons (sim_var (i := 1)) (sim_cons (sim_var (i := 2)) (sim_cons (sim_callB (i := 0) (sim_cons (sim_c (v := .int 3) rfl) sim_nil)) (sim_cons (sim_var (i := 3)) (sim_cons (sim_var (i := 4)) (sim_cons (sim_callB (i := 0) (sim_cons (sim_var (i := 4)) sim_nil)) (sim_cons (sim_plus (sim_c (v := .int 1) rfl) (sim_callB (i := 0) (sim_cons (sim_c (v := .int 6) rfl) sim_nil))) sim_nil))))))))))))), pure_law_calendar⟩
theorem ok_law_length (T : Tx K mg) : FnOk P w K mg base CX0 1 T.a_law_length T.d_law_length ["calendar", "year", "month"] (spP K 3 S_law_length) := by
  refine ok_P T.f_law_length sc_law_length rfl fun cdv A outer s H E hr => ?_
  exact ⟨_, p_law_length, (pss_cons (ps_set (i := 3) sc_law_length.nd rfl (.inl rfl) pe_bl)
      (pss_cons (ps_for PassesOwn.never rfl (pi_tup (pe_ix ix_seq (pv 0) pe_int (fun _ _ => rfl))) (pg_name (i := 4) sc_law_length.nd rfl (.inl rfl)) (pss_one (ps_if (pt_cmpR (op_eqD (hu65 hr)) (pe_op op_mod (pv 1) (pe_ix ix_seq (pv 4) pe_int (fun _ _ => rfl))) pe_int (nomark _)) (pss_one (ps_set (i := 3) sc_law_length.nd rfl (.inl rfl) (pe_ix ix_seq (pv 4) pe_int (fun _ _ => rfl)))) pss_nil)))
      (pss_one (ps_ret (pe_op op_plus (pe_ix ix_seq (pe_ix ix_seq (pv 0) pe_int (fun _ _ => rfl)) (pe_op op_sub (pv 2) pe_int) (fun _ _ => rfl)) (pe_op op_mul (pe_ix ix_seq (pv 0) pe_int (fun _ _ => rfl)) (pe_callTy c_int (by rfl) T.int (by decide +kernel) (pa_cons (pe_and (pv 3) (pe_one (pe_cmpR (op_eqD (hu65 hr)) (pv 2) (pe_ix ix_seq (pv 0) pe_int (fun _ _ => rfl)) (nomark _)))) pa_nil)))))))),
    (s_seq (s_asg (sim_c (v := .bl false) rfl) (g_name (i := 3)))
      (s_seq (s_forT (sim_ix (sim_var (i := 0)) (sim_c (v := .int 3) rfl)) (g_name (i := 4)) (s_if (sim_tst (sim_eqD (sim_iic (sim_var (i := 1)) (sim_ix (sim_var (i := 4)) (sim_c (v := .int 0) rfl)) fun _ _ => rfl) (sim_c (v := .int 0) rfl))) (s_asg (sim_ix (sim_var (i := 4)) (sim_c (v := .int 1) rfl)) (g_name (i := 3))) s_next))
      (s_ret (sim_plus (sim_ix (sim_ix (sim_var (i := 0)) (sim_c (v := .int 0) rfl)) (sim_ii (sim_var (i := 2)) (sim_c (v := .int 1) rfl) fun _ _ => rfl)) (sim_iic (sim_ix (sim_var (i := 0)) (sim_c (v := .int 2) rfl)) (sim_int (sim_cons (sim_andV (sim_var (i := 3)) (sim_eqD (sim_var (i := 2)) (sim_ix (sim_var (i := 0)) (sim_c (v := .int 1) rfl)))) sim_nil)) fun _ _ => rfl))))), pure_law_length⟩
theorem ok_law_dates (T : Tx K mg) (G_law_length : FnOk P w K mg base CX0 1 T.a_law_length T.d_law_length ["calendar", "year", "month"] (spP K 3 S_law_length)) : FnOk P w K mg base CX0 2 T.a_law_dates T.d_law_dates ["calendar", "low", "high"] (spP K 3 S_law_dates) := by
  refine ok_P T.f_law_dates sc_law_dates rfl fun cdv A outer s H E hr => ?_
  exact ⟨_, p_law_dates, (pss_cons (ps_set (i := 3) sc_law_dates.nd rfl (.inl rfl) pe_dnewK)
      (pss_cons (ps_set (i := 4) sc_law_dates.nd rfl (.inl rfl) pe_int)
      (pss_cons (ps_set (i := 5) sc_law_dates.nd rfl (.inl rfl) pe_int)
      (pss_cons (ps_while PassesOwn.never (pt_cmpR op_le (pv 4) (pv 2) (nomark _)) (pss_cons (ps_for PassesOwn.never rfl (pi_range2 rfl T.range (pa_cons pe_int (pa_cons (pe_op op_plus (pe_callB c_len (by rfl) T.len PySem.boot_len (pa_cons (pe_ix ix_seq (pv 0) pe_int (fun _ _ => rfl)) pa_nil)) pe_int) pa_nil))) (pg_name (i := 6) sc_law_dates.nd rfl (.inl rfl)) (pss_one (ps_for PassesOwn.never rfl (pi_range2 rfl T.range (pa_cons pe_int (pa_cons (pe_op op_plus (pe_call G_law_length (hr.mono (by decide)) (by rfl) T.m_law_length T.f_law_length.kp T.b_law_length .nil pass0 (pa_cons (pv 0) (pa_cons (pv 5) (pa_cons (pv 6) pa_nil)))) pe_int) pa_nil))) (pg_name (i := 7) sc_law_dates.nd rfl (.inl rfl)) (pss_cons (ps_dput (hu_of hr) (pv 3) (pv 4) (pe_tup (pa_cons (pv 5) (pa_cons (pv 6) (pa_cons (pv 7) pa_nil)))) rfl)
      (pss_one (ps_set (i := 4) sc_law_dates.nd rfl (.inl rfl) (pe_op op_plus (pv 4) pe_int)))))))
      (pss_one (ps_set (i := 5) sc_law_dates.nd rfl (.inl rfl) (pe_op op_plus (pv 5) pe_int)))))
      (pss_cons (ps_set (i := 4) sc_law_dates.nd rfl (.inl rfl) pe_int)
      (pss_cons (ps_set (i := 5) sc_law_dates.nd rfl (.inl rfl) (pe_un un_neg pe_int))
      (pss_cons (ps_while PassesOwn.never (pt_cmpR op_ge (pv 4) (pv 1) (nomark _)) (pss_cons (ps_for PassesOwn.never rfl (pi_revR (by rfl) T.reversed (prg_2 (by rfl) T.range pe_int (pe_op op_plus (pe_callB c_len (by rfl) T.len PySem.boot_len (pa_cons (pe_ix ix_seq (pv 0) pe_int (fun _ _ => rfl)) pa_nil)) pe_int))) (pg_name (i := 6) sc_law_dates.nd rfl (.inl rfl)) (pss_one (ps_for PassesOwn.never rfl (pi_revR (by rfl) T.reversed (prg_2 (by rfl) T.range pe_int (pe_op op_plus (pe_call G_law_length (hr.mono (by decide)) (by rfl) T.m_law_length T.f_law_length.kp T.b_law_length .nil pass0 (pa_cons (pv 0) (pa_cons (pv 5) (pa_cons (pv 6) pa_nil)))) pe_int))) (pg_name (i := 7) sc_law_dates.nd rfl (.inl rfl)) (pss_cons (ps_set (i := 4) sc_law_dates.nd rfl (.inl rfl) (pe_op op_sub (pv 4) pe_int))
      (pss_one (ps_dput (hu_of hr) (pv 3) (pv 4) (pe_tup (pa_cons (pv 5) (pa_cons (pv 6) (pa_cons (pv 7) pa_nil)))) rfl))))))
      (pss_one (ps_set (i := 5) sc_law_dates.nd rfl (.inl rfl) (pe_op op_sub (pv 5) pe_int)))))
      (pss_one (ps_ret (pv 3)))))))))),
    (s_seq (s_asgD (i := 3))
      (s_seq (s_asg (sim_c (v := .int 0) rfl) (g_name (i := 4)))
      (s_seq (s_asg (sim_c (v := .int 0) rfl) (g_name (i := 5)))
      (s_seq (s_while (sim_tst (sim_ii (sim_var (i := 4)) (sim_var (i := 2)) fun _ _ => rfl)) (s_seq (s_rng2 (sim_cons (sim_c (v := .int 1) rfl) (sim_cons (sim_plus (sim_len (sim_cons (sim_ix (sim_var (i := 0)) (sim_c (v := .int 0) rfl)) sim_nil)) (sim_c (v := .int 1) rfl)) sim_nil)) (g_name (i := 6)) (s_rng2 (sim_cons (sim_c (v := .int 1) rfl) (sim_cons (sim_plus (sim_call (sim_cons (sim_var (i := 0)) (sim_cons (sim_var (i := 5)) (sim_cons (sim_var (i := 6)) sim_nil)))) (sim_c (v := .int 1) rfl)) sim_nil)) (g_name (i := 7)) (s_seq (s_putD (i := 3) (sim_var (i := 4)) (sim_tup (sim_cons (sim_var (i := 5)) (sim_cons (sim_var (i := 6)) (sim_cons (sim_var (i := 7)) sim_nil)))))
      (s_asg (sim_plus (sim_var (i := 4)) (sim_c (v := .int 1) rfl)) (g_name (i := 4)))) (fun ρ R h => by exact (pcons_len2 h))) (fun ρ R h => by exact (pcons_len2 h)))
      (s_asg (sim_plus (sim_var (i := 5)) (sim_c (v := .int 1) rfl)) (g_name (i := 5)))))
      (s_seq (s_asg (sim_c (v := .int 0) rfl) (g_name (i := 4)))
      (s_seq (s_asg (sim_u (sim_c (v := .int 1) rfl) fun _ => rfl) (g_name (i := 5)))
      (s_seq (s_while (sim_tst (sim_ii (sim_var (i := 4)) (sim_var (i := 1)) fun _ _ => rfl)) (s_seq (s_rev (sim_c (v := .int 1) rfl) (sim_plus (sim_len (sim_cons (sim_ix (sim_var (i := 0)) (sim_c (v := .int 0) rfl)) sim_nil)) (sim_c (v := .int 1) rfl)) (g_name (i := 6)) (s_rev (sim_c (v := .int 1) rfl) (sim_plus (sim_call (sim_cons (sim_var (i := 0)) (sim_cons (sim_var (i := 5)) (sim_cons (sim_var (i := 6)) sim_nil)))) (sim_c (v := .int 1) rfl)) (g_name (i := 7)) (s_seq (s_asg (sim_ii (sim_var (i := 4)) (sim_c (v := .int 1) rfl) fun _ _ => rfl) (g_name (i := 4)))
      (s_putD (i := 3) (sim_var (i := 4)) (sim_tup (sim_cons (sim_var (i := 5)) (sim_cons (sim_var (i := 6)) (sim_cons (sim_var (i := 7)) sim_nil))))))))
      (s_asg (sim_ii (sim_var (i := 5)) (sim_c (v := .int 1) rfl) fun _ _ => rfl) (g_name (i := 5)))))
      (s_retD (i := 3))))))))), pure_law_dates⟩
end
end Pr
set_option maxHeartbeats 4000000
namespace Pr
open PySem PySem.Spec PyProof.Rows L2 Pu
abbrev kRow : Key := .inr "row"
abbrev kAt : Key := .inr "at"
theorem row_ne_at : ¬ kRow = kAt := by decide +kernel
theorem val_at {x y : V} : valV [(kRow, x), (kAt, y)] kAt = some y := by
  unfold valV
  rw [List.find?_cons_of_neg (by simpa using row_ne_at), List.find?_cons_of_pos (by simp)]
  rfl
theorem val_row {x y : V} : valV [(kRow, x), (kAt, y)] kRow = some x := by
  unfold valV
  rw [List.find?_cons_of_pos (by simp)]
  rfl
theorem put_at {x y z : V} : putK [(kRow, x), (kAt, y)] kAt z = [(kRow, x), (kAt, z)] := by
  have ne : ¬ ("row" : Str) = "at" := by decide +kernel
  unfold putK
  simp
  intro h
  exact absurd h ne
theorem get_at {H : Hp} {b : Addr} {x y : V} (h : H b = some (.dK [(kRow, x), (kAt, y)])) : DGet H b (.str "at") (some y) := by
  have q := DGet.k (k := kAt) h
  rw [val_at] at q
  exact q
theorem get_row {H : Hp} {b : Addr} {x y : V} (h : H b = some (.dK [(kRow, x), (kAt, y)])) : DGet H b (.str "row") (some x) := by
  have q := DGet.k (k := kRow) h
  rw [val_row] at q
  exact q
theorem mod_at {ns : List Int} {i : Int} (h0 : 0 ≤ i) (h : 0 < ns.length) : ∃ x, x ∈ ns ∧ atI (ns.map V.int) (i % (((ns.map V.int).length : Nat) : Int)) = some (.int x) := by
  rw [List.length_map]
  have a := Int.emod_nonneg i (show ((ns.length : Nat) : Int) ≠ 0 by omega)
  have b := Int.emod_lt_of_pos i (show (0 : Int) < ((ns.length : Nat) : Int) by omega)
  obtain ⟨n, en⟩ : ∃ n : Nat, i % ((ns.length : Nat) : Int) = n := ⟨(i % ((ns.length : Nat) : Int)).toNat, by omega⟩
  have hn : n < ns.length := by omega
  refine ⟨ns[n], List.getElem_mem hn, ?_⟩
  rw [en]
  refine atI_nat ?_
  rw [List.getElem?_map, List.getElem?_eq_getElem hn]
  rfl
section
variable {P : Program} {w : World} {K : PySem.W.Frag} {mg : Str → Option Value} {base : Heap}
theorem ok_law_next (T : Tx K mg) : FnOk P w K mg base CX0 1 T.a_law_next T.d_law_next ["box", "modulus"] (spB K 1 S_law_next) := by
  refine T.f_law_next.ok sc_law_next (fun vs H Q E h => ?_) (fun cdv A outer s H vs Q E hr h => ?_)
  · obtain ⟨b, us, rfl, hl, _⟩ := h
    rw [List.length_cons, hl]
    rfl
  obtain ⟨b, us, rfl, hl, Z, ds, c, nz, hz, ⟨r, rows, at_, hb, h0, hr0, h1, h2, h3⟩, rr, hS, q⟩ := h
  have hd : ∃ m : Int, ds = [.int m] ∧ 0 < m ∧ ∀ v : Int, 0 ≤ v → v < m → c (.int v) := by
    unfold S_law_next at hS
    split at hS
    · exact ⟨_, rfl, hS⟩
    · exact hS.elim
  obtain ⟨m, rfl, m0, hk⟩ := hd
  have eu : us = [.int m] := dqs_of_ints (ns := [m]) rr
  subst eu
  have hu := hu_of hr
  obtain ⟨nr, hrow⟩ := veil_off hr0
  have nrb : r ≠ b := fun e => nr (.inr e)
  obtain ⟨x, hx, hix⟩ := mod_at h0 h1
  refine ⟨_, pss_cons (ps_set (i := 2) sc_law_next.nd rfl (.inl rfl) (pe_dget hu (pv 0) pe_str (fun _ _ => rfl)))
    (pss_cons (ps_dput hu (pv 0) pe_str (pe_op op_add (pv 2) pe_int) rfl)
    (pss_cons (ps_set (i := 3) sc_law_next.nd rfl (.inl rfl) (pe_ix ix_list (pe_dget hu (pv 0) pe_str (fun _ _ => rfl)) (pe_op op_mod (pv 2) (pe_callB call_len_seq (by rfl) T.len PySem.boot_len (pa_cons (pe_dget hu (pv 0) pe_str (fun _ _ => rfl)) pa_nil))) (fun _ _ => rfl)))
    (pss_one (ps_ret (pe_op op_mod (pe_callTy call_int1 (by rfl) T.int (by decide +kernel) (pa_cons (pe_op op_add (pv 3) (pe_op op_mul pe_int (pe_op op_fdiv (pv 2) (pe_callB call_len_seq (by rfl) T.len PySem.boot_len (pa_cons (pe_dget hu (pv 0) pe_str (fun _ _ => rfl)) pa_nil))))) pa_nil)) (pv 1)))))), ?_⟩
  refine ⟨.ref b, rfl, b, .int at_, rfl, get_at hb, ?_⟩
  refine ⟨.int at_, rfl, at_, 1, rfl, rfl, .ref b, rfl, b, _, rfl, DPut.k (k := kAt) hb (by show 2 < sizeLine; decide), ?_⟩
  rw [put_at]
  have hb' : (upd H b (.dK [(kRow, .ref r), (kAt, .int (at_ + 1))])) b = some (.dK [(kRow, .ref r), (kAt, .int (at_ + 1))]) := upd_same
  have hrow' : (upd H b (.dK [(kRow, .ref r), (kAt, .int (at_ + 1))])) r = some (.lst (rows.map V.int)) := by
    rw [upd_ne nrb]
    exact hrow
  have hlen : ((rows.map V.int).length : Int) = (rows.length : Int) := by rw [List.length_map]
  refine ⟨.ref b, rfl, b, .ref r, rfl, get_row hb', .int at_, rfl, .ref b, rfl, b, .ref r, rfl, get_row hb', r, rows.map V.int, rfl, .inl (.of hrow'), at_, _, rfl, rfl, by rw [hlen]; omega, r, rows.map V.int, _, .int x, rfl, rfl, .of hrow', hix, ?_⟩
  refine ⟨.int x, rfl, .int at_, rfl, .ref b, rfl, b, .ref r, rfl, get_row hb', r, rows.map V.int, rfl, .inl (.of hrow'), at_, _, rfl, rfl, ⟨by rw [hlen]; omega, by rw [hlen]; omega⟩, 7919, _, rfl, rfl, .inl ⟨by decide, by decide⟩, x, _, rfl, rfl, .inl ⟨_, rfl, .int m, rfl, _, m, rfl, rfl, m0, ?_⟩⟩
  refine q _ _ _ (hk _ (Int.emod_nonneg _ (by omega)) (Int.emod_lt_of_pos _ m0)) (fun a o ne e => (upd_ne ne).trans e) ⟨r, rows, at_ + 1, upd_same, by omega, ?_, h1, h2, h3⟩ (.int _)
  exact veil_on nr hrow'
/-- the making of the box -/
def spBox (K : PySem.W.Frag) : Sp := fun vs H Q _ => ∃ (a : Addr) (ns : List Int), vs = [.ref a] ∧ SqL K H a (ns.map V.int) ∧ ns.length ≤ 63 ∧
  ∀ b H', Grow H H' → H b = none → BoxAt K (fun x => x = b ∨ H x ≠ none) H' b → Q (.ref b) H'
theorem ok_law_box (T : Tx K mg) (G_law_draws : FnOk P w K mg base CX0 1 T.a_law_draws T.d_law_draws ["cell", "modulus", "count"] (spP K 3 S_law_draws)) : FnOk P w K mg base CX0 2 T.a_law_box T.d_law_box ["script"] (spBox K) := by
  refine T.f_law_box.ok sc_law_box (fun vs H Q E h => ?_) (fun cdv A outer s H vs Q E hr h => ?_)
  · obtain ⟨a, ns, rfl, _⟩ := h
    rfl
  obtain ⟨a, ns, rfl, hS, hl, q⟩ := h
  refine ⟨_, pss_cons (ps_set (i := 1) sc_law_box.nd rfl (.inl rfl) (pe_lst pa_nil))
    (pss_cons (ps_for PassesOwn.never rfl (pi_list (pv 0)) (pg_name (i := 2) sc_law_box.nd rfl (.inl rfl)) (pss_one (ps_set (i := 1) sc_law_box.nd rfl (.inl rfl)
      (pe_op op_cat (pv 1) (pe_call G_law_draws (hr.mono (by decide)) (by rfl) T.m_law_draws T.f_law_draws.kp T.b_law_draws .nil pass0 (pa_cons (pv 2) (pa_cons pe_int (pa_cons pe_int pa_nil))))))))
    (pss_cons (ps_if (pt_cmpR op_eq (pe_callB call_len_seq (by rfl) T.len PySem.boot_len (pa_cons (pv 1) pa_nil)) pe_int (nomark _))
      (pss_one (ps_set (i := 1) sc_law_box.nd rfl (.inl rfl) (pe_lst (pa_cons pe_int (pa_cons pe_int (pa_cons pe_int (pa_cons pe_int (pa_cons pe_int (pa_cons pe_int (pa_cons pe_int pa_nil))))))))))
      pss_nil)
    (pss_one (ps_ret (pe_disp (pps_cons pe_str (pv 1) (pps_cons pe_str pe_int pps_nil)) (by rfl) (by rfl) (fun z => by cases z) (by decide)))))), ?_⟩
  refine ⟨Nat.zero_le _, fun p0 n0 => ?_⟩
  -- the end: the row stands at r
  have last : ∀ (σ : L2.St) (H' : Hp) (r : Addr) (rows : List Int) (y2 : Option V), σ = [some (.ref a), some (.ref r), y2] → Grow H H' → H r = none → H' r = some (.lst (rows.map V.int)) → 0 < rows.length → rows.length ≤ 1000 → (∀ x ∈ rows, 0 ≤ x ∧ x < 1000003) →
      (tRet (tDisp [(tC (.str "row"), tVar 1), (tC (.str "at"), tC (.int 0))])) { nx := fun _ H' => Q .non H', rt := Q } σ H' := fun σ H' r rows y2 eσ g hn hr0 h1 h2 h3 b nb => by
    subst eσ
    have nrb : r ≠ b := ne_of_none hr0 nb
    refine ⟨.ref r, rfl, upd_same, [(kRow, .ref r), (kAt, .int 0)], rfl, by show 2 ≤ 15; decide, ?_⟩
    have em : mergeK [] [(kRow, V.ref r), (kAt, V.int 0)] = [(kRow, .ref r), (kAt, .int 0)] := by
      have ne : ¬ ("row" : Str) = "at" := by decide +kernel
      unfold mergeK
      simp [putK, ne]
    rw [em, upd_upd]
    refine q b _ (g.trans (grow_new nb)) ?_ ⟨r, rows, 0, upd_same, Int.le_refl _, ?_, h1, h2, h3⟩
    · cases e : H b with
      | none => rfl
      | some o =>
        rw [g b o e] at nb
        cases nb
    · refine veil_on ?_ ?_
      · rintro (e | e)
        · exact nrb e
        · exact e hn
      · rw [upd_ne nrb]
        exact hr0
  refine ⟨.ref a, rfl, a, rfl, ⟨_, grow_l (grow_new n0) hS⟩, for_list (xs := ns.map V.int) (fun i σ H' => ∃ (r : Addr) (rows : List Int) (y2 : Option V), σ = [some (.ref a), some (.ref r), y2] ∧ Grow H H' ∧ H r = none ∧ H' r = some (.lst (rows.map V.int)) ∧ rows.length = 6 * i ∧ ∀ x ∈ rows, 0 ≤ x ∧ x < 1000003)
    ⟨p0, [], none, rfl, grow_new n0, n0, upd_same, rfl, fun _ z => nomatch z⟩ (fun i σ H' _ ⟨_, _, _, _, g, _⟩ => grow_l g hS) (fun i x σ H' hx ⟨r, rows, y2, eσ, g, hn, hr0, hlen, hb⟩ => ?_) fun σ H' ⟨r, rows, y2, eσ, g, hn, hr0, hlen, hb⟩ => ?_⟩
  · subst eσ
    have hi : i < ns.length := by
      have := (List.getElem?_eq_some_iff.mp hx).1
      rwa [List.length_map] at this
    obtain ⟨n, rfl⟩ : ∃ n : Int, x = .int n := by
      rw [List.getElem?_map, List.getElem?_eq_getElem hi] at hx
      exact ⟨_, (Option.some.inj hx).symm⟩
    refine ⟨.ref r, rfl, .int n, rfl, ?_⟩
    refine ⟨rfl, fun _ => False, [.int n, .int 1000003, .int 6], fun d => ∃ ds : List Int, d = .list (ds.map PyData.int) ∧ ds.length = 6 ∧ ∀ x ∈ ds, 0 ≤ x ∧ x < 1000003, fun _ z => z.elim, dqs_ints (ns := [n, 1000003, 6]),
      ⟨by decide, by decide, by decide, by decide, fun ds h1 h2 => ⟨ds, rfl, h1, h2⟩⟩, ?_⟩
    rintro d v H1 ⟨ds, rfl, l6, b6⟩ g1 dv
    cases dv with
    | @lst u us _ hu ru =>
      have eu := dqs_of_ints ru
      subst eu
      have hu := veil_grow _ _ _ _ hu
      refine ⟨r, u, rows.map V.int, ds.map V.int, rfl, rfl, g1 _ _ hr0, hu, sz5 (by rw [List.length_map, List.length_map]; omega), fun p hp => ?_⟩
      have gh : Grow H H1 := g.trans g1
      refine ⟨p, rows ++ ds, some (.int n), rfl, gh.trans (grow_new hp), ?_, ?_, by rw [List.length_append]; omega, fun x hx => ?_⟩
      · cases e : H p with
        | none => rfl
        | some o =>
          rw [gh p o e] at hp
          cases hp
      · rw [upd_same, List.map_append]
      · rcases List.mem_append.mp hx with hx | hx
        · exact hb x hx
        · exact b6 x hx
  · subst eσ
    rw [List.length_map] at hlen
    refine ⟨.ref r, rfl, r, _, rfl, .inl (.of hr0), rfl, _, rfl, ite2 (fun e => ?_) (fun e => ?_)⟩
    · refine ⟨by show 7 ≤ sizeLine; decide, fun p hp => ?_⟩
      refine last _ _ p [11, 5, 2, 7, 31, 101, 997] y2 rfl (g.trans (grow_new hp)) ?_ upd_same (by decide) (by decide) (by decide)
      cases e : H p with
      | none => rfl
      | some o =>
        rw [g p o e] at hp
        cases hp
    · refine last _ _ r rows y2 rfl g hn hr0 ?_ (by omega) hb
      refine Nat.pos_of_ne_zero fun z => e ?_
      rw [List.length_map, z]
      exact decide_eq_true rfl
end
section
variable {P : Program} {w : World} {K : PySem.W.Frag} {mg : Str → Option Value} {base : Heap}
theorem pss_guard {X : Cx} {st : List Stmt} {t : TS} {G : Prop} (h : G → PSs X st t) : PSs X st (fun D σ H => G ∧ t D σ H) := ⟨fun pins s σ H D I q => (h q.1).run pins s σ H D I q.2⟩
/-- the suite: the error is held in place 4 -/
def tsDay (K : PySem.W.Frag) (C V : Addr) : Addr → Value → Option Addr → TS := fun a cls d D σ H => (cls = .ref C ∧ d = none) ∧ (tRet (tTup (tCons (tC (.str "none")) (tCons (tCB (rIsE K C a) (tCons (tVar 4) (tCons (tC (.ref V)) tNil))) tNil)))) D σ H
theorem ok_law_day (T : Tx K mg) (G_day_of : FnOk P w K mg base (L2.CX P w) 3 T.a_day_of T.d_day_of ["calendar", "year", "month", "number"] (spX K T.c_NoSuchDay 4 S_day_ofX)) :
    FnOk P w K mg base CX0 4 T.a_law_day T.d_law_day ["calendar", "year", "month", "number"] (spP K 4 S_law_day) := by
  refine T.f_law_day.ok sc_law_day (fun vs H Q E h => by rw [h.1]; rfl) (fun cdv A outer s H vs Q E hr h => ?_)
  obtain ⟨hl, Z, ds, c, hz, r, hS, q⟩ := h
  refine ⟨_, pss_one (ps_try_as (i := 4) (tb := fun W => tRet (tCallS (spX K T.c_NoSuchDay 4 S_day_ofX) (WE W) (tCons (tVar 0) (tCons (tVar 1) (tCons (tVar 2) (tCons (tVar 3) tNil)))))) (ts := tsDay K T.c_NoSuchDay T.c_EverydueError) (Wout := fun _ _ _ _ => False) rfl rfl sc_law_day.nd rfl rfl ⟨rfl, by decide, Or.inl T.m_NoSuchDay⟩ takes0
    (fun W pn xe tk _ => pss_one (ps_ret (by exact (pe_callS G_day_of (hr.mono (by decide)) rfl T.m_day_of T.f_day_of.kp T.b_day_of (fun σ => passAt tk σ) (by exact (pa_cons (pv 0) (pa_cons (pv 1) (pa_cons (pv 2) (pa_cons (pv 3) pa_nil)))))))))
    (fun a oe cls d pn hzc hf => pss_guard fun hg => pss_one (ps_ret (pe_tup (pa_cons pe_str (pa_cons (pe_callB (call_isE T.e_NoSuchDay (by rw [← hg.1, ← hg.2]; exact hzc) hf) (by rfl) T.isinstance (by decide +kernel) (pa_cons (pv 4) (pa_cons (pe_glob rfl T.m_EverydueError rfl) pa_nil))) pa_nil)))))), ?_⟩
  match vs, hl, r with
  | [v0, v1, v2, v3], _, r =>
    refine ⟨v0, rfl, v1, rfl, v2, rfl, v3, rfl, ?_⟩
    refine ⟨rfl, Z, ds, c, c noneD, hz, r, hS, q, fun kx H' g => ?_⟩
    refine ⟨true, T.y_NoSuchDay, fun _ a ha => ⟨⟨rfl, rfl⟩, ?_⟩, fun z => Bool.noConfusion z⟩
    refine ⟨.ref a, rfl, .ref T.c_EverydueError, .ref T.c_EverydueError, true, rfl, fun u ru => ru, T.kit_NoSuchDay_EverydueError, by show 2 ≤ sizeLine; decide, fun p hp => ?_⟩
    have nZ : ¬ Z p := fun z => by
      cases e : H p with
      | none => exact hz p z e
      | some o =>
        rw [g p o e] at hp
        cases hp
    exact q noneD _ _ kx (g.trans (grow_new hp)) (.new nZ hp (.cons (.str _) (.cons (.bl _) .nil)))
end
end Pr
set_option maxHeartbeats 4000000
namespace Pr
open PySem PySem.Spec PyProof.Rows L2 Pu
def spLaw (K : PySem.W.Frag) : Sp := fun vs H Q _ => ∃ (a : Addr) (ns : List Int), vs = [.ref a] ∧ SqL K H a (ns.map V.int) ∧ ns.length ≤ 63 ∧ ∀ H', Q (.bl true) H'
section
variable {P : Program} {w : World} {K : PySem.W.Frag} {mg : Str → Option Value} {base : Heap}
theorem ok_law (T : Tx K mg) (G_law_box : FnOk P w K mg base CX0 2 T.a_law_box T.d_law_box ["script"] (spBox K)) (G_law_calendar : FnOk P w K mg base CX0 2 T.a_law_calendar T.d_law_calendar ["box"] (spB K 0 S_law_calendar)) (G_law_dates : FnOk P w K mg base CX0 2 T.a_law_dates T.d_law_dates ["calendar", "low", "high"] (spP K 3 S_law_dates)) (G_law_length : FnOk P w K mg base CX0 1 T.a_law_length T.d_law_length ["calendar", "year", "month"] (spP K 3 S_law_length)) (G_weekday_of : FnOk P w K mg base CX0 1 T.a_weekday_of T.d_weekday_of ["calendar", "day"] (spP K 2 S_weekday_of)) (G_law_next : FnOk P w K mg base CX0 1 T.a_law_next T.d_law_next ["box", "modulus"] (spB K 1 S_law_next)) (G_date_of : FnOk P w K mg base CX0 4 T.a_date_of T.d_date_of ["calendar", "day"] (spP K 2 S_date_of)) (G_law_day : FnOk P w K mg base CX0 4 T.a_law_day T.d_law_day ["calendar", "year", "month", "number"] (spP K 4 S_law_day)) (G_is_long : FnOk P w K mg base CX0 1 T.a_is_long T.d_is_long ["calendar", "year"] (spP K 2 S_is_long)) : FnOk P w K mg base CX0 5 T.a_law T.d_law ["script"] (spLaw K) := by
  refine T.f_law.ok sc_law (fun vs H Q E h => ?_) (fun cdv A outer s H vs Q E hr h => ?_)
  · obtain ⟨a, ns, rfl, _⟩ := h
    rfl
  obtain ⟨a, ns, rfl, hS, hl, q⟩ := h
  have rest : ∃ t, PSs (cxOf CX0 P w K mg base N_law "law" (defScope s_law) T.a_law cdv A outer s H E).nox (defBody s_law).tail t ∧ SimS K t p_law := ⟨_, (pss_cons (ps_set (i := 2) sc_law.nd rfl (.inl rfl) (pe_call G_law_calendar (hr.mono (by decide)) (by rfl) T.m_law_calendar T.f_law_calendar.kp T.b_law_calendar .nil pass0 (pa_cons (pv 1) pa_nil)))
      (pss_cons (ps_set (i := 3) sc_law.nd rfl (.inl rfl) (pe_call G_law_dates (hr.mono (by decide)) (by rfl) T.m_law_dates T.f_law_dates.kp T.b_law_dates .nil pass0 (pa_cons (pv 2) (pa_cons (pe_un un_neg pe_int) (pa_cons pe_int pa_nil)))))
      (pss_cons (ps_for PassesOwn.never rfl (pi_range2 rfl T.range (pa_cons (pe_un un_neg pe_int) (pa_cons pe_int pa_nil))) (pg_name (i := 4) sc_law.nd rfl (.inl rfl)) (pss_cons (ps_set (i := 5) sc_law.nd rfl (.inl rfl) (pe_dget (hu_of hr) (pv 3) (pv 4) (fun _ _ => rfl)))
      (pss_cons (ps_if (PW.pt (pw_or (pt_cmpR (op_neD (hu65 hr)) (pe_call G_date_of (hr.mono (by decide)) (by rfl) T.m_date_of T.f_date_of.kp T.b_date_of .nil pass0 (pa_cons (pv 2) (pa_cons (pv 4) pa_nil))) (pv 5) (nomark _)) (pw_or1 (pt_cmpR (op_neD (hu65 hr)) (pe_call G_law_day (hr.mono (by decide)) (by rfl) T.m_law_day T.f_law_day.kp T.b_law_day .nil pass0 (pa_cons (pv 2) (pa_cons (pe_ix ix_seq (pv 5) pe_int (fun _ _ => rfl)) (pa_cons (pe_ix ix_seq (pv 5) pe_int (fun _ _ => rfl)) (pa_cons (pe_ix ix_seq (pv 5) pe_int (fun _ _ => rfl)) pa_nil))))) (pv 4) (nomark _))))) (pss_one (ps_ret pe_bl)) pss_nil)
      (pss_one (ps_if (pt_cmpR (op_neD (hu65 hr)) (pe_call G_weekday_of (hr.mono (by decide)) (by rfl) T.m_weekday_of T.f_weekday_of.kp T.b_weekday_of .nil pass0 (pa_cons (pv 2) (pa_cons (pv 4) pa_nil))) (pe_op op_mod (pe_op op_plus (pe_ix ix_seq (pv 2) pe_int (fun _ _ => rfl)) (pv 4)) (pe_ix ix_seq (pv 2) pe_int (fun _ _ => rfl))) (nomark _)) (pss_one (ps_ret pe_bl)) pss_nil)))))
      (pss_cons (ps_for PassesOwn.never rfl (pi_range1 rfl T.range (pa_cons pe_int pa_nil)) (pg_name (i := 6) sc_law.nd rfl (.inl rfl)) (pss_cons (ps_set (i := 7) sc_law.nd rfl (.inl rfl) (pe_op op_sub (pe_call G_law_next (hr.mono (by decide)) (by rfl) T.m_law_next T.f_law_next.kp T.b_law_next .nil pass0 (pa_cons (pv 1) (pa_cons pe_int pa_nil))) pe_int))
      (pss_cons (ps_set (i := 8) sc_law.nd rfl (.inl rfl) (pe_op op_plus pe_int (pe_call G_law_next (hr.mono (by decide)) (by rfl) T.m_law_next T.f_law_next.kp T.b_law_next .nil pass0 (pa_cons (pv 1) (pa_cons (pe_callB c_len (by rfl) T.len PySem.boot_len (pa_cons (pe_ix ix_seq (pv 2) pe_int (fun _ _ => rfl)) pa_nil)) pa_nil)))))
      (pss_cons (ps_set (i := 9) sc_law.nd rfl (.inl rfl) (pe_call G_law_length (hr.mono (by decide)) (by rfl) T.m_law_length T.f_law_length.kp T.b_law_length .nil pass0 (pa_cons (pv 2) (pa_cons (pv 7) (pa_cons (pv 8) pa_nil)))))
      (pss_cons (ps_for PassesOwn.never rfl (pi_list (pe_lst (pa_cons (pe_tup (pa_cons pe_int (pa_cons pe_int pa_nil))) (pa_cons (pe_tup (pa_cons (pe_op op_plus (pe_callB c_len (by rfl) T.len PySem.boot_len (pa_cons (pe_ix ix_seq (pv 2) pe_int (fun _ _ => rfl)) pa_nil)) pe_int) (pa_cons pe_int pa_nil))) (pa_cons (pe_tup (pa_cons (pe_un un_neg pe_int) (pa_cons pe_int pa_nil))) (pa_cons (pe_tup (pa_cons (pv 8) (pa_cons pe_int pa_nil))) (pa_cons (pe_tup (pa_cons (pv 8) (pa_cons (pe_op op_plus (pv 9) pe_int) pa_nil))) (pa_cons (pe_tup (pa_cons (pv 8) (pa_cons (pe_un un_neg pe_int) pa_nil))) pa_nil)))))))) (pg_name (i := 10) sc_law.nd rfl (.inl rfl)) (pss_one (ps_if (pt_cmpR (op_neD (hu65 hr)) (pe_call G_law_day (hr.mono (by decide)) (by rfl) T.m_law_day T.f_law_day.kp T.b_law_day .nil pass0 (pa_cons (pv 2) (pa_cons (pv 7) (pa_cons (pe_ix ix_seq (pv 10) pe_int (fun _ _ => rfl)) (pa_cons (pe_ix ix_seq (pv 10) pe_int (fun _ _ => rfl)) pa_nil))))) (pe_tup (pa_cons pe_str (pa_cons pe_bl pa_nil))) (nomark _)) (pss_one (ps_ret pe_bl)) pss_nil)))
      (pss_one (ps_for PassesOwn.never rfl (pi_list (pe_lst (pa_cons (pv 7) (pa_cons (pe_op op_plus (pv 7) (pe_op op_pow pe_int pe_int)) (pa_cons (pe_op op_sub (pv 7) (pe_op op_pow pe_int pe_int)) pa_nil))))) (pg_name (i := 11) sc_law.nd rfl (.inl rfl)) (pss_cons (ps_set (i := 12) sc_law.nd rfl (.inl rfl) pe_bl)
      (pss_cons (ps_for PassesOwn.never rfl (pi_tup (pe_ix ix_seq (pv 2) pe_int (fun _ _ => rfl))) (pg_name (i := 13) sc_law.nd rfl (.inl rfl)) (pss_one (ps_if (pt_cmpR (op_eqD (hu65 hr)) (pe_op op_mod (pv 11) (pe_ix ix_seq (pv 13) pe_int (fun _ _ => rfl))) pe_int (nomark _)) (pss_one (ps_set (i := 12) sc_law.nd rfl (.inl rfl) (pe_ix ix_seq (pv 13) pe_int (fun _ _ => rfl)))) pss_nil)))
      (pss_one (ps_if (PW.pt (pw_or (pt_not (pt_val (pe_callB call_isi (by rfl) T.isinstance (by decide +kernel) (pa_cons (pe_call G_is_long (hr.mono (by decide)) (by rfl) T.m_is_long T.f_is_long.kp T.b_is_long .nil pass0 (pa_cons (pv 2) (pa_cons (pv 11) pa_nil))) (pa_cons (pe_bltn (v := .ty "bool") (by rfl) T.bool (by decide +kernel) rfl) pa_nil))))) (pw_or1 (pt_cmpR (op_neD (hu65 hr)) (pe_call G_is_long (hr.mono (by decide)) (by rfl) T.m_is_long T.f_is_long.kp T.b_is_long .nil pass0 (pa_cons (pv 2) (pa_cons (pv 11) pa_nil))) (pv 12) (nomark _))))) (pss_one (ps_ret pe_bl)) pss_nil)))))))))))
      (pss_one (ps_ret pe_bl)))))),
    (s_seq (s_asg (sim_callB (i := 1) sim_nil) (g_name (i := 2)))
      (s_seq (s_asg (sim_call (sim_cons (sim_var (i := 2)) (sim_cons (sim_u (sim_c (v := .int 60) rfl) fun _ => rfl) (sim_cons (sim_c (v := .int 60) rfl) sim_nil)))) (g_name (i := 3)))
      (s_seq (s_rng2 (sim_cons (sim_u (sim_c (v := .int 60) rfl) fun _ => rfl) (sim_cons (sim_c (v := .int 61) rfl) sim_nil)) (g_name (i := 4)) (s_seq (s_asg (sim_getK (sim_var (i := 3)) (sim_var (i := 4))) (g_name (i := 5)))
      (s_seq (s_if (sim_or (sim_tst (sim_neD (sim_call (sim_cons (sim_var (i := 2)) (sim_cons (sim_var (i := 4)) sim_nil))) (sim_var (i := 5)))) (sim_tst (sim_neD (sim_call (sim_cons (sim_var (i := 2)) (sim_cons (sim_ix (sim_var (i := 5)) (sim_c (v := .int 0) rfl)) (sim_cons (sim_ix (sim_var (i := 5)) (sim_c (v := .int 1) rfl)) (sim_cons (sim_ix (sim_var (i := 5)) (sim_c (v := .int 2) rfl)) sim_nil))))) (sim_var (i := 4))))) (s_ret (sim_c (v := .bl false) rfl)) s_next)
      (s_if (sim_tst (sim_neD (sim_call (sim_cons (sim_var (i := 2)) (sim_cons (sim_var (i := 4)) sim_nil))) (sim_iic (sim_plus (sim_ix (sim_var (i := 2)) (sim_c (v := .int 5) rfl)) (sim_var (i := 4))) (sim_ix (sim_var (i := 2)) (sim_c (v := .int 4) rfl)) fun _ _ => rfl))) (s_ret (sim_c (v := .bl false) rfl)) s_next))) (fun ρ R h => by exact (pcons_len2 h)))
      (s_seq (s_rng1 (sim_cons (sim_c (v := .int 4) rfl) sim_nil) (g_name (i := 6)) (s_seq (s_asg (sim_ii (sim_callB (i := 1) (sim_cons (sim_c (v := .int 20) rfl) sim_nil)) (sim_c (v := .int 10) rfl) fun _ _ => rfl) (g_name (i := 7)))
      (s_seq (s_asg (sim_plus (sim_c (v := .int 1) rfl) (sim_callB (i := 1) (sim_cons (sim_len (sim_cons (sim_ix (sim_var (i := 2)) (sim_c (v := .int 0) rfl)) sim_nil)) sim_nil))) (g_name (i := 8)))
      (s_seq (s_asg (sim_call (sim_cons (sim_var (i := 2)) (sim_cons (sim_var (i := 7)) (sim_cons (sim_var (i := 8)) sim_nil)))) (g_name (i := 9)))
      (s_seq (s_forL (sim_new (sim_lst (sim_cons (sim_tup (sim_cons (sim_c (v := .int 0) rfl) (sim_cons (sim_c (v := .int 1) rfl) sim_nil))) (sim_cons (sim_tup (sim_cons (sim_plus (sim_len (sim_cons (sim_ix (sim_var (i := 2)) (sim_c (v := .int 0) rfl)) sim_nil)) (sim_c (v := .int 1) rfl)) (sim_cons (sim_c (v := .int 1) rfl) sim_nil))) (sim_cons (sim_tup (sim_cons (sim_u (sim_c (v := .int 1) rfl) fun _ => rfl) (sim_cons (sim_c (v := .int 1) rfl) sim_nil))) (sim_cons (sim_tup (sim_cons (sim_var (i := 8)) (sim_cons (sim_c (v := .int 0) rfl) sim_nil))) (sim_cons (sim_tup (sim_cons (sim_var (i := 8)) (sim_cons (sim_plus (sim_var (i := 9)) (sim_c (v := .int 1) rfl)) sim_nil))) (sim_cons (sim_tup (sim_cons (sim_var (i := 8)) (sim_cons (sim_u (sim_c (v := .int 1) rfl) fun _ => rfl) sim_nil))) sim_nil)))))))) (g_name (i := 10)) (s_if (sim_tst (sim_neD (sim_call (sim_cons (sim_var (i := 2)) (sim_cons (sim_var (i := 7)) (sim_cons (sim_ix (sim_var (i := 10)) (sim_c (v := .int 0) rfl)) (sim_cons (sim_ix (sim_var (i := 10)) (sim_c (v := .int 1) rfl)) sim_nil))))) (sim_tup (sim_cons (sim_c (v := .str (Str.ofString "none")) rfl) (sim_cons (sim_c (v := .bl true) rfl) sim_nil))))) (s_ret (sim_c (v := .bl false) rfl)) s_next))
      (s_forL (sim_new (sim_lst (sim_cons (sim_var (i := 7)) (sim_cons (sim_plus (sim_var (i := 7)) (sim_iic (sim_c (v := .int 10) rfl) (sim_c (v := .int 15) rfl) fun _ _ => rfl)) (sim_cons (sim_ii (sim_var (i := 7)) (sim_iic (sim_c (v := .int 10) rfl) (sim_c (v := .int 15) rfl) fun _ _ => rfl) fun _ _ => rfl) sim_nil))))) (g_name (i := 11)) (s_seq (s_asg (sim_c (v := .bl false) rfl) (g_name (i := 12)))
      (s_seq (s_forT (sim_ix (sim_var (i := 2)) (sim_c (v := .int 3) rfl)) (g_name (i := 13)) (s_if (sim_tst (sim_eqD (sim_iic (sim_var (i := 11)) (sim_ix (sim_var (i := 13)) (sim_c (v := .int 0) rfl)) fun _ _ => rfl) (sim_c (v := .int 0) rfl))) (s_asg (sim_ix (sim_var (i := 13)) (sim_c (v := .int 1) rfl)) (g_name (i := 12))) s_next))
      (s_if (sim_or (sim_not (sim_tB (sim_isi (T := "bool") (by rfl) (sim_call (sim_cons (sim_var (i := 2)) (sim_cons (sim_var (i := 11)) sim_nil)))))) (sim_tst (sim_neD (sim_call (sim_cons (sim_var (i := 2)) (sim_cons (sim_var (i := 11)) sim_nil))) (sim_var (i := 12))))) (s_ret (sim_c (v := .bl false) rfl)) s_next)))))))) (fun ρ R h => by exact (pcons_len1 h)))
      (s_ret (sim_c (v := .bl true) rfl))))))⟩
  obtain ⟨t, ht, hs⟩ := rest
  refine ⟨_, pss_cons (ps_set (i := 1) sc_law.nd rfl (.inl rfl) (pe_call G_law_box (hr.mono (by decide)) (by rfl) T.m_law_box T.f_law_box.kp T.b_law_box .nil pass0 (pa_cons (pv 0) pa_nil))) ht, ?_⟩
  refine ⟨.ref a, rfl, a, ns, rfl, hS, hl, fun b H' g nb hb => ?_⟩
  have hB : BoxAt K (hid (fun _ => False) fun i => if i = 1 then some b else none) H' b := by
    obtain ⟨r, rows, at_, h, h0, hr0, h1, h2, h3⟩ := hb
    refine ⟨r, rows, at_, h, h0, veil_less ?_ _ _ hr0, h1, h2, h3⟩
    rintro x (z | ⟨i, m⟩)
    · exact z.elim
    · have m : (if i = 1 then some b else none) = some x := m
      by_cases e : i = 1
      · rw [if_pos e] at m
        exact .inl (Option.some.inj m).symm
      · rw [if_neg e] at m
        cases m
  have hb0 : H' b ≠ none := by
    obtain ⟨r, rows, at_, h, _⟩ := hB
    rw [h]
    intro z; cases z
  refine hs (fun _ => False) (fun _ => False) (fun _ => none) (fun _ => none) (fun i => if i = 1 then some b else none) _ H' [.no, .box, .no, .no, .no, .no, .no, .no, .no, .no, .no, .no, .no, .no] _ finL ?_ pure_law ?_
  · refine ⟨rfl, fun i j l h1 h2 => ?_, fun i l h => ?_, fun _ _ _ z => z, fun _ z => z.elim, fun _ _ _ z => (nomatch z), fun _ _ _ => .inr rfl, fun _ z => z.elim, fun _ _ z => (nomatch z), fun i c hc => ?_⟩
    · by_cases ei : i = 1
      · by_cases ej : j = 1
        · rw [ei, ej]
        · rw [if_neg ej] at h2; cases h2
      · rw [if_neg ei] at h1; cases h1
    · by_cases ei : i = 1
      · rw [if_pos ei] at h; cases h; exact hb0
      · rw [if_neg ei] at h; cases h
    · match i, hc with
      | 1, hc =>
        cases hc
        exact ⟨b, rfl, rfl, hB⟩
      | 0, hc => cases hc; trivial
      | 2, hc => cases hc; trivial
      | 3, hc => cases hc; trivial
      | 4, hc => cases hc; trivial
      | 5, hc => cases hc; trivial
      | 6, hc => cases hc; trivial
      | 7, hc => cases hc; trivial
      | 8, hc => cases hc; trivial
      | 9, hc => cases hc; trivial
      | 10, hc => cases hc; trivial
      | 11, hc => cases hc; trivial
      | 12, hc => cases hc; trivial
      | 13, hc => cases hc; trivial
      | _ + 14, hc => simp at hc
  · exact ⟨fun _ _ _ _ _ z => z.elim, fun _ _ _ _ _ z => z.elim, fun _ _ _ _ _ z => z.elim, fun M σ H ρ v d _ e dv => by
      have e : d = .bool true := e
      subst e
      rw [of_bl dv]
      exact q H⟩
end
/-! ### what the top has written -/
theorem all_mk {l : PySem.W.OpenLaw} {w : World} {K : PySem.W.Frag} {h : Heap} {mg : Str → Option Value} {fa : Addr} (X : K.In h) (G : h.Ns mainGlobals mg) (hfa : mg "law" = some (.ref fa))
    {f0 : Addr} {od0 an0 : Option Addr} {sl0 : Array (Option Value)} {oc0 kV0 dc0 pm0 cd0 ct0 : Value}
    {f1 : Addr} {od1 an1 : Option Addr} {sl1 : Array (Option Value)} {oc1 kV1 dc1 pm1 cd1 ct1 : Value}
    {f2 : Addr} {od2 an2 : Option Addr} {sl2 : Array (Option Value)} {oc2 kV2 dc2 pm2 cd2 ct2 : Value}
    {f3 : Addr} {od3 an3 : Option Addr} {sl3 : Array (Option Value)} {oc3 kV3 dc3 pm3 cd3 ct3 : Value}
    {f4 : Addr} {od4 an4 : Option Addr} {sl4 : Array (Option Value)} {oc4 kV4 dc4 pm4 cd4 ct4 : Value}
    {f5 : Addr} {od5 an5 : Option Addr} {sl5 : Array (Option Value)} {oc5 kV5 dc5 pm5 cd5 ct5 : Value}
    {f6 : Addr} {od6 an6 : Option Addr} {sl6 : Array (Option Value)} {oc6 kV6 dc6 pm6 cd6 ct6 : Value}
    {f7 : Addr} {od7 an7 : Option Addr} {sl7 : Array (Option Value)} {oc7 kV7 dc7 pm7 cd7 ct7 : Value}
    {f8 : Addr} {od8 an8 : Option Addr} {sl8 : Array (Option Value)} {oc8 kV8 dc8 pm8 cd8 ct8 : Value}
    {f9 : Addr} {od9 an9 : Option Addr} {sl9 : Array (Option Value)} {oc9 kV9 dc9 pm9 cd9 ct9 : Value}
    {f10 : Addr} {od10 an10 : Option Addr} {sl10 : Array (Option Value)} {oc10 kV10 dc10 pm10 cd10 ct10 : Value}
    {f11 : Addr} {od11 an11 : Option Addr} {sl11 : Array (Option Value)} {oc11 kV11 dc11 pm11 cd11 ct11 : Value}
    {f12 : Addr} {od12 an12 : Option Addr} {sl12 : Array (Option Value)} {oc12 kV12 dc12 pm12 cd12 ct12 : Value}
    {f13 : Addr} {od13 an13 : Option Addr} {sl13 : Array (Option Value)} {oc13 kV13 dc13 pm13 cd13 ct13 : Value}
    {f14 : Addr} {od14 an14 : Option Addr} {sl14 : Array (Option Value)} {oc14 kV14 dc14 pm14 cd14 ct14 : Value}
    {f15 : Addr} {od15 an15 : Option Addr} {sl15 : Array (Option Value)} {oc15 kV15 dc15 pm15 cd15 ct15 : Value}
    {f16 : Addr} {od16 an16 : Option Addr} {sl16 : Array (Option Value)} {oc16 kV16 dc16 pm16 cd16 ct16 : Value}
    {f17 : Addr} {od17 an17 : Option Addr} {sl17 : Array (Option Value)} {oc17 kV17 dc17 pm17 cd17 ct17 : Value}
    {C_NoSuchDay : Addr}
    {C_EverydueError : Addr}
    (a0 : PySem.W.nsIn K mainGlobals "is_long" = some (some (.ref f0)))
    (l0 : K.lookup f0 = some ⟨oc0, od0, .func (PySem.W.fnOf "is_long" "is_long" (defArgs s_is_long) (defBody s_is_long) (defScope s_is_long) .none kV0 dc0 pm0 an0 cd0 ct0), sl0⟩)
    (c0 : PySem.W.codeIn K cd0 "is_long" = true)
    (k0 : PySem.W.keepIn K (.ref f0) = true)
    (a1 : PySem.W.nsIn K mainGlobals "_cycle_years" = some (some (.ref f1)))
    (l1 : K.lookup f1 = some ⟨oc1, od1, .func (PySem.W.fnOf "_cycle_years" "_cycle_years" (defArgs s_cycle_years) (defBody s_cycle_years) (defScope s_cycle_years) .none kV1 dc1 pm1 an1 cd1 ct1), sl1⟩)
    (c1 : PySem.W.codeIn K cd1 "_cycle_years" = true)
    (k1 : PySem.W.keepIn K (.ref f1) = true)
    (a2 : PySem.W.nsIn K mainGlobals "_shape_of" = some (some (.ref f2)))
    (l2 : K.lookup f2 = some ⟨oc2, od2, .func (PySem.W.fnOf "_shape_of" "_shape_of" (defArgs s_shape_of) (defBody s_shape_of) (defScope s_shape_of) .none kV2 dc2 pm2 an2 cd2 ct2), sl2⟩)
    (c2 : PySem.W.codeIn K cd2 "_shape_of" = true)
    (k2 : PySem.W.keepIn K (.ref f2) = true)
    (a3 : PySem.W.nsIn K mainGlobals "_long_terms" = some (some (.ref f3)))
    (l3 : K.lookup f3 = some ⟨oc3, od3, .func (PySem.W.fnOf "_long_terms" "_long_terms" (defArgs s_long_terms) (defBody s_long_terms) (defScope s_long_terms) .none kV3 dc3 pm3 an3 cd3 ct3), sl3⟩)
    (c3 : PySem.W.codeIn K cd3 "_long_terms" = true)
    (k3 : PySem.W.keepIn K (.ref f3) = true)
    (a4 : PySem.W.nsIn K mainGlobals "_year_begin" = some (some (.ref f4)))
    (l4 : K.lookup f4 = some ⟨oc4, od4, .func (PySem.W.fnOf "_year_begin" "_year_begin" (defArgs s_year_begin) (defBody s_year_begin) (defScope s_year_begin) .none kV4 dc4 pm4 an4 cd4 ct4), sl4⟩)
    (c4 : PySem.W.codeIn K cd4 "_year_begin" = true)
    (k4 : PySem.W.keepIn K (.ref f4) = true)
    (a5 : PySem.W.nsIn K mainGlobals "_year_of" = some (some (.ref f5)))
    (l5 : K.lookup f5 = some ⟨oc5, od5, .func (PySem.W.fnOf "_year_of" "_year_of" (defArgs s_year_of) (defBody s_year_of) (defScope s_year_of) .none kV5 dc5 pm5 an5 cd5 ct5), sl5⟩)
    (c5 : PySem.W.codeIn K cd5 "_year_of" = true)
    (k5 : PySem.W.keepIn K (.ref f5) = true)
    (a6 : PySem.W.nsIn K mainGlobals "month_days" = some (some (.ref f6)))
    (l6 : K.lookup f6 = some ⟨oc6, od6, .func (PySem.W.fnOf "month_days" "month_days" (defArgs s_month_days) (defBody s_month_days) (defScope s_month_days) .none kV6 dc6 pm6 an6 cd6 ct6), sl6⟩)
    (c6 : PySem.W.codeIn K cd6 "month_days" = true)
    (k6 : PySem.W.keepIn K (.ref f6) = true)
    (a7 : PySem.W.nsIn K mainGlobals "day_of" = some (some (.ref f7)))
    (l7 : K.lookup f7 = some ⟨oc7, od7, .func (PySem.W.fnOf "day_of" "day_of" (defArgs s_day_of) (defBody s_day_of) (defScope s_day_of) .none kV7 dc7 pm7 an7 cd7 ct7), sl7⟩)
    (c7 : PySem.W.codeIn K cd7 "day_of" = true)
    (k7 : PySem.W.keepIn K (.ref f7) = true)
    (a8 : PySem.W.nsIn K mainGlobals "date_of" = some (some (.ref f8)))
    (l8 : K.lookup f8 = some ⟨oc8, od8, .func (PySem.W.fnOf "date_of" "date_of" (defArgs s_date_of) (defBody s_date_of) (defScope s_date_of) .none kV8 dc8 pm8 an8 cd8 ct8), sl8⟩)
    (c8 : PySem.W.codeIn K cd8 "date_of" = true)
    (k8 : PySem.W.keepIn K (.ref f8) = true)
    (a9 : PySem.W.nsIn K mainGlobals "weekday_of" = some (some (.ref f9)))
    (l9 : K.lookup f9 = some ⟨oc9, od9, .func (PySem.W.fnOf "weekday_of" "weekday_of" (defArgs s_weekday_of) (defBody s_weekday_of) (defScope s_weekday_of) .none kV9 dc9 pm9 an9 cd9 ct9), sl9⟩)
    (c9 : PySem.W.codeIn K cd9 "weekday_of" = true)
    (k9 : PySem.W.keepIn K (.ref f9) = true)
    (a10 : PySem.W.nsIn K mainGlobals "_law_draws" = some (some (.ref f10)))
    (l10 : K.lookup f10 = some ⟨oc10, od10, .func (PySem.W.fnOf "_law_draws" "_law_draws" (defArgs s_law_draws) (defBody s_law_draws) (defScope s_law_draws) .none kV10 dc10 pm10 an10 cd10 ct10), sl10⟩)
    (c10 : PySem.W.codeIn K cd10 "_law_draws" = true)
    (k10 : PySem.W.keepIn K (.ref f10) = true)
    (a11 : PySem.W.nsIn K mainGlobals "_law_box" = some (some (.ref f11)))
    (l11 : K.lookup f11 = some ⟨oc11, od11, .func (PySem.W.fnOf "_law_box" "_law_box" (defArgs s_law_box) (defBody s_law_box) (defScope s_law_box) .none kV11 dc11 pm11 an11 cd11 ct11), sl11⟩)
    (c11 : PySem.W.codeIn K cd11 "_law_box" = true)
    (k11 : PySem.W.keepIn K (.ref f11) = true)
    (a12 : PySem.W.nsIn K mainGlobals "_law_next" = some (some (.ref f12)))
    (l12 : K.lookup f12 = some ⟨oc12, od12, .func (PySem.W.fnOf "_law_next" "_law_next" (defArgs s_law_next) (defBody s_law_next) (defScope s_law_next) .none kV12 dc12 pm12 an12 cd12 ct12), sl12⟩)
    (c12 : PySem.W.codeIn K cd12 "_law_next" = true)
    (k12 : PySem.W.keepIn K (.ref f12) = true)
    (a13 : PySem.W.nsIn K mainGlobals "_law_calendar" = some (some (.ref f13)))
    (l13 : K.lookup f13 = some ⟨oc13, od13, .func (PySem.W.fnOf "_law_calendar" "_law_calendar" (defArgs s_law_calendar) (defBody s_law_calendar) (defScope s_law_calendar) .none kV13 dc13 pm13 an13 cd13 ct13), sl13⟩)
    (c13 : PySem.W.codeIn K cd13 "_law_calendar" = true)
    (k13 : PySem.W.keepIn K (.ref f13) = true)
    (a14 : PySem.W.nsIn K mainGlobals "_law_length" = some (some (.ref f14)))
    (l14 : K.lookup f14 = some ⟨oc14, od14, .func (PySem.W.fnOf "_law_length" "_law_length" (defArgs s_law_length) (defBody s_law_length) (defScope s_law_length) .none kV14 dc14 pm14 an14 cd14 ct14), sl14⟩)
    (c14 : PySem.W.codeIn K cd14 "_law_length" = true)
    (k14 : PySem.W.keepIn K (.ref f14) = true)
    (a15 : PySem.W.nsIn K mainGlobals "_law_dates" = some (some (.ref f15)))
    (l15 : K.lookup f15 = some ⟨oc15, od15, .func (PySem.W.fnOf "_law_dates" "_law_dates" (defArgs s_law_dates) (defBody s_law_dates) (defScope s_law_dates) .none kV15 dc15 pm15 an15 cd15 ct15), sl15⟩)
    (c15 : PySem.W.codeIn K cd15 "_law_dates" = true)
    (k15 : PySem.W.keepIn K (.ref f15) = true)
    (a16 : PySem.W.nsIn K mainGlobals "_law_day" = some (some (.ref f16)))
    (l16 : K.lookup f16 = some ⟨oc16, od16, .func (PySem.W.fnOf "_law_day" "_law_day" (defArgs s_law_day) (defBody s_law_day) (defScope s_law_day) .none kV16 dc16 pm16 an16 cd16 ct16), sl16⟩)
    (c16 : PySem.W.codeIn K cd16 "_law_day" = true)
    (k16 : PySem.W.keepIn K (.ref f16) = true)
    (a17 : PySem.W.nsIn K mainGlobals "law" = some (some (.ref f17)))
    (l17 : K.lookup f17 = some ⟨oc17, od17, .func (PySem.W.fnOf "law" "law" (defArgs s_law) (defBody s_law) (defScope s_law) .none kV17 dc17 pm17 an17 cd17 ct17), sl17⟩)
    (c17 : PySem.W.codeIn K cd17 "law" = true)
    (k17 : PySem.W.keepIn K (.ref f17) = true)
    (z_bool : PySem.W.nsIn K mainGlobals "bool" = some none)
    (z_divmod : PySem.W.nsIn K mainGlobals "divmod" = some none)
    (z_int : PySem.W.nsIn K mainGlobals "int" = some none)
    (z_isinstance : PySem.W.nsIn K mainGlobals "isinstance" = some none)
    (z_len : PySem.W.nsIn K mainGlobals "len" = some none)
    (z_list : PySem.W.nsIn K mainGlobals "list" = some none)
    (z_range : PySem.W.nsIn K mainGlobals "range" = some none)
    (z_reversed : PySem.W.nsIn K mainGlobals "reversed" = some none)
    (z_sum : PySem.W.nsIn K mainGlobals "sum" = some none)
    (z_tuple : PySem.W.nsIn K mainGlobals "tuple" = some none)
    (y_lcm : PySem.W.nsIn K mainGlobals "lcm" = some (some (.builtin "math.lcm")))
    (aC_NoSuchDay : PySem.W.nsIn K mainGlobals "NoSuchDay" = some (some (.ref C_NoSuchDay)))
    (xC_NoSuchDay : PySem.W.excIn K C_NoSuchDay [.type "ValueError", .type "Exception", .type "BaseException", .type "object"] "ValueError.__new__" = true)
    (kC_NoSuchDay : PySem.W.keepIn K (.ref C_NoSuchDay) = true)
    (bC_NoSuchDay : PySem.W.subIn K (.ref C_NoSuchDay) (.type "BaseException") = some true)
    (tC_NoSuchDay : PySem.W.typeIn K (.ref C_NoSuchDay) = some (.type "type"))
    (hC_NoSuchDay : PySem.W.hasDictIn K C_NoSuchDay = true)
    (sC_NoSuchDay : PySem.W.subIn K (.ref C_NoSuchDay) (.ref C_NoSuchDay) = some true)
    (gC_NoSuchDay : PySem.W.findIn K (.ref C_NoSuchDay) "__getattribute__" = some (some (.builtin "BaseException.__getattribute__")))
    (fC_NoSuchDay : PySem.W.findIn K (.ref C_NoSuchDay) "__getattr__" = some none)
    (lC_NoSuchDay : PySem.W.findIn K (.ref C_NoSuchDay) "__class__" = some (some (.builtin "object.__class__")))
    (nC_NoSuchDay : PySem.W.specialIn K (.builtin "object.__class__") "__get__" = some (some (.builtin "getset_descriptor.__get__")))
    (uC_NoSuchDay : PySem.W.takesIn K (.builtin "object.__class__") = some true)
    (mC_NoSuchDay : PySem.W.mroIn K C_NoSuchDay (.type "object") = some true)
    (aC_EverydueError : PySem.W.nsIn K mainGlobals "EverydueError" = some (some (.ref C_EverydueError)))
    (kit_NoSuchDay_EverydueError : PySem.W.kitOne K (.ref C_NoSuchDay) (.ref C_EverydueError) = some true) :
    ∃ fd : FuncData, (∀ (s : Shared) (v : Value), BindsTo s fd ⟨[v], []⟩ [("script", v)]) ∧ ∀ base : Heap, K.In base → base.Ns mainGlobals mg → FnOk l.prog w K mg base CX0 5 fa fd ["script"] (spLaw K) := by
  have e := hfa.symm.trans (PySem.W.mg_of X G a17)
  cases e
  have F0 := fun_mk (st := s_is_long) l0 c0 k0
  have B0 := F0.binds (ps := ["calendar", "year"]) fun _ _ _ _ _ _ us hl => match us, hl with | [_, _], _ => rfl
  have F1 := fun_mk (st := s_cycle_years) l1 c1 k1
  have B1 := F1.binds (ps := ["calendar"]) fun _ _ _ _ _ _ us hl => match us, hl with | [_], _ => rfl
  have F2 := fun_mk (st := s_shape_of) l2 c2 k2
  have B2 := F2.binds (ps := ["calendar"]) fun _ _ _ _ _ _ us hl => match us, hl with | [_], _ => rfl
  have F3 := fun_mk (st := s_long_terms) l3 c3 k3
  have B3 := F3.binds (ps := ["rules"]) fun _ _ _ _ _ _ us hl => match us, hl with | [_], _ => rfl
  have F4 := fun_mk (st := s_year_begin) l4 c4 k4
  have B4 := F4.binds (ps := ["shape", "year"]) fun _ _ _ _ _ _ us hl => match us, hl with | [_, _], _ => rfl
  have F5 := fun_mk (st := s_year_of) l5 c5 k5
  have B5 := F5.binds (ps := ["calendar", "day"]) fun _ _ _ _ _ _ us hl => match us, hl with | [_, _], _ => rfl
  have F6 := fun_mk (st := s_month_days) l6 c6 k6
  have B6 := F6.binds (ps := ["calendar", "year"]) fun _ _ _ _ _ _ us hl => match us, hl with | [_, _], _ => rfl
  have F7 := fun_mk (st := s_day_of) l7 c7 k7
  have B7 := F7.binds (ps := ["calendar", "year", "month", "number"]) fun _ _ _ _ _ _ us hl => match us, hl with | [_, _, _, _], _ => rfl
  have F8 := fun_mk (st := s_date_of) l8 c8 k8
  have B8 := F8.binds (ps := ["calendar", "day"]) fun _ _ _ _ _ _ us hl => match us, hl with | [_, _], _ => rfl
  have F9 := fun_mk (st := s_weekday_of) l9 c9 k9
  have B9 := F9.binds (ps := ["calendar", "day"]) fun _ _ _ _ _ _ us hl => match us, hl with | [_, _], _ => rfl
  have F10 := fun_mk (st := s_law_draws) l10 c10 k10
  have B10 := F10.binds (ps := ["cell", "modulus", "count"]) fun _ _ _ _ _ _ us hl => match us, hl with | [_, _, _], _ => rfl
  have F11 := fun_mk (st := s_law_box) l11 c11 k11
  have B11 := F11.binds (ps := ["script"]) fun _ _ _ _ _ _ us hl => match us, hl with | [_], _ => rfl
  have F12 := fun_mk (st := s_law_next) l12 c12 k12
  have B12 := F12.binds (ps := ["box", "modulus"]) fun _ _ _ _ _ _ us hl => match us, hl with | [_, _], _ => rfl
  have F13 := fun_mk (st := s_law_calendar) l13 c13 k13
  have B13 := F13.binds (ps := ["box"]) fun _ _ _ _ _ _ us hl => match us, hl with | [_], _ => rfl
  have F14 := fun_mk (st := s_law_length) l14 c14 k14
  have B14 := F14.binds (ps := ["calendar", "year", "month"]) fun _ _ _ _ _ _ us hl => match us, hl with | [_, _, _], _ => rfl
  have F15 := fun_mk (st := s_law_dates) l15 c15 k15
  have B15 := F15.binds (ps := ["calendar", "low", "high"]) fun _ _ _ _ _ _ us hl => match us, hl with | [_, _, _], _ => rfl
  have F16 := fun_mk (st := s_law_day) l16 c16 k16
  have B16 := F16.binds (ps := ["calendar", "year", "month", "number"]) fun _ _ _ _ _ _ us hl => match us, hl with | [_, _, _, _], _ => rfl
  have F17 := fun_mk (st := s_law) l17 c17 k17
  have B17 := F17.binds (ps := ["script"]) fun _ _ _ _ _ _ us hl => match us, hl with | [_], _ => rfl
  let T : Tx K mg := {
    a_is_long := f0, d_is_long := _, f_is_long := F0, m_is_long := PySem.W.mg_of X G a0, b_is_long := B0,
    a_cycle_years := f1, d_cycle_years := _, f_cycle_years := F1, m_cycle_years := PySem.W.mg_of X G a1, b_cycle_years := B1,
    a_shape_of := f2, d_shape_of := _, f_shape_of := F2, m_shape_of := PySem.W.mg_of X G a2, b_shape_of := B2,
    a_long_terms := f3, d_long_terms := _, f_long_terms := F3, m_long_terms := PySem.W.mg_of X G a3, b_long_terms := B3,
    a_year_begin := f4, d_year_begin := _, f_year_begin := F4, m_year_begin := PySem.W.mg_of X G a4, b_year_begin := B4,
    a_year_of := f5, d_year_of := _, f_year_of := F5, m_year_of := PySem.W.mg_of X G a5, b_year_of := B5,
    a_month_days := f6, d_month_days := _, f_month_days := F6, m_month_days := PySem.W.mg_of X G a6, b_month_days := B6,
    a_day_of := f7, d_day_of := _, f_day_of := F7, m_day_of := PySem.W.mg_of X G a7, b_day_of := B7,
    a_date_of := f8, d_date_of := _, f_date_of := F8, m_date_of := PySem.W.mg_of X G a8, b_date_of := B8,
    a_weekday_of := f9, d_weekday_of := _, f_weekday_of := F9, m_weekday_of := PySem.W.mg_of X G a9, b_weekday_of := B9,
    a_law_draws := f10, d_law_draws := _, f_law_draws := F10, m_law_draws := PySem.W.mg_of X G a10, b_law_draws := B10,
    a_law_box := f11, d_law_box := _, f_law_box := F11, m_law_box := PySem.W.mg_of X G a11, b_law_box := B11,
    a_law_next := f12, d_law_next := _, f_law_next := F12, m_law_next := PySem.W.mg_of X G a12, b_law_next := B12,
    a_law_calendar := f13, d_law_calendar := _, f_law_calendar := F13, m_law_calendar := PySem.W.mg_of X G a13, b_law_calendar := B13,
    a_law_length := f14, d_law_length := _, f_law_length := F14, m_law_length := PySem.W.mg_of X G a14, b_law_length := B14,
    a_law_dates := f15, d_law_dates := _, f_law_dates := F15, m_law_dates := PySem.W.mg_of X G a15, b_law_dates := B15,
    a_law_day := f16, d_law_day := _, f_law_day := F16, m_law_day := PySem.W.mg_of X G a16, b_law_day := B16,
    a_law := fa, d_law := _, f_law := F17, m_law := PySem.W.mg_of X G a17, b_law := B17,
    c_NoSuchDay := C_NoSuchDay, m_NoSuchDay := PySem.W.mg_of X G aC_NoSuchDay, x_NoSuchDay := xC_NoSuchDay, k_NoSuchDay := kC_NoSuchDay, b_NoSuchDay := bC_NoSuchDay, t_NoSuchDay := tC_NoSuchDay, e_NoSuchDay := ⟨gC_NoSuchDay, fC_NoSuchDay, bC_NoSuchDay, hC_NoSuchDay, lC_NoSuchDay, nC_NoSuchDay, uC_NoSuchDay, mC_NoSuchDay⟩, y_NoSuchDay := PySem.W.exm_ref bC_NoSuchDay hC_NoSuchDay tC_NoSuchDay sC_NoSuchDay,
    c_EverydueError := C_EverydueError, m_EverydueError := PySem.W.mg_of X G aC_EverydueError,
    kit_NoSuchDay_EverydueError := kit_NoSuchDay_EverydueError,
    bool := PySem.W.mg_none_of X G z_bool,
    divmod := PySem.W.mg_none_of X G z_divmod,
    int := PySem.W.mg_none_of X G z_int,
    isinstance := PySem.W.mg_none_of X G z_isinstance,
    len := PySem.W.mg_none_of X G z_len,
    list := PySem.W.mg_none_of X G z_list,
    range := PySem.W.mg_none_of X G z_range,
    reversed := PySem.W.mg_none_of X G z_reversed,
    sum := PySem.W.mg_none_of X G z_sum,
    tuple := PySem.W.mg_none_of X G z_tuple,
    lcm := PySem.W.mg_of X G y_lcm }
  refine ⟨PySem.W.fnOf "law" "law" (defArgs s_law) (defBody s_law) (defScope s_law) .none kV17 dc17 pm17 an17 cd17 ct17, fun s v => .of_eq rfl, fun base _ _ => ?_⟩
  have G_is_long := ok_is_long (P := l.prog) (w := w) (base := base) T 
  have G_cycle_years := ok_cycle_years (P := l.prog) (w := w) (base := base) T 
  have G_long_terms := ok_long_terms (P := l.prog) (w := w) (base := base) T 
  have G_year_begin := ok_year_begin (P := l.prog) (w := w) (base := base) T 
  have G_weekday_of := ok_weekday_of (P := l.prog) (w := w) (base := base) T 
  have G_law_draws := ok_law_draws (P := l.prog) (w := w) (base := base) T 
  have G_law_next := ok_law_next (P := l.prog) (w := w) (base := base) T 
  have G_law_length := ok_law_length (P := l.prog) (w := w) (base := base) T 
  have G_shape_of := ok_shape_of (P := l.prog) (w := w) (base := base) T G_long_terms
  have G_month_days := ok_month_days (P := l.prog) (w := w) (base := base) T G_is_long
  have G_law_box := ok_law_box (P := l.prog) (w := w) (base := base) T G_law_draws
  have G_law_calendar := ok_law_calendar (P := l.prog) (w := w) (base := base) T G_law_next
  have G_law_dates := ok_law_dates (P := l.prog) (w := w) (base := base) T G_law_length
  have G_year_of := ok_year_of (P := l.prog) (w := w) (base := base) T G_shape_of G_cycle_years G_year_begin
  have G_day_of := ok_day_of (P := l.prog) (w := w) (base := base) T G_month_days G_year_begin G_shape_of
  have G_date_of := ok_date_of (P := l.prog) (w := w) (base := base) T G_year_of G_month_days G_year_begin G_shape_of
  have G_law_day := ok_law_day (P := l.prog) (w := w) (base := base) T G_day_of
  exact ok_law T G_law_box G_law_calendar G_law_dates G_law_length G_weekday_of G_law_next G_date_of G_law_day G_is_long
end Pr
open PySem PySem.W PyProof.Rows
set_option maxHeartbeats 0 in
theorem PySem.Challenge.cw_everydue_k02_dates_by_walking_holds : PySem.Challenge.rw_everydue_k02_dates_by_walking.Holds := by
  w_on; o_law; k_head; (case hw => w_witness2)
  k_fill
  refine L2.walk_of (l := PySem.Challenge.rw_everydue_k02_dates_by_walking) (n := 63) (k := 5) (x := "script") (CX := fun _ => L2.CX0) (sp := fun w => Pr.spLaw _) rfl (by decide) rfl ⟨rfl, by decide, by decide⟩ (fun w h Y => PySem.W.kIn_of Y) ?F (fun _ _ a ns hl _ hS => ⟨a, ns, rfl, hS, hl, fun _ => rfl⟩) (fun _ _ _ _ _ h => h)
  case F =>
    intro w mg fa h KX G hmg
    refine' Pr.all_mk KX G hmg ?a0 ?l0 ?c0 ?k0 ?a1 ?l1 ?c1 ?k1 ?a2 ?l2 ?c2 ?k2 ?a3 ?l3 ?c3 ?k3 ?a4 ?l4 ?c4 ?k4 ?a5 ?l5 ?c5 ?k5 ?a6 ?l6 ?c6 ?k6 ?a7 ?l7 ?c7 ?k7 ?a8 ?l8 ?c8 ?k8 ?a9 ?l9 ?c9 ?k9 ?a10 ?l10 ?c10 ?k10 ?a11 ?l11 ?c11 ?k11 ?a12 ?l12 ?c12 ?k12 ?a13 ?l13 ?c13 ?k13 ?a14 ?l14 ?c14 ?k14 ?a15 ?l15 ?c15 ?k15 ?a16 ?l16 ?c16 ?k16 ?a17 ?l17 ?c17 ?k17 ?z_bool ?z_divmod ?z_int ?z_isinstance ?z_len ?z_list ?z_range ?z_reversed ?z_sum ?z_tuple ?y_lcm ?aC_NoSuchDay ?xC_NoSuchDay ?kC_NoSuchDay ?bC_NoSuchDay ?tC_NoSuchDay ?hC_NoSuchDay ?sC_NoSuchDay ?gC_NoSuchDay ?fC_NoSuchDay ?lC_NoSuchDay ?nC_NoSuchDay ?uC_NoSuchDay ?mC_NoSuchDay ?aC_EverydueError ?kit_NoSuchDay_EverydueError
    (case a0 => k_is)
    (case l0 => k_is)
    (case c0 => k_is)
    (case k0 => k_is)
    (case a1 => k_is)
    (case l1 => k_is)
    (case c1 => k_is)
    (case k1 => k_is)
    (case a2 => k_is)
    (case l2 => k_is)
    (case c2 => k_is)
    (case k2 => k_is)
    (case a3 => k_is)
    (case l3 => k_is)
    (case c3 => k_is)
    (case k3 => k_is)
    (case a4 => k_is)
    (case l4 => k_is)
    (case c4 => k_is)
    (case k4 => k_is)
    (case a5 => k_is)
    (case l5 => k_is)
    (case c5 => k_is)
    (case k5 => k_is)
    (case a6 => k_is)
    (case l6 => k_is)
    (case c6 => k_is)
    (case k6 => k_is)
    (case a7 => k_is)
    (case l7 => k_is)
    (case c7 => k_is)
    (case k7 => k_is)
    (case a8 => k_is)
    (case l8 => k_is)
    (case c8 => k_is)
    (case k8 => k_is)
    (case a9 => k_is)
    (case l9 => k_is)
    (case c9 => k_is)
    (case k9 => k_is)
    (case a10 => k_is)
    (case l10 => k_is)
    (case c10 => k_is)
    (case k10 => k_is)
    (case a11 => k_is)
    (case l11 => k_is)
    (case c11 => k_is)
    (case k11 => k_is)
    (case a12 => k_is)
    (case l12 => k_is)
    (case c12 => k_is)
    (case k12 => k_is)
    (case a13 => k_is)
    (case l13 => k_is)
    (case c13 => k_is)
    (case k13 => k_is)
    (case a14 => k_is)
    (case l14 => k_is)
    (case c14 => k_is)
    (case k14 => k_is)
    (case a15 => k_is)
    (case l15 => k_is)
    (case c15 => k_is)
    (case k15 => k_is)
    (case a16 => k_is)
    (case l16 => k_is)
    (case c16 => k_is)
    (case k16 => k_is)
    (case a17 => k_is)
    (case l17 => k_is)
    (case c17 => k_is)
    (case k17 => k_is)
    (case z_bool => k_is)
    (case z_divmod => k_is)
    (case z_int => k_is)
    (case z_isinstance => k_is)
    (case z_len => k_is)
    (case z_list => k_is)
    (case z_range => k_is)
    (case z_reversed => k_is)
    (case z_sum => k_is)
    (case z_tuple => k_is)
    (case y_lcm => k_is)
    (case aC_NoSuchDay => k_is)
    (case xC_NoSuchDay => k_exc)
    (case kC_NoSuchDay => k_is)
    (case bC_NoSuchDay => k_is)
    (case tC_NoSuchDay => k_is)
    (case hC_NoSuchDay => k_is)
    (case sC_NoSuchDay => first | rfl | k_is)
    (case gC_NoSuchDay => k_is)
    (case fC_NoSuchDay => k_is)
    (case lC_NoSuchDay => k_is)
    (case nC_NoSuchDay => k_is)
    (case uC_NoSuchDay => k_is)
    (case mC_NoSuchDay => k_is)
    (case aC_EverydueError => k_is)
    (case kit_NoSuchDay_EverydueError => first | rfl | kit_is | k_is)
