import PyProof.Rows.All
import Wide.All
import OpenK.AllK
import Wide.FinOn
import HandS.ForMost
import HandS.More
import HandS.TupAny
import HandS.SortInts
import HandS.Steps
import HandS.SetFor
import HandS.Strs
import HandS.ListItems
import HandS.TupMul
import HandS.Gcd
import KE.KTupSum
import HandS.IsInst
import HandS.RevRange
import PyProof.Rows.SortShellAny
import HandS.WordsExc
import HandS.ExcIs
import HandS.Star
import HandS.Iter
import HandS.Zip
import HandS.Style
import HandS.Comp
import HandS.RevTup
import HandS.Conv
import KE.KItemsList
import HandS.Rev
import HandS.Small
import PyProof.ReprRoads
import HandS.DeepEq
import PyProof.WalksMore
import PySem.Challenge.RW_everydue_k10_questions_near_and_far
set_option Elab.async false
set_option linter.all false
set_option maxRecDepth 100000
/-! Pure readings: what a reading asks, said over data and not over the heap. -/
namespace Pu
open PySem L2

/-! ### what a heap holds, seen by itself and through a veil -/
def Grow (A H : Hp) : Prop := ∀ a o, A a = some o → H a = some o
theorem Grow.refl (H : Hp) : Grow H H := fun _ _ h => h
theorem Grow.trans {A B C : Hp} (f : Grow A B) (g : Grow B C) : Grow A C := fun a o h => g a o (f a o h)
theorem grow_rd {A H : Hp} {a : Addr} {u : HO} (g : Grow A H) (h : Rd A a u) : Rd H a u := by
  rcases h with h | ⟨o, h⟩
  · exact .inl (g a _ h)
  · exact .inr ⟨o, g a _ h⟩
theorem grow_l {K : PySem.W.Frag} {A H : Hp} {a : Addr} {xs : List V} (g : Grow A H) (h : SqL K A a xs) : SqL K H a xs := h.elim (fun z => .inl (grow_rd g z)) .inr
theorem grow_t {K : PySem.W.Frag} {A H : Hp} {a : Addr} {xs : List V} (g : Grow A H) (h : SqT K A a xs) : SqT K H a xs := h.elim (fun z => .inl (grow_rd g z)) .inr
def keyD : Key → PyData
  | .inl n => .int n
  | .inr z => .str z
/-- the class with a name -/
def ClsNm (K : PySem.W.Frag) (nm : Str) (C : Addr) : Prop := PySem.W.nsIn K mainGlobals nm = some (some (.ref C))
def fdD (p : Str × PyData) : PyData := .tuple [.str p.1, p.2]
/-- an object that is not changed any more, as a datum: a dict with a key that no dict has -/
@[reducible] def obD (nm : Str) (fs : List (Str × PyData)) : PyData := .dict [(.list [], .tuple (.str nm :: fs.map fdD))]
mutual
/-- a value is this datum; its lists and dicts stand in the heap by themselves -/
inductive Dq (K : PySem.W.Frag) (H : Hp) : V → PyData → Prop
  | non : Dq K H .non .none
  | bl (b : Bool) : Dq K H (.bl b) (.bool b)
  | int (i : Int) : Dq K H (.int i) (.int i)
  | str (x : Str) : Dq K H (.str x) (.str x)
  | lst {a : Addr} {xs : List V} {ds : List PyData} (h : H a = some (.lst xs)) (r : Dqs K H xs ds) : Dq K H (.ref a) (.list ds)
  | tup {a : Addr} {xs : List V} {ds : List PyData} (h : SqT K H a xs) (r : Dqs K H xs ds) : Dq K H (.ref a) (.tuple ds)
  | dct {a : Addr} {ws : List (Key × V)} {kvs : List (PyData × PyData)} (h : H a = some (.dK ws)) (r : Dks K H ws kvs) : Dq K H (.ref a) (.dict kvs)
  | ob {a : Addr} {nm : Str} {C dx : Addr} {ws : List (Str × V)} {fs : List (Str × PyData)} (hc : ClsNm K nm C) (h : H a = some (.ins C dx ws)) (r : Fds K H ws fs) : Dq K H (.ref a) (obD nm fs)
inductive Dqs (K : PySem.W.Frag) (H : Hp) : List V → List PyData → Prop
  | nil : Dqs K H [] []
  | cons {v : V} {vs : List V} {d : PyData} {ds : List PyData} (h : Dq K H v d) (r : Dqs K H vs ds) : Dqs K H (v :: vs) (d :: ds)
inductive Dks (K : PySem.W.Frag) (H : Hp) : List (Key × V) → List (PyData × PyData) → Prop
  | nil : Dks K H [] []
  | cons {k : Key} {v : V} {d : PyData} {ws : List (Key × V)} {kvs : List (PyData × PyData)} (h : Dq K H v d) (r : Dks K H ws kvs) : Dks K H ((k, v) :: ws) ((keyD k, d) :: kvs)
/-- the attributes of an object -/
inductive Fds (K : PySem.W.Frag) (H : Hp) : List (Str × V) → List (Str × PyData) → Prop
  | nil : Fds K H [] []
  | cons {f : Str} {v : V} {d : PyData} {ws : List (Str × V)} {fs : List (Str × PyData)} (h : Dq K H v d) (r : Fds K H ws fs) : Fds K H ((f, v) :: ws) ((f, d) :: fs)
end
mutual
theorem dq_up {K : PySem.W.Frag} {A H : Hp} (g : Grow A H) : ∀ {d : PyData} {v : V}, Dq K A v d → Dq K H v d
  | _, _, .non => .non
  | _, _, .bl b => .bl b
  | _, _, .int i => .int i
  | _, _, .str x => .str x
  | _, _, .lst hs ha => .lst (g _ _ hs) (dqs_up g ha)
  | _, _, .tup hs ha => .tup (grow_t g hs) (dqs_up g ha)
  | _, _, .dct hs ha => .dct (g _ _ hs) (dks_up g ha)
  | _, _, .ob hc hs ha => .ob hc (g _ _ hs) (fds_up g ha)
theorem dqs_up {K : PySem.W.Frag} {A H : Hp} (g : Grow A H) : ∀ {ds : List PyData} {vs : List V}, Dqs K A vs ds → Dqs K H vs ds
  | _, _, .nil => .nil
  | _, _, .cons h1 h2 => .cons (dq_up g h1) (dqs_up g h2)
theorem dks_up {K : PySem.W.Frag} {A H : Hp} (g : Grow A H) : ∀ {kvs : List (PyData × PyData)} {ws : List (Key × V)}, Dks K A ws kvs → Dks K H ws kvs
  | _, _, .nil => .nil
  | _, _, .cons h1 h2 => .cons (dq_up g h1) (dks_up g h2)
theorem fds_up {K : PySem.W.Frag} {A H : Hp} (g : Grow A H) : ∀ {fs : List (Str × PyData)} {ws : List (Str × V)}, Fds K A ws fs → Fds K H ws fs
  | _, _, .nil => .nil
  | _, _, .cons h1 h2 => .cons (dq_up g h1) (fds_up g h2)
end
theorem dp_grow {K : PySem.W.Frag} {A H : Hp} (g : Grow A H) (d : PyData) (v : V) (h : Dq K A v d) : Dq K H v d := dq_up g h
theorem dps_grow {K : PySem.W.Frag} {A H : Hp} (g : Grow A H) (ds : List PyData) (vs : List V) (h : Dqs K A vs ds) : Dqs K H vs ds := dqs_up g h
/-! no dict in it -/
mutual
def noD : PyData → Bool
  | .dict _ => false
  | .list ds => noDs ds
  | .tuple ds => noDs ds
  | .none => true
  | .bool _ => true
  | .int _ => true
  | .str _ => true
def noDs : List PyData → Bool
  | [] => true
  | d :: ds => noD d && noDs ds
end
def shq (d : PyData) : Bool := noD d && SeqAt.shaped d
mutual
theorem dq_dp {K : PySem.W.Frag} {H : Hp} : ∀ (d : PyData) (v : V), noD d = true → Dq K H v d → Dp K H v d
  | .none, _, _, .non => .non
  | .bool _, _, _, .bl b => .bl b
  | .int _, _, _, .int i => .int i
  | .str _, _, _, .str x => .str x
  | .list ds, _, n, .lst hs ha => .lst (.of hs) (dqs_dps ds _ n ha)
  | .tuple ds, _, n, .tup hs ha => .tup hs (dqs_dps ds _ n ha)
  | .dict _, _, n, _ => by cases n
theorem dqs_dps {K : PySem.W.Frag} {H : Hp} : ∀ (ds : List PyData) (vs : List V), noDs ds = true → Dqs K H vs ds → DpAll K H vs ds
  | [], _, _, .nil => .nil
  | d :: ds, _, n, .cons h1 h2 => by
    have n : (noD d && noDs ds) = true := n
    rw [Bool.and_eq_true] at n
    exact .cons (dq_dp d _ n.1 h1) (dqs_dps ds _ n.2 h2)
end
section
variable {K : PySem.W.Frag} {H : Hp}
theorem dqs_len : ∀ {vs : List V} {ds : List PyData}, Dqs K H vs ds → vs.length = ds.length
  | _, _, .nil => rfl
  | _, _, .cons _ r => congrArg (· + 1) (dqs_len r)
theorem dqs_app : ∀ {vs ws : List V} {ds es : List PyData}, Dqs K H vs ds → Dqs K H ws es → Dqs K H (vs ++ ws) (ds ++ es)
  | _, _, _, _, .nil, h => h
  | _, _, _, _, .cons a r, h => .cons a (dqs_app r h)
theorem dqs_get : ∀ {vs : List V} {ds : List PyData} {i : Nat} {d : PyData}, Dqs K H vs ds → ds[i]? = some d → ∃ v, vs[i]? = some v ∧ Dq K H v d
  | _, _, _, _, .nil, e => by simp at e
  | _, _, 0, _, .cons h _, e => ⟨_, rfl, by simp at e; subst e; exact h⟩
  | _, _, i + 1, _, .cons _ r, e => dqs_get (i := i) r (by simpa using e)
theorem dqs_got : ∀ {vs : List V} {ds : List PyData} {i : Nat} {v : V}, Dqs K H vs ds → vs[i]? = some v → ∃ d, ds[i]? = some d ∧ Dq K H v d
  | _, _, _, _, .nil, e => by simp at e
  | _, _, 0, _, .cons h _, e => ⟨_, rfl, by simp at e; subst e; exact h⟩
  | _, _, i + 1, _, .cons _ r, e => dqs_got (i := i) r (by simpa using e)
theorem dqs_take : ∀ {vs : List V} {ds : List PyData} (n : Nat), Dqs K H vs ds → Dqs K H (vs.take n) (ds.take n)
  | _, _, 0, _ => .nil
  | _, _, _ + 1, .nil => .nil
  | _, _, n + 1, .cons h r => .cons h (dqs_take n r)
theorem dqs_drop : ∀ {vs : List V} {ds : List PyData} (n : Nat), Dqs K H vs ds → Dqs K H (vs.drop n) (ds.drop n)
  | _, _, 0, r => r
  | _, _, _ + 1, .nil => .nil
  | _, _, n + 1, .cons _ r => dqs_drop n r
theorem dqs_set : ∀ {vs : List V} {ds : List PyData} {v : V} {d : PyData} (n : Nat), Dq K H v d → Dqs K H vs ds → Dqs K H (vs.set n v) (ds.set n d)
  | _, _, _, _, _, _, .nil => .nil
  | _, _, _, _, 0, k, .cons _ r => .cons k r
  | _, _, _, _, n + 1, k, .cons h r => .cons h (dqs_set n k r)
theorem dqs_ints : ∀ {ns : List Int}, Dqs K H (ns.map V.int) (ns.map PyData.int)
  | [] => .nil
  | n :: ns => .cons (.int n) (dqs_ints (ns := ns))
theorem dqs_of_ints : ∀ {vs : List V} {ns : List Int}, Dqs K H vs (ns.map PyData.int) → vs = ns.map V.int
  | _, [], .nil => rfl
  | _, n :: ns, .cons (.int _) r => congrArg (V.int n :: ·) (dqs_of_ints r)
end

/-! ### the veil: what changes hands is not read through -/
open Classical in
noncomputable def veil (Z : Addr → Prop) (H : Hp) : Hp := fun a => if Z a then none else H a
theorem veil_off {Z : Addr → Prop} {H : Hp} {a : Addr} {o : HO} (h : veil Z H a = some o) : ¬ Z a ∧ H a = some o := by
  unfold veil at h
  by_cases z : Z a
  · rw [if_pos z] at h
    cases h
  · rw [if_neg z] at h
    exact ⟨z, h⟩
theorem veil_on {Z : Addr → Prop} {H : Hp} {a : Addr} {o : HO} (z : ¬ Z a) (h : H a = some o) : veil Z H a = some o := by
  unfold veil
  rw [if_neg z]
  exact h
theorem veil_grow (Z : Addr → Prop) (H : Hp) : Grow (veil Z H) H := fun _ _ h => (veil_off h).2
theorem veil_none {Z : Addr → Prop} {H : Hp} {a : Addr} (h : H a = none) : veil Z H a = none := by
  unfold veil
  by_cases z : Z a
  · rw [if_pos z]
  · rw [if_neg z]
    exact h

/-- a dict with int keys -/
inductive Kvs (K : PySem.W.Frag) (H : Hp) : List (Key × V) → List (Int × PyData) → Prop
  | nil : Kvs K H [] []
  | cons {n : Int} {v : V} {d : PyData} {ws : List (Key × V)} {kvs : List (Int × PyData)} (h : Dq K H v d) (r : Kvs K H ws kvs) : Kvs K H ((.inl n, v) :: ws) ((n, d) :: kvs)
theorem kvs_grow {K : PySem.W.Frag} {A H : Hp} (g : Grow A H) : ∀ {ws : List (Key × V)} {kvs : List (Int × PyData)}, Kvs K A ws kvs → Kvs K H ws kvs
  | _, _, .nil => .nil
  | _, _, .cons h r => .cons (dp_grow g _ _ h) (kvs_grow g r)
theorem kvs_len {K : PySem.W.Frag} {H : Hp} : ∀ {ws : List (Key × V)} {kvs : List (Int × PyData)}, Kvs K H ws kvs → ws.length = kvs.length
  | _, _, .nil => rfl
  | _, _, .cons _ r => congrArg (· + 1) (kvs_len r)
theorem fds_grow {K : PySem.W.Frag} {A H : Hp} (g : Grow A H) : ∀ {ws : List (Str × V)} {fs : List (Str × PyData)}, Fds K A ws fs → Fds K H ws fs := fun h => fds_up g h
/-! ### places -/
inductive Cell where
  | no
  | d (x : PyData)
  | own (xs : List PyData)
  | dct (kvs : List (Int × PyData))
  | box
  | obj (nm : Str) (fs : List (Str × PyData))
abbrev En := List Cell

/-- the veil of a body: what its caller hides (Z), and what its own places own (M) -/
def hid (Z : Addr → Prop) (M : Nat → Option Addr) : Addr → Prop := fun a => Z a ∨ ∃ i, M i = some a
/-- the box of draws at b -/
def BoxAt (K : PySem.W.Frag) (Z : Addr → Prop) (H : Hp) (b : Addr) : Prop :=
  ∃ (r : Addr) (rows : List Int) (at_ : Int), H b = some (.dK [(.inr "row", .ref r), (.inr "at", .int at_)]) ∧ 0 ≤ at_ ∧ veil Z H r = some (.lst (rows.map V.int)) ∧
    0 < rows.length ∧ rows.length ≤ 1000 ∧ ∀ x ∈ rows, 0 ≤ x ∧ x < 1000003
def CellR (K : PySem.W.Frag) (Z : Addr → Prop) (M : Nat → Option Addr) (H : Hp) (i : Nat) (o : Option V) : Cell → Prop
  | .no => True
  | .d x => ∃ v, o = some v ∧ Dq K (veil (hid Z M) H) v x
  | .own xs => ∃ l vs, o = some (.ref l) ∧ M i = some l ∧ H l = some (.lst vs) ∧ Dqs K (veil (hid Z M) H) vs xs
  | .dct kvs => ∃ l ws, o = some (.ref l) ∧ M i = some l ∧ H l = some (.dK ws) ∧ Kvs K (veil (hid Z M) H) ws kvs
  | .box => ∃ b, o = some (.ref b) ∧ M i = some b ∧ BoxAt K (hid Z M) H b
  | .obj nm fs => ∃ l C dx ws, o = some (.ref l) ∧ M i = some l ∧ ClsNm K nm C ∧ H l = some (.ins C dx ws) ∧ Fds K (veil (hid Z M) H) ws fs

/-- B: what may change of what stood at the entry (H0); A: what stays (under the veil) -/
structure EnvR (K : PySem.W.Frag) (B Z : Addr → Prop) (A H0 : Hp) (M : Nat → Option Addr) (σ : St) (H : Hp) (ρ : En) : Prop where
  len : σ.length = ρ.length
  inj : ∀ i j l, M i = some l → M j = some l → i = j
  live : ∀ i l, M i = some l → H l ≠ none
  off : ∀ i l, M i = some l → ¬ Z l
  zl : ∀ a, Z a → H a ≠ none
  ext : ∀ a o, ¬ B a → H0 a = some o → H a = some o
  own : ∀ i l, M i = some l → B l ∨ H0 l = none
  m0 : ∀ b, B b → M 0 = some b
  anch : Grow A (veil (hid Z M) H)
  cell : ∀ i c, ρ[i]? = some c → CellR K Z M H i (σ[i]?.join) c

/-- what an expression's reading is worth: p asks over data -/
abbrev PE' := En → (PyData → En → Prop) → Prop
abbrev PT' := En → (Bool → En → Prop) → Prop
abbrev PA' := En → (List PyData → En → Prop) → Prop
structure PEnds where
  nx : En → Prop
  rt : PyData → En → Prop
  bk : En → Prop := fun _ => False
  ct : En → Prop := fun _ => False
abbrev PS' := PEnds → En → Prop

def Sim (K : PySem.W.Frag) (te : TE) (p : PE') : Prop := ∀ B Z A H0 M σ H ρ R, EnvR K B Z A H0 M σ H ρ → p ρ R →
  ∀ Q : VK, (∀ v d ρ' H2, R d ρ' → EnvR K B Z A H0 M σ H2 ρ' → Dq K (veil (hid Z M) H2) v d → Q v H2) → te σ H Q
def SimT (K : PySem.W.Frag) (tt : TT) (p : PT') : Prop := ∀ B Z A H0 M σ H ρ R, EnvR K B Z A H0 M σ H ρ → p ρ R →
  ∀ Q : Bool → Hp → Prop, (∀ b ρ' H2, R b ρ' → EnvR K B Z A H0 M σ H2 ρ' → Q b H2) → tt σ H Q
def SimA (K : PySem.W.Frag) (ta : TA) (p : PA') : Prop := ∀ B Z A H0 M σ H ρ R, EnvR K B Z A H0 M σ H ρ → p ρ R →
  ∀ Q : List V → Hp → Prop, (∀ vs ds ρ' H2, R ds ρ' → EnvR K B Z A H0 M σ H2 ρ' → Dqs K (veil (hid Z M) H2) vs ds → Q vs H2) → ta σ H Q
/-- a new list -/
def SimL (K : PySem.W.Frag) (te : TE) (p : PA') : Prop := ∀ B Z A H0 M σ H ρ R, EnvR K B Z A H0 M σ H ρ → p ρ R →
  ∀ Q : VK, (∀ l vs ds ρ' H2, R ds ρ' → EnvR K B Z A H0 M σ H2 ρ' → H2 l = none → Dqs K (veil (hid Z M) H2) vs ds → Q (.ref l) (upd H2 l (.lst vs))) → te σ H Q

/-- the ends of a statement -/
structure Comp (K : PySem.W.Frag) (B Z : Addr → Prop) (A H0 : Hp) (D : Ends) (G : PEnds) : Prop where
  nx : ∀ M σ H ρ, EnvR K B Z A H0 M σ H ρ → G.nx ρ → D.nx σ H
  bk : ∀ M σ H ρ, EnvR K B Z A H0 M σ H ρ → G.bk ρ → D.bk σ H
  ct : ∀ M σ H ρ, EnvR K B Z A H0 M σ H ρ → G.ct ρ → D.ct σ H
  rt : ∀ M σ H ρ v d, EnvR K B Z A H0 M σ H ρ → G.rt d ρ → Dq K (veil (fun a => Z a ∨ B a) H) v d → D.rt v H
def SimS (K : PySem.W.Frag) (ts : TS) (p : PS') : Prop := ∀ B Z A H0 M σ H ρ D G, EnvR K B Z A H0 M σ H ρ → p G ρ → Comp K B Z A H0 D G → ts D σ H

/-! ### the environment through changes -/
section
variable {K : PySem.W.Frag} {B Z : Addr → Prop} {A A' H0 H H2 : Hp} {M : Nat → Option Addr} {σ : St} {ρ : En}
theorem CellR.grow {i : Nat} {o : Option V} {c : Cell} (g : Grow (veil (hid Z M) H) (veil (hid Z M) H2)) (k : ∀ l, M i = some l → ∀ u, H l = some u → H2 l = some u) (h : CellR K Z M H i o c) : CellR K Z M H2 i o c := by
  cases c with
  | no => trivial
  | d x =>
    obtain ⟨v, e, h⟩ := h
    exact ⟨v, e, dp_grow g _ _ h⟩
  | own xs =>
    obtain ⟨l, vs, e, m, hl, h⟩ := h
    exact ⟨l, vs, e, m, k l m _ hl, dps_grow g _ _ h⟩
  | dct kvs =>
    obtain ⟨l, ws, e, m, hl, h⟩ := h
    exact ⟨l, ws, e, m, k l m _ hl, kvs_grow g h⟩
  | box =>
    obtain ⟨b, e, m, r, rows, at_, hb, h0, hr, h1, h2, h3⟩ := h
    exact ⟨b, e, m, r, rows, at_, k b m _ hb, h0, g _ _ hr, h1, h2, h3⟩
  | obj nm fs =>
    obtain ⟨l, C, dx, ws, e, m, hc, hl, h⟩ := h
    exact ⟨l, C, dx, ws, e, m, hc, k l m _ hl, fds_grow g h⟩
theorem EnvR.anchor (E : EnvR K B Z A H0 M σ H ρ) : EnvR K B Z (veil (hid Z M) H) H0 M σ H ρ := { E with anch := Grow.refl _ }
theorem EnvR.weak (g : Grow A' A) (E : EnvR K B Z A H0 M σ H ρ) : EnvR K B Z A' H0 M σ H ρ := { E with anch := g.trans E.anch }
/-- the heap has grown, nothing has changed -/
theorem EnvR.grown (E : EnvR K B Z A H0 M σ H ρ) (g : Grow H H2) : EnvR K B Z A H0 M σ H2 ρ := by
  have gv : Grow (veil (hid Z M) H) (veil (hid Z M) H2) := fun a o h => veil_on (veil_off h).1 (g _ _ (veil_off h).2)
  have nn : ∀ a, H a ≠ none → H2 a ≠ none := fun a h e => by
    cases q : H a with
    | none => exact h q
    | some o =>
      rw [g a o q] at e
      cases e
  exact ⟨E.len, E.inj, fun i l m => nn l (E.live i l m), E.off, fun a z => nn a (E.zl a z), fun a o b h => g _ _ (E.ext a o b h), E.own, E.m0, E.anch.trans gv, fun i c h => (E.cell i c h).grow gv fun l _ u hu => g _ _ hu⟩
theorem EnvR.veiled (E : EnvR K B Z A H0 M σ H ρ) {p : Addr} (h : H p = none) : ¬ hid Z M p := by
  rintro (z | ⟨i, m⟩)
  · exact E.zl p z h
  · exact E.live i p m h
theorem grow_new {p : Addr} {o : HO} (h : H p = none) : Grow H (upd H p o) := fun a u e => by
  rw [upd_ne (ne_of_none e h)]
  exact e
theorem grow_veil (g : Grow H H2) : Grow (veil Z H) (veil Z H2) := fun a o h => veil_on (veil_off h).1 (g _ _ (veil_off h).2)
theorem veil_less {Y : Addr → Prop} (h : ∀ a, Z a → Y a) : Grow (veil Y H) (veil Z H) := fun a o e => veil_on (fun z => (veil_off e).1 (h a z)) (veil_off e).2
end
end Pu
namespace Pu
open PySem L2

/-! ### asking a datum what it is -/
def asI : PyData → (Int → Prop) → Prop
  | .int i, k => k i
  | _, _ => False
def asB : PyData → (Bool → Prop) → Prop
  | .bool b, k => k b
  | _, _ => False
def asT : PyData → (List PyData → Prop) → Prop
  | .tuple ds, k => k ds
  | _, _ => False
def asL : PyData → (List PyData → Prop) → Prop
  | .list ds, k => k ds
  | _, _ => False
def asS : PyData → (List PyData → Prop) → Prop
  | .list ds, k => k ds
  | .tuple ds, k => k ds
  | _, _ => False
theorem asI_of {d : PyData} {k : Int → Prop} (h : asI d k) : ∃ i, d = .int i ∧ k i := by
  cases d <;> first | exact ⟨_, rfl, h⟩ | exact h.elim
theorem asB_of {d : PyData} {k : Bool → Prop} (h : asB d k) : ∃ i, d = .bool i ∧ k i := by
  cases d <;> first | exact ⟨_, rfl, h⟩ | exact h.elim
theorem asT_of {d : PyData} {k : List PyData → Prop} (h : asT d k) : ∃ i, d = .tuple i ∧ k i := by
  cases d <;> first | exact ⟨_, rfl, h⟩ | exact h.elim
theorem asL_of {d : PyData} {k : List PyData → Prop} (h : asL d k) : ∃ i, d = .list i ∧ k i := by
  cases d <;> first | exact ⟨_, rfl, h⟩ | exact h.elim
def isN : PyData → Bool
  | .none => true
  | _ => false
def isBl (b : Bool) : PyData → Bool
  | .bool c => decide (c = b)
  | _ => false
def tyN : PyData → String
  | .none => "NoneType"
  | .bool _ => "bool"
  | .int _ => "int"
  | .str _ => "str"
  | .list _ => "list"
  | .tuple _ => "tuple"
  | .dict [(.list [], _)] => "object"
  | .dict _ => "dict"
/-- a value without parts, as a datum -/
def dv : V → PyData
  | .bl b => .bool b
  | .int i => .int i
  | .str x => .str x
  | _ => .none
def sv : V → Bool
  | .non => true
  | .bl _ => true
  | .int _ => true
  | .str _ => true
  | _ => false
theorem dv_q {K : PySem.W.Frag} {H : Hp} {v : V} (h : sv v = true) : Dq K H v (dv v) := by
  cases v <;> first | exact .non | exact .bl _ | exact .int _ | exact .str _ | cases h
def asO : Option PyData → (PyData → Prop) → Prop
  | some d, k => k d
  | none, _ => False
theorem asO_of {o : Option PyData} {k : PyData → Prop} (h : asO o k) : ∃ d, o = some d ∧ k d := by
  cases o <;> first | exact ⟨_, rfl, h⟩ | exact h.elim

def cellAt : En → Nat → Cell
  | [], _ => .no
  | c :: _, 0 => c
  | _ :: r, i + 1 => cellAt r i
def cellSet : En → Nat → Cell → En
  | [], _, _ => []
  | _ :: r, 0, c => c :: r
  | x :: r, i + 1, c => x :: cellSet r i c
theorem cellAt_some : ∀ {ρ : En} {i : Nat} {c : Cell}, cellAt ρ i = c → c ≠ .no → ρ[i]? = some c
  | [], _, _, h, n => absurd h.symm n
  | c :: _, 0, _, h, _ => congrArg some h
  | _ :: r, i + 1, _, h, n => by simpa using cellAt_some (ρ := r) (i := i) h n
theorem cellSet_eq : ∀ (ρ : En) (i : Nat) (c : Cell), cellSet ρ i c = ρ.set i c
  | [], _, _ => rfl
  | _ :: _, 0, _ => rfl
  | x :: r, i + 1, c => congrArg (x :: ·) (cellSet_eq r i c)
def asD : Cell → (PyData → Prop) → Prop
  | .d x, k => k x
  | _, _ => False
def asOwn : Cell → (List PyData → Prop) → Prop
  | .own x, k => k x
  | _, _ => False
theorem asD_of {c : Cell} {k : PyData → Prop} (h : asD c k) : ∃ x, c = .d x ∧ k x := by
  cases c <;> first | exact ⟨_, rfl, h⟩ | exact h.elim
theorem asOwn_of {c : Cell} {k : List PyData → Prop} (h : asOwn c k) : ∃ x, c = .own x ∧ k x := by
  cases c <;> first | exact ⟨_, rfl, h⟩ | exact h.elim

def flipB : Bool → Bool → Bool
  | true, b => !b
  | false, b => b
/-! ### the pure readings of expressions -/
def pVar (i : Nat) : PE' := fun ρ R => asD (cellAt ρ i) fun x => R x ρ
def pC (d : PyData) : PE' := fun ρ R => R d ρ
def pII (f : Int → Int → PyData) (pa pb : PE') : PE' := fun ρ R => pa ρ fun x ρ1 => pb ρ1 fun y ρ2 => asI x fun i => asI y fun j => R (f i j) ρ2
def pIIc (C : Int → Int → Prop) (f : Int → Int → PyData) (pa pb : PE') : PE' := fun ρ R => pa ρ fun x ρ1 => pb ρ1 fun y ρ2 => asI x fun i => asI y fun j => C i j ∧ R (f i j) ρ2
def pI (f : Int → PyData) (pa : PE') : PE' := fun ρ R => pa ρ fun x ρ1 => asI x fun i => R (f i) ρ1
def pEqD (neg : Bool) (pa pb : PE') : PE' := fun ρ R => pa ρ fun x ρ1 => pb ρ1 fun y ρ2 => shq x = true ∧ shq y = true ∧ R (.bool (flipB neg (PyData.eqv x y))) ρ2
def pIsN (neg : Bool) (pa : PE') : PE' := fun ρ R => pa ρ fun x ρ1 => R (.bool (flipB neg (isN x))) ρ1
def pIsB (b : Bool) (pa : PE') : PE' := fun ρ R => pa ρ fun x ρ1 => R (.bool (isBl b x)) ρ1
def noO : PyData → Bool
  | .dict [(.list [], _)] => false
  | _ => true
theorem ty_dict (kvs : List (PyData × PyData)) : tyN (.dict kvs) = "object" ∨ tyN (.dict kvs) = "dict" := by
  unfold tyN
  split <;> simp_all
theorem dks_ty {K : PySem.W.Frag} {H : Hp} {ws : List (Key × V)} {kvs : List (PyData × PyData)} (r : Dks K H ws kvs) : tyN (.dict kvs) = "dict" := by
  cases r with
  | nil => rfl
  | @cons k v d ws kvs h r => cases k <;> cases r <;> rfl
theorem noO_of {d : PyData} (h : tyN d ≠ "object") : noO d = true := by
  unfold noO
  split
  · exact absurd rfl h
  · rfl
def pIsTy (T : String) (pa : PE') : PE' := fun ρ R => pa ρ fun x ρ1 => R (.bool (decide (tyN x = T))) ρ1
def pChain (f g : Int → Int → Bool) (pa pb pc : PE') : PE' := fun ρ R => pa ρ fun x ρ1 => pb ρ1 fun y ρ2 => asI x fun i => asI y fun j => if f i j = true then pc ρ2 fun z ρ3 => asI z fun k => R (.bool (g j k)) ρ3 else R (.bool false) ρ2
def pTup (pa : PA') : PE' := fun ρ R => pa ρ fun ds ρ1 => ds.length ≤ 100000 ∧ R (.tuple ds) ρ1
def pLst (pa : PA') : PA' := fun ρ R => pa ρ fun ds ρ1 => ds.length ≤ 100000 ∧ R ds ρ1
def pNew (pa : PA') : PE' := fun ρ R => pa ρ fun ds ρ1 => R (.list ds) ρ1
def pNil : PA' := fun ρ R => R [] ρ
def pCons (pa : PE') (pr : PA') : PA' := fun ρ R => pa ρ fun x ρ1 => pr ρ1 fun xs ρ2 => R (x :: xs) ρ2
def pIx (pa pb : PE') : PE' := fun ρ R => pa ρ fun x ρ1 => pb ρ1 fun y ρ2 => asS x fun ds => asI y fun i => asO (atI ds i) fun d => R d ρ2
def pAndV (pa pb : PE') : PE' := fun ρ R => pa ρ fun x ρ1 => asB x fun c => if c = true then pb ρ1 R else R (.bool false) ρ1
def pOrV (pa pb : PE') : PE' := fun ρ R => pa ρ fun x ρ1 => asB x fun c => if c = true then R (.bool true) ρ1 else pb ρ1 R
def pNotV (pa : PE') : PE' := fun ρ R => pa ρ fun x ρ1 => asB x fun c => R (.bool (!c)) ρ1
def pIfE (pt : PT') (pa pb : PE') : PE' := fun ρ R => pt ρ fun c ρ1 => if c = true then pa ρ1 R else pb ρ1 R
/-! tests -/
def pTst (pa : PE') : PT' := fun ρ R => pa ρ fun x ρ1 => asB x fun c => R c ρ1
def pAnd (pa pb : PT') : PT' := fun ρ R => pa ρ fun c ρ1 => if c = true then pb ρ1 R else R false ρ1
def pOr (pa pb : PT') : PT' := fun ρ R => pa ρ fun c ρ1 => if c = true then R true ρ1 else pb ρ1 R
def pNot (pa : PT') : PT' := fun ρ R => pa ρ fun c ρ1 => R (!c) ρ1
def truD : PyData → Option Bool
  | .none => some false
  | .bool b => some b
  | .int i => some (i != 0)
  | .list ds => some (!ds.isEmpty)
  | .tuple ds => some (!ds.isEmpty)
  | _ => none
def pTru (pa : PE') : PT' := fun ρ R => pa ρ fun x ρ1 => ∃ b, truD x = some b ∧ R b ρ1
/-! calls -/
abbrev FS := List PyData → (PyData → Prop) → Prop
def pCall (n : Nat) (S : FS) (pa : PA') : PE' := fun ρ R => pa ρ fun ds ρ1 => ds.length = n ∧ S ds fun d => R d ρ1
def pCallB (n : Nat) (S : FS) (i : Nat) (pa : PA') : PE' := fun ρ R => cellAt ρ i = .box ∧ pa ρ fun ds ρ1 => cellAt ρ1 i = .box ∧ ds.length = n ∧ S ds fun d => R d ρ1
/-- a built-in by its data -/
def pFn (f : List PyData → (PyData → Prop) → Prop) (pa : PA') : PE' := fun ρ R => pa ρ fun ds ρ1 => f ds fun d => R d ρ1

/-! statements -/
def pNext : PS' := fun G ρ => G.nx ρ
def pSeq (p q : PS') : PS' := fun G ρ => p { G with nx := q G } ρ
def pIfS (pt : PT') (p q : PS') : PS' := fun G ρ => pt ρ fun c ρ1 => if c = true then p G ρ1 else q G ρ1
def pRet (pa : PE') : PS' := fun G ρ => pa ρ fun d ρ1 => G.rt d ρ1
def pRetL (pa : PA') : PS' := fun G ρ => pa ρ fun d ρ1 => G.rt (.list d) ρ1
def pRetO (i : Nat) : PS' := fun G ρ => asOwn (cellAt ρ i) fun ds => G.rt (.list ds) ρ
def pRetN : PS' := fun G ρ => G.rt .none ρ
abbrev PG' := PyData → En → (En → Prop) → Prop
def pgN (i : Nat) : PG' := fun d ρ R => R (cellSet ρ i (.d d))
def setAll : En → List Nat → List PyData → En
  | ρ, i :: is, d :: ds => setAll (cellSet ρ i (.d d)) is ds
  | ρ, _, _ => ρ
def pgT (is : List Nat) : PG' := fun d ρ R => asT d fun ds => ds.length = is.length ∧ R (setAll ρ is ds)
def pAsg (pa : PE') (pg : PG') : PS' := fun G ρ => pa ρ fun d ρ1 => pg d ρ1 G.nx
def pAsgO (pa : PA') (i : Nat) : PS' := fun G ρ => i ≠ 0 ∧ pa ρ fun d ρ1 => G.nx (cellSet ρ1 i (.own d))
def pBrk : PS' := fun G ρ => G.bk ρ
def pCnt : PS' := fun G ρ => G.ct ρ
def pDrop (pa : PE') : PS' := fun G ρ => pa ρ fun _ ρ1 => G.nx ρ1
def pApp (i : Nat) (pa : PE') : PS' := fun G ρ => asOwn (cellAt ρ i) fun _ => pa ρ fun d ρ1 => asOwn (cellAt ρ1 i) fun ds => ds.length < 100000 ∧ G.nx (cellSet ρ1 i (.own (ds ++ [d])))
/-- a for over a list or a tuple of data -/
def pFor (pl : PE') (pg : PG') (pb : PS') : PS' := fun G ρ => pl ρ fun x ρ1 => asS x fun ds => ∃ I : Nat → En → Prop, I 0 ρ1 ∧
  (∀ i d ρ', ds[i]? = some d → I i ρ' → pg d ρ' fun ρ2 => pb { G with nx := I (i + 1), ct := I (i + 1), bk := G.nx } ρ2) ∧ ∀ ρ', I ds.length ρ' → G.nx ρ'
/-- for i in range(a, b) -/
def pRng (pa : PA') (pg : PG') (pb : PS') : PS' := fun G ρ => pa ρ fun x ρ1 => ∃ lo hi : Int, ((x = [.int hi] ∧ lo = 0) ∨ x = [.int lo, .int hi]) ∧ (-(2 ^ 62) ≤ lo ∧ lo < 2 ^ 62 ∧ -(2 ^ 62) ≤ hi ∧ hi < 2 ^ 62) ∧ ∃ I : Nat → En → Prop, I 0 ρ1 ∧
  (∀ (i : Nat) ρ', lo + (i : Int) < hi → I i ρ' → pg (.int (lo + (i : Int))) ρ' fun ρ2 => pb { G with nx := I (i + 1), ct := I (i + 1), bk := G.nx } ρ2) ∧ ∀ ρ', I (hi - lo).toNat ρ' → G.nx ρ'
def pWhile (pt : PT') (pb : PS') : PS' := fun G ρ => ∃ W : Nat → En → Prop, (∃ m, W m ρ) ∧ ∀ m ρ', W m ρ' → pt ρ' fun c ρ1 =>
  if c = true then pb { G with nx := fun ρ2 => ∃ m', m' < m ∧ W m' ρ2, ct := fun ρ2 => ∃ m', m' < m ∧ W m' ρ2, bk := G.nx } ρ1 else G.nx ρ1
/-- comprehensions -/
def pLcS (vs is : List Nat) (pl : PE') (pg : PG') (pt : PT') (pe : PE') : PA' := fun ρ R => (∀ v ∈ vs, cellAt ρ v = .no) ∧ pl ρ fun x ρ1 => ρ1 = ρ ∧ asS x fun ds => ∃ I : Nat → List PyData → Prop, I 0 [] ∧
  (∀ i d acc, ds[i]? = some d → I i acc → pg d ρ fun ρ2 => pt ρ2 fun b ρ3 => ρ3 = ρ2 ∧ if b = true then pe ρ2 fun y ρ4 => ρ4 = ρ2 ∧ acc.length < 100000 ∧ I (i + 1) (acc ++ [y]) else I (i + 1) acc) ∧ ∀ acc, I ds.length acc → R acc ρ
def pLcR (vs is : List Nat) (pa : PA') (pg : PG') (pt : PT') (pe : PE') : PA' := fun ρ R => (∀ v ∈ vs, cellAt ρ v = .no) ∧ pa ρ fun x ρ1 => ρ1 = ρ ∧ ∃ lo hi : Int, ((x = [.int hi] ∧ lo = 0) ∨ x = [.int lo, .int hi]) ∧ (-(2 ^ 62) ≤ lo ∧ lo < 2 ^ 62 ∧ -(2 ^ 62) ≤ hi ∧ hi < 2 ^ 62) ∧
  ∃ I : Nat → List PyData → Prop, I 0 [] ∧
  (∀ (i : Nat) acc, lo + (i : Int) < hi → I i acc → pg (.int (lo + (i : Int))) ρ fun ρ2 => pt ρ2 fun b ρ3 => ρ3 = ρ2 ∧ if b = true then pe ρ2 fun y ρ4 => ρ4 = ρ2 ∧ acc.length < 100000 ∧ I (i + 1) (acc ++ [y]) else I (i + 1) acc) ∧ ∀ acc, I (hi - lo).toNat acc → R acc ρ
def pTO (pl : PE') : PE' := fun ρ R => pl ρ fun x ρ1 => asT x fun ds => R (.tuple ds) ρ1
def pLO (pl : PE') : PE' := fun ρ R => pl ρ fun x ρ1 => asL x fun ds => R (.list ds) ρ1
def pYes : PT' := fun ρ R => R true ρ

section
variable {K : PySem.W.Frag}
/-! ### expressions -/
theorem sim_var {i : Nat} : Sim K (tVar i) (pVar i) := fun B Z A H0 M σ H ρ R E h Q q => by
  obtain ⟨x, hx, h⟩ := asD_of h
  obtain ⟨v, hv, hd⟩ := E.cell i _ (cellAt_some hx (by intro z; cases z))
  refine ⟨v, ?_, q v x ρ H h E hd⟩
  cases e : σ[i]? with
  | none =>
    rw [e] at hv
    cases hv
  | some o =>
    rw [e] at hv
    exact congrArg some hv
theorem sim_c {v : V} (s : sv v = true) : Sim K (tC v) (pC (dv v)) := fun B Z A H0 M σ H ρ R E h Q q => q v (dv v) ρ H h E (dv_q s)
theorem sim_k {v : V} {d : PyData} (s : ∀ H, Dq K H v d) : Sim K (tC v) (pC d) := fun B Z A H0 M σ H ρ R E h Q q => q v d ρ H h E (s _)
/-- two operands in turn: the first one stays through the second one's making -/
theorem two {ta tb : TE} {pa pb : PE'} (sa : Sim K ta pa) (sb : Sim K tb pb) {B Z : Addr → Prop} {A H0 : Hp} {M : Nat → Option Addr} {σ : St} {H : Hp} {ρ : En} {R : PyData → PyData → En → Prop} (E : EnvR K B Z A H0 M σ H ρ)
    (h : pa ρ fun x ρ1 => pb ρ1 fun y ρ2 => R x y ρ2) {Q : V → V → Hp → Prop} (q : ∀ v w x y ρ' H2, R x y ρ' → EnvR K B Z A H0 M σ H2 ρ' → Dq K (veil (hid Z M) H2) v x → Dq K (veil (hid Z M) H2) w y → Q v w H2) :
    ta σ H fun v H1 => tb σ H1 fun w H2 => Q v w H2 :=
  sa B Z A H0 M σ H ρ _ E h _ fun v x ρ1 H1 h1 E1 d1 => sb B Z _ H0 M σ H1 ρ1 _ E1.anchor h1 _ fun w y ρ2 H2 h2 E2 d2 =>
    q v w x y ρ2 H2 h2 (E2.weak E1.anch) (dp_grow E2.anch _ _ d1) d2
theorem of_int {H : Hp} {v : V} {i : Int} (h : Dq K H v (.int i)) : v = .int i := by cases h; rfl
theorem of_bl {H : Hp} {v : V} {i : Bool} (h : Dq K H v (.bool i)) : v = .bl i := by cases h; rfl
theorem sim_ii {g : Int → Int → V} {ta tb : TE} {pa pb : PE'} (sa : Sim K ta pa) (sb : Sim K tb pb) (hg : ∀ i j, sv (g i j) = true) : Sim K (tOp (rI0 g) ta tb) (pII (fun i j => dv (g i j)) pa pb) := fun B Z A H0 M σ H ρ R E h Q q =>
  two sa sb E h fun v w x y ρ2 H2 h2 E2 d1 d2 => by
    obtain ⟨i, rfl, h3⟩ := asI_of h2
    obtain ⟨j, rfl, h4⟩ := asI_of h3
    rw [of_int d1, of_int d2]
    exact ⟨i, j, rfl, rfl, q _ _ _ _ h4 E2 (dv_q (hg i j))⟩
theorem sim_iic {C : Int → Int → Prop} {g : Int → Int → V} {ta tb : TE} {pa pb : PE'} (sa : Sim K ta pa) (sb : Sim K tb pb) (hg : ∀ i j, sv (g i j) = true) : Sim K (tOp (rI C g) ta tb) (pIIc C (fun i j => dv (g i j)) pa pb) := fun B Z A H0 M σ H ρ R E h Q q =>
  two sa sb E h fun v w x y ρ2 H2 h2 E2 d1 d2 => by
    obtain ⟨i, rfl, h3⟩ := asI_of h2
    obtain ⟨j, rfl, h4⟩ := asI_of h3
    rw [of_int d1, of_int d2]
    exact ⟨i, j, rfl, rfl, h4.1, q _ _ _ _ h4.2 E2 (dv_q (hg i j))⟩
theorem sim_u {g : Int → V} {ta : TE} {pa : PE'} (sa : Sim K ta pa) (hg : ∀ i, sv (g i) = true) : Sim K (tUn (rU g) ta) (pI (fun i => dv (g i)) pa) := fun B Z A H0 M σ H ρ R E h Q q =>
  sa B Z A H0 M σ H ρ _ E h _ fun v x ρ1 H1 h1 E1 d1 => by
    obtain ⟨i, rfl, h1⟩ := asI_of h1
    rw [of_int d1]
    exact ⟨i, rfl, q _ _ _ _ h1 E1 (dv_q (hg i))⟩
theorem veil_dp {Z : Addr → Prop} {H : Hp} {v : V} {d : PyData} (n : noD d = true) (h : Dq K (veil Z H) v d) : Dp K H v d := dq_dp _ _ n (dp_grow (veil_grow _ _) _ _ h)
theorem shq_of {d : PyData} (h : shq d = true) : noD d = true ∧ SeqAt.shaped d = true := by
  unfold shq at h
  rwa [Bool.and_eq_true] at h
theorem sim_eqD {ta tb : TE} {pa pb : PE'} (sa : Sim K ta pa) (sb : Sim K tb pb) : Sim K (tOp (rEqD K) ta tb) (pEqD false pa pb) := fun B Z A H0 M σ H ρ R E h Q q =>
  two sa sb E h fun v w x y ρ2 H2 h2 E2 d1 d2 => ⟨x, y, veil_dp (shq_of h2.1).1 d1, veil_dp (shq_of h2.2.1).1 d2, (shq_of h2.1).2, (shq_of h2.2.1).2, q _ _ _ _ h2.2.2 E2 (.bl _)⟩
theorem sim_neD {ta tb : TE} {pa pb : PE'} (sa : Sim K ta pa) (sb : Sim K tb pb) : Sim K (tOp (rNeD K) ta tb) (pEqD true pa pb) := fun B Z A H0 M σ H ρ R E h Q q =>
  two sa sb E h fun v w x y ρ2 H2 h2 E2 d1 d2 => ⟨x, y, veil_dp (shq_of h2.1).1 d1, veil_dp (shq_of h2.2.1).1 d2, (shq_of h2.1).2, (shq_of h2.2.1).2, q _ _ _ _ h2.2.2 E2 (.bl _)⟩
theorem isN_v {H : Hp} {v : V} {d : PyData} (h : Dq K H v d) : decide (v = .non) = isN d := by
  cases h <;> simp [isN]
theorem sim_isN {ta : TE} {pa : PE'} (sa : Sim K ta pa) : Sim K (tOp rIsN ta (tC .non)) (pIsN false pa) := fun B Z A H0 M σ H ρ R E h Q q =>
  sa B Z A H0 M σ H ρ _ E h _ fun v x ρ1 H1 h1 E1 d1 => ⟨rfl, by rw [isN_v d1]; exact q _ _ _ _ h1 E1 (.bl _)⟩
theorem sim_notN {ta : TE} {pa : PE'} (sa : Sim K ta pa) : Sim K (tOp rNotN ta (tC .non)) (pIsN true pa) := fun B Z A H0 M σ H ρ R E h Q q =>
  sa B Z A H0 M σ H ρ _ E h _ fun v x ρ1 H1 h1 E1 d1 => ⟨rfl, by rw [isN_v d1]; exact q _ _ _ _ h1 E1 (.bl _)⟩
/-- is True, is False, of whatever -/
def rIsBA : R2 := fun x y H Q => ∃ b, y = .bl b ∧ Q (.bl (decide (x = .bl b))) H
theorem op_isBA {X : Cx} : OpR X (compareOp .Is) rIsBA := by
  intro pins s σ H x y v u Q I rx ry h
  obtain ⟨b, rfl, q⟩ := h
  cases (show u = Value.bool b from ry)
  by_cases e : x = .bl b
  · subst e
    cases (show v = Value.bool b from rx)
    exact wpAny_is_self rfl ⟨.bl true, H, I, rfl, by simpa using q⟩
  · have ne : v ≠ Value.bool b := by
      intro z
      subst z
      cases x <;> first
        | (cases rx; exact e rfl)
        | (cases rx; done)
        | (obtain ⟨t, z⟩ := rx; cases z)
    exact wpAny_is_other (by cases x <;> first | (cases rx; rfl) | (obtain ⟨t, z⟩ := rx; cases z; rfl)) ne ⟨.bl false, H, I, rfl, by simpa [e] using q⟩
theorem isB_v {H : Hp} {v : V} {d : PyData} {b : Bool} (h : Dq K H v d) : decide (v = .bl b) = isBl b d := by
  cases h <;> simp [isBl]
theorem sim_isB {ta : TE} {pa : PE'} {b : Bool} (sa : Sim K ta pa) : Sim K (tOp rIsBA ta (tC (.bl b))) (pIsB b pa) := fun B Z A H0 M σ H ρ R E h Q q =>
  sa B Z A H0 M σ H ρ _ E h _ fun v x ρ1 H1 h1 E1 d1 => ⟨b, rfl, by rw [isB_v d1]; exact q _ _ _ _ h1 E1 (.bl _)⟩
/-- type(x) is T -/
def rIsT2 : R2 := fun x y H Q => ∃ a b, x = .ty a ∧ y = .ty b ∧ Q (.bl (decide (a = b))) H
theorem op_isT2 {X : Cx} : OpR X (compareOp .Is) rIsT2 := op_isTyB
theorem tyB_of {Z : Addr → Prop} {H : Hp} {v : V} {d : PyData} (h : Dq K (veil Z H) v d) (no : noO d = true) : TyB K H v (tyN d) := by
  cases h with
  | ob hc hl r => cases no
  | non => exact .non
  | bl b => exact .bl b
  | int i => exact .int i
  | str x => exact .str x
  | lst h r => exact .lst (.of (veil_grow _ _ _ _ h))
  | tup h r => exact .tup (grow_t (veil_grow _ _) h)
  | dct h r => rw [dks_ty r]; exact .dK (veil_grow _ _ _ _ h)
/-- type(x), of an object of a class of the program's own too -/
def rTypA (K : PySem.W.Frag) : List V → Hp → VK → Prop := fun xs H Q => rTyp K xs H Q ∨ ∃ (a C dx : Addr) (ws : List (Str × V)), xs = [.ref a] ∧ H a = some (.ins C dx ws) ∧ Q (.ref C) H
theorem call_typeA {X : Cx} : CallR X (.type "type") (rTypA X.K) := by
  intro pins s σ H vs us Q I r h
  rcases h with h | ⟨a, C, dx, ws, rfl, ha, q⟩
  · exact call_type1 pins s σ H _ _ Q I r h
  · rw [Vals.ref1 r]
    obtain ⟨_, _, _, e, _⟩ := (show ObjOk X.prog X.w H s.heap a (.ins C dx ws) from I.hok a _ ha)
    obtain ⟨hh, g, d, t, os⟩ := s
    exact PyProof.Rows.call_type_obj e rfl ⟨.ref C, H, I, rfl, q⟩
def rIsT2A : R2 := fun x y H Q => rIsT2 x y H Q ∨ ∃ (C : Addr) (b : String), x = .ref C ∧ y = .ty b ∧ Q (.bl false) H
theorem op_isT2A {X : Cx} : OpR X (compareOp .Is) rIsT2A := by
  intro pins s σ H x y v u Q I rx ry h
  rcases h with h | ⟨C, b, rfl, rfl, q⟩
  · exact op_isT2 pins s σ H x y v u Q I rx ry h
  · cases (show v = Value.ref C from rx)
    cases (show u = Value.type b from ry)
    exact wpAny_is_other rfl (fun z => nomatch z) ⟨.bl false, H, I, rfl, q⟩
theorem ob_of {H : Hp} {v : V} {d : PyData} (h : Dq K H v d) (no : noO d ≠ true) : ∃ (a C dx : Addr) (ws : List (Str × V)), v = .ref a ∧ H a = some (.ins C dx ws) ∧ tyN d = "object" := by
  cases h with
  | ob hc hl r => exact ⟨_, _, _, _, rfl, hl, rfl⟩
  | dct hl r => exact absurd (noO_of (by rw [dks_ty r]; decide)) no
  | _ => exact absurd rfl no
theorem sim_isTy {ta : TE} {pa : PE'} {T : String} (sa : Sim K ta pa) (nT : T ≠ "object" := by decide) : Sim K (tOp rIsT2A (tCB (rTypA K) (tCons ta tNil)) (tC (.ty T))) (pIsTy T pa) := fun B Z A H0 M σ H ρ R E h Q q =>
  sa B Z A H0 M σ H ρ _ E h _ fun v x ρ1 H1 h1 E1 d1 => by
    by_cases no : noO x = true
    · exact .inl ⟨v, tyN x, rfl, tyB_of d1 no, .inl ⟨tyN x, T, rfl, rfl, q _ _ _ _ h1 E1 (.bl _)⟩⟩
    · obtain ⟨a, C, dx, ws, rfl, hl, ht⟩ := ob_of d1 no
      have e : decide (tyN x = T) = false := decide_eq_false (by rw [ht]; exact fun z => nT z.symm)
      rw [e] at h1
      exact .inr ⟨a, C, dx, ws, rfl, veil_grow _ _ _ _ hl, .inr ⟨C, T, rfl, rfl, q _ _ _ _ h1 E1 (.bl _)⟩⟩
theorem sim_chain {f g : Int → Int → Bool} {ta tb tc : TE} {pa pb pc : PE'} (sa : Sim K ta pa) (sb : Sim K tb pb) (sc : Sim K tc pc) :
    Sim K (tChain (rI0 fun i j => .bl (f i j)) (rI0 fun i j => .bl (g i j)) ta tb tc) (pChain f g pa pb pc) := fun B Z A H0 M σ H ρ R E h Q q =>
  two sa sb E h fun v w x y ρ2 H2 h2 E2 d1 d2 => by
    obtain ⟨i, rfl, h3⟩ := asI_of h2
    obtain ⟨j, rfl, h4⟩ := asI_of h3
    clear h2 h3
    have h2 := h4
    rw [of_int d1, of_int d2]
    refine ⟨i, j, rfl, rfl, f i j, rfl, ?_⟩
    cases hf : f i j with
    | true =>
      rw [if_pos hf] at h2
      rw [if_pos rfl]
      refine sc B Z A H0 M σ H2 ρ2 _ E2 h2 _ fun v3 z ρ3 H3 h3 E3 d3 => ?_
      obtain ⟨k, rfl, h3⟩ := asI_of h3
      rw [of_int d3]
      exact ⟨j, k, rfl, rfl, q _ _ _ _ h3 E3 (.bl _)⟩
    | false =>
      rw [hf, if_neg Bool.false_ne_true] at h2
      rw [if_neg Bool.false_ne_true]
      exact q _ _ _ _ h2 E2 (.bl _)
theorem sim_nil : SimA K tNil pNil := fun B Z A H0 M σ H ρ R E h Q q => q [] [] ρ H h E .nil
theorem sim_cons {ta : TE} {tr : TA} {pa : PE'} {pr : PA'} (sa : Sim K ta pa) (sr : SimA K tr pr) : SimA K (tCons ta tr) (pCons pa pr) := fun B Z A H0 M σ H ρ R E h Q q =>
  sa B Z A H0 M σ H ρ _ E h _ fun v x ρ1 H1 h1 E1 d1 => sr B Z _ H0 M σ H1 ρ1 _ E1.anchor h1 _ fun vs ds ρ2 H2 h2 E2 d2 =>
    q _ _ ρ2 H2 h2 (E2.weak E1.anch) (.cons (dp_grow E2.anch _ _ d1) d2)
theorem Dq.new {Z : Addr → Prop} {H : Hp} {p : Addr} {vs : List V} {ds : List PyData} (hz : ¬ Z p) (h : H p = none) (r : Dqs K (veil Z H) vs ds) : Dq K (veil Z (upd H p (.tup vs))) (.ref p) (.tuple ds) :=
  .tup (.of (veil_on hz upd_same)) (dps_grow (grow_veil (grow_new h)) _ _ r)
theorem Dq.newL {Z : Addr → Prop} {H : Hp} {p : Addr} {vs : List V} {ds : List PyData} (hz : ¬ Z p) (h : H p = none) (r : Dqs K (veil Z H) vs ds) : Dq K (veil Z (upd H p (.lst vs))) (.ref p) (.list ds) :=
  .lst (veil_on hz upd_same) (dps_grow (grow_veil (grow_new h)) _ _ r)
theorem sz5 {n : Nat} (h : n ≤ 100000) : n ≤ sizeLine := Nat.le_trans h (by decide)
theorem sim_tup {ta : TA} {pa : PA'} (sa : SimA K ta pa) : Sim K (tTup ta) (pTup pa) := fun B Z A H0 M σ H ρ R E h Q q =>
  sa B Z A H0 M σ H ρ _ E h _ fun vs ds ρ1 H1 h1 E1 d1 => ⟨sz5 (by rw [dqs_len d1]; exact h1.1), fun p hp => q _ _ _ _ h1.2 (E1.grown (grow_new hp)) (.new (E1.veiled hp) hp d1)⟩
theorem sim_lst {ta : TA} {pa : PA'} (sa : SimA K ta pa) : SimL K (tLst ta) (pLst pa) := fun B Z A H0 M σ H ρ R E h Q q =>
  sa B Z A H0 M σ H ρ _ E h _ fun vs ds ρ1 H1 h1 E1 d1 => ⟨sz5 (by rw [dqs_len d1]; exact h1.1), fun p hp => q p vs ds ρ1 H1 h1.2 E1 hp d1⟩
theorem sim_new {te : TE} {pa : PA'} (sa : SimL K te pa) : Sim K te (pNew pa) := fun B Z A H0 M σ H ρ R E h Q q =>
  sa B Z A H0 M σ H ρ _ E h _ fun l vs ds ρ1 H1 h1 E1 hl d1 => q _ _ _ _ h1 (E1.grown (grow_new hl)) (.newL (E1.veiled hl) hl d1)
theorem at_dq {H : Hp} {vs : List V} {ds : List PyData} {i : Int} {d : PyData} (r : Dqs K H vs ds) (h : atI ds i = some d) : ∃ v, atI vs i = some v ∧ Dq K H v d := by
  unfold atI at h ⊢
  rw [dqs_len r]
  cases e : ixN ds.length i with
  | none =>
    rw [e] at h
    cases h
  | some j =>
    rw [e] at h
    exact dqs_get r h
theorem sim_ix {ta tb : TE} {pa pb : PE'} (sa : Sim K ta pa) (sb : Sim K tb pb) : Sim K (tOp (rIx K) ta tb) (pIx pa pb) := fun B Z A H0 M σ H ρ R E h Q q =>
  two sa sb E h fun v w x y ρ2 H2 h2 E2 d1 d2 => by
    cases x with
    | list ds =>
      obtain ⟨i, rfl, h2⟩ := asI_of h2
      obtain ⟨d, hd, h2⟩ := asO_of h2
      rw [of_int d2]
      cases d1 with
      | lst hl r =>
        obtain ⟨u, hu, du⟩ := at_dq r hd
        exact .inl ⟨_, _, i, u, rfl, rfl, .of (veil_grow _ _ _ _ hl), hu, q _ _ _ _ h2 E2 du⟩
    | tuple ds =>
      obtain ⟨i, rfl, h2⟩ := asI_of h2
      obtain ⟨d, hd, h2⟩ := asO_of h2
      rw [of_int d2]
      cases d1 with
      | tup hl r =>
        obtain ⟨u, hu, du⟩ := at_dq r hd
        exact .inr (.inl ⟨_, _, i, u, rfl, rfl, grow_t (veil_grow _ _) hl, hu, q _ _ _ _ h2 E2 du⟩)
    | _ => exact h2.elim
theorem sim_andV {ta tb : TE} {pa pb : PE'} (sa : Sim K ta pa) (sb : Sim K tb pb) : Sim K (tAndV ta tb) (pAndV pa pb) := fun B Z A H0 M σ H ρ R E h Q q =>
  sa B Z A H0 M σ H ρ _ E h _ fun v x ρ1 H1 h1 E1 d1 => by
    obtain ⟨c, rfl, h1⟩ := asB_of h1
    refine ⟨c, of_bl d1, ?_⟩
    cases c with
    | true => exact sb B Z A H0 M σ H1 ρ1 _ E1 h1 _ q
    | false => exact q _ _ _ _ h1 E1 (.bl _)
theorem sim_orV {ta tb : TE} {pa pb : PE'} (sa : Sim K ta pa) (sb : Sim K tb pb) : Sim K (tOrV ta tb) (pOrV pa pb) := fun B Z A H0 M σ H ρ R E h Q q =>
  sa B Z A H0 M σ H ρ _ E h _ fun v x ρ1 H1 h1 E1 d1 => by
    obtain ⟨c, rfl, h1⟩ := asB_of h1
    refine ⟨c, of_bl d1, ?_⟩
    cases c with
    | true => exact q _ _ _ _ h1 E1 (.bl _)
    | false => exact sb B Z A H0 M σ H1 ρ1 _ E1 h1 _ q
theorem sim_notV {ta : TE} {pa : PE'} (sa : Sim K ta pa) : Sim K (tNotV ta) (pNotV pa) := fun B Z A H0 M σ H ρ R E h Q q =>
  sa B Z A H0 M σ H ρ _ E h _ fun v x ρ1 H1 h1 E1 d1 => by
    obtain ⟨c, rfl, h1⟩ := asB_of h1
    exact ⟨c, of_bl d1, q _ _ _ _ h1 E1 (.bl _)⟩
theorem sim_ifE {tt : TT} {ta tb : TE} {pt : PT'} {pa pb : PE'} (st : SimT K tt pt) (sa : Sim K ta pa) (sb : Sim K tb pb) : Sim K (tIf tt ta tb) (pIfE pt pa pb) := fun B Z A H0 M σ H ρ R E h Q q =>
  st B Z A H0 M σ H ρ _ E h _ fun c ρ1 H1 h1 E1 => by
    cases c with
    | true => exact sa B Z A H0 M σ H1 ρ1 _ E1 h1 _ q
    | false => exact sb B Z A H0 M σ H1 ρ1 _ E1 h1 _ q
theorem sim_tst {ta : TE} {pa : PE'} (sa : Sim K ta pa) : SimT K (tTest ta) (pTst pa) := fun B Z A H0 M σ H ρ R E h Q q =>
  sa B Z A H0 M σ H ρ _ E h _ fun v x ρ1 H1 h1 E1 d1 => by
    obtain ⟨c, rfl, h1⟩ := asB_of h1
    exact ⟨c, of_bl d1, q _ _ _ h1 E1⟩
theorem sim_tB {ta : TE} {pa : PE'} (sa : Sim K ta pa) : SimT K (tB ta) (pTst pa) := fun B Z A H0 M σ H ρ R E h Q q =>
  sa B Z A H0 M σ H ρ _ E h _ fun v x ρ1 H1 h1 E1 d1 => by
    obtain ⟨c, rfl, h1⟩ := asB_of h1
    exact ⟨c, of_bl d1, q _ _ _ h1 E1⟩
theorem sim_and {ta tb : TT} {pa pb : PT'} (sa : SimT K ta pa) (sb : SimT K tb pb) : SimT K (tAnd ta tb) (pAnd pa pb) := fun B Z A H0 M σ H ρ R E h Q q =>
  sa B Z A H0 M σ H ρ _ E h _ fun c ρ1 H1 h1 E1 => by
    cases c with
    | true => exact sb B Z A H0 M σ H1 ρ1 _ E1 h1 _ q
    | false => exact q _ _ _ h1 E1
theorem sim_or {ta tb : TT} {pa pb : PT'} (sa : SimT K ta pa) (sb : SimT K tb pb) : SimT K (tOr ta tb) (pOr pa pb) := fun B Z A H0 M σ H ρ R E h Q q =>
  sa B Z A H0 M σ H ρ _ E h _ fun c ρ1 H1 h1 E1 => by
    cases c with
    | true => exact q _ _ _ h1 E1
    | false => exact sb B Z A H0 M σ H1 ρ1 _ E1 h1 _ q
theorem sim_not {ta : TT} {pa : PT'} (sa : SimT K ta pa) : SimT K (tNot ta) (pNot pa) := fun B Z A H0 M σ H ρ R E h Q q =>
  sa B Z A H0 M σ H ρ _ E h _ fun c ρ1 H1 h1 E1 => q _ _ _ h1 E1
theorem sim_tru {ta : TE} {pa : PE'} (sa : Sim K ta pa) : SimT K (tTru K ta) (pTru pa) := fun B Z A H0 M σ H ρ R E h Q q =>
  sa B Z A H0 M σ H ρ _ E h _ fun v x ρ1 H1 ⟨b, hb, h1⟩ E1 d1 => by
    refine ⟨b, ?_, q _ _ _ h1 E1⟩
    cases d1 with
    | non => cases hb; rfl
    | bl c => cases hb; rfl
    | int i => cases hb; rfl
    | str z => cases hb
    | @lst a vs ds hl r =>
      cases hb
      refine .inl ⟨vs, .of (veil_grow _ _ _ _ hl), ?_⟩
      cases r <;> rfl
    | @tup a vs ds hl r =>
      cases hb
      refine .inr (.inl ⟨vs, grow_t (veil_grow _ _) hl, ?_⟩)
      cases r <;> rfl
    | dct hl r => cases hb
    | ob hc hl r => cases hb
end
end Pu
namespace Pu
open PySem L2
section
variable {K : PySem.W.Frag} {B Z : Addr → Prop} {A H0 H : Hp} {M : Nat → Option Addr} {σ : St} {ρ : En}

/-! ### the environment behind a store -/
theorem join_set {σ : St} {i : Nat} {v : V} (h : i < σ.length) : ((σ.set i (some v))[i]?).join = some v := by
  rw [List.getElem?_set_self h]
  rfl
theorem join_ne {σ : St} {i j : Nat} {o : Option V} (h : i ≠ j) : ((σ.set i o)[j]?).join = (σ[j]?).join := by
  rw [List.getElem?_set_ne h]
theorem set_at {ρ : En} {i j : Nat} {c c' : Cell} (h : (ρ.set i c)[j]? = some c') : (i = j ∧ i < ρ.length ∧ c' = c) ∨ (i ≠ j ∧ ρ[j]? = some c') := by
  by_cases e : i = j
  · subst e
    have hl : i < ρ.length := by
      have := (List.getElem?_eq_some_iff.mp h).1
      rwa [List.length_set] at this
    rw [List.getElem?_set_self hl] at h
    exact .inl ⟨rfl, hl, (Option.some.inj h).symm⟩
  · rw [List.getElem?_set_ne e] at h
    exact .inr ⟨e, h⟩
theorem EnvR.setD (E : EnvR K B Z A H0 M σ H ρ) {i : Nat} {v : V} {d : PyData} (h : Dq K (veil (hid Z M) H) v d) : EnvR K B Z A H0 M (σ.set i (some v)) H (cellSet ρ i (.d d)) := by
  rw [cellSet_eq]
  refine { E with len := by rw [List.length_set, List.length_set]; exact E.len, cell := fun j c hc => ?_ }
  rcases set_at hc with ⟨rfl, hl, rfl⟩ | ⟨ne, hc⟩
  · rw [join_set (by rw [E.len]; exact hl)]
    exact ⟨v, rfl, h⟩
  · rw [join_ne ne]
    exact E.cell j c hc
/-- a place gets a new list for its own -/
theorem EnvR.setO (E : EnvR K B Z A H0 M σ H ρ) {i : Nat} {l : Addr} {vs : List V} {ds : List PyData} (hi : i ≠ 0) (hl : H l = none) (r : Dqs K (veil (hid Z M) H) vs ds) :
    EnvR K B Z A H0 (fun j => if j = i then some l else M j) (σ.set i (some (.ref l))) (upd H l (.lst vs)) (cellSet ρ i (.own ds)) := by
  rw [cellSet_eq]
  have nM : ∀ j, M j ≠ some l := fun j m => E.live j l m hl
  have nZ : ¬ Z l := fun z => E.zl l z hl
  have keep : ∀ a, H a ≠ none → (upd H l (.lst vs)) a = H a := fun a h => upd_ne (fun e => h (e ▸ hl))
  have gv : Grow (veil (hid Z M) H) (veil (hid Z fun j => if j = i then some l else M j) (upd H l (.lst vs))) := fun a o h => by
    obtain ⟨h1, h2⟩ := veil_off h
    refine veil_on ?_ ((keep a (by rw [h2]; intro z; cases z)).trans h2)
    rintro (z | ⟨j, m⟩)
    · exact h1 (.inl z)
    · have m : (if j = i then some l else M j) = some a := m
      by_cases e : j = i
      · rw [if_pos e] at m
        cases m
        rw [hl] at h2
        cases h2
      · rw [if_neg e] at m
        exact h1 (.inr ⟨j, m⟩)
  refine ⟨by rw [List.length_set, List.length_set]; exact E.len, fun a b u h1 h2 => ?_, fun j u m => ?_, fun j u m => ?_, fun a z => ?_, fun a o nb h => ?_, fun j u m => ?_, fun b hb => ?_, E.anch.trans gv, fun j c hc => ?_⟩
  · by_cases ea : a = i
    · by_cases eb : b = i
      · rw [ea, eb]
      · rw [if_pos ea] at h1
        rw [if_neg eb] at h2
        cases h1
        exact absurd h2 (nM b)
    · by_cases eb : b = i
      · rw [if_neg ea] at h1
        rw [if_pos eb] at h2
        cases h2
        exact absurd h1 (nM a)
      · rw [if_neg ea] at h1
        rw [if_neg eb] at h2
        exact E.inj a b u h1 h2
  · by_cases e : j = i
    · rw [if_pos e] at m
      cases m
      rw [upd_same]
      intro z; cases z
    · rw [if_neg e] at m
      rw [keep u (E.live j u m)]
      exact E.live j u m
  · by_cases e : j = i
    · rw [if_pos e] at m
      cases m
      exact nZ
    · rw [if_neg e] at m
      exact E.off j u m
  · rw [keep a (E.zl a z)]
    exact E.zl a z
  · have q := E.ext a o nb h
    rw [keep a (by rw [q]; intro z; cases z)]
    exact q
  · by_cases e : j = i
    · rw [if_pos e] at m
      cases m
      by_cases nb : B l
      · exact .inl nb
      · refine .inr ?_
        cases q : H0 l with
        | none => rfl
        | some o =>
          rw [E.ext l o nb q] at hl
          cases hl
    · rw [if_neg e] at m
      exact E.own j u m
  · rw [if_neg (Ne.symm hi)]
    exact E.m0 b hb
  · rcases set_at hc with ⟨rfl, hk, rfl⟩ | ⟨ne, hc⟩
    · rw [join_set (by rw [E.len]; exact hk)]
      exact ⟨l, vs, rfl, if_pos rfl, upd_same, dps_grow gv _ _ r⟩
    · rw [join_ne ne]
      have h := E.cell j c hc
      have mj : (fun j => if j = i then some l else M j) j = M j := if_neg (Ne.symm ne)
      cases c with
      | no => trivial
      | d x =>
        obtain ⟨v, e, h⟩ := h
        exact ⟨v, e, dp_grow gv _ _ h⟩
      | own xs =>
        obtain ⟨u, ws, e, m, hu, h⟩ := h
        exact ⟨u, ws, e, mj.trans m, (keep u (by rw [hu]; intro z; cases z)).trans hu, dps_grow gv _ _ h⟩
      | dct kvs =>
        obtain ⟨u, ws, e, m, hu, h⟩ := h
        exact ⟨u, ws, e, mj.trans m, (keep u (by rw [hu]; intro z; cases z)).trans hu, kvs_grow gv h⟩
      | box =>
        obtain ⟨b, e, m, r, rows, at_, hb, h0, hr, h1, h2, h3⟩ := h
        exact ⟨b, e, mj.trans m, r, rows, at_, (keep b (by rw [hb]; intro z; cases z)).trans hb, h0, gv _ _ hr, h1, h2, h3⟩
      | obj nm fs =>
        obtain ⟨u, C, dx, ws, e, m, hc, hu, h⟩ := h
        exact ⟨u, C, dx, ws, e, mj.trans m, hc, (keep u (by rw [hu]; intro z; cases z)).trans hu, fds_grow gv h⟩
/-- what a place owns has changed -/
theorem EnvR.putO (E : EnvR K B Z A H0 M σ H ρ) {i : Nat} {l : Addr} {vs : List V} {ds : List PyData} (hs : (σ[i]?).join = some (.ref l)) (hm : M i = some l) (r : Dqs K (veil (hid Z M) H) vs ds) (k : cellAt ρ i ≠ .box) :
    EnvR K B Z A H0 M σ (upd H l (.lst vs)) (cellSet ρ i (.own ds)) := by
  rw [cellSet_eq]
  have hd : hid Z M l := .inr ⟨i, hm⟩
  have gv : Grow (veil (hid Z M) H) (veil (hid Z M) (upd H l (.lst vs))) := fun a o h => by
    obtain ⟨h1, h2⟩ := veil_off h
    exact veil_on h1 ((upd_ne fun e => h1 (by rw [e]; exact hd)).trans h2)
  have nn : ∀ a, H a ≠ none → (upd H l (.lst vs)) a ≠ none := fun a h => by
    by_cases e : a = l
    · rw [e, upd_same]
      intro z; cases z
    · rw [upd_ne e]
      exact h
  refine ⟨by rw [List.length_set]; exact E.len, E.inj, fun j u m => nn u (E.live j u m), E.off, fun a z => nn a (E.zl a z), fun a o nb h => ?_, E.own, E.m0, E.anch.trans gv, fun j c hc => ?_⟩
  · have ne : a ≠ l := fun e => by
      rcases E.own i l hm with b | n
      · exact nb (e ▸ b)
      · rw [e, n] at h
        cases h
    rw [upd_ne ne]
    exact E.ext a o nb h
  · rcases set_at hc with ⟨rfl, hk, rfl⟩ | ⟨ne, hc⟩
    · exact ⟨l, vs, hs, hm, upd_same, dps_grow gv _ _ r⟩
    · have other : ∀ u, M j = some u → u ≠ l := fun u m e => ne (E.inj i j l hm (e ▸ m))
      exact (E.cell j c hc).grow gv fun u m o ho => (upd_ne (other u m)).trans ho
theorem own_at (E : EnvR K B Z A H0 M σ H ρ) {i : Nat} {ds : List PyData} (h : cellAt ρ i = .own ds) : ∃ l vs, σ[i]? = some (some (.ref l)) ∧ M i = some l ∧ H l = some (.lst vs) ∧ Dqs K (veil (hid Z M) H) vs ds := by
  obtain ⟨l, vs, e, m, hl, r⟩ := E.cell i _ (cellAt_some h (by intro z; cases z))
  refine ⟨l, vs, ?_, m, hl, r⟩
  cases q : σ[i]? with
  | none =>
    rw [q] at e
    cases e
  | some o =>
    rw [q] at e
    exact congrArg some e
end

section
variable {K : PySem.W.Frag}
/-! ### statements -/
theorem s_next : SimS K tNext pNext := fun B Z A H0 M σ H ρ D G E h C => C.nx M σ H ρ E h
theorem s_seq {t u : TS} {p q : PS'} (st : SimS K t p) (su : SimS K u q) : SimS K (tSeq t u) (pSeq p q) := fun B Z A H0 M σ H ρ D G E h C =>
  st B Z A H0 M σ H ρ _ _ E h ⟨fun M σ H ρ E h => su B Z A H0 M σ H ρ D G E h C, C.bk, C.ct, C.rt⟩
theorem s_if {tt : TT} {t u : TS} {pt : PT'} {p q : PS'} (sc : SimT K tt pt) (st : SimS K t p) (su : SimS K u q) : SimS K (tIfS tt t u) (pIfS pt p q) := fun B Z A H0 M σ H ρ D G E h C =>
  sc B Z A H0 M σ H ρ _ E h _ fun c ρ1 H1 h1 E1 => by
    cases c with
    | true => exact st B Z A H0 M σ H1 ρ1 D G E1 h1 C
    | false => exact su B Z A H0 M σ H1 ρ1 D G E1 h1 C
theorem hid_z {Z : Addr → Prop} {M : Nat → Option Addr} {H : Hp} : Grow (veil (hid Z M) H) (veil Z H) := veil_less fun _ z => .inl z
theorem hid_zb (E : EnvR K B Z A H0 M σ H ρ) : Grow (veil (hid Z M) H) (veil (fun a => Z a ∨ B a) H) :=
  veil_less fun a z => z.elim Or.inl fun b => Or.inr ⟨0, E.m0 a b⟩
theorem s_ret {te : TE} {pa : PE'} (sa : Sim K te pa) : SimS K (tRet te) (pRet pa) := fun B Z A H0 M σ H ρ D G E h C =>
  sa B Z A H0 M σ H ρ _ E h _ fun v d ρ1 H1 h1 E1 d1 => C.rt M σ H1 ρ1 v d E1 h1 (dp_grow (hid_zb E1) _ _ d1)
theorem s_retN : SimS K tRetN pRetN := fun B Z A H0 M σ H ρ D G E h C => C.rt M σ H ρ .non .none E h .non
theorem s_retO {i : Nat} (hi : i ≠ 0 := by decide) : SimS K (tRet (tVar i)) (pRetO i) := fun B Z A H0 M σ H ρ D G E h C => by
  obtain ⟨ds, hc, h⟩ := asOwn_of h
  obtain ⟨l, vs, e, m, hl, r⟩ := own_at E hc
  exact ⟨.ref l, e, C.rt M σ H ρ _ _ E h (.lst (veil_on (fun z => z.elim (E.off i l m) fun b => hi (E.inj i 0 l m (E.m0 l b))) hl) (dps_grow (hid_zb E) _ _ r))⟩
theorem s_brk : SimS K tBreak pBrk := fun B Z A H0 M σ H ρ D G E h C => C.bk M σ H ρ E h
theorem s_cnt : SimS K tCont pCnt := fun B Z A H0 M σ H ρ D G E h C => C.ct M σ H ρ E h
theorem s_drop {te : TE} {pa : PE'} (sa : Sim K te pa) : SimS K (tDrop te) (pDrop pa) := fun B Z A H0 M σ H ρ D G E h C =>
  sa B Z A H0 M σ H ρ _ E h _ fun v d ρ1 H1 h1 E1 d1 => C.nx M σ H1 ρ1 E1 h1
/-! targets -/
def SimG (K : PySem.W.Frag) (g : TG) (pg : PG') : Prop := ∀ B Z A H0 M σ H ρ v d R, EnvR K B Z A H0 M σ H ρ → Dq K (veil (hid Z M) H) v d → pg d ρ R →
  ∀ Q : St → Hp → Prop, (∀ σ' ρ', R ρ' → EnvR K B Z A H0 M σ' H ρ' → Q σ' H) → g v σ H Q
theorem g_name {i : Nat} : SimG K (gName i) (pgN i) := fun B Z A H0 M σ H ρ v d R E hd h Q q => q _ _ h (E.setD hd)
def SimGs (K : PySem.W.Frag) (g : TGs) (is : List Nat) : Prop := ∀ B Z A H0 M σ H ρ vs ds, EnvR K B Z A H0 M σ H ρ → Dqs K (veil (hid Z M) H) vs ds → ds.length = is.length →
  ∀ Q : St → Hp → Prop, (∀ σ', EnvR K B Z A H0 M σ' H (setAll ρ is ds) → Q σ' H) → g vs σ H Q
theorem gs_nil : SimGs K gNil [] := fun B Z A H0 M σ H ρ vs ds E r hl Q q => by
  cases r with
  | nil => exact ⟨rfl, q _ E⟩
  | cons _ _ => cases hl
theorem gs_cons {i : Nat} {u : TGs} {is : List Nat} (su : SimGs K u is) : SimGs K (gCons (gName i) u) (i :: is) := fun B Z A H0 M σ H ρ vs ds E r hl Q q => by
  cases r with
  | nil => cases hl
  | cons h r => exact ⟨_, _, rfl, su B Z A H0 M _ H _ _ _ (E.setD h) r (by simpa using hl) Q q⟩
theorem g_tup {n : Nat} {u : TGs} {is : List Nat} (su : SimGs K u is) (hn : is.length = n) : SimG K (gTup K n u) (pgT is) := fun B Z A H0 M σ H ρ v d R E hd h Q q => by
  obtain ⟨ds, rfl, hl, h⟩ := asT_of h
  cases hd with
  | tup ht r => exact ⟨_, _, rfl, grow_t (veil_grow _ _) ht, by rw [dqs_len r, hl, hn], su B Z A H0 M σ H ρ _ ds E r hl Q fun σ' E' => q σ' _ h E'⟩
theorem s_asg {te : TE} {pa : PE'} {g : TG} {pg : PG'} (sa : Sim K te pa) (sg : SimG K g pg) : SimS K (tAsg te g) (pAsg pa pg) := fun B Z A H0 M σ H ρ D G E h C =>
  sa B Z A H0 M σ H ρ _ E h _ fun v d ρ1 H1 h1 E1 d1 => sg B Z A H0 M σ H1 ρ1 v d _ E1 d1 h1 _ fun σ' ρ' hR E' => C.nx M σ' H1 ρ' E' hR
theorem s_asgO {te : TE} {pa : PA'} {i : Nat} (sa : SimL K te pa) : SimS K (tAsg te (gName i)) (pAsgO pa i) := fun B Z A H0 M σ H ρ D G E h C =>
  sa B Z A H0 M σ H ρ _ E h.2 _ fun l vs ds ρ1 H1 h1 E1 hl d1 => C.nx _ _ _ _ (E1.setO h.1 hl d1) h1
theorem s_app {i : Nat} {te : TE} {pa : PE'} (sa : Sim K te pa) : SimS K (tDrop (tBM K "list" rAppend (tVar i) (tCons te tNil))) (pApp i pa) := fun B Z A H0 M σ H ρ D G E h C => by
  obtain ⟨ds, hc, h⟩ := asOwn_of h
  obtain ⟨l, vs, e, m, hl, r⟩ := own_at E hc
  refine ⟨.ref l, e, .inl ⟨rfl, vs, .of hl⟩, sa B Z A H0 M σ H ρ _ E h _ fun v d ρ1 H1 h1 E1 d1 => ?_⟩
  obtain ⟨ds1, hc1, h2, h3⟩ := asOwn_of h1
  obtain ⟨l1, vs1, e1, m1, hl1, r1⟩ := own_at E1 hc1
  rw [m] at m1
  cases m1
  refine ⟨l, vs1, v, rfl, rfl, hl1, Nat.lt_of_lt_of_le (by rw [dqs_len r1]; exact h2) (by decide), ?_⟩
  refine C.nx M σ _ _ (E1.putO (by rw [e1]; rfl) m (dqs_app r1 (.cons d1 .nil)) (by rw [hc1]; intro z; cases z)) h3
/-! loops -/
theorem s_forL {tl : TE} {g : TG} {tb : TS} {pl : PE'} {pg : PG'} {pb : PS'} (sl : Sim K tl pl) (sg : SimG K g pg) (sb : SimS K tb pb) :
    SimS K (tFor (iList K tl) g tb) (pFor (pLO pl) pg pb) := fun B Z A H0 M σ H ρ D G E h C =>
  sl B Z A H0 M σ H ρ _ E h _ fun v x ρ1 H1 h1 E1 d1 => by
    obtain ⟨ds, rfl, I, i0, is, ie⟩ := asL_of h1
    cases d1 with
    | @lst a vs _ hs r =>
      refine ⟨a, rfl, ⟨vs, .of (veil_grow _ _ _ _ hs)⟩, for_list (fun i σ' H' => ∃ M' ρ', EnvR K B Z (veil (hid Z M) H1) H0 M' σ' H' ρ' ∧ I i ρ') ⟨M, ρ1, E1.anchor, i0⟩
        (fun i σ' H' _ ⟨M', ρ', E', _⟩ => .of (veil_grow _ _ _ _ (E'.anch _ _ hs))) (fun i y σ' H' hy ⟨M', ρ', E', hI⟩ => ?_) fun σ' H' ⟨M', ρ', E', hI⟩ => C.nx M' σ' H' ρ' (E'.weak E1.anch) (ie ρ' (dqs_len r ▸ hI))⟩
      obtain ⟨d, hd, dd⟩ := dqs_got r hy
      exact sg B Z _ H0 M' σ' H' ρ' y d _ E' (dp_grow E'.anch _ _ dd) (is i d ρ' hd hI) _ fun σ2 ρ2 hR E2 => sb B Z _ H0 M' σ2 H' ρ2 _ _ E2 hR
        ⟨fun M σ H ρ E h => ⟨M, ρ, E, h⟩, fun M σ H ρ E h => C.nx M σ H ρ (E.weak E1.anch) h, fun M σ H ρ E h => ⟨M, ρ, E, h⟩, fun M σ H ρ v d E h k => C.rt M σ H ρ v d (E.weak E1.anch) h k⟩
theorem s_forT {tl : TE} {g : TG} {tb : TS} {pl : PE'} {pg : PG'} {pb : PS'} (sl : Sim K tl pl) (sg : SimG K g pg) (sb : SimS K tb pb) :
    SimS K (tFor (iTup K tl) g tb) (pFor (pTO pl) pg pb) := fun B Z A H0 M σ H ρ D G E h C =>
  sl B Z A H0 M σ H ρ _ E h _ fun v x ρ1 H1 h1 E1 d1 => by
    obtain ⟨ds, rfl, I, i0, is, ie⟩ := asT_of h1
    cases d1 with
    | @tup a vs _ hs r =>
      refine ⟨a, rfl, ⟨vs, grow_t (veil_grow _ _) hs⟩, for_tup (fun i σ' H' => ∃ M' ρ', EnvR K B Z (veil (hid Z M) H1) H0 M' σ' H' ρ' ∧ I i ρ') ⟨M, ρ1, E1.anchor, i0⟩
        (fun i σ' H' _ ⟨M', ρ', E', _⟩ => grow_t (veil_grow _ _) (grow_t E'.anch hs)) (fun i y σ' H' hy ⟨M', ρ', E', hI⟩ => ?_) fun σ' H' ⟨M', ρ', E', hI⟩ => C.nx M' σ' H' ρ' (E'.weak E1.anch) (ie ρ' (dqs_len r ▸ hI))⟩
      obtain ⟨d, hd, dd⟩ := dqs_got r hy
      exact sg B Z _ H0 M' σ' H' ρ' y d _ E' (dp_grow E'.anch _ _ dd) (is i d ρ' hd hI) _ fun σ2 ρ2 hR E2 => sb B Z _ H0 M' σ2 H' ρ2 _ _ E2 hR
        ⟨fun M σ H ρ E h => ⟨M, ρ, E, h⟩, fun M σ H ρ E h => C.nx M σ H ρ (E.weak E1.anch) h, fun M σ H ρ E h => ⟨M, ρ, E, h⟩, fun M σ H ρ v d E h k => C.rt M σ H ρ v d (E.weak E1.anch) h k⟩
theorem s_rng1 {ta : TA} {g : TG} {tb : TS} {pa : PA'} {pg : PG'} {pb : PS'} (sa : SimA K ta pa) (sg : SimG K g pg) (sb : SimS K tb pb) (hn : ∀ ρ R, pa ρ R → pa ρ fun x ρ1 => x.length = 1 ∧ R x ρ1) : SimS K (tFor (iRng1 ta) g tb) (pRng pa pg pb) := fun B Z A H0 M σ H ρ D G E h C =>
  sa B Z A H0 M σ H ρ _ E (hn _ _ h) _ fun vs x ρ1 H1 ⟨hx, lo, hi, hx2, hb, I, i0, is, ie⟩ E1 d1 => by
    rcases hx2 with ⟨rfl, rfl⟩ | rfl
    · have e : vs = [.int hi] := dqs_of_ints (ns := [hi]) d1
      subst e
      refine ⟨hi, rfl, hb.2.2.1, hb.2.2.2, for_range (lo := 0) (n := hi.toNat) (fun i σ' H' => ∃ M' ρ', EnvR K B Z (veil (hid Z M) H1) H0 M' σ' H' ρ' ∧ I i ρ') ⟨M, ρ1, E1.anchor, i0⟩ (fun i σ' H' hlt ⟨M', ρ', E', hI⟩ => ?_)
        fun σ' H' ⟨M', ρ', E', hI⟩ => C.nx M' σ' H' ρ' (E'.weak E1.anch) (ie ρ' (by rw [Int.sub_zero]; exact hI))⟩
      exact sg B Z _ H0 M' σ' H' ρ' _ _ _ E' (.int _) (is i ρ' (by omega) hI) _ fun σ2 ρ2 hR E2 => sb B Z _ H0 M' σ2 H' ρ2 _ _ E2 hR
        ⟨fun M σ H ρ E h => ⟨M, ρ, E, h⟩, fun M σ H ρ E h => C.nx M σ H ρ (E.weak E1.anch) h, fun M σ H ρ E h => ⟨M, ρ, E, h⟩, fun M σ H ρ v d E h k => C.rt M σ H ρ v d (E.weak E1.anch) h k⟩
    · exact absurd hx (by simp)
theorem s_rng2 {ta : TA} {g : TG} {tb : TS} {pa : PA'} {pg : PG'} {pb : PS'} (sa : SimA K ta pa) (sg : SimG K g pg) (sb : SimS K tb pb) (hn : ∀ ρ R, pa ρ R → pa ρ fun x ρ1 => x.length = 2 ∧ R x ρ1) : SimS K (tFor (iRng2 ta) g tb) (pRng pa pg pb) := fun B Z A H0 M σ H ρ D G E h C =>
  sa B Z A H0 M σ H ρ _ E (hn _ _ h) _ fun vs x ρ1 H1 ⟨hx, lo, hi, hx2, hb, I, i0, is, ie⟩ E1 d1 => by
    rcases hx2 with ⟨rfl, rfl⟩ | rfl
    · exact absurd hx (by simp)
    · have e : vs = [.int lo, .int hi] := dqs_of_ints (ns := [lo, hi]) d1
      subst e
      refine ⟨lo, hi, rfl, hb, for_range (lo := lo) (n := (hi - lo).toNat) (fun i σ' H' => ∃ M' ρ', EnvR K B Z (veil (hid Z M) H1) H0 M' σ' H' ρ' ∧ I i ρ') ⟨M, ρ1, E1.anchor, i0⟩ (fun i σ' H' hlt ⟨M', ρ', E', hI⟩ => ?_)
        fun σ' H' ⟨M', ρ', E', hI⟩ => C.nx M' σ' H' ρ' (E'.weak E1.anch) (ie ρ' hI)⟩
      exact sg B Z _ H0 M' σ' H' ρ' _ _ _ E' (.int _) (is i ρ' (by omega) hI) _ fun σ2 ρ2 hR E2 => sb B Z _ H0 M' σ2 H' ρ2 _ _ E2 hR
        ⟨fun M σ H ρ E h => ⟨M, ρ, E, h⟩, fun M σ H ρ E h => C.nx M σ H ρ (E.weak E1.anch) h, fun M σ H ρ E h => ⟨M, ρ, E, h⟩, fun M σ H ρ v d E h k => C.rt M σ H ρ v d (E.weak E1.anch) h k⟩
theorem s_while {tt : TT} {tb : TS} {pt : PT'} {pb : PS'} (st : SimT K tt pt) (sb : SimS K tb pb) : SimS K (tWhile tt tb) (pWhile pt pb) := fun B Z A H0 M σ H ρ D G E ⟨W, ⟨m, w0⟩, ws⟩ C => by
  refine ⟨fun n σ' H' => ∃ M' ρ', EnvR K B Z A H0 M' σ' H' ρ' ∧ W n ρ', ⟨m, M, ρ, E, w0⟩, fun n σ' H' ⟨M', ρ', E', w⟩ => ?_⟩
  refine st B Z A H0 M' σ' H' ρ' _ E' (ws n ρ' w) _ fun c ρ1 H1 h1 E1 => ?_
  cases c with
  | false => exact C.nx M' σ' H1 ρ1 E1 h1
  | true =>
    refine ⟨fun σ2 H2 => ∃ m', m' < n ∧ ∃ M' ρ', EnvR K B Z A H0 M' σ2 H2 ρ' ∧ W m' ρ', fun _ _ h => h, ?_⟩
    exact sb B Z A H0 M' σ' H1 ρ1 _ _ E1 h1 ⟨fun M σ H ρ E ⟨m', l, w⟩ => ⟨m', l, M, ρ, E, w⟩, fun M σ H ρ E h => C.nx M σ H ρ E h, fun M σ H ρ E ⟨m', l, w⟩ => ⟨m', l, M, ρ, E, w⟩, C.rt⟩
end
end Pu
namespace Pu
open PySem L2
/-! ### promises over data -/
def plus (Z : Addr → Prop) (b : Addr) : Addr → Prop := fun a => Z a ∨ a = b
/-- a def of data: n arguments -/
def spP (K : PySem.W.Frag) (n : Nat) (S : FS) : Sp := fun vs H Q _ => vs.length = n ∧ ∃ (Z : Addr → Prop) (ds : List PyData) (k : PyData → Prop), (∀ a, Z a → H a ≠ none) ∧ Dqs K (veil Z H) vs ds ∧
  S ds k ∧ ∀ d v H', k d → Grow H H' → Dq K (veil Z H') v d → Q v H'
/-- a def that draws: the box, then n arguments -/
def spB (K : PySem.W.Frag) (n : Nat) (S : FS) : Sp := fun vs H Q _ => ∃ (b : Addr) (us : List V), vs = .ref b :: us ∧ us.length = n ∧ ∃ (Z : Addr → Prop) (ds : List PyData) (k : PyData → Prop), ¬ Z b ∧ (∀ a, Z a → H a ≠ none) ∧
  BoxAt K (plus Z b) H b ∧ Dqs K (veil (plus Z b) H) us ds ∧
  S ds k ∧ ∀ d v H', k d → (∀ a o, a ≠ b → H a = some o → H' a = some o) → BoxAt K (plus Z b) H' b → Dq K (veil (plus Z b) H') v d → Q v H'
section
variable {K : PySem.W.Frag}
theorem sim_call {n : Nat} {S : FS} {E : XK} {ta : TA} {pa : PA'} (sa : SimA K ta pa) : Sim K (tCall (spP K n S) [] E ta) (pCall n S pa) := fun B Z A H0 M σ H ρ R EE h Q q =>
  sa B Z A H0 M σ H ρ _ EE h _ fun vs ds ρ1 H1 h1 E1 d1 => by
    rw [List.append_nil]
    refine ⟨by rw [dqs_len d1]; exact h1.1, hid Z M, ds, _, ?_, d1, h1.2, fun d v H' k g dv => q v d ρ1 H' k (E1.grown g) dv⟩
    rintro a (z | ⟨i, m⟩)
    · exact E1.zl a z
    · exact E1.live i a m
theorem hid_plus {Z : Addr → Prop} {M : Nat → Option Addr} {i : Nat} {b : Addr} (m : M i = some b) : plus (fun a => hid Z M a ∧ a ≠ b) b = hid Z M := by
  funext a
  apply propext
  constructor
  · rintro (⟨h, _⟩ | e)
    · exact h
    · exact .inr ⟨i, e ▸ m⟩
  · intro h
    by_cases e : a = b
    · exact .inr e
    · exact .inl ⟨h, e⟩
/-- behind a draw -/
theorem EnvR.drawn {B Z : Addr → Prop} {A H0 H H' : Hp} {M : Nat → Option Addr} {σ : L2.St} {ρ : En} (E : EnvR K B Z A H0 M σ H ρ) {i : Nat} {b : Addr} (m : M i = some b) (hc : cellAt ρ i = .box) (g : ∀ a o, a ≠ b → H a = some o → H' a = some o) (hb : BoxAt K (hid Z M) H' b) :
    EnvR K B Z A H0 M σ H' ρ := by
  have nb : H' b ≠ none := by
    obtain ⟨r, rows, at_, h, _⟩ := hb
    rw [h]
    intro z; cases z
  have nn : ∀ a, H a ≠ none → H' a ≠ none := fun a h => by
    by_cases e : a = b
    · rw [e]; exact nb
    · cases q : H a with
      | none => exact absurd q h
      | some o =>
        rw [g a o e q]
        intro z; cases z
  have gv : Grow (veil (hid Z M) H) (veil (hid Z M) H') := fun a o h => by
    obtain ⟨h1, h2⟩ := veil_off h
    exact veil_on h1 (g a o (fun e => h1 (.inr ⟨i, by rw [e]; exact m⟩)) h2)
  refine ⟨E.len, E.inj, fun j u k => nn u (E.live j u k), E.off, fun a z => nn a (E.zl a z), fun a o nB h => ?_, E.own, E.m0, E.anch.trans gv, fun j c h => ?_⟩
  · refine g a o (fun e => ?_) (E.ext a o nB h)
    rcases E.own i b m with x | x
    · exact nB (by rw [e]; exact x)
    · rw [e, x] at h
      cases h
  · by_cases e : j = i
    · subst e
      have h2 := cellAt_some hc (by intro z; cases z)
      rw [h2] at h
      cases h
      obtain ⟨b', e1, m1, _⟩ := E.cell j _ h2
      rw [m] at m1
      cases m1
      exact ⟨b, e1, m, hb⟩
    · exact (E.cell j c h).grow gv fun u mu o ho => g u o (fun z => e (E.inj j i b (by rw [← z]; exact mu) m)) ho
theorem box_at {B Z : Addr → Prop} {A H0 H : Hp} {M : Nat → Option Addr} {σ : L2.St} {ρ : En} (E : EnvR K B Z A H0 M σ H ρ) {i : Nat} (hc : cellAt ρ i = .box) : ∃ b, σ[i]? = some (some (.ref b)) ∧ M i = some b ∧ BoxAt K (hid Z M) H b := by
  obtain ⟨b, e, m, h⟩ := E.cell i _ (cellAt_some hc (by intro z; cases z))
  refine ⟨b, ?_, m, h⟩
  cases q : σ[i]? with
  | none =>
    rw [q] at e
    cases e
  | some o =>
    rw [q] at e
    exact congrArg some e
theorem sim_callB {n i : Nat} {S : FS} {E : XK} {ta : TA} {pa : PA'} (sa : SimA K ta pa) : Sim K (tCall (spB K n S) [] E (tCons (tVar i) ta)) (pCallB n S i pa) := fun B Z A H0 M σ H ρ R EE ⟨hc, h⟩ Q q => by
  obtain ⟨b, e, m, _⟩ := box_at EE hc
  refine ⟨.ref b, e, sa B Z A H0 M σ H ρ _ EE h _ fun vs ds ρ1 H1 h1 E1 d1 => ?_⟩
  obtain ⟨b1, e1, m1, hb⟩ := box_at E1 h1.1
  rw [m] at m1
  cases m1
  rw [List.append_nil]
  refine ⟨b, vs, rfl, by rw [dqs_len d1]; exact h1.2.1, fun a => hid Z M a ∧ a ≠ b, ds, _, fun z => z.2 rfl, ?_, by rw [hid_plus m]; exact hb, by rw [hid_plus m]; exact d1, h1.2.2, fun d v H' k g hb' dv => ?_⟩
  · rintro a ⟨z | ⟨j, mj⟩, _⟩
    · exact E1.zl a z
    · exact E1.live j a mj
  · rw [hid_plus m] at hb' dv
    exact q v d ρ1 H' k (E1.drawn m h1.1 g hb') dv
end

/-! ### a def keeps its promise -/
def startE (N : List Str) (ds : List PyData) : En := ds.map Cell.d ++ List.replicate (N.length - ds.length) .no
theorem no_hid {Z : Addr → Prop} : hid Z (fun _ => none) = Z := by
  funext a
  exact propext ⟨fun h => h.elim id fun ⟨_, z⟩ => (nomatch z), fun h => Or.inl h⟩
theorem one_hid {Z : Addr → Prop} {b : Addr} : hid Z (fun i => if i = 0 then some b else none) = plus Z b := by
  funext a
  refine propext ⟨fun h => h.elim Or.inl fun ⟨i, z⟩ => ?_, fun h => h.elim Or.inl fun e => Or.inr ⟨0, by rw [e]; rfl⟩⟩
  have z : (if i = 0 then some b else none) = some a := z
  by_cases e : i = 0
  · rw [if_pos e] at z
    cases z
    exact .inr rfl
  · rw [if_neg e] at z
    cases z
section
variable {K : PySem.W.Frag}
theorem start_len {N : List Str} {vs : List V} (h : vs.length ≤ N.length) : (L2.start N vs).length = N.length := by
  unfold L2.start
  rw [List.length_append, List.length_map, List.length_replicate]
  omega
theorem startE_len {N : List Str} {vs : List PyData} (h : vs.length ≤ N.length) : (startE N vs).length = N.length := by
  unfold startE
  rw [List.length_append, List.length_map, List.length_replicate]
  omega
theorem start_cell {N : List Str} {H : Hp} {vs : List V} {ds : List PyData} (r : Dqs K H vs ds) {i : Nat} {c : Cell} (h : (startE N ds)[i]? = some c) : c = .no ∨ ∃ v d, c = .d d ∧ ((L2.start N vs)[i]?).join = some v ∧ Dq K H v d := by
  unfold startE at h
  by_cases hi : i < ds.length
  · rw [List.getElem?_append_left (by rw [List.length_map]; exact hi), List.getElem?_map, List.getElem?_eq_getElem hi] at h
    obtain ⟨v, hv, dv⟩ := dqs_get r (List.getElem?_eq_getElem hi)
    refine .inr ⟨v, ds[i], (Option.some.inj h).symm, ?_, dv⟩
    unfold L2.start
    rw [List.getElem?_append_left (by rw [List.length_map, dqs_len r]; exact hi), List.getElem?_map, hv]
    rfl
  · rw [List.getElem?_append_right (by rw [List.length_map]; omega), List.getElem?_replicate] at h
    split at h
    · exact .inl (Option.some.inj h).symm
    · cases h
section
variable {P : Program} {w : World} {mg : Str → Option Value} {base : Heap}
/-- the body of a def as a term, its pure reading -/
def Body (P : Program) (w : World) (K : PySem.W.Frag) (mg : Str → Option Value) (base : Heap) (N : List Str) (qual : Str) (st : Stmt) (f : Addr) (k : Nat) (go : PS' → Prop) : Prop :=
  ∀ (cdv : Value) (A : Around) (outer : List Env) (s : Shared) (H : Hp) (E : XK), Room k (A.deeper (PyProof.Rows.envOfC qual (defScope st) s.heap.objs.size f cdv)) →
    ∃ t p, PSs (cxOf CX0 P w K mg base N qual (defScope st) f cdv A outer s H E).nox (defBody st) t ∧ SimS K t p ∧ go p
theorem ok_P {x qual : Str} {st : Stmt} {f : Addr} {fd : FuncData} {N ps : List Str} {k n : Nat} {S : FS} (F : Fun K x qual st f fd) (Sc : FnScope N ps (defScope st)) (hn : ps.length = n)
    (hb : Body P w K mg base N qual st f k fun p => ∀ ds c, ds.length = n → S ds c → p ⟨fun _ => c .none, fun d _ => c d, fun _ => False, fun _ => False⟩ (startE N ds)) : FnOk P w K mg base CX0 (k + 1) f fd ps (spP K n S) := by
  refine F.ok Sc (fun vs H Q E h => by rw [h.1, hn]) (fun cdv A outer s H vs Q E hr h => ?_)
  obtain ⟨hl, Z, ds, c, hz, r, hS, q⟩ := h
  obtain ⟨t, p, ht, hs, hp⟩ := hb cdv A outer s H E hr
  have hnl : ps.length ≤ N.length := by
    have := congrArg List.length Sc.pre
    rw [List.length_take] at this
    omega
  have dl := dqs_len r
  refine ⟨t, ht, hs (fun _ => False) Z (fun _ => none) H (fun _ => none) _ H (startE N ds) _ _ ?_ (hp ds c (by omega) hS) ?_⟩
  · refine ⟨by rw [start_len (by omega), startE_len (by omega)], fun _ _ _ z => (nomatch z), fun _ _ z => (nomatch z), fun _ _ z => (nomatch z), hz, fun _ _ _ h => h, fun _ _ z => (nomatch z), fun _ z => False.elim z, fun _ _ z => (nomatch z), fun i cc hc => ?_⟩
    rcases start_cell r hc with rfl | ⟨v, d, rfl, e, dv⟩
    · trivial
    · refine ⟨v, e, ?_⟩
      rw [no_hid]
      exact dv
  · refine ⟨fun M σ H' ρ E' k => q .none .non H' k (fun a o e => E'.ext a o id e) .non, fun _ _ _ _ _ z => z.elim, fun _ _ _ _ _ z => z.elim, fun M σ H' ρ v d E' k dv => q d v H' k (fun a o e => E'.ext a o id e) (dp_grow (veil_less fun _ z => .inl z) _ _ dv)⟩
theorem ok_B {x qual : Str} {st : Stmt} {f : Addr} {fd : FuncData} {N ps : List Str} {k n : Nat} {S : FS} (F : Fun K x qual st f fd) (Sc : FnScope N ps (defScope st)) (hn : ps.length = n + 1)
    (hb : Body P w K mg base N qual st f k fun p => ∀ ds c, ds.length = n → S ds c → p ⟨fun ρ => cellAt ρ 0 = .box ∧ c .none, fun d ρ => cellAt ρ 0 = .box ∧ c d, fun _ => False, fun _ => False⟩ (.box :: startE N.tail ds)) : FnOk P w K mg base CX0 (k + 1) f fd ps (spB K n S) := by
  refine F.ok Sc (fun vs H Q E h => ?_) (fun cdv A outer s H vs Q E hr h => ?_)
  · obtain ⟨b, us, rfl, hl, _⟩ := h
    rw [List.length_cons, hl, hn]
  obtain ⟨b, us, rfl, hl, Z, ds, c, nz, hz, box, r, hS, q⟩ := h
  obtain ⟨t, p, ht, hs, hp⟩ := hb cdv A outer s H E hr
  have hnl : ps.length ≤ N.length := by
    have := congrArg List.length Sc.pre
    rw [List.length_take] at this
    omega
  have dl := dqs_len r
  have nb : H b ≠ none := by
    obtain ⟨r, rows, at_, h, _⟩ := box
    rw [h]
    intro z; cases z
  have s0 : L2.start N (.ref b :: us) = some (.ref b) :: L2.start N.tail us := by
    unfold L2.start
    rw [List.map_cons, List.length_cons, List.length_tail, List.cons_append]
    congr 3
    omega
  have fin : ∀ M σ H' ρ, EnvR K (fun a => a = b) Z (fun _ => none) H M σ H' ρ → cellAt ρ 0 = .box → ∀ v d, c d → Dq K (veil (plus Z b) H') v d → Q v H' := fun M σ H' ρ E' hc v d k dv => by
    obtain ⟨b', e1, m1, hb'⟩ := box_at E' hc
    have m := E'.m0 b rfl
    rw [m] at m1
    cases m1
    obtain ⟨r, rows, at_, h, h0, hr, h1, h2, h3⟩ := hb'
    refine q d v H' k (fun a o ne e => E'.ext a o ne e) ⟨r, rows, at_, h, h0, ?_, h1, h2, h3⟩ dv
    refine veil_less ?_ _ _ hr
    rintro a (z | e)
    · exact .inl z
    · exact .inr ⟨0, by rw [e]; exact m⟩
  refine ⟨t, ht, hs (fun a => a = b) Z (fun _ => none) H (fun i => if i = 0 then some b else none) _ H (.box :: startE N.tail ds) _ _ ?_ (hp ds c (by omega) hS) ?_⟩
  · rw [s0]
    refine ⟨?_, fun i j l h1 h2 => ?_, fun i l h => ?_, fun i l h => ?_, hz, fun _ _ _ h => h, fun i l h => ?_, fun b' e => (by rw [e]; rfl), fun _ _ z => (nomatch z), fun i cc hc => ?_⟩
    · rw [List.length_cons, List.length_cons, start_len (by rw [List.length_tail]; omega), startE_len (by rw [List.length_tail]; omega)]
    · by_cases ei : i = 0
      · by_cases ej : j = 0
        · rw [ei, ej]
        · rw [if_neg ej] at h2; cases h2
      · rw [if_neg ei] at h1; cases h1
    · by_cases ei : i = 0
      · rw [if_pos ei] at h; cases h; exact nb
      · rw [if_neg ei] at h; cases h
    · by_cases ei : i = 0
      · rw [if_pos ei] at h; cases h; exact nz
      · rw [if_neg ei] at h; cases h
    · by_cases ei : i = 0
      · rw [if_pos ei] at h; cases h; exact .inl rfl
      · rw [if_neg ei] at h; cases h
    · cases i with
      | zero =>
        have e : cc = .box := (Option.some.inj hc).symm
        rw [e]
        exact ⟨b, rfl, rfl, by rw [one_hid]; exact box⟩
      | succ i =>
        rw [List.getElem?_cons_succ] at hc ⊢
        rcases start_cell r hc with rfl | ⟨v, d, rfl, e, dv⟩
        · trivial
        · refine ⟨v, e, ?_⟩
          rw [one_hid]
          exact dv
  · exact ⟨fun M σ H' ρ E' k => fin M σ H' ρ E' k.1 .non .none k.2 .non, fun _ _ _ _ _ z => z.elim, fun _ _ _ _ _ z => z.elim, fun M σ H' ρ v d E' k dv => fin M σ H' ρ E' k.1 v d k.2 dv⟩
end
end
end Pu
namespace Pu
open PySem L2
section
variable {X : Cx}
theorem either {f : Value → Value → Sem Value} {r r' : R2} (h : OpR X f r) (h' : OpR X f r') : OpR X f fun x y H Q => r x y H Q ∨ r' x y H Q := fun pins s σ H x y v u Q I rx ry q =>
  q.elim (h pins s σ H x y v u Q I rx ry) (h' pins s σ H x y v u Q I rx ry)
/-- + of two ints, tuples, lists -/
def rPlus (K : PySem.W.Frag) : R2 := fun x y H Q => rI0 (fun i j => .int (i + j)) x y H Q ∨ rCatA K x y H Q ∨ rCat x y H Q
theorem op_plus : OpR X (binaryOp .Add) (rPlus X.K) := either op_add (either op_catA op_cat)
/-- a slice of a list or a tuple -/
def rCut (K : PySem.W.Frag) : V → Option Int → Option Int → Hp → VK → Prop := fun x lo hi H Q => rSlL K x lo hi H Q ∨ rSlA K x lo hi H Q
theorem sl_cut : SlR X (rCut X.K) := SlR.or sl_list sl_tupA
def rLen (K : PySem.W.Frag) : List V → Hp → VK → Prop := fun xs H Q => ∃ x n, xs = [x] ∧ LenV K x H n ∧ Q (.int (n : Nat)) H
theorem c_len : CallR X (.builtin "len") (rLen X.K) := call_len
def rTupOf (K : PySem.W.Frag) : List V → Hp → VK → Prop := fun xs H Q => ∃ p ys, xs = [.ref p] ∧ ((SqL K H p ys ∧ ∀ l, H l = none → Q (.ref l) (upd H l (.tup ys))) ∨ (SqT K H p ys ∧ Q (.ref p) H))
theorem c_tuple : CallR X (.type "tuple") (rTupOf X.K) := call_tuple_of
def rInt1 : List V → Hp → VK → Prop := fun xs H Q => (∃ i, xs = [.int i] ∧ Q (.int i) H) ∨ ∃ k, xs = [.bl k] ∧ Q (.int (if k then 1 else 0)) H
theorem c_int : CallR X (.type "int") rInt1 := call_int1
end

def lenD : PyData → Option Nat
  | .list ds => some ds.length
  | .tuple ds => some ds.length
  | _ => none
def fLen : FS := fun ds k => match ds with
  | [d] => ∃ n, lenD d = some n ∧ k (.int (n : Nat))
  | _ => False
def fTuple : FS := fun ds k => match ds with
  | [d] => asS d fun xs => k (.tuple xs)
  | _ => False
def fInt : FS := fun ds k => match ds with
  | [.int i] => k (.int i)
  | [.bool b] => k (.int (if b then 1 else 0))
  | _ => False
def fSorted : FS := fun ds k => match ds with
  | [d] => ∃ ns : List Int, (d = .list (ns.map PyData.int) ∨ d = .tuple (ns.map PyData.int)) ∧ ∀ ns' : List Int, ns'.Perm ns → ns'.Pairwise (· ≤ ·) → k (.list (ns'.map PyData.int))
  | _ => False
theorem fLen_of {ds : List PyData} {k : PyData → Prop} (h : fLen ds k) : ∃ d n, ds = [d] ∧ lenD d = some n ∧ k (.int (n : Nat)) := by
  unfold fLen at h
  split at h
  · obtain ⟨n, h1, h2⟩ := h
    exact ⟨_, n, rfl, h1, h2⟩
  · exact h.elim
theorem fTuple_of {ds : List PyData} {k : PyData → Prop} (h : fTuple ds k) : ∃ xs, (ds = [.list xs] ∨ ds = [.tuple xs]) ∧ k (.tuple xs) := by
  unfold fTuple at h
  split at h
  · rename_i d
    cases d <;> first | exact ⟨_, .inl rfl, h⟩ | exact ⟨_, .inr rfl, h⟩ | exact h.elim
  · exact h.elim
theorem fInt_of {ds : List PyData} {k : PyData → Prop} (h : fInt ds k) : (∃ i, ds = [.int i] ∧ k (.int i)) ∨ ∃ b : Bool, ds = [.bool b] ∧ k (.int (if b then 1 else 0)) := by
  unfold fInt at h
  split at h
  · exact .inl ⟨_, rfl, h⟩
  · exact .inr ⟨_, rfl, h⟩
  · exact h.elim
def pSorted (pa : PA') : PA' := fun ρ R => pa ρ fun ds ρ1 => ∃ ns : List Int, ds = [.list (ns.map PyData.int)] ∧ ∀ ns' : List Int, ns'.Perm ns → ns'.Pairwise (· ≤ ·) → R (ns'.map PyData.int) ρ1
abbrev PO' := En → (Option Int → En → Prop) → Prop
def pNoP : PO' := fun ρ R => R none ρ
def pPart (pa : PE') : PO' := fun ρ R => pa ρ fun x ρ1 => asI x fun i => R (some i) ρ1
def cutP (xs : List PyData) (lo hi : Option Int) : List PyData := (xs.drop (HT.sIx xs.length 0 lo)).take (HT.sIx xs.length xs.length hi - HT.sIx xs.length 0 lo)
def cutD (d : PyData) (lo hi : Option Int) (k : PyData → Prop) : Prop := match d with
  | .list xs => k (.list (cutP xs lo hi))
  | .tuple xs => k (.tuple (cutP xs lo hi))
  | _ => False
def pCut (pa : PE') (pl ph : PO') : PE' := fun ρ R => pa ρ fun x ρ1 => pl ρ1 fun l ρ2 => ph ρ2 fun h ρ3 => cutD x l h fun d => R d ρ3
def addD (x y : PyData) (k : PyData → Prop) : Prop := match x, y with
  | .int i, .int j => k (.int (i + j))
  | .tuple xs, .tuple ys => xs.length + ys.length ≤ 100000 ∧ k (.tuple (xs ++ ys))
  | .list xs, .list ys => xs.length + ys.length ≤ 100000 ∧ k (.list (xs ++ ys))
  | _, _ => False
def pPlus (pa pb : PE') : PE' := fun ρ R => pa ρ fun x ρ1 => pb ρ1 fun y ρ2 => addD x y fun d => R d ρ2
/-- a flat datum as a value -/
def vd : PyData → V
  | .bool b => .bl b
  | .int i => .int i
  | .str x => .str x
  | _ => .non
def flatD : PyData → Bool
  | .none => true
  | .bool _ => true
  | .int _ => true
  | .str _ => true
  | _ => false
def pInD (neg : Bool) (pa pb : PE') : PE' := fun ρ R => pa ρ fun x ρ1 => pb ρ1 fun y ρ2 => asS y fun ds => flatD x = true ∧ ds.all flatD = true ∧ R (.bool (if neg then !inV (vd x) (ds.map vd) else inV (vd x) (ds.map vd))) ρ2

section
variable {K : PySem.W.Frag}
def SimO (K : PySem.W.Frag) (to : TO) (p : PO') : Prop := ∀ B Z A H0 M σ H ρ R, EnvR K B Z A H0 M σ H ρ → p ρ R →
  ∀ Q : Option Int → Hp → Prop, (∀ o ρ' H2, R o ρ' → EnvR K B Z A H0 M σ H2 ρ' → Q o H2) → to σ H Q
theorem o_none : SimO K tNoPart pNoP := fun B Z A H0 M σ H ρ R E h Q q => q none ρ H h E
theorem o_some {ta : TE} {pa : PE'} (sa : Sim K ta pa) : SimO K (tPart ta) (pPart pa) := fun B Z A H0 M σ H ρ R E h Q q =>
  sa B Z A H0 M σ H ρ _ E h _ fun v x ρ1 H1 h1 E1 d1 => by
    obtain ⟨i, rfl, h2⟩ := asI_of h1
    exact ⟨i, of_int d1, q _ _ _ h2 E1⟩
theorem cut_dq {H : Hp} {vs : List V} {ds : List PyData} (r : Dqs K H vs ds) (lo hi : Option Int) : Dqs K H (cutV vs lo hi) (cutP ds lo hi) := by
  unfold cutV cutP
  rw [dqs_len r]
  exact dqs_take _ (dqs_drop _ r)
theorem cut_whole {ds : List PyData} {lo hi : Option Int} (h : HT.sIx ds.length 0 lo = 0 ∧ HT.sIx ds.length ds.length hi = ds.length) : cutP ds lo hi = ds := by
  unfold cutP
  rw [h.1, h.2]
  simp
theorem sim_cut {ta : TE} {tl th : TO} {pa : PE'} {pl ph : PO'} (sa : Sim K ta pa) (sl : SimO K tl pl) (sh : SimO K th ph) : Sim K (tSl (rCut K) ta tl th) (pCut pa pl ph) := fun B Z A H0 M σ H ρ R E h Q q =>
  sa B Z A H0 M σ H ρ _ E h _ fun v x ρ1 H1 h1 E1 d1 => sl B Z _ H0 M σ H1 ρ1 _ E1.anchor h1 _ fun l ρ2 H2 h2 E2 => sh B Z _ H0 M σ H2 ρ2 _ E2.anchor h2 _ fun u ρ3 H3 h3 E3 => by
    have d3 := dp_grow (E2.anch.trans E3.anch) _ _ d1
    have E4 := (E3.weak E2.anch).weak E1.anch
    cases x with
    | list ds =>
      cases d3 with
      | lst hl r => exact .inl ⟨_, _, rfl, .of (veil_grow _ _ _ _ hl), fun p hp => q _ _ _ _ h3 (E4.grown (grow_new hp)) (.newL (E4.veiled hp) hp (cut_dq r l u))⟩
    | tuple ds =>
      cases d3 with
      | @tup a vs _ hl r =>
        refine .inr ⟨a, vs, rfl, grow_t (veil_grow _ _) hl, fun w => ?_, fun w p hp => ?_⟩
        · rw [dqs_len r] at w
          have h5 : R (.tuple (cutP ds l u)) ρ3 := h3
          rw [cut_whole w] at h5
          exact q _ _ _ _ h5 E4 (.tup hl r)
        · exact q _ _ _ _ h3 (E4.grown (grow_new hp)) (.new (E4.veiled hp) hp (cut_dq r l u))
    | _ => exact h3.elim
theorem nil_of {H : Hp} {ds : List PyData} (r : Dqs K H [] ds) : ds = [] := by cases r; rfl
theorem nil_to {H : Hp} {vs : List V} (r : Dqs K H vs []) : vs = [] := by cases r; rfl
theorem sim_plus {ta tb : TE} {pa pb : PE'} (sa : Sim K ta pa) (sb : Sim K tb pb) : Sim K (tOp (rPlus K) ta tb) (pPlus pa pb) := fun B Z A H0 M σ H ρ R E h Q q =>
  two sa sb E h fun v w x y ρ2 H2 h2 E2 d1 d2 => by
    cases x with
    | int i =>
      cases y with
      | int j =>
        rw [of_int d1, of_int d2]
        exact .inl ⟨i, j, rfl, rfl, q _ _ _ _ h2 E2 (.int _)⟩
      | _ => exact h2.elim
    | list xs =>
      cases y with
      | list ys =>
        cases d1 with
        | lst hl r =>
          cases d2 with
          | lst hl2 r2 =>
            exact .inr (.inr ⟨_, _, _, _, rfl, rfl, veil_grow _ _ _ _ hl, veil_grow _ _ _ _ hl2, sz5 (by rw [dqs_len r, dqs_len r2]; exact h2.1), fun p hp => q _ _ _ _ h2.2 (E2.grown (grow_new hp)) (.newL (E2.veiled hp) hp (dqs_app r r2))⟩)
      | _ => exact h2.elim
    | tuple xs =>
      cases y with
      | tuple ys =>
        cases d1 with
        | @tup a vs _ hl r =>
          cases d2 with
          | @tup b ws _ hl2 r2 =>
            refine .inr (.inl ⟨a, b, vs, ws, rfl, rfl, grow_t (veil_grow _ _) hl, grow_t (veil_grow _ _) hl2, sz5 (by rw [dqs_len r, dqs_len r2]; exact h2.1), fun e => ?_, fun _ e => ?_, fun _ _ p hp => ?_⟩)
            · subst e
              have ex := nil_of r
              subst ex
              exact q _ _ _ _ h2.2 E2 (.tup hl2 r2)
            · subst e
              have ey := nil_of r2
              subst ey
              have h5 := h2.2
              rw [List.append_nil] at h5
              exact q _ _ _ _ h5 E2 (.tup hl r)
            · exact q _ _ _ _ h2.2 (E2.grown (grow_new hp)) (.new (E2.veiled hp) hp (dqs_app r r2))
      | _ => exact h2.elim
    | _ => exact h2.elim
theorem vd_of {H : Hp} {v : V} {d : PyData} (h : Dq K H v d) (f : flatD d = true) : v = vd d ∧ flatV v = true := by
  cases h <;> first | exact ⟨rfl, rfl⟩ | cases f
theorem vds_of {H : Hp} : ∀ {vs : List V} {ds : List PyData}, Dqs K H vs ds → ds.all flatD = true → vs = ds.map vd ∧ vs.all flatV = true
  | _, _, .nil, _ => ⟨rfl, rfl⟩
  | _, _, .cons h r, f => by
    rw [List.all_cons, Bool.and_eq_true] at f
    obtain ⟨e1, f1⟩ := vd_of h f.1
    obtain ⟨e2, f2⟩ := vds_of r f.2
    exact ⟨by rw [e1, e2]; rfl, by rw [List.all_cons, f1, f2]; rfl⟩
theorem sim_inD {neg : Bool} {ta tb : TE} {pa pb : PE'} (sa : Sim K ta pa) (sb : Sim K tb pb) : Sim K (tOp (rIn K neg) ta tb) (pInD neg pa pb) := fun B Z A H0 M σ H ρ R E h Q q =>
  two sa sb E h fun v w x y ρ2 H2 h2 E2 d1 d2 => by
    cases y with
    | list ds =>
      obtain ⟨fx, fs, h3⟩ := h2
      cases d2 with
      | lst hl r =>
        obtain ⟨e1, f1⟩ := vd_of d1 fx
        obtain ⟨e2, f2⟩ := vds_of r fs
        exact ⟨_, _, rfl, .inl (.of (veil_grow _ _ _ _ hl)), f1, f2, by rw [e1, e2]; exact q _ _ _ _ h3 E2 (.bl _)⟩
    | tuple ds =>
      obtain ⟨fx, fs, h3⟩ := h2
      cases d2 with
      | tup hl r =>
        obtain ⟨e1, f1⟩ := vd_of d1 fx
        obtain ⟨e2, f2⟩ := vds_of r fs
        exact ⟨_, _, rfl, .inr (grow_t (veil_grow _ _) hl), f1, f2, by rw [e1, e2]; exact q _ _ _ _ h3 E2 (.bl _)⟩
    | _ => exact h2.elim
/-! built-ins -/
theorem one_of {H : Hp} {vs : List V} {d : PyData} (r : Dqs K H vs [d]) : ∃ v, vs = [v] ∧ Dq K H v d := by
  cases r with
  | cons h r => cases r; exact ⟨_, rfl, h⟩
theorem sim_len {ta : TA} {pa : PA'} (sa : SimA K ta pa) : Sim K (tCB (rLen K) ta) (pFn fLen pa) := fun B Z A H0 M σ H ρ R E h Q q =>
  sa B Z A H0 M σ H ρ _ E h _ fun vs ds ρ1 H1 h1 E1 d1 => by
    obtain ⟨d, n, rfl, hn, h2⟩ := fLen_of h1
    obtain ⟨v, rfl, dv⟩ := one_of d1
    refine ⟨v, n, rfl, ?_, q _ _ _ _ h2 E1 (.int _)⟩
    cases dv with
    | @lst a xs ds hl r => exact .inl ⟨xs, .of (veil_grow _ _ _ _ hl), by rw [dqs_len r]; exact (Option.some.inj hn).symm⟩
    | @tup a xs ds hl r => exact .inr ⟨xs, grow_t (veil_grow _ _) hl, by rw [dqs_len r]; exact (Option.some.inj hn).symm⟩
    | _ => cases hn
theorem sim_tuple {ta : TA} {pa : PA'} (sa : SimA K ta pa) : Sim K (tCB (rTupOf K) ta) (pFn fTuple pa) := fun B Z A H0 M σ H ρ R E h Q q =>
  sa B Z A H0 M σ H ρ _ E h _ fun vs ds ρ1 H1 h1 E1 d1 => by
    obtain ⟨xs, rfl | rfl, h2⟩ := fTuple_of h1
    · obtain ⟨v, rfl, dv⟩ := one_of d1
      cases dv with
      | lst hl r => exact ⟨_, _, rfl, .inl ⟨.of (veil_grow _ _ _ _ hl), fun p hp => q _ _ _ _ h2 (E1.grown (grow_new hp)) (.new (E1.veiled hp) hp r)⟩⟩
    · obtain ⟨v, rfl, dv⟩ := one_of d1
      cases dv with
      | tup hl r => exact ⟨_, _, rfl, .inr ⟨grow_t (veil_grow _ _) hl, q _ _ _ _ h2 E1 (.tup hl r)⟩⟩
theorem sim_int {ta : TA} {pa : PA'} (sa : SimA K ta pa) : Sim K (tCB rInt1 ta) (pFn fInt pa) := fun B Z A H0 M σ H ρ R E h Q q =>
  sa B Z A H0 M σ H ρ _ E h _ fun vs ds ρ1 H1 h1 E1 d1 => by
    rcases fInt_of h1 with ⟨i, rfl, h2⟩ | ⟨b, rfl, h2⟩
    · obtain ⟨v, rfl, dv⟩ := one_of d1
      rw [of_int dv]
      exact .inl ⟨i, rfl, q _ _ _ _ h2 E1 (.int _)⟩
    · obtain ⟨v, rfl, dv⟩ := one_of d1
      rw [of_bl dv]
      exact .inr ⟨b, rfl, q _ _ _ _ h2 E1 (.int _)⟩
theorem sim_sorted {ta : TA} {pa : PA'} (sa : SimA K ta pa) : SimL K (tCB (rSortedI K) ta) (pSorted pa) := fun B Z A H0 M σ H ρ R E h Q q =>
  sa B Z A H0 M σ H ρ _ E h _ fun vs ds ρ1 H1 ⟨ns, e, h2⟩ E1 d1 => by
    subst e
    obtain ⟨v, rfl, dv⟩ := one_of d1
    cases dv with
    | lst hl r =>
      have e := dqs_of_ints r
      subst e
      exact ⟨_, ns, rfl, .of (veil_grow _ _ _ _ hl), fun ns' p pm pw hp => q p _ _ ρ1 H1 (h2 ns' pm pw) E1 hp dqs_ints⟩
end
end Pu
namespace Pu
open PySem L2
section
variable {K : PySem.W.Frag} {B Z : Addr → Prop} {A A1 H0 H H1 : Hp} {M : Nat → Option Addr} {σ σ2 : St} {ρ ρ2 : En} {D : Addr} {vs : List Nat} {u : HO}
/-! ### a list that grows beside the places -/
def wiped (H : Hp) (D : Addr) : Hp := fun a => if a = D then none else H a
theorem wiped_at : wiped H D D = none := if_pos rfl
theorem wiped_ne {a : Addr} (h : a ≠ D) : wiped H D a = H a := if_neg h
theorem wiped_upd (h : H D = some u) : upd (wiped H D) D u = H := by
  funext a
  by_cases e : a = D
  · rw [e, upd_same, h]
  · rw [upd_ne e, wiped_ne e]
theorem hid_ne {a : Addr} (h : a ≠ D) : hid (plus Z D) M a ↔ hid Z M a :=
  ⟨fun z => z.elim (fun y => y.elim Or.inl fun e => absurd e h) Or.inr, fun z => z.elim (fun y => Or.inl (Or.inl y)) Or.inr⟩
theorem veil_in : Grow (veil (hid (plus Z D) M) H) (veil (hid Z M) (wiped H D)) := fun a o h => by
  obtain ⟨h1, h2⟩ := veil_off h
  have ne : a ≠ D := fun e => h1 (.inl (.inr e))
  exact veil_on (fun z => h1 ((hid_ne ne).mpr z)) ((wiped_ne ne).trans h2)
theorem veil_out : Grow (veil (hid Z M) (wiped H D)) (veil (hid (plus Z D) M) H) := fun a o h => by
  obtain ⟨h1, h2⟩ := veil_off h
  have ne : a ≠ D := fun e => by
    rw [e, wiped_at] at h2
    cases h2
  exact veil_on (fun z => h1 ((hid_ne ne).mp z)) ((wiped_ne ne).symm.trans h2)
theorem wiped_none (h : H D = none) : wiped (upd H D u) D = H := by
  funext a
  by_cases e : a = D
  · rw [e, wiped_at, h]
  · rw [wiped_ne e, upd_ne e]
theorem wipe_out {i : Nat} : ∀ {vs : List Nat}, i ∉ vs → (wipe σ vs)[i]? = σ[i]?
  | [], _ => rfl
  | v :: vs, h => by
    unfold wipe
    rw [List.getElem?_set_ne (fun e => h (by rw [e]; exact List.mem_cons_self)), wipe_out fun m => h (List.mem_cons_of_mem _ m)]
theorem wipe_join {i : Nat} {v : V} (h : ((wipe σ vs)[i]?).join = some v) : (σ[i]?).join = some v := by
  cases q : (wipe σ vs)[i]? with
  | none =>
    rw [q] at h
    cases h
  | some o =>
    rw [q] at h
    have h : o = some v := h
    subst h
    rw [(wipe_some q).1]
    rfl
theorem cell_more {i : Nat} {o o' : Option V} {c : Cell} (k : ∀ v, o = some v → o' = some v) (h : CellR K Z M H i o c) : CellR K Z M H i o' c := by
  cases c with
  | no => trivial
  | d x =>
    obtain ⟨v, e, h⟩ := h
    exact ⟨v, k v e, h⟩
  | own xs =>
    obtain ⟨l, vs, e, h⟩ := h
    exact ⟨l, vs, k _ e, h⟩
  | dct kvs =>
    obtain ⟨l, ws, e, h⟩ := h
    exact ⟨l, ws, k _ e, h⟩
  | box =>
    obtain ⟨b, e, h⟩ := h
    exact ⟨b, k _ e, h⟩
  | obj nm fs =>
    obtain ⟨l, C, dx, ws, e, h⟩ := h
    exact ⟨l, C, dx, ws, k _ e, h⟩
theorem cellAt_get : ∀ {ρ : En} {i : Nat} {c : Cell}, ρ[i]? = some c → cellAt ρ i = c
  | [], _, _, h => by simp at h
  | c :: _, 0, _, h => Option.some.inj h
  | _ :: r, i + 1, _, h => cellAt_get (ρ := r) (i := i) (by simpa using h)
/-- the cell of a hidden one and back -/
theorem cell_in {i : Nat} {o : Option V} {c : Cell} (nd : ∀ l, M i = some l → l ≠ D) (h : CellR K Z M (wiped H D) i o c) : CellR K (plus Z D) M H i o c := by
  cases c with
  | no => trivial
  | d x =>
    obtain ⟨v, e, h⟩ := h
    exact ⟨v, e, dp_grow veil_out _ _ h⟩
  | own xs =>
    obtain ⟨l, vs, e, m, hl, h⟩ := h
    exact ⟨l, vs, e, m, (wiped_ne (nd l m)).symm.trans hl, dps_grow veil_out _ _ h⟩
  | dct kvs =>
    obtain ⟨l, ws, e, m, hl, h⟩ := h
    exact ⟨l, ws, e, m, (wiped_ne (nd l m)).symm.trans hl, kvs_grow veil_out h⟩
  | box =>
    obtain ⟨b, e, m, r, rows, at_, hb, h0, hr, h1, h2, h3⟩ := h
    exact ⟨b, e, m, r, rows, at_, (wiped_ne (nd b m)).symm.trans hb, h0, veil_out _ _ hr, h1, h2, h3⟩
  | obj nm fs =>
    obtain ⟨l, C, dx, ws, e, m, hc, hl, h⟩ := h
    exact ⟨l, C, dx, ws, e, m, hc, (wiped_ne (nd l m)).symm.trans hl, fds_grow veil_out h⟩
theorem cell_ex {i : Nat} {o : Option V} {c : Cell} (nd : ∀ l, M i = some l → l ≠ D) (h : CellR K (plus Z D) M H i o c) : CellR K Z M (wiped H D) i o c := by
  cases c with
  | no => trivial
  | d x =>
    obtain ⟨v, e, h⟩ := h
    exact ⟨v, e, dp_grow veil_in _ _ h⟩
  | own xs =>
    obtain ⟨l, vs, e, m, hl, h⟩ := h
    exact ⟨l, vs, e, m, (wiped_ne (nd l m)).trans hl, dps_grow veil_in _ _ h⟩
  | dct kvs =>
    obtain ⟨l, ws, e, m, hl, h⟩ := h
    exact ⟨l, ws, e, m, (wiped_ne (nd l m)).trans hl, kvs_grow veil_in h⟩
  | box =>
    obtain ⟨b, e, m, r, rows, at_, hb, h0, hr, h1, h2, h3⟩ := h
    exact ⟨b, e, m, r, rows, at_, (wiped_ne (nd b m)).trans hb, h0, veil_in _ _ hr, h1, h2, h3⟩
  | obj nm fs =>
    obtain ⟨l, C, dx, ws, e, m, hc, hl, h⟩ := h
    exact ⟨l, C, dx, ws, e, m, hc, (wiped_ne (nd l m)).trans hl, fds_grow veil_in h⟩
/-- a comprehension's block begins: its own places forgotten, its list at D -/
theorem EnvR.enter (E : EnvR K B Z A H0 M σ H ρ) (hv : ∀ v ∈ vs, cellAt ρ v = .no) (hD : H D = none) : EnvR K B (plus Z D) (veil (hid Z M) H) H0 M (wipe σ vs) (upd H D u) ρ := by
  have nM : ∀ i l, M i = some l → l ≠ D := fun i l m e => E.live i l m (by rw [e]; exact hD)
  have keep : ∀ a, H a ≠ none → upd H D u a = H a := fun a h => upd_ne fun e => h (by rw [e]; exact hD)
  refine ⟨by rw [wipe_length]; exact E.len, E.inj, fun i l m => by rw [keep l (E.live i l m)]; exact E.live i l m, fun i l m z => z.elim (E.off i l m) (nM i l m), fun a z => ?_, fun a o nb h => ?_, E.own, E.m0, ?_, fun i c hc => ?_⟩
  · rcases z with z | e
    · rw [keep a (E.zl a z)]
      exact E.zl a z
    · rw [e, upd_same]
      intro z; cases z
  · have q := E.ext a o nb h
    rw [keep a (by rw [q]; intro z; cases z)]
    exact q
  · have g := veil_out (Z := Z) (M := M) (H := upd H D u) (D := D)
    rw [wiped_none hD] at g
    exact g
  · have h := E.cell i c hc
    by_cases hi : i ∈ vs
    · have e := hv i hi
      rw [cellAt_get hc] at e
      rw [e]
      trivial
    · rw [wipe_out hi]
      refine cell_in (nM i) ?_
      rw [wiped_none hD]
      exact h
/-- .. it ends -/
theorem EnvR.leave (E : EnvR K B (plus Z D) A1 H0 M (wipe σ vs) H ρ) (g : Grow A A1) (h0 : H0 D = none) (nZ : ¬ Z D) : EnvR K B Z A H0 M σ (wiped H D) ρ := by
  have nM : ∀ i l, M i = some l → l ≠ D := fun i l m e => E.off i l m (.inr e)
  refine ⟨by rw [← E.len, wipe_length], E.inj, fun i l m => by rw [wiped_ne (nM i l m)]; exact E.live i l m, fun i l m z => E.off i l m (.inl z), fun a z => ?_, fun a o nb h => ?_, E.own, E.m0, (g.trans E.anch).trans veil_in, fun i c hc => cell_more (fun v => wipe_join) (cell_ex (nM i) (E.cell i c hc))⟩
  · rw [wiped_ne (fun e => nZ (by rw [← e]; exact z))]
    exact E.zl a (.inl z)
  · rw [wiped_ne (fun e => by rw [e, h0] at h; cases h)]
    exact E.ext a o nb h
/-- for a turn: what stands at D stays -/
theorem EnvR.hold (E : EnvR K B Z A H0 M σ H ρ) (h : H D = some u) (nM : ∀ i l, M i = some l → l ≠ D) : EnvR K B Z A (upd H0 D u) M σ H ρ := by
  refine { E with ext := fun a o nb k => ?_, own := fun i l m => ?_ }
  · by_cases e : a = D
    · rw [e, upd_same] at k
      rw [e, h]
      exact k
    · rw [upd_ne e] at k
      exact E.ext a o nb k
  · rw [upd_ne (nM i l m)]
    exact E.own i l m
theorem EnvR.unhold (E : EnvR K B Z A (upd H0 D u) M σ H ρ) (h0 : H0 D = none) (nM : ∀ i l, M i = some l → l ≠ D) : EnvR K B Z A H0 M σ H ρ := by
  refine { E with ext := fun a o nb k => E.ext a o nb ?_, own := fun i l m => ?_ }
  · rw [upd_ne (fun e => by rw [e, h0] at k; cases k)]
    exact k
  · have q := E.own i l m
    rw [upd_ne (nM i l m)] at q
    exact q
/-- what stands at D changes -/
theorem EnvR.turn (E : EnvR K B (plus Z D) A H0 M σ H ρ) (h0 : H0 D = none) : EnvR K B (plus Z D) A H0 M σ (upd H D u) ρ := by
  have nM : ∀ i l, M i = some l → l ≠ D := fun i l m e => E.off i l m (.inr e)
  have gv : Grow (veil (hid (plus Z D) M) H) (veil (hid (plus Z D) M) (upd H D u)) := fun a o h => by
    obtain ⟨h1, h2⟩ := veil_off h
    exact veil_on h1 ((upd_ne fun e => h1 (.inl (.inr e))).trans h2)
  refine ⟨E.len, E.inj, fun i l m => by rw [upd_ne (nM i l m)]; exact E.live i l m, E.off, fun a z => ?_, fun a o nb h => ?_, E.own, E.m0, E.anch.trans gv, fun i c hc => (E.cell i c hc).grow gv fun l m w hw => (upd_ne (nM i l m)).trans hw⟩
  · by_cases e : a = D
    · rw [e, upd_same]
      intro z; cases z
    · rw [upd_ne e]
      exact E.zl a z
  · rw [upd_ne (fun e => by rw [e, h0] at h; cases h)]
    exact E.ext a o nb h
/-- the turn's own places forgotten -/
theorem EnvR.back (E : EnvR K B Z A H0 M σ2 H ρ2) (hw : wipe σ2 vs = wipe σ vs) (hl : ρ2.length = ρ.length) (ho : ∀ i, i ∉ vs → cellAt ρ2 i = cellAt ρ i) (hv : ∀ v ∈ vs, cellAt ρ v = .no) : EnvR K B Z A H0 M (wipe σ vs) H ρ := by
  refine { E with len := by rw [← hw, wipe_length, E.len, hl], cell := fun i c hc => ?_ }
  by_cases hi : i ∈ vs
  · have e := hv i hi
    rw [cellAt_get hc] at e
    rw [e]
    trivial
  · have e := ho i hi
    rw [cellAt_get hc] at e
    cases c with
    | no => trivial
    | _ =>
      have h := E.cell i _ (cellAt_some e (by intro z; cases z))
      rw [← hw, wipe_out hi]
      exact h
end

/-! ### comprehensions -/
section
variable {K : PySem.W.Frag}
/-- a target whose places are all in vs -/
def SimGV (K : PySem.W.Frag) (vs : List Nat) (g : TG) (pg : PG') : Prop := ∀ B Z A H0 M σ H ρ v d R, EnvR K B Z A H0 M σ H ρ → Dq K (veil (hid Z M) H) v d → pg d ρ R →
  ∀ Q : St → Hp → Prop, (∀ σ' ρ', R ρ' → EnvR K B Z A H0 M σ' H ρ' → wipe σ' vs = wipe σ vs → ρ'.length = ρ.length → (∀ i, i ∉ vs → cellAt ρ' i = cellAt ρ i) → Q σ' H) → g v σ H Q
theorem wipe_set {σ : St} {j : Nat} {o : Option V} : ∀ {vs : List Nat}, j ∈ vs → wipe (σ.set j o) vs = wipe σ vs
  | v :: vs, h => by
    unfold wipe
    by_cases e : j ∈ vs
    · rw [wipe_set e]
    · have ev : j = v := (List.mem_cons.mp h).resolve_right e
      subst ev
      have q : ∀ {ws : List Nat}, j ∉ ws → wipe (σ.set j o) ws = (wipe σ ws).set j o := fun {ws} => by
        induction ws with
        | nil => intro _; rfl
        | cons w ws ih =>
          intro h
          unfold wipe
          rw [ih fun m => h (List.mem_cons_of_mem _ m), List.set_comm _ _ (fun z => h (by rw [z]; exact List.mem_cons_self))]
      rw [q e, List.set_set]
theorem cellSet_ne : ∀ {ρ : En} {i j : Nat} {c : Cell}, i ≠ j → cellAt (cellSet ρ i c) j = cellAt ρ j
  | [], _, _, _, _ => rfl
  | _ :: _, 0, 0, _, h => absurd rfl h
  | _ :: _, 0, _ + 1, _, _ => rfl
  | _ :: _, _ + 1, 0, _, _ => rfl
  | _ :: r, i + 1, j + 1, _, h => cellSet_ne (ρ := r) (i := i) (j := j) fun e => h (congrArg (· + 1) e)
theorem cellSet_len {ρ : En} {i : Nat} {c : Cell} : (cellSet ρ i c).length = ρ.length := by
  rw [cellSet_eq, List.length_set]
theorem gv_name {vs : List Nat} {i : Nat} (h : i ∈ vs) : SimGV K vs (gName i) (pgN i) := fun B Z A H0 M σ H ρ v d R E hd hR Q q =>
  q _ _ hR (E.setD hd) (wipe_set h) cellSet_len fun j hj => cellSet_ne fun e => hj (by rw [← e]; exact h)
def SimGsV (K : PySem.W.Frag) (vs : List Nat) (g : TGs) (is : List Nat) : Prop := ∀ B Z A H0 M σ H ρ us ds, EnvR K B Z A H0 M σ H ρ → Dqs K (veil (hid Z M) H) us ds → ds.length = is.length →
  ∀ Q : St → Hp → Prop, (∀ σ', EnvR K B Z A H0 M σ' H (setAll ρ is ds) → wipe σ' vs = wipe σ vs → (setAll ρ is ds).length = ρ.length → (∀ i, i ∉ vs → cellAt (setAll ρ is ds) i = cellAt ρ i) → Q σ' H) → g us σ H Q
theorem gsv_nil {vs : List Nat} : SimGsV K vs gNil [] := fun B Z A H0 M σ H ρ us ds E r hl Q q => by
  cases r with
  | nil => exact ⟨rfl, q _ E rfl rfl fun _ _ => rfl⟩
  | cons _ _ => cases hl
theorem gsv_cons {vs : List Nat} {i : Nat} {u : TGs} {is : List Nat} (h : i ∈ vs) (su : SimGsV K vs u is) : SimGsV K vs (gCons (gName i) u) (i :: is) := fun B Z A H0 M σ H ρ us ds E r hl Q q => by
  cases r with
  | nil => cases hl
  | cons hd r => exact ⟨_, _, rfl, su B Z A H0 M _ H _ _ _ (E.setD hd) r (by simpa using hl) Q fun σ' E' w l o => q σ' E' (w.trans (wipe_set h)) (l.trans cellSet_len) fun j hj => (o j hj).trans (cellSet_ne fun e => hj (by rw [← e]; exact h))⟩
theorem gv_tup {vs : List Nat} {n : Nat} {u : TGs} {is : List Nat} (su : SimGsV K vs u is) (hn : is.length = n) : SimGV K vs (gTup K n u) (pgT is) := fun B Z A H0 M σ H ρ v d R E hd h Q q => by
  obtain ⟨ds, rfl, hl, h⟩ := asT_of h
  cases hd with
  | tup ht r => exact ⟨_, _, rfl, grow_t (veil_grow _ _) ht, by rw [dqs_len r, hl, hn], su B Z A H0 M σ H ρ _ ds E r hl Q fun σ' E' w l o => q σ' _ h E' w l o⟩
def SimP (K : PySem.W.Frag) (tt : TT) (p : PT') : Prop := SimT K tt p
theorem t_yes : SimT K tYes pYes := fun B Z A H0 M σ H ρ R E h Q q => q true ρ H h E
/-- one turn -/
theorem lc_turn {B Z : Addr → Prop} {A H0 H : Hp} {M : Nat → Option Addr} {σ : St} {ρ : En} {D : Addr} {vs : List Nat} {g : TG} {pg : PG'} {tt : TT} {pt : PT'} {te : TE} {pe : PE'} {v : V} {d : PyData} {va : List V} {acc : List PyData} {yes : List PyData → Prop}
    (sg : SimGV K vs g pg) (st : SimT K tt pt) (se : Sim K te pe) (E : EnvR K B (plus Z D) A H0 M (wipe σ vs) H ρ) (hv : ∀ v ∈ vs, cellAt ρ v = .no) (hD : H D = some (.lst va)) (h0 : H0 D = none) (nB : ¬ B D) (dv : Dq K (veil (hid (plus Z D) M) H) v d)
    (ra : Dqs K (veil (hid (plus Z D) M) H) va acc) (hw : wipe (wipe σ vs) vs = wipe σ vs)
    (h : pg d ρ fun ρ2 => pt ρ2 fun b ρ3 => ρ3 = ρ2 ∧ if b = true then pe ρ2 fun y ρ4 => ρ4 = ρ2 ∧ acc.length < 100000 ∧ yes (acc ++ [y]) else yes acc) {Pv : Hp → Prop}
    (hP : ∀ H' va' acc', EnvR K B (plus Z D) A H0 M (wipe σ vs) H' ρ → H' D = some (.lst va') → Dqs K (veil (hid (plus Z D) M) H') va' acc' → yes acc' → Pv H') :
    g v (wipe σ vs) H fun σ2 H2 => wipe σ2 vs = wipe σ vs ∧ tt σ2 H2 fun b H3 => if b = true then te σ2 H3 fun y H4 => ∃ acc, H4 D = some (.lst acc) ∧ acc.length < sizeLine ∧ Pv (upd H4 D (.lst (acc ++ [y]))) else Pv H3 := by
  have nM : ∀ i l, M i = some l → l ≠ D := fun i l m e => E.off i l m (.inr e)
  have E' := (E.anchor.hold hD nM)
  refine sg B _ _ _ M _ H ρ v d _ E' dv h _ fun σ2 ρ2 h2 E2 w2 l2 o2 => ⟨w2.trans hw, ?_⟩
  refine st B _ _ _ M σ2 H ρ2 _ E2 h2 _ fun b ρ3 H3 ⟨e3, h3⟩ E3 => ?_
  subst e3
  have d3 : H3 D = some (.lst va) := E3.ext D _ nB upd_same
  have fin : ∀ {H5 : Hp}, EnvR K B (plus Z D) (veil (hid (plus Z D) M) H) (upd H0 D (.lst va)) M σ2 H5 ρ3 → EnvR K B (plus Z D) A H0 M (wipe σ vs) H5 ρ := fun {H5} E5 =>
    ((E5.unhold h0 nM).weak E.anch).back (w2.trans hw) l2 o2 hv
  cases b with
  | false => exact hP H3 va acc (fin E3) d3 (dps_grow E3.anch _ _ ra) h3
  | true =>
    refine se B _ _ _ M σ2 H3 ρ3 _ E3 h3 _ fun y z ρ4 H4 ⟨e4, hz, h4⟩ E4 dz => ?_
    subst e4
    have d4 : H4 D = some (.lst va) := E4.ext D _ nB upd_same
    have ra4 := dps_grow E4.anch _ _ ra
    have gv : Grow (veil (hid (plus Z D) M) H4) (veil (hid (plus Z D) M) (upd H4 D (.lst (va ++ [y])))) := fun a o h => by
      obtain ⟨h1, h2⟩ := veil_off h
      exact veil_on h1 ((upd_ne fun e => h1 (.inl (.inr e))).trans h2)
    exact ⟨va, d4, Nat.lt_of_lt_of_le (by rw [dqs_len ra]; exact hz) (by decide), hP _ (va ++ [y]) _ ((fin E4).turn h0) upd_same (dps_grow gv _ _ (dqs_app ra4 (.cons dz .nil))) h4⟩
theorem wipe_wipe {σ : St} : ∀ {vs : List Nat}, wipe (wipe σ vs) vs = wipe σ vs := fun {vs} => by
  have q : ∀ ws : List Nat, (∀ v ∈ ws, v ∈ vs) → wipe (wipe σ ws) vs = wipe σ vs := fun ws => by
    induction ws with
    | nil => intro _; rfl
    | cons w ws ih =>
      intro h
      show wipe ((wipe σ ws).set w none) vs = wipe σ vs
      rw [wipe_set (h w List.mem_cons_self), ih fun v m => h v (List.mem_cons_of_mem _ m)]
  exact q vs fun _ m => m
/-- the end of the whole -/
theorem lc_start {B Z : Addr → Prop} {A H0 H : Hp} {M : Nat → Option Addr} {σ : St} {ρ : En} {D : Addr} (E : EnvR K B Z A H0 M σ H ρ) (hD : H D = none) : H0 D = none ∧ ¬ B D ∧ ¬ Z D := by
  have nB : ¬ B D := fun b => E.live 0 D (E.m0 D b) hD
  refine ⟨?_, nB, fun z => E.zl D z hD⟩
  cases q : H0 D with
  | none => rfl
  | some o =>
    have := E.ext D o nB q
    rw [hD] at this
    cases this
theorem sim_lcR1 {ta : TA} {g : TG} {tt : TT} {te : TE} {vs is : List Nat} {pa : PA'} {pg : PG'} {pt : PT'} {pe : PE'} (sa : SimA K ta pa) (sg : SimGV K vs g pg) (st : SimT K tt pt) (se : Sim K te pe) (hn : ∀ ρ R, pa ρ R → pa ρ fun x ρ1 => x.length = 1 ∧ R x ρ1) :
    SimL K (tLc (iRng1 ta) g tt te vs) (pLcR vs is pa pg pt pe) := fun B Z A H0 M σ H ρ R E ⟨hv, h⟩ Q q =>
  sa B Z A H0 M σ H ρ _ E (hn _ _ h) _ fun us x ρ1 H1 ⟨hx, e1, lo, hi, hx2, hb, I, i0, is, ie⟩ E1 d1 => by
    subst e1
    rcases hx2 with ⟨rfl, rfl⟩ | rfl
    · have e : us = [.int hi] := dqs_of_ints (ns := [hi]) d1
      subst e
      refine ⟨hi, rfl, hb.2.2.1, hb.2.2.2, fun D hD => ?_⟩
      obtain ⟨h0, nB, nZ⟩ := lc_start E1 hD
      refine lc_range (lo := 0) (n := hi.toNat) (fun i H' => ∃ va acc, EnvR K B (plus Z D) (veil (hid Z M) H1) H0 M (wipe σ vs) H' ρ1 ∧ H' D = some (.lst va) ∧ Dqs K (veil (hid (plus Z D) M) H') va acc ∧ I i acc) ⟨[], [], E1.enter hv hD, upd_same, .nil, i0⟩
        (fun i H' hlt ⟨va, acc, E', hd', ra, hI⟩ => lc_turn sg st se E' hv hd' h0 nB (.int _) ra wipe_wipe (is i acc (by omega) hI) fun H2 va' acc' E2 h2 r2 y2 => ⟨va', acc', E2, h2, r2, y2⟩) fun H' ⟨va, acc, E', hd', ra, hI⟩ => ?_
      have hI : I (hi - 0).toNat acc := by rw [Int.sub_zero]; exact hI
      have z := q D va acc ρ1 (wiped H' D) (ie acc hI) (E'.leave E1.anch h0 nZ) wiped_at (dps_grow veil_in _ _ ra)
      rw [wiped_upd hd'] at z
      exact z
    · exact absurd hx (by simp)
theorem sim_lcT {tl : TE} {g : TG} {tt : TT} {te : TE} {vs is : List Nat} {pl : PE'} {pg : PG'} {pt : PT'} {pe : PE'} (sl : Sim K tl pl) (sg : SimGV K vs g pg) (st : SimT K tt pt) (se : Sim K te pe) :
    SimL K (tLc (iTup K tl) g tt te vs) (pLcS vs is (pTO pl) pg pt pe) := fun B Z A H0 M σ H ρ R E ⟨hv, h⟩ Q q =>
  sl B Z A H0 M σ H ρ _ E h _ fun u x ρ1 H1 h1 E1 d1 => by
    obtain ⟨ds, rfl, e1, I, i0, is, ie⟩ := asT_of h1
    subst e1
    cases d1 with
    | @tup a us _ hs r =>
      refine ⟨a, rfl, ⟨us, grow_t (veil_grow _ _) hs⟩, fun D hD => ?_⟩
      obtain ⟨h0, nB, nZ⟩ := lc_start E1 hD
      refine lc_tup (xs := us) (fun i H' => ∃ va acc, EnvR K B (plus Z D) (veil (hid Z M) H1) H0 M (wipe σ vs) H' ρ1 ∧ H' D = some (.lst va) ∧ Dqs K (veil (hid (plus Z D) M) H') va acc ∧ I i acc) ⟨[], [], E1.enter hv hD, upd_same, .nil, i0⟩
        (fun i H' _ ⟨va, acc, E', _⟩ => grow_t (veil_grow _ _) (grow_t E'.anch hs)) (fun i y H' hy ⟨va, acc, E', hd', ra, hI⟩ => ?_) fun H' ⟨va, acc, E', hd', ra, hI⟩ => ?_
      · obtain ⟨d, hd, dd⟩ := dqs_got r hy
        exact lc_turn sg st se E' hv hd' h0 nB (dp_grow E'.anch _ _ dd) ra wipe_wipe (is i d acc hd hI) fun H2 va' acc' E2 h2 r2 y2 => ⟨va', acc', E2, h2, r2, y2⟩
      · have z := q D va acc ρ1 (wiped H' D) (ie acc (dqs_len r ▸ hI)) (E'.leave E1.anch h0 nZ) wiped_at (dps_grow veil_in _ _ ra)
        rw [wiped_upd hd'] at z
        exact z
theorem sim_lcL {tl : TE} {g : TG} {tt : TT} {te : TE} {vs is : List Nat} {pl : PE'} {pg : PG'} {pt : PT'} {pe : PE'} (sl : Sim K tl pl) (sg : SimGV K vs g pg) (st : SimT K tt pt) (se : Sim K te pe) :
    SimL K (tLc (iList K tl) g tt te vs) (pLcS vs is (pLO pl) pg pt pe) := fun B Z A H0 M σ H ρ R E ⟨hv, h⟩ Q q =>
  sl B Z A H0 M σ H ρ _ E h _ fun u x ρ1 H1 h1 E1 d1 => by
    obtain ⟨ds, rfl, e1, I, i0, is, ie⟩ := asL_of h1
    subst e1
    cases d1 with
    | @lst a us _ hs r =>
      refine ⟨a, rfl, ⟨us, .of (veil_grow _ _ _ _ hs)⟩, fun D hD => ?_⟩
      obtain ⟨h0, nB, nZ⟩ := lc_start E1 hD
      refine lc_list (xs := us) (fun i H' => ∃ va acc, EnvR K B (plus Z D) (veil (hid Z M) H1) H0 M (wipe σ vs) H' ρ1 ∧ H' D = some (.lst va) ∧ Dqs K (veil (hid (plus Z D) M) H') va acc ∧ I i acc) ⟨[], [], E1.enter hv hD, upd_same, .nil, i0⟩
        (fun i H' _ ⟨va, acc, E', _⟩ => .of (veil_grow _ _ _ _ (E'.anch _ _ hs))) (fun i y H' hy ⟨va, acc, E', hd', ra, hI⟩ => ?_) fun H' ⟨va, acc, E', hd', ra, hI⟩ => ?_
      · obtain ⟨d, hd, dd⟩ := dqs_got r hy
        exact lc_turn sg st se E' hv hd' h0 nB (dp_grow E'.anch _ _ dd) ra wipe_wipe (is i d acc hd hI) fun H2 va' acc' E2 h2 r2 y2 => ⟨va', acc', E2, h2, r2, y2⟩
      · have z := q D va acc ρ1 (wiped H' D) (ie acc (dqs_len r ▸ hI)) (E'.leave E1.anch h0 nZ) wiped_at (dps_grow veil_in _ _ ra)
        rw [wiped_upd hd'] at z
        exact z
end
end Pu
namespace Pu
open PySem PySem.Spec PyProof.Rows L2
/-! ### set(xs), xs a list of ints; sorted of it -/
abbrev bare (w : World) : Obj := { cls := .type "set", dict := none, data := .set #[] 0 (.fresh 0 0 (!w.params.followText "set-order")) }
section
variable {P : Program} {w : World} {A : Around} {E : Value → Shared → Prop} {s : Shared}
theorem in_lst {xs : Array Value} {ns : List Int} (hi : IntsAre xs.toList ns) (i : Nat) (v : Value) (hv : xs[i]? = some v) : ∃ k t, ns[i]? = some k ∧ v = .int k t := by
  have hz : xs.size = ns.length := by simpa using IntsAre.length hi
  have lt : i < ns.length := hz ▸ (Array.getElem?_eq_some_iff.mp hv).1
  obtain ⟨t, e⟩ := IntsAre.int_at hi i v (by simpa using hv)
  exact ⟨ns[i], t, by simp [lt], by simpa [List.getD_eq_getElem?_getD, lt] using e⟩
/-- what set(xs) has laid: a set of the ints at S, all else as before -/
def Laid (w : World) (S : Addr) (ns : List Int) (s₀ : Shared) (r : Value) (s' : Shared) : Prop := r = .none ∧ ∃ (g : Heap) (tk c : Nat), s' = { s₀ with heap := g, toks := tk } ∧
  SetR w g S (fun j => decide (j ∈ ns)) c ∧ c ≤ ns.length ∧ ∀ b o, s₀.heap.get? b = some o → g.get? b = some o
set_option maxHeartbeats 3200000 in
theorem call_set_lst {l : Addr} {xs : Array Value} (ns : List Int) {Q : Value → Shared → Prop} (hA : A.handled = none) (hl : s.heap.IsList l xs) (hi : IntsAre xs.toList ns) (room : ns.length + 1 < scanBound)
    (h : ∀ (g : Heap) (tk c : Nat), SetR w g s.heap.objs.size (fun j => decide (j ∈ ns)) c → c ≤ ns.length → (∀ b o, s.heap.get? b = some o → g.get? b = some o) → Q (.ref s.heap.objs.size) { s with heap := g, toks := tk }) :
    wpAny (model P w) A (call (.type "set") [.ref l]) Q E s := by
  have hz : xs.size = ns.length := by simpa using IntsAre.length hi
  obtain ⟨_, _, m1⟩ := F.called_set.mro
  have m2 := F.called_set.made
  have m3 := F.called_set.sub
  have m4 := F.called_set.notType
  have m5 := F.called_set.canCreate
  have m6 := F.typeCall_set_1 (.ref l)
  refine wpAny_call <| codeAny_of_tree ?_
  show wpAny _ _ (callAny (.type "set") _) _ _ _
  refine wpAny_pure ⟨Code.quiet_builtin _ (by decide +kernel), codeAny_builtin F.entry_type_call ?_⟩
  rw [Around.under_plain (weight_type_call_type "set" [.ref l] []) rfl]
  repeat any_goals first | assumption | wp_step
  refine codeAny_mono (code_set_led1 (.ref l) (E := E)
    (Q₁ := fun r t => r = .ref s.heap.objs.size ∧ t = { s with heap := s.heap.push (bare w) }) ⟨rfl, rfl⟩) fun r t ht => ?_
  cases r with
  | error _ => exact ht
  | ok fl =>
    cases fl with
    | ret _ =>
      obtain ⟨rfl, rfl⟩ := ht
      have at0 : (s.heap.push (bare w)).get? s.heap.objs.size = some (bare w) := Heap.get?_push_size _ rfl
      have ty0 : Shared.TypeIs { s with heap := s.heap.push (bare w) } (.ref s.heap.objs.size) "set" := ⟨_, at0, rfl⟩
      have i1 := F.called_set.init.lookup
      have i2 := F.called_set.init.bind (.ref s.heap.objs.size)
      repeat any_goals first | assumption | wp_step
      refine codeAny_mono (codeAny_call_builtin (R := wants (Laid w s.heap.objs.size ns s) E) F.called_set.init.plain F.entry_set_init (check_set_init_1 ty0 ?_)) fun r2 t2 ht2 => ?_
      · have l1 : (s.heap.push (bare w)).IsList l xs := hl.push _
        obtain ⟨⟨k1, k2, k3, k4⟩, ho, kc, n, kd⟩ := hl
        obtain rfl : k1 = .type "list" := kc
        obtain rfl : k3 = .seq xs n := kd
        have ho1 : (s.heap.push (bare w)).get? l = some { cls := .type "list", dict := k2, data := .seq xs n, slots := k4 } := Heap.get?_push_of_some _ ho
        have q1 := F.sub_list_set
        have q2 := F.sub_list_frozenset
        have q3 : (Value.type "list" == Value.type "dict") = false := by decide
        unfold Builtin.«set.__init__» noKeywords Builtin.Frozenset.updateFrom
        generalize hIt : pyIter = IT
        wp_walk
        subst hIt
        refine wpAny_pyIter_list l1 (wpAny_bind (wpAny_runValue ?_))
        have l0 : l < s.heap.objs.size := Heap.lt_size ho
        have hA3 : A.in1.in1.in1.handled = none := by simp [hA]
        have z1 : (s.heap.push (bare w)).objs.size = s.heap.objs.size + 1 := Heap.size_push ..
        have neI : l ≠ (s.heap.push (bare w)).objs.size := Nat.ne_of_lt (z1 ▸ Nat.lt_succ_of_lt l0)
        have off : s.heap.objs.size ∉ [(s.heap.push (bare w)).objs.size, l] := by
          intro m
          rcases List.mem_cons.mp m with e | m
          · exact Nat.ne_of_lt (z1 ▸ Nat.lt_succ_self _) e
          · exact Nat.ne_of_gt l0 (List.mem_singleton.mp m)
        refine set_update_ints (Walks.list hA3 _ l neI xs).toS s.heap.objs.size off ns hz room (in_lst hi) (xs.size - 0) 0 _ (by omega) (Nat.zero_le _) ⟨⟨_, Heap.get?_push_size _ rfl, rfl, rfl⟩, l1.push _⟩ ?begin ?finish
        case begin => exact ⟨0, Nat.le_refl 0, setR_new_at (Heap.get?_push_of_some _ at0)⟩
        case finish =>
          rintro ⟨g, gs, dr, tk, os⟩ c mv hc hS
          obtain rfl : gs = s.gens := mv.gens
          obtain rfl : dr = s.drawn := mv.drawn
          obtain rfl : os = s.os := mv.os
          show wpAny _ _ _ _ _ _
          refine wpAny_pure ?_
          show wpAny _ _ (ret Value.none) _ _ _
          refine wpAny_pure ⟨rfl, g, tk, c, rfl, hS, hz ▸ hc, fun b o e => ?_⟩
          have b0 : b < s.heap.objs.size := Heap.lt_size e
          refine mv.heap b o (fun m => ?_) (Heap.get?_push_of_some _ (Heap.get?_push_of_some _ e))
          rcases List.mem_cons.mp m with e | m
          · exact Nat.ne_of_lt b0 e
          · exact Nat.ne_of_lt (z1 ▸ Nat.lt_succ_of_lt b0) (List.mem_singleton.mp m)
      · cases r2 with
        | error _ => exact ht2
        | ok fl2 =>
          cases fl2 with
          | ret _ =>
            obtain ⟨rfl, g, tk, c, rfl, hS, hc, hk⟩ := ht2
            repeat any_goals first | assumption | wp_step
            exact h g tk c hS hc hk
          | _ => exact ht2.elim
    | _ => exact ht.elim
end
/-- set(xs) -/
def rSetL (K : PySem.W.Frag) (w : World) : List V → Hp → VK → Prop := fun vs H Q => ∃ (p : Addr) (ns : List Int), vs = [.ref p] ∧ SqL K H p (ns.map V.int) ∧ ns.length < 60 ∧
  ∀ (a : Addr) (c : Nat), c ≤ ns.length → H a = none → Q (.ref a) (upd H a (SetO w a (fun j => decide (j ∈ ns)) c))
theorem c_setL {X : Cx} (hc : X.calm = true) : CallR X (.type "set") (rSetL X.K X.w) := by
  intro pins s σ H vs us Q I r h
  obtain ⟨p, ns, rfl, hp, hl, q⟩ := h
  rw [Vals.ref1 r]
  obtain ⟨its, rv, pl, _⟩ := I.list hp
  refine call_set_lst ns (I.ok.hd hc) pl.isList (ints_of_vals rv) (by unfold scanBound; omega) fun g tk c R1 hcn k => ?_
  exact ⟨.ref _, _, I.laid (t' := tk) k (Nat.le_refl _) (setO_new R1), rfl, q _ c hcn (I.hok.fresh (Nat.le_refl _))⟩
def pSortSet (pa : PA') : PA' := fun ρ R => pa ρ fun ds ρ1 => ∃ ns : List Int, ds = [.list (ns.map PyData.int)] ∧ ns.length < 60 ∧
    ∀ ns' : List Int, ns'.Pairwise (· < ·) → (∀ k, k ∈ ns' ↔ k ∈ ns) → ns'.length ≤ ns.length → R (ns'.map PyData.int) ρ1
section
variable {K : PySem.W.Frag}
theorem sim_sortSet {w : World} {ta : TA} {pa : PA'} (sa : SimA K ta pa) : SimL K (tCB (rSortedSet w) (tCons (tCB (rSetL K w) ta) tNil)) (pSortSet pa) := fun B Z A H0 M σ H ρ R E h Q q =>
  sa B Z A H0 M σ H ρ _ E h _ fun vs ds ρ1 H1 ⟨ns, e, hl, h2⟩ E1 d1 => by
    subst e
    obtain ⟨v, rfl, dv⟩ := one_of d1
    cases dv with
    | lst hl0 r =>
      have e := dqs_of_ints r
      subst e
      refine ⟨_, ns, rfl, .of (veil_grow _ _ _ _ hl0), hl, fun a c hc ha => ⟨a, _, c, rfl, upd_same, by omega, fun ns' p pw mem len hp => ?_⟩⟩
      exact q p _ _ ρ1 _ (h2 ns' pw (fun k => (mem k).trans decide_eq_true_iff) (by omega)) (E1.grown (grow_new ha)) hp dqs_ints
end
end Pu
namespace Pu
open PySem L2
/-! ### what a place owns, read -/
def pLenO (i : Nat) : PE' := fun ρ R => asOwn (cellAt ρ i) fun ds => R (.int (ds.length : Nat)) ρ
def pIxO (i : Nat) (pb : PE') : PE' := fun ρ R => asOwn (cellAt ρ i) fun _ => pb ρ fun y ρ1 => asOwn (cellAt ρ1 i) fun ds => asI y fun j => asO (atI ds j) fun d => R d ρ1
def pTupO (i : Nat) : PE' := fun ρ R => asOwn (cellAt ρ i) fun ds => R (.tuple ds) ρ
def pTruO (i : Nat) : PT' := fun ρ R => asOwn (cellAt ρ i) fun ds => R (!ds.isEmpty) ρ
/-- an int's place changed by an operator -/
def pAug (i : Nat) (f : Int → Int → Int) (pa : PE') : PS' := fun G ρ => asD (cellAt ρ i) fun x => asI x fun a => pa ρ fun y ρ1 => asI y fun b => G.nx (cellSet ρ1 i (.d (.int (f a b))))
section
variable {K : PySem.W.Frag}
theorem sim_lenO {i : Nat} : Sim K (tCB (rLen K) (tCons (tVar i) tNil)) (pLenO i) := fun B Z A H0 M σ H ρ R E h Q q => by
  obtain ⟨ds, hc, h⟩ := asOwn_of h
  obtain ⟨l, vs, e, m, hl, r⟩ := own_at E hc
  exact ⟨.ref l, e, .ref l, vs.length, rfl, .inl ⟨vs, .of hl, rfl⟩, by rw [dqs_len r]; exact q _ _ _ _ h E (.int _)⟩
theorem sim_ixO {i : Nat} {tb : TE} {pb : PE'} (sb : Sim K tb pb) : Sim K (tOp (rIx K) (tVar i) tb) (pIxO i pb) := fun B Z A H0 M σ H ρ R E h Q q => by
  obtain ⟨ds, hc, h⟩ := asOwn_of h
  obtain ⟨l, vs, e, m, hl, r⟩ := own_at E hc
  refine ⟨.ref l, e, sb B Z A H0 M σ H ρ _ E h _ fun w y ρ1 H1 h1 E1 d1 => ?_⟩
  obtain ⟨ds1, hc1, h2⟩ := asOwn_of h1
  obtain ⟨l1, vs1, e1, m1, hl1, r1⟩ := own_at E1 hc1
  rw [m] at m1
  cases m1
  obtain ⟨j, rfl, h3⟩ := asI_of h2
  obtain ⟨d, hd, h4⟩ := asO_of h3
  rw [of_int d1]
  obtain ⟨u, hu, du⟩ := at_dq r1 hd
  exact .inl ⟨l, vs1, j, u, rfl, rfl, .of hl1, hu, q _ _ _ _ h4 E1 du⟩
theorem sim_tupO {i : Nat} : Sim K (tCB (rTupOf K) (tCons (tVar i) tNil)) (pTupO i) := fun B Z A H0 M σ H ρ R E h Q q => by
  obtain ⟨ds, hc, h⟩ := asOwn_of h
  obtain ⟨l, vs, e, m, hl, r⟩ := own_at E hc
  exact ⟨.ref l, e, l, vs, rfl, .inl ⟨.of hl, fun p hp => q _ _ _ _ h (E.grown (grow_new hp)) (.new (E.veiled hp) hp r)⟩⟩
theorem sim_truO {i : Nat} : SimT K (tTru K (tVar i)) (pTruO i) := fun B Z A H0 M σ H ρ R E h Q q => by
  obtain ⟨ds, hc, h⟩ := asOwn_of h
  obtain ⟨l, vs, e, m, hl, r⟩ := own_at E hc
  refine ⟨.ref l, e, !ds.isEmpty, .inl ⟨vs, .of hl, ?_⟩, q _ _ _ h E⟩
  cases r <;> rfl
theorem s_aug {i : Nat} {te : TE} {pa : PE'} {f : Int → Int → Int} (sa : Sim K te pa) : SimS K (tAug i te (ipI f)) (pAug i f pa) := fun B Z A H0 M σ H ρ D G E h C => by
  obtain ⟨x, hx, h⟩ := asD_of h
  obtain ⟨a, rfl, h⟩ := asI_of h
  obtain ⟨v, hv, hd⟩ := E.cell i _ (cellAt_some hx (by intro z; cases z))
  rw [of_int hd] at hv
  refine ⟨.int a, ?_, sa B Z A H0 M σ H ρ _ E h _ fun w y ρ1 H1 h1 E1 d1 => ?_⟩
  · cases e : σ[i]? with
    | none =>
      rw [e] at hv
      cases hv
    | some o =>
      rw [e] at hv
      exact congrArg some hv
  · obtain ⟨b, rfl, h2⟩ := asI_of h1
    rw [of_int d1]
    exact ⟨a, b, rfl, rfl, C.nx M _ H1 _ (E1.setD (.int _)) h2⟩
end
theorem pcons_len1 {pa : PE'} {ρ : En} {R : List PyData → En → Prop} (h : pCons pa pNil ρ R) : pCons pa pNil ρ fun x ρ1 => x.length = 1 ∧ R x ρ1 := by
  have e : (fun x ρ1 => ([x] : List PyData).length = 1 ∧ R [x] ρ1) = fun x ρ1 => R [x] ρ1 := by
    funext x ρ1
    simp
  show pa ρ fun x ρ1 => ([x] : List PyData).length = 1 ∧ R [x] ρ1
  rw [e]
  exact h
theorem pcons_len2 {pa pb : PE'} {ρ : En} {R : List PyData → En → Prop} (h : pCons pa (pCons pb pNil) ρ R) : pCons pa (pCons pb pNil) ρ fun x ρ1 => x.length = 2 ∧ R x ρ1 := by
  have e : (fun x ρ1 => pb ρ1 fun y ρ2 => ([x, y] : List PyData).length = 2 ∧ R [x, y] ρ2) = fun x ρ1 => pb ρ1 fun y ρ2 => R [x, y] ρ2 := by
    funext x ρ1
    congr 1
    funext y ρ2
    simp
  show pa ρ fun x ρ1 => pb ρ1 fun y ρ2 => ([x, y] : List PyData).length = 2 ∧ R [x, y] ρ2
  rw [e]
  exact h
theorem hu65 {k : Nat} {A : Around} (hr : Room k A) : A.units + 64 < cLine := by
  have := hr.un
  omega
/-! functions of data -/
def fn1 (f : PyData → PyData) : FS := fun ds k => match ds with
  | [a] => k (f a)
  | _ => False
section
variable {X : Cx}
theorem pt_tru {a : Expr} {ta : TE} (ha : PE X a ta) (he : ∀ whole, isTrue a X.env whole = (do let v ← whole; standAt a.pos; holding [v] (truthy v)) := by intro _; rfl) : PT X a (tTru X.K ta) := pt_truth ha he
end
end Pu
namespace Pr
open PySem L2 Pu
local macro_rules | `(tactic| walk_at "pu") => `(tactic| simp only [pVar, pC, pII, pIIc, pI, pEqD, pIsN, pIsB, pIsTy, pChain, pTup, pLst, pNew, pNil, pCons, pIx, pAndV, pOrV, pNotV, pIfE, pTst, pAnd, pOr, pNot, pTru, pCall, pCallB, pFn, pNext, pSeq, pIfS, pRet, pRetL, pRetO, pRetN, pAsg, pAsgO, pgN, pgT, pBrk, pCnt, pDrop, pApp, pTO, pLO, pYes, pLenO, pIxO, pTupO, pTruO, pCut, pPlus, pInD, pNoP, pPart, pSorted, pSortSet, Pu.cellAt, Pu.cellSet, Pu.setAll, asI, asB, asT, asL, asS, asD, asOwn, asO, addD, lenD, fLen, fTuple, fInt, cutD, fn1])
/-! ### what a datum is -/
def isI : PyData → Bool
  | .int _ => true
  | _ => false
def isF : PyData → Bool
  | .bool _ => true
  | _ => false
def isT : PyData → Bool
  | .tuple _ => true
  | _ => false
def inR : PyData → Int → Int → Bool
  | .int i, lo, hi => decide (lo ≤ i) && decide (i ≤ hi)
  | _, _, _ => false
def lenT : PyData → Nat
  | .tuple ds => ds.length
  | _ => 0
def S_is_whole : FS := fn1 fun d => .bool (isI d)
def S_is_flag : FS := fn1 fun d => .bool (isF d)
def S_is_tuple : FS := fn1 fun d => .bool (isT d)
def S_is_from_to : FS := fun ds k => match ds with
  | [v, .int lo, .int hi] => k (.bool (inR v lo hi))
  | _ => False
def S_is_tuple_of : FS := fun ds k => match ds with
  | [v, .int n] => k (.bool (isT v && decide ((lenT v : Int) = n)))
  | _ => False
def asc : Int → Int → List PyData → Bool
  | _, _, [] => true
  | lo, hi, .int i :: r => decide (lo ≤ i) && decide (i ≤ hi) && asc (i + 1) hi r
  | _, _, _ => false
def bordersOk (p : Int) : PyData → Bool
  | .tuple bs => decide (bs.length ≤ 40000) && decide (bs.length % 2 = 0) && asc 0 (p - 1) bs
  | _ => false
def side2 (b i : PyData) : PyData → Bool
  | .int p => decide (1 ≤ p) && decide (p ≤ 1000000000000) && isF i && bordersOk p b
  | _ => false
def side3 : List PyData → Bool
  | [p, b, i] => side2 b i p
  | _ => false
def sideOk : PyData → Bool
  | .tuple l => side3 l
  | _ => false
def S_is_side : FS := fn1 fun d => .bool (sideOk d)
def pairL : List PyData → Option (Int × Int)
  | [b, e] => match b, e with
    | .int b, .int e => some (b, e)
    | _, _ => none
  | _ => none
def pairOf : PyData → Option (Int × Int)
  | .tuple l => pairL l
  | _ => none
def runs1 : Int → List PyData → Bool
  | _, [] => true
  | least, d :: r => match pairOf d with
    | some (b, e) => decide (least ≤ b) && decide (b < e) && runs1 (e + 1) r
    | none => false
def runsOk (low : Int) : PyData → Bool
  | .tuple rs => decide (rs.length ≤ 40000) && runs1 low rs
  | _ => false
def S_are_runs : FS := fun ds k => match ds with
  | [r, .int low] => k (.bool (runsOk low r))
  | _ => False
def k_MOST_BORDERS : PyData := .int 40000
def k_GREATEST_PERIOD : PyData := .int 1000000000000
def txt (s : String) : PyData := .str (Str.ofString s)
/-- where the last run ends -/
def endOf : Int → List PyData → Int
  | low, [] => low
  | low, d :: r => match pairOf d with
    | some (_, e) => endOf e r
    | none => endOf low r
def highBad (low : Int) (rs : PyData) : PyData → Bool
  | .int h => match rs with
    | .tuple l => decide (h < endOf low l)
    | _ => true
  | _ => true
def fault5 (l lo rs h r : PyData) : PyData :=
  if sideOk l = false then txt "left" else match lo with
    | .int low => if runsOk low rs = false then txt "runs" else if highBad low rs h then txt "high" else if sideOk r = false then txt "right" else .none
    | _ => txt "low"
def S_dayset_fault : FS := fun ds k => match ds with
  | [.tuple [l, lo, rs, h, r]] => k (fault5 l lo rs h r)
  | _ => False
-- is_whole: ['value']
abbrev N_is_whole : List Str := ["value"]
def p_is_whole : PS' := (pRet (pIsTy "int" (pVar 0)))
-- is_from_to: ['value', 'low', 'high']
abbrev N_is_from_to : List Str := ["value", "low", "high"]
def p_is_from_to : PS' := (pRet (pAndV (pCall 1 S_is_whole (pCons (pVar 0) pNil)) (pChain (fun i j => decide (i ≤ j)) (fun i j => decide (i ≤ j)) (pVar 1) (pVar 0) (pVar 2))))
-- is_flag: ['value']
abbrev N_is_flag : List Str := ["value"]
def p_is_flag : PS' := (pRet (pOrV (pIsB true (pVar 0)) (pIsB false (pVar 0))))
-- is_tuple: ['value']
abbrev N_is_tuple : List Str := ["value"]
def p_is_tuple : PS' := (pRet (pIsTy "tuple" (pVar 0)))
-- is_tuple_of: ['value', 'many']
abbrev N_is_tuple_of : List Str := ["value", "many"]
def p_is_tuple_of : PS' := (pRet (pAndV (pCall 1 S_is_tuple (pCons (pVar 0) pNil)) (pEqD false (pFn fLen (pCons (pVar 0) pNil)) (pVar 1))))
-- is_side: ['value', 'period', 'borders', 'inside', 'least', 'border']
abbrev N_is_side : List Str := ["value", "period", "borders", "inside", "least", "border"]
def p_is_side : PS' := (pSeq (pIfS (pNot (pTst (pCall 2 S_is_tuple_of (pCons (pVar 0) (pCons (pC (.int 3)) pNil))))) (pRet (pC (.bool false))) pNext)
      (pSeq (pAsg (pVar 0) (pgT [1, 2, 3]))
      (pSeq (pIfS (pOr (pNot (pTst (pCall 3 S_is_from_to (pCons (pVar 1) (pCons (pC (.int 1)) (pCons (pC k_GREATEST_PERIOD) pNil)))))) (pNot (pTst (pCall 1 S_is_flag (pCons (pVar 3) pNil))))) (pRet (pC (.bool false))) pNext)
      (pSeq (pIfS (pOr (pNot (pTst (pCall 1 S_is_tuple (pCons (pVar 2) pNil)))) (pOr (pTst (pII (fun i j => .bool (decide (j < i))) (pFn fLen (pCons (pVar 2) pNil)) (pC k_MOST_BORDERS))) (pTst (pEqD false (pIIc (fun _ j => 0 < j) (fun i j => .int (i % j)) (pFn fLen (pCons (pVar 2) pNil)) (pC (.int 2))) (pC (.int 1)))))) (pRet (pC (.bool false))) pNext)
      (pSeq (pAsg (pC (.int 0)) (pgN 4))
      (pSeq (pFor (pTO (pVar 2)) (pgN 5) (pSeq (pIfS (pNot (pTst (pCall 3 S_is_from_to (pCons (pVar 5) (pCons (pVar 4) (pCons (pII (fun i j => .int (i - j)) (pVar 1) (pC (.int 1))) pNil)))))) (pRet (pC (.bool false))) pNext)
      (pAsg (pPlus (pVar 5) (pC (.int 1))) (pgN 4))))
      (pRet (pC (.bool true)))))))))
-- _are_runs: ['runs', 'low', 'least', 'run', 'begin', 'end']
abbrev N_are_runs : List Str := ["runs", "low", "least", "run", "begin", "end"]
def p_are_runs : PS' := (pSeq (pIfS (pOr (pNot (pTst (pCall 1 S_is_tuple (pCons (pVar 0) pNil)))) (pTst (pII (fun i j => .bool (decide (j < i))) (pFn fLen (pCons (pVar 0) pNil)) (pC k_MOST_BORDERS)))) (pRet (pC (.bool false))) pNext)
      (pSeq (pAsg (pVar 1) (pgN 2))
      (pSeq (pFor (pTO (pVar 0)) (pgN 3) (pSeq (pIfS (pNot (pTst (pCall 2 S_is_tuple_of (pCons (pVar 3) (pCons (pC (.int 2)) pNil))))) (pRet (pC (.bool false))) pNext)
      (pSeq (pAsg (pVar 3) (pgT [4, 5]))
      (pSeq (pIfS (pOr (pNot (pTst (pCall 1 S_is_whole (pCons (pVar 4) pNil)))) (pOr (pNot (pTst (pCall 1 S_is_whole (pCons (pVar 5) pNil)))) (pNot (pTst (pChain (fun i j => decide (i ≤ j)) (fun i j => decide (i < j)) (pVar 2) (pVar 4) (pVar 5)))))) (pRet (pC (.bool false))) pNext)
      (pAsg (pPlus (pVar 5) (pC (.int 1))) (pgN 2))))))
      (pRet (pC (.bool true))))))
-- dayset_fault: ['dayset', 'left', 'low', 'runs', 'high', 'right', 'end']
abbrev N_dayset_fault : List Str := ["dayset", "left", "low", "runs", "high", "right", "end"]
def p_dayset_fault : PS' := (pSeq (pAsg (pVar 0) (pgT [1, 2, 3, 4, 5]))
      (pSeq (pIfS (pNot (pTst (pCall 1 S_is_side (pCons (pVar 1) pNil)))) (pRet (pC (.str (Str.ofString "left")))) pNext)
      (pSeq (pIfS (pNot (pTst (pCall 1 S_is_whole (pCons (pVar 2) pNil)))) (pRet (pC (.str (Str.ofString "low")))) pNext)
      (pSeq (pIfS (pNot (pTst (pCall 2 S_are_runs (pCons (pVar 3) (pCons (pVar 2) pNil))))) (pRet (pC (.str (Str.ofString "runs")))) pNext)
      (pSeq (pAsg (pIfE (pTru (pVar 3)) (pIx (pIx (pVar 3) (pI (fun i => .int (-i)) (pC (.int 1)))) (pC (.int 1))) (pVar 2)) (pgN 6))
      (pSeq (pIfS (pOr (pNot (pTst (pCall 1 S_is_whole (pCons (pVar 4) pNil)))) (pTst (pII (fun i j => .bool (decide (i < j))) (pVar 4) (pVar 6)))) (pRet (pC (.str (Str.ofString "high")))) pNext)
      (pSeq (pIfS (pNot (pTst (pCall 1 S_is_side (pCons (pVar 5) pNil)))) (pRet (pC (.str (Str.ofString "right")))) pNext)
      (pRet (pC .none)))))))))
abbrev fin (c : PyData → Prop) : PEnds := ⟨fun _ => c .none, fun d _ => c d, fun _ => False, fun _ => False⟩
theorem eqv_int (i j : Int) : PyData.eqv (.int i) (.int j) = decide (i = j) := by
  rw [Bool.eq_iff_iff]
  simp [PyData.eqv]
theorem pure_is_whole (ds : List PyData) (c : PyData → Prop) (hl : ds.length = 1) (h : S_is_whole ds c) : p_is_whole (fin c) (startE N_is_whole ds) := by
  unfold S_is_whole fn1 at h
  split at h
  · rename_i d
    show c (.bool (decide (tyN d = "int")))
    cases d with
    | dict kvs => rcases ty_dict kvs with e | e <;> (rw [e]; exact h)
    | _ => exact h
  · exact h.elim
theorem pure_is_flag (ds : List PyData) (c : PyData → Prop) (hl : ds.length = 1) (h : S_is_flag ds c) : p_is_flag (fin c) (startE N_is_flag ds) := by
  unfold S_is_flag fn1 at h
  split at h
  · rename_i d
    cases d with
    | bool b => cases b <;> exact h
    | _ => exact h
  · exact h.elim
theorem pure_is_tuple (ds : List PyData) (c : PyData → Prop) (hl : ds.length = 1) (h : S_is_tuple ds c) : p_is_tuple (fin c) (startE N_is_tuple ds) := by
  unfold S_is_tuple fn1 at h
  split at h
  · rename_i d
    show c (.bool (decide (tyN d = "tuple")))
    cases d with
    | dict kvs => rcases ty_dict kvs with e | e <;> (rw [e]; exact h)
    | _ => exact h
  · exact h.elim
theorem ifd {A B : Prop} {q : Prop} [Decidable q] (h1 : q → A) (h2 : ¬ q → B) : if decide q = true then A else B := by
  by_cases z : q
  · rw [if_pos (decide_eq_true z)]
    exact h1 z
  · rw [if_neg (by simpa using z)]
    exact h2 z
theorem pure_is_from_to (ds : List PyData) (c : PyData → Prop) (hl : ds.length = 3) (h : S_is_from_to ds c) : p_is_from_to (fin c) (startE N_is_from_to ds) := by
  unfold S_is_from_to at h
  split at h
  · rename_i v lo hi
    refine ⟨rfl, ?_⟩
    cases v with
    | int i =>
      have h : c (.bool (decide (lo ≤ i) && decide (i ≤ hi))) := h
      show (if decide (lo ≤ i) = true then c (.bool (decide (i ≤ hi))) else c (.bool false))
      refine ifd (fun z => ?_) fun z => ?_
      · rw [decide_eq_true z] at h
        exact h
      · rw [decide_eq_false z] at h
        exact h
    | _ => exact h
  · exact h.elim
theorem pure_is_tuple_of (ds : List PyData) (c : PyData → Prop) (hl : ds.length = 2) (h : S_is_tuple_of ds c) : p_is_tuple_of (fin c) (startE N_is_tuple_of ds) := by
  unfold S_is_tuple_of at h
  split at h
  · rename_i v n
    cases v with
    | tuple ds =>
      refine ⟨rfl, _, rfl, rfl, rfl, ?_⟩
      show c (.bool (PyData.eqv (.int ds.length) (.int n)))
      rw [eqv_int]
      exact h
    | _ => exact ⟨rfl, h⟩
  · exact h.elim
theorem tt {b : Bool} {A B : Prop} (h : b = true) (a : A) : if b = true then A else B := by rw [if_pos h]; exact a
theorem ff {b : Bool} {A B : Prop} (h : b = false) (a : B) : if b = true then A else B := by rw [h, if_neg Bool.false_ne_true]; exact a
theorem tf {b : Bool} {A B : Prop} (h1 : b = true → A) (h2 : b = false → B) : if b = true then A else B := by
  cases b with
  | true => exact tt rfl (h1 rfl)
  | false => exact ff rfl (h2 rfl)
theorem len3 {l : List PyData} (h : (l.length : Int) = 3) : ∃ a b c, l = [a, b, c] := by
  match l, h with
  | [a, b, c], _ => exact ⟨a, b, c, rfl⟩
  | [], h => simp at h
  | [_], h => simp at h
  | [_, _], h => simp at h
  | _ :: _ :: _ :: _ :: _, h => simp at h; omega
theorem len2 {l : List PyData} (h : (l.length : Int) = 2) : ∃ a b, l = [a, b] := by
  match l, h with
  | [a, b], _ => exact ⟨a, b, rfl⟩
  | [], h => simp at h
  | [_], h => simp at h
  | _ :: _ :: _ :: _, h => simp at h; omega
theorem pure_is_side (ds : List PyData) (c : PyData → Prop) (hl : ds.length = 1) (h : S_is_side ds c) : p_is_side (fin c) (startE N_is_side ds) := by
  unfold S_is_side fn1 at h
  split at h
  · rename_i d
    refine ⟨rfl, ?_⟩
    show (if (!(isT d && decide ((lenT d : Int) = 3))) = true then c (.bool false) else _)
    have h : c (.bool (sideOk d)) := h
    refine tf (fun z => ?_) (fun z => ?_)
    · have e : sideOk d = false := by
        cases d with
        | tuple l =>
          match l, z with
          | [p, b, i], z => simp [isT, lenT] at z
          | [], _ => rfl
          | [_], _ => rfl
          | [_, _], _ => rfl
          | _ :: _ :: _ :: _ :: _, _ => rfl
        | _ => rfl
      rw [e] at h
      exact h
    · have hT : ∃ l, d = .tuple l ∧ (l.length : Int) = 3 := by
        cases d with
        | tuple l =>
          simp only [isT, lenT, Bool.true_and, Bool.not_eq_false'] at z
          exact ⟨l, rfl, of_decide_eq_true z⟩
        | _ => simp [isT] at z
      obtain ⟨l, rfl, hl3⟩ := hT
      obtain ⟨p, b, i, rfl⟩ := len3 hl3
      refine ⟨rfl, rfl, ?_⟩
      show (if (!(inR p 1 1000000000000)) = true then _ else _)
      refine tf (fun zp => ?_) (fun zp => ?_)
      · have e : sideOk (.tuple [p, b, i]) = false := by
          cases p with
          | int p =>
            have zp : (decide (1 ≤ p) && decide (p ≤ 1000000000000)) = false := by simpa only [inR, Bool.not_eq_true'] using zp
            show (decide (1 ≤ p) && decide (p ≤ 1000000000000) && isF i && bordersOk p b) = false
            rw [zp]
            rfl
          | _ => rfl
        rw [e] at h
        exact h
      · have hp : ∃ q : Int, p = .int q ∧ 1 ≤ q ∧ q ≤ 1000000000000 := by
          cases p with
          | int q =>
            have zq : (decide (1 ≤ q) && decide (q ≤ 1000000000000)) = true := by simpa only [inR, Bool.not_eq_false'] using zp
            rw [Bool.and_eq_true] at zq
            exact ⟨q, rfl, of_decide_eq_true zq.1, of_decide_eq_true zq.2⟩
          | _ => simp [inR] at zp
        obtain ⟨p, rfl, p1, p2⟩ := hp
        have es : sideOk (.tuple [.int p, b, i]) = (isF i && bordersOk p b) := by
          show (decide (1 ≤ p) && decide (p ≤ 1000000000000) && isF i && bordersOk p b) = _
          rw [decide_eq_true p1, decide_eq_true p2, Bool.and_self, Bool.true_and]
        rw [es] at h
        refine ⟨rfl, ?_⟩
        show (if (!(isF i)) = true then _ else _)
        refine tf (fun zi => ?_) (fun zi => ?_)
        · have e : isF i = false := by simpa using zi
          rw [e] at h
          exact h
        · have e : isF i = true := by simpa using zi
          rw [e, Bool.true_and] at h
          refine ⟨rfl, ?_⟩
          show (if (!(isT b)) = true then _ else _)
          refine tf (fun zb => ?_) (fun zb => ?_)
          · have e : bordersOk p b = false := by
              cases b <;> first | rfl | simp [isT] at zb
            rw [e] at h
            exact h
          · have hb : ∃ l, b = .tuple l := by
              cases b <;> first | exact ⟨_, rfl⟩ | simp [isT] at zb
            obtain ⟨bs, rfl⟩ := hb
            refine ⟨_, rfl, ?_⟩
            show (if decide ((40000 : Int) < (bs.length : Nat)) = true then _ else _)
            have eb : bordersOk p (.tuple bs) = (decide (bs.length ≤ 40000) && decide (bs.length % 2 = 0) && asc 0 (p - 1) bs) := rfl
            refine ifd (fun zl => ?_) (fun zl => ?_)
            · rw [eb, decide_eq_false (show ¬ bs.length ≤ 40000 by omega)] at h
              exact h
            · rw [eb, decide_eq_true (show bs.length ≤ 40000 by omega), Bool.true_and] at h
              refine ⟨_, rfl, (by decide : (0 : Int) < 2), rfl, rfl, ?_⟩
              show (if PyData.eqv (.int ((bs.length : Int) % 2)) (.int 1) = true then _ else _)
              rw [eqv_int]
              refine ifd (fun zm => ?_) (fun zm => ?_)
              · rw [decide_eq_false (show ¬ bs.length % 2 = 0 by omega), Bool.false_and] at h
                exact h
              · rw [decide_eq_true (show bs.length % 2 = 0 by omega), Bool.true_and] at h
                -- the loop
                refine ⟨fun k ρ => ∃ (least : Int) (o : Cell), ρ = [.d (.tuple [.int p, .tuple bs, i]), .d (.int p), .d (.tuple bs), .d i, .d (.int least), o] ∧ asc least (p - 1) (bs.drop k) = asc 0 (p - 1) bs, ⟨0, _, rfl, rfl⟩, ?_, ?_⟩
                · rintro k d ρ hk ⟨least, o, rfl, hs⟩
                  have hdr : bs.drop k = d :: bs.drop (k + 1) := by
                    have hlt := (List.getElem?_eq_some_iff.mp hk).1
                    rw [List.drop_eq_getElem_cons hlt]
                    rw [(List.getElem?_eq_some_iff.mp hk).2]
                  rw [hdr] at hs
                  refine ⟨rfl, ?_⟩
                  show (if (!(inR d least (p - 1))) = true then c (.bool false) else _)
                  refine tf (fun zd => ?_) (fun zd => ?_)
                  · have e : asc 0 (p - 1) bs = false := by
                      rw [← hs]
                      cases d with
                      | int x =>
                        have zd : (decide (least ≤ x) && decide (x ≤ p - 1)) = false := by simpa only [inR, Bool.not_eq_true'] using zd
                        show (decide (least ≤ x) && decide (x ≤ p - 1) && asc (x + 1) (p - 1) (bs.drop (k + 1))) = false
                        rw [zd]
                        rfl
                      | _ => rfl
                    rw [e] at h
                    exact h
                  · have hx : ∃ x : Int, d = .int x ∧ inR d least (p - 1) = true := by
                      cases d <;> first | exact ⟨_, rfl, by simpa using zd⟩ | simp [inR] at zd
                    obtain ⟨x, rfl, zx⟩ := hx
                    refine ⟨x + 1, .d (.int x), rfl, ?_⟩
                    rw [← hs]
                    show _ = (inR (.int x) least (p - 1) && asc (x + 1) (p - 1) (bs.drop (k + 1)))
                    rw [zx, Bool.true_and]
                · rintro ρ ⟨least, o, rfl, hs⟩
                  rw [List.drop_length] at hs
                  rw [← hs] at h
                  exact h
  · exact h.elim
theorem drop_at {l : List PyData} {k : Nat} {d : PyData} (hk : l[k]? = some d) : l.drop k = d :: l.drop (k + 1) := by
  have hlt := (List.getElem?_eq_some_iff.mp hk).1
  rw [List.drop_eq_getElem_cons hlt, (List.getElem?_eq_some_iff.mp hk).2]
theorem isI_of {d : PyData} (h : isI d = true) : ∃ i, d = .int i := by
  cases d <;> first | exact ⟨_, rfl⟩ | cases h
theorem isT_of {d : PyData} (h : isT d = true) : ∃ i, d = .tuple i := by
  cases d <;> first | exact ⟨_, rfl⟩ | cases h
theorem pure_are_runs (ds : List PyData) (c : PyData → Prop) (hl : ds.length = 2) (h : S_are_runs ds c) : p_are_runs (fin c) (startE N_are_runs ds) := by
  unfold S_are_runs at h
  split at h
  · rename_i d low
    refine ⟨rfl, ?_⟩
    show (if (!(isT d)) = true then _ else _)
    refine tf (fun z => ?_) (fun z => ?_)
    · have e : runsOk low d = false := by
        cases d <;> first | rfl | simp [isT] at z
      rw [e] at h
      exact h
    · obtain ⟨rs, rfl⟩ := isT_of (by simpa using z)
      refine ⟨_, rfl, ?_⟩
      show (if decide ((40000 : Int) < (rs.length : Nat)) = true then _ else _)
      have er : runsOk low (.tuple rs) = (decide (rs.length ≤ 40000) && runs1 low rs) := rfl
      rw [er] at h
      refine ifd (fun zl => ?_) (fun zl => ?_)
      · rw [decide_eq_false (show ¬ rs.length ≤ 40000 by omega)] at h
        exact h
      · rw [decide_eq_true (show rs.length ≤ 40000 by omega), Bool.true_and] at h
        refine ⟨fun k ρ => ∃ (least : Int) (o1 o2 o3 : Cell), ρ = [.d (.tuple rs), .d (.int low), .d (.int least), o1, o2, o3] ∧ runs1 least (rs.drop k) = runs1 low rs, ⟨low, _, _, _, rfl, rfl⟩, ?_, ?_⟩
        · rintro k d ρ hk ⟨least, o1, o2, o3, rfl, hs⟩
          rw [drop_at hk] at hs
          refine ⟨rfl, ?_⟩
          show (if (!(isT d && decide ((lenT d : Int) = 2))) = true then c (.bool false) else _)
          refine tf (fun zd => ?_) (fun zd => ?_)
          · have e : runs1 low rs = false := by
              have p0 : pairOf d = none := by
                cases d with
                | tuple l =>
                  match l, zd with
                  | [b, e], zd => simp [isT, lenT] at zd
                  | [], _ => rfl
                  | [_], _ => rfl
                  | _ :: _ :: _ :: _, _ => rfl
                | _ => rfl
              rw [← hs]
              unfold runs1
              rw [p0]
            rw [e] at h
            exact h
          · have hT : ∃ l, d = .tuple l ∧ (l.length : Int) = 2 := by
              cases d with
              | tuple l =>
                simp only [isT, lenT, Bool.true_and, Bool.not_eq_false'] at zd
                exact ⟨l, rfl, of_decide_eq_true zd⟩
              | _ => simp [isT] at zd
            obtain ⟨l, rfl, hl2⟩ := hT
            obtain ⟨b, e, rfl⟩ := len2 hl2
            refine ⟨rfl, rfl, ?_⟩
            show (if (!(isI b)) = true then _ else _)
            refine tf (fun zb => ?_) (fun zb => ?_)
            · have e : runs1 low rs = false := by
                have p0 : pairOf (.tuple [b, e]) = none := by
                  cases b <;> first | rfl | simp [isI] at zb
                rw [← hs]
                unfold runs1
                rw [p0]
              rw [e] at h
              exact h
            · obtain ⟨b, rfl⟩ := isI_of (by simpa using zb)
              refine ⟨rfl, ?_⟩
              show (if (!(isI e)) = true then _ else _)
              refine tf (fun ze => ?_) (fun ze => ?_)
              · have e : runs1 low rs = false := by
                  have p0 : pairOf (.tuple [.int b, e]) = none := by
                    cases e <;> first | rfl | simp [isI] at ze
                  rw [← hs]
                  unfold runs1
                  rw [p0]
                rw [e] at h
                exact h
              · obtain ⟨e, rfl⟩ := isI_of (by simpa using ze)
                have e1 : runs1 least (.tuple [.int b, .int e] :: rs.drop (k + 1)) = (decide (least ≤ b) && decide (b < e) && runs1 (e + 1) (rs.drop (k + 1))) := rfl
                rw [e1] at hs
                have bad : (decide (least ≤ b) && decide (b < e)) = false → c (.bool false) := fun z => by
                  rw [z, Bool.false_and] at hs
                  rw [← hs] at h
                  exact h
                show (if decide (least ≤ b) = true then _ else _)
                refine ifd (fun zb => ?_) (fun zb => ?_)
                · show (if (!(decide (b < e))) = true then _ else _)
                  refine tf (fun zz => ?_) (fun zz => ?_)
                  · have zz : decide (b < e) = false := by simpa using zz
                    exact bad (by rw [zz, Bool.and_false])
                  · have zz : decide (b < e) = true := by simpa using zz
                    rw [decide_eq_true zb, zz, Bool.true_and, Bool.true_and] at hs
                    exact ⟨e + 1, _, _, _, rfl, hs⟩
                · exact bad (by rw [decide_eq_false zb, Bool.false_and])
        · rintro ρ ⟨least, o1, o2, o3, rfl, hs⟩
          rw [List.drop_length] at hs
          rw [← hs] at h
          exact h
  · exact h.elim
theorem oSome {o : Option PyData} {d : PyData} {k : PyData → Prop} (h : o = some d) (q : k d) : asO o k := by
  rw [h]
  exact q
theorem pairOf_eq {d : PyData} {b e : Int} (h : pairOf d = some (b, e)) : d = .tuple [.int b, .int e] := by
  cases d with
  | tuple l =>
    match l, h with
    | [x, y], h =>
      cases x with
      | int x =>
        cases y with
        | int y =>
          cases h
          rfl
        | _ => cases h
      | _ => cases h
    | [], h => cases h
    | [_], h => cases h
    | _ :: _ :: _ :: _, h => cases h
  | _ => cases h
theorem runs1_last : ∀ {init : List PyData} {low : Int} {d : PyData}, runs1 low (init ++ [d]) = true → ∃ b e, pairOf d = some (b, e) ∧ endOf low (init ++ [d]) = e
  | [], low, d, h => by
    cases q : pairOf d with
    | none =>
      rw [List.nil_append] at h
      unfold runs1 at h
      rw [q] at h
      cases h
    | some p =>
      obtain ⟨b, e⟩ := p
      refine ⟨b, e, rfl, ?_⟩
      rw [List.nil_append]
      unfold endOf
      rw [q]
      rfl
  | x :: init, low, d, h => by
    rw [List.cons_append] at h ⊢
    unfold runs1 at h
    unfold endOf
    cases q : pairOf x with
    | none =>
      rw [q] at h
      cases h
    | some p =>
      obtain ⟨b, e⟩ := p
      rw [q] at h
      have h : (decide (low ≤ b) && decide (b < e) && runs1 (e + 1) (init ++ [d])) = true := h
      rw [Bool.and_eq_true] at h
      obtain ⟨b', e', h1, h2⟩ := runs1_last h.2
      refine ⟨b', e', h1, ?_⟩
      show endOf e (init ++ [d]) = e'
      rw [← h2]
      exact endOf_snoc h1
where endOf_snoc {b e : Int} : ∀ {init : List PyData} {low low' : Int} {d : PyData}, pairOf d = some (b, e) → endOf low (init ++ [d]) = endOf low' (init ++ [d])
  | [], low, low', d, h => by
    rw [List.nil_append]
    unfold endOf
    rw [h]
  | x :: init, low, low', d, h => by
    rw [List.cons_append]
    unfold endOf
    cases pairOf x with
    | none => exact endOf_snoc h
    | some p => exact rfl
theorem pure_dayset_fault (ds : List PyData) (c : PyData → Prop) (hl : ds.length = 1) (h : S_dayset_fault ds c) : p_dayset_fault (fin c) (startE N_dayset_fault ds) := by
  unfold S_dayset_fault at h
  split at h
  · rename_i l lo rs hi r
    refine ⟨rfl, rfl, ?_⟩
    show (if (!(sideOk l)) = true then c (txt "left") else _)
    unfold fault5 at h
    refine tf (fun z => ?_) (fun z => ?_)
    · rw [if_pos (by simpa using z)] at h
      exact h
    rw [if_neg (by simpa using z)] at h
    refine ⟨rfl, ?_⟩
    show (if (!(isI lo)) = true then c (txt "low") else _)
    refine tf (fun z => ?_) (fun z => ?_)
    · cases lo <;> first | exact h | simp [isI] at z
    obtain ⟨low, rfl⟩ := isI_of (by simpa using z)
    have h : c (if runsOk low rs = false then txt "runs" else if highBad low rs hi then txt "high" else if sideOk r = false then txt "right" else .none) := h
    refine ⟨rfl, ?_⟩
    show (if (!(runsOk low rs)) = true then c (txt "runs") else _)
    refine tf (fun z => ?_) (fun z => ?_)
    · rw [if_pos (by simpa using z)] at h
      exact h
    have hr : runsOk low rs = true := by simpa using z
    rw [if_neg (by rw [hr]; decide)] at h
    have hrs : ∃ rl, rs = .tuple rl ∧ runs1 low rl = true := by
      cases rs with
      | tuple rl =>
        have hr : (decide (rl.length ≤ 40000) && runs1 low rl) = true := hr
        rw [Bool.and_eq_true] at hr
        exact ⟨rl, rfl, hr.2⟩
      | _ => cases hr
    obtain ⟨rl, rfl, h1⟩ := hrs
    refine ⟨!rl.isEmpty, rfl, ?_⟩
    -- what follows, once the end is known
    have go : ∀ (e : Int), e = endOf low rl → (pSeq (pIfS (pOr (pNot (pTst (pCall 1 S_is_whole (pCons (pVar 4) pNil)))) (pTst (pII (fun i j => .bool (decide (i < j))) (pVar 4) (pVar 6)))) (pRet (pC (txt "high"))) pNext)
      (pSeq (pIfS (pNot (pTst (pCall 1 S_is_side (pCons (pVar 5) pNil)))) (pRet (pC (txt "right"))) pNext)
      (pRet (pC .none)))) (fin c) [.d (.tuple [l, .int low, .tuple rl, hi, r]), .d l, .d (.int low), .d (.tuple rl), .d hi, .d r, .d (.int e)] := fun e ee => by
      refine ⟨rfl, ?_⟩
      show (if (!(isI hi)) = true then _ else _)
      have last : c (if sideOk r = false then txt "right" else .none) → (pSeq (pIfS (pNot (pTst (pCall 1 S_is_side (pCons (pVar 5) pNil)))) (pRet (pC (txt "right"))) pNext) (pRet (pC .none))) (fin c) [.d (.tuple [l, .int low, .tuple rl, hi, r]), .d l, .d (.int low), .d (.tuple rl), .d hi, .d r, .d (.int e)] := fun h => by
        refine ⟨rfl, ?_⟩
        show (if (!(sideOk r)) = true then c (txt "right") else c .none)
        refine tf (fun z => ?_) (fun z => ?_)
        · rw [if_pos (by simpa using z)] at h
          exact h
        · rw [if_neg (by simpa using z)] at h
          exact h
      refine tf (fun z => ?_) (fun z => ?_)
      · have hb : highBad low (.tuple rl) hi = true := by
          cases hi <;> first | rfl | simp [isI] at z
        rw [if_pos hb] at h
        exact h
      · obtain ⟨hi, rfl⟩ := isI_of (by simpa using z)
        show (if decide (hi < e) = true then c (txt "high") else _)
        have hb : highBad low (.tuple rl) (.int hi) = decide (hi < e) := by
          rw [ee]
          rfl
        refine ifd (fun z => ?_) (fun z => ?_)
        · rw [if_pos (by rw [hb]; exact decide_eq_true z)] at h
          exact h
        · rw [if_neg (by rw [hb]; simpa using z)] at h
          exact last h
    rcases List.eq_nil_or_concat rl with rfl | ⟨init, d, rfl⟩
    · exact go low rfl
    · rw [List.concat_eq_append] at h1 go ⊢
      obtain ⟨b, e, hp, he⟩ := runs1_last h1
      refine tt (by cases init <;> rfl) ?_
      obtain rfl := pairOf_eq hp
      refine oSome (atI_last _ _) ?_

      exact go e he.symm
  · exact h.elim
end Pr
namespace Pr
open PySem L2 Pu
abbrev finB (c : PyData → Prop) : PEnds := ⟨fun ρ => Pu.cellAt ρ 0 = .box ∧ c .none, fun d ρ => Pu.cellAt ρ 0 = .box ∧ c d, fun _ => False, fun _ => False⟩
def S_law_draws : FS := fun ds k => match ds with
  | [.int _, .int m, .int n] => 0 < m ∧ m < 1073741824 ∧ 0 ≤ n ∧ n ≤ 100 ∧ ∀ ns : List Int, ns.length = n.toNat → (∀ x ∈ ns, 0 ≤ x ∧ x < m) → k (.list (ns.map PyData.int))
  | _ => False
def S_law_next : FS := fun ds k => match ds with
  | [.int m] => 0 < m ∧ ∀ v : Int, 0 ≤ v → v < m → k (.int v)
  | _ => False
def S_law_side : FS := fun ds k => match ds with
  | [] => ∀ d, sideOk d = true → k d
  | _ => False
def S_law_dayset : FS := fun ds k => match ds with
  | [] => ∀ l low rs h r, sideOk l = true → runsOk low rs = true → highBad low rs h = false → sideOk r = true → k (.tuple [l, .int low, rs, h, r])
  | _ => False
def S_law_spoilt : FS := fun ds k => match ds with
  | [.tuple [l, lo, rs, h, r], .int place, .int low] => (place = 0 ∧ ∀ w, sideOk w = false → k (.tuple [w, lo, rs, h, r])) ∨ (place = 1 ∧ ∀ w, isI w = false → k (.tuple [l, w, rs, h, r])) ∨
      (place = 2 ∧ ∀ w, runsOk low w = false → k (.tuple [l, lo, w, h, r])) ∨ (place = 3 ∧ runsOk low rs = true ∧ ∀ w, highBad low rs w = true → k (.tuple [l, lo, rs, w, r])) ∨ (place = 4 ∧ ∀ w, sideOk w = false → k (.tuple [l, lo, rs, h, w]))
  | _ => False
-- _law_draws: ['cell', 'modulus', 'count', 'number', 'row', 'k', 'mixed']
abbrev N_law_draws : List Str := ["cell", "modulus", "count", "number", "row", "k", "mixed"]
def p_law_draws : PS' := (pSeq (pAsg (pVar 0) (pgN 3))
      (pSeq (pIfS (pTst (pII (fun i j => .bool (decide (i < j))) (pVar 3) (pC (.int 0)))) (pAsg (pII (fun i j => .int (i - j)) (pII (fun i j => .int (i - j)) (pC (.int 0)) (pC (.int 1))) (pVar 3)) (pgN 3)) pNext)
      (pSeq (pAsgO (pLst pNil) 4)
      (pSeq (pIfS (pTst (pII (fun i j => .bool (decide (j ≤ i))) (pVar 3) (pIIc CPow (fun i j => .int (i ^ j.toNat)) (pC (.int 10)) (pC (.int 18))))) (pSeq (pRng (pCons (pVar 2) pNil) (pgN 5) (pSeq (pApp 4 (pIIc (fun _ j => 0 < j) (fun i j => .int (i % j)) (pFn fInt (pCons (pVar 3) pNil)) (pVar 1)))
      (pAsg (pIIc CDiv (fun i j => .int (i / j)) (pVar 3) (pVar 1)) (pgN 3))))
      (pRetO 4)) pNext)
      (pSeq (pRng (pCons (pVar 2) pNil) (pgN 5) (pSeq (pAsg (pIIc (fun _ j => 0 < j) (fun i j => .int (i % j)) (pFn fInt (pCons (pIIc CMul (fun i j => .int (i * j)) (pPlus (pPlus (pVar 3) (pIIc CMul (fun i j => .int (i * j)) (pC (.int 7)) (pVar 5))) (pC (.int 1))) (pC (.int 48271))) pNil)) (pC (.int 2147483647))) (pgN 6))
      (pSeq (pAsg (pIIc (fun _ j => 0 < j) (fun i j => .int (i % j)) (pFn fInt (pCons (pPlus (pIIc CMul (fun i j => .int (i * j)) (pVar 6) (pC (.int 69621))) (pIIc CMul (fun i j => .int (i * j)) (pC (.int 31)) (pVar 5))) pNil)) (pC (.int 2147483629))) (pgN 6))
      (pApp 4 (pIIc (fun _ j => 0 < j) (fun i j => .int (i % j)) (pFn fInt (pCons (pIIc CDiv (fun i j => .int (i / j)) (pVar 6) (pC (.int 7))) pNil)) (pVar 1))))))
      (pRetO 4))))))
-- _law_next: ['box', 'modulus', 'at', 'number']
abbrev N_law_next : List Str := ["box", "modulus", "at", "number"]
-- _law_side: ['box', 'period', 'borders', 'k']
abbrev N_law_side : List Str := ["box", "period", "borders", "k"]
def p_law_side : PS' := (pSeq (pAsg (pPlus (pC (.int 1)) (pCallB 1 S_law_next 0 (pCons (pC (.int 8)) pNil))) (pgN 1))
      (pSeq (pIfS (pTst (pEqD false (pCallB 1 S_law_next 0 (pCons (pC (.int 6)) pNil)) (pC (.int 0)))) (pAsg (pIx (pNew (pLst (pCons (pC (.int 11)) (pCons (pC (.int 30)) (pCons (pC (.int 97)) pNil))))) (pCallB 1 S_law_next 0 (pCons (pC (.int 3)) pNil))) (pgN 1)) pNext)
      (pSeq (pAsg (pNew (pSortSet (pCons (pNew (pLcR [3] [3] (pCons (pCallB 1 S_law_next 0 (pCons (pC (.int 5)) pNil)) pNil) (pgN 3) pYes (pCallB 1 S_law_next 0 (pCons (pVar 1) pNil)))) pNil))) (pgN 2))
      (pSeq (pIfS (pTst (pEqD false (pIIc (fun _ j => 0 < j) (fun i j => .int (i % j)) (pFn fLen (pCons (pVar 2) pNil)) (pC (.int 2))) (pC (.int 1)))) (pAsg (pCut (pVar 2) (pPart (pC (.int 1))) pNoP) (pgN 2)) pNext)
      (pRet (pTup (pCons (pVar 1) (pCons (pFn fTuple (pCons (pVar 2) pNil)) (pCons (pEqD false (pCallB 1 S_law_next 0 (pCons (pC (.int 2)) pNil)) (pC (.int 1))) pNil)))))))))
-- _law_dayset: ['box', 'low', 'at', 'runs', 'k', 'first', 'left', 'right']
abbrev N_law_dayset : List Str := ["box", "low", "at", "runs", "k", "first", "left", "right"]
def p_law_dayset : PS' := (pSeq (pAsg (pII (fun i j => .int (i - j)) (pCallB 1 S_law_next 0 (pCons (pC (.int 21)) pNil)) (pC (.int 10))) (pgN 1))
      (pSeq (pAsg (pVar 1) (pgN 2))
      (pSeq (pAsgO (pLst pNil) 3)
      (pSeq (pRng (pCons (pCallB 1 S_law_next 0 (pCons (pC (.int 4)) pNil)) pNil) (pgN 4) (pSeq (pAsg (pPlus (pPlus (pVar 2) (pCallB 1 S_law_next 0 (pCons (pC (.int 4)) pNil))) (pFn fInt (pCons (pII (fun i j => .bool (decide (j < i))) (pLenO 3) (pC (.int 0))) pNil))) (pgN 5))
      (pSeq (pApp 3 (pTup (pCons (pVar 5) (pCons (pPlus (pPlus (pVar 5) (pC (.int 1))) (pCallB 1 S_law_next 0 (pCons (pC (.int 4)) pNil))) pNil))))
      (pAsg (pIx (pIxO 3 (pI (fun i => .int (-i)) (pC (.int 1)))) (pC (.int 1))) (pgN 2)))))
      (pSeq (pAsg (pCallB 0 S_law_side 0 pNil) (pgN 6))
      (pSeq (pAsg (pIfE (pTst (pEqD false (pCallB 1 S_law_next 0 (pCons (pC (.int 4)) pNil)) (pC (.int 0)))) (pVar 6) (pCallB 0 S_law_side 0 pNil)) (pgN 7))
      (pRet (pTup (pCons (pVar 6) (pCons (pVar 1) (pCons (pTupO 3) (pCons (pPlus (pVar 2) (pCallB 1 S_law_next 0 (pCons (pC (.int 4)) pNil))) (pCons (pVar 7) pNil)))))))))))))
-- _law_spoilt: ['box', 'dayset', 'place', 'low', 'sides', 'runs', 'wrong']
abbrev N_law_spoilt : List Str := ["box", "dayset", "place", "low", "sides", "runs", "wrong"]
def p_law_spoilt : PS' := (pSeq (pAsg (pNew (pLst (pCons (pTup (pCons (pC (.int 0)) (pCons (pTup pNil) (pCons (pC (.bool false)) pNil)))) (pCons (pTup (pCons (pC (.int 1)) (pCons (pTup (pCons (pC (.int 0)) pNil)) (pCons (pC (.bool false)) pNil)))) (pCons (pTup (pCons (pC (.int 4)) (pCons (pTup (pCons (pC (.int 1)) (pCons (pC (.int 1)) pNil))) (pCons (pC (.bool true)) pNil)))) (pCons (pTup (pCons (pC (.int 4)) (pCons (pTup (pCons (pC (.int 2)) (pCons (pC (.int 1)) pNil))) (pCons (pC (.bool true)) pNil)))) (pCons (pTup (pCons (pC (.int 4)) (pCons (pTup (pCons (pC (.int 1)) (pCons (pC (.int 4)) pNil))) (pCons (pC (.bool true)) pNil)))) (pCons (pTup (pCons (pC (.int 4)) (pCons (pTup (pCons (pC (.int 1)) (pCons (pC (.int 2)) pNil))) (pCons (pC (.int 1)) pNil)))) pNil)))))))) (pgN 4))
      (pSeq (pAsg (pPlus (pVar 4) (pNew (pLst (pCons (pTup (pCons (pC (.int 2)) (pCons (pTup pNil) (pCons (pC .none) pNil)))) (pCons (pTup (pCons (pC (.bool true)) (pCons (pTup pNil) (pCons (pC (.bool true)) pNil)))) (pCons (pTup (pCons (pC (.int 4)) (pCons (pNew (pLst (pCons (pC (.int 1)) (pCons (pC (.int 2)) pNil)))) (pCons (pC (.bool true)) pNil)))) (pCons (pTup (pCons (pC (.int 4)) (pCons (pTup (pCons (pC (.int 1)) (pCons (pC (.int 2)) pNil))) pNil))) (pCons (pTup (pCons (pPlus (pIIc CPow (fun i j => .int (i ^ j.toNat)) (pC (.int 10)) (pC (.int 12))) (pC (.int 1))) (pCons (pTup pNil) (pCons (pC (.bool true)) pNil)))) (pCons (pTup (pCons (pC (.int 4)) (pCons (pTup (pCons (pI (fun i => .int (-i)) (pC (.int 1))) (pCons (pC (.int 2)) pNil))) (pCons (pC (.bool true)) pNil)))) pNil))))))))) (pgN 4))
      (pSeq (pAsg (pNew (pLst (pCons (pTup (pCons (pTup (pCons (pII (fun i j => .int (i - j)) (pVar 3) (pC (.int 1))) (pCons (pPlus (pVar 3) (pC (.int 1))) pNil))) pNil)) (pCons (pTup (pCons (pTup (pCons (pVar 3) (pCons (pVar 3) pNil))) pNil)) (pCons (pTup (pCons (pTup (pCons (pPlus (pVar 3) (pC (.int 1))) (pCons (pPlus (pVar 3) (pC (.int 3))) pNil))) (pCons (pTup (pCons (pPlus (pVar 3) (pC (.int 3))) (pCons (pPlus (pVar 3) (pC (.int 4))) pNil))) pNil))) (pCons (pTup (pCons (pTup (pCons (pVar 3) (pCons (pPlus (pVar 3) (pC (.int 1))) (pCons (pC (.int 5)) pNil)))) pNil)) (pCons (pNew (pLst pNil)) (pCons (pTup (pCons (pVar 3) pNil)) (pCons (pTup (pCons (pTup (pCons (pPlus (pVar 3) (pC (.int 2))) (pCons (pPlus (pVar 3) (pC (.int 1))) pNil))) pNil)) pNil))))))))) (pgN 5))
      (pSeq (pAsg (pIx (pNew (pLst (pCons (pVar 4) (pCons (pNew (pLst (pCons (pC (.bool true)) (pCons (pTup (pCons (pC (.int 3)) pNil)) pNil)))) (pCons (pVar 5) (pCons (pNew (pLst (pCons (pII (fun i j => .int (i - j)) (pVar 3) (pC (.int 1))) (pCons (pC (.bool true)) (pCons (pC .none) pNil))))) (pCons (pVar 4) pNil))))))) (pVar 2)) (pgN 6))
      (pSeq (pIfS (pAnd (pTst (pEqD false (pVar 2) (pC (.int 3)))) (pTst (pII (fun i j => .bool (decide (j < i))) (pFn fLen (pCons (pIx (pVar 1) (pC (.int 2))) pNil)) (pC (.int 0))))) (pAsg (pPlus (pVar 6) (pNew (pLst (pCons (pII (fun i j => .int (i - j)) (pIx (pIx (pIx (pVar 1) (pC (.int 2))) (pI (fun i => .int (-i)) (pC (.int 1)))) (pC (.int 1))) (pC (.int 1))) pNil)))) (pgN 6)) pNext)
      (pRet (pPlus (pPlus (pCut (pVar 1) pNoP (pPart (pVar 2))) (pTup (pCons (pIx (pVar 6) (pCallB 1 S_law_next 0 (pCons (pFn fLen (pCons (pVar 6) pNil)) pNil))) pNil))) (pCut (pVar 1) (pPart (pPlus (pVar 2) (pC (.int 1)))) pNoP))))))))
theorem pure_law_draws (ds : List PyData) (c : PyData → Prop) (hl : ds.length = 3) (h : S_law_draws ds c) : p_law_draws (fin c) (startE N_law_draws ds) := by
  unfold S_law_draws at h
  split at h
  · rename_i cell m n
    obtain ⟨m0, m1, n0, n1, h⟩ := h
    -- the two loops, from any number
    have loop1 : ∀ number : Int, (pSeq (pRng (pCons (pVar 2) pNil) (pgN 5) (pSeq (pApp 4 (pIIc (fun _ j => 0 < j) (fun i j => .int (i % j)) (pFn fInt (pCons (pVar 3) pNil)) (pVar 1)))
      (pAsg (pIIc CDiv (fun i j => .int (i / j)) (pVar 3) (pVar 1)) (pgN 3)))) (pRetO 4)) { fin c with nx := fun _ => c .none } [.d (.int cell), .d (.int m), .d (.int n), .d (.int number), .own [], .no, .no] := fun number => by
      refine ⟨0, n, .inl ⟨rfl, rfl⟩, ⟨by omega, by omega, by omega, by omega⟩, fun k ρ => ∃ (num : Int) (o : Cell) (ns : List Int), ρ = [.d (.int cell), .d (.int m), .d (.int n), .d (.int num), .own (ns.map PyData.int), o, .no] ∧ ns.length = k ∧ ∀ x ∈ ns, 0 ≤ x ∧ x < m, ⟨number, _, [], rfl, rfl, fun _ z => nomatch z⟩, ?_, ?_⟩
      · rintro i ρ hi ⟨num, o, ns, rfl, hn, hb⟩
        refine ⟨m0, ?_, ⟨m0, m1⟩, num / m, .d (.int (0 + (i : Int))), ns ++ [num % m], ?_, by simp [hn], ?_⟩
        · rw [List.length_map, hn]
          omega
        · rw [List.map_append]
          rfl
        · intro x hx
          rcases List.mem_append.mp hx with hx | hx
          · exact hb x hx
          · rw [List.mem_singleton.mp hx]
            exact ⟨Int.emod_nonneg _ (by omega), Int.emod_lt_of_pos _ m0⟩
      · rintro ρ ⟨num, o, ns, rfl, hn, hb⟩
        exact h ns (by rw [hn, Int.sub_zero]) hb
    have loop2 : ∀ number : Int, (pSeq (pRng (pCons (pVar 2) pNil) (pgN 5) (pSeq (pAsg (pIIc (fun _ j => 0 < j) (fun i j => .int (i % j)) (pFn fInt (pCons (pIIc CMul (fun i j => .int (i * j)) (pPlus (pPlus (pVar 3) (pIIc CMul (fun i j => .int (i * j)) (pC (.int 7)) (pVar 5))) (pC (.int 1))) (pC (.int 48271))) pNil)) (pC (.int 2147483647))) (pgN 6))
      (pSeq (pAsg (pIIc (fun _ j => 0 < j) (fun i j => .int (i % j)) (pFn fInt (pCons (pPlus (pIIc CMul (fun i j => .int (i * j)) (pVar 6) (pC (.int 69621))) (pIIc CMul (fun i j => .int (i * j)) (pC (.int 31)) (pVar 5))) pNil)) (pC (.int 2147483629))) (pgN 6))
      (pApp 4 (pIIc (fun _ j => 0 < j) (fun i j => .int (i % j)) (pFn fInt (pCons (pIIc CDiv (fun i j => .int (i / j)) (pVar 6) (pC (.int 7))) pNil)) (pVar 1)))))) (pRetO 4)) (fin c) [.d (.int cell), .d (.int m), .d (.int n), .d (.int number), .own [], .no, .no] := fun number => by
      refine ⟨0, n, .inl ⟨rfl, rfl⟩, ⟨by omega, by omega, by omega, by omega⟩, fun k ρ => ∃ (o1 o2 : Cell) (ns : List Int), ρ = [.d (.int cell), .d (.int m), .d (.int n), .d (.int number), .own (ns.map PyData.int), o1, o2] ∧ ns.length = k ∧ ∀ x ∈ ns, 0 ≤ x ∧ x < m, ⟨_, _, [], rfl, rfl, fun _ z => nomatch z⟩, ?_, ?_⟩
      · rintro i ρ hi ⟨o1, o2, ns, rfl, hn, hb⟩
        refine ⟨.inl (by decide), .inr (by decide), (by decide : (0 : Int) < 2147483647), .inr (by decide), .inl (by decide), (by decide : (0 : Int) < 2147483629), ⟨by decide, by decide⟩, m0, ?len, ?a, ?b, ns ++ [?x], ?e, by simp [hn], ?m⟩
        case len =>
          rw [List.length_map, hn]
          omega
        case e =>
          rw [List.map_append]
          exact rfl
        case m =>
          intro x hx
          rcases List.mem_append.mp hx with hx | hx
          · exact hb x hx
          · rw [List.mem_singleton.mp hx]
            exact ⟨Int.emod_nonneg _ (by omega), Int.emod_lt_of_pos _ m0⟩
      · rintro ρ ⟨o1, o2, ns, rfl, hn, hb⟩
        exact h ns (by rw [hn, Int.sub_zero]) hb
    have rest : ∀ number : Int, (pSeq (pAsgO (pLst pNil) 4)
      (pSeq (pIfS (pTst (pII (fun i j => .bool (decide (j ≤ i))) (pVar 3) (pIIc CPow (fun i j => .int (i ^ j.toNat)) (pC (.int 10)) (pC (.int 18))))) (pSeq (pRng (pCons (pVar 2) pNil) (pgN 5) (pSeq (pApp 4 (pIIc (fun _ j => 0 < j) (fun i j => .int (i % j)) (pFn fInt (pCons (pVar 3) pNil)) (pVar 1)))
      (pAsg (pIIc CDiv (fun i j => .int (i / j)) (pVar 3) (pVar 1)) (pgN 3))))
      (pRetO 4)) pNext)
      (pSeq (pRng (pCons (pVar 2) pNil) (pgN 5) (pSeq (pAsg (pIIc (fun _ j => 0 < j) (fun i j => .int (i % j)) (pFn fInt (pCons (pIIc CMul (fun i j => .int (i * j)) (pPlus (pPlus (pVar 3) (pIIc CMul (fun i j => .int (i * j)) (pC (.int 7)) (pVar 5))) (pC (.int 1))) (pC (.int 48271))) pNil)) (pC (.int 2147483647))) (pgN 6))
      (pSeq (pAsg (pIIc (fun _ j => 0 < j) (fun i j => .int (i % j)) (pFn fInt (pCons (pPlus (pIIc CMul (fun i j => .int (i * j)) (pVar 6) (pC (.int 69621))) (pIIc CMul (fun i j => .int (i * j)) (pC (.int 31)) (pVar 5))) pNil)) (pC (.int 2147483629))) (pgN 6))
      (pApp 4 (pIIc (fun _ j => 0 < j) (fun i j => .int (i % j)) (pFn fInt (pCons (pIIc CDiv (fun i j => .int (i / j)) (pVar 6) (pC (.int 7))) pNil)) (pVar 1))))))
      (pRetO 4)))) (fin c) [.d (.int cell), .d (.int m), .d (.int n), .d (.int number), .no, .no, .no] := fun number => by
      refine ⟨by decide, Nat.zero_le _, ⟨by decide, by decide, by decide⟩, ?_⟩
      refine tf (fun _ => ?_) (fun _ => ?_)
      · exact loop1 number
      · exact loop2 number
    show (if decide (cell < 0) = true then _ else _)
    refine ifd (fun _ => ?_) (fun _ => ?_)
    · exact rest _
    · exact rest _
  · exact h.elim
end Pr
namespace Pr
open PySem L2 Pu
theorem asc_of : ∀ {ns : List Int} {lo hi : Int}, ns.Pairwise (· < ·) → (∀ x ∈ ns, lo ≤ x ∧ x ≤ hi) → asc lo hi (ns.map PyData.int) = true
  | [], _, _, _, _ => rfl
  | n :: ns, lo, hi, hp, hb => by
    obtain ⟨h1, h2⟩ := hb n List.mem_cons_self
    show (decide (lo ≤ n) && decide (n ≤ hi) && asc (n + 1) hi (ns.map PyData.int)) = true
    rw [decide_eq_true h1, decide_eq_true h2, asc_of (List.pairwise_cons.mp hp).2 fun x hx => ⟨by have := (List.pairwise_cons.mp hp).1 x hx; omega, (hb x (List.mem_cons_of_mem _ hx)).2⟩]
    rfl
theorem side_of {p : Int} {ns : List Int} {b : Bool} (p0 : 1 ≤ p) (p1 : p ≤ 100) (hp : ns.Pairwise (· < ·)) (hb : ∀ x ∈ ns, 0 ≤ x ∧ x < p) (hl : ns.length ≤ 100) (he : ns.length % 2 = 0) : sideOk (.tuple [.int p, .tuple (ns.map PyData.int), .bool b]) = true := by
  show (decide (1 ≤ p) && decide (p ≤ 1000000000000) && isF (.bool b) && (decide ((ns.map PyData.int).length ≤ 40000) && decide ((ns.map PyData.int).length % 2 = 0) && asc 0 (p - 1) (ns.map PyData.int))) = true
  rw [List.length_map, decide_eq_true p0, decide_eq_true (show p ≤ 1000000000000 by omega), decide_eq_true (show ns.length ≤ 40000 by omega), decide_eq_true he, asc_of hp fun x hx => ⟨(hb x hx).1, by have := (hb x hx).2; omega⟩]
  rfl
theorem atI_in {l : List PyData} {v : Int} (h0 : 0 ≤ v) (h1 : v < (l.length : Nat)) : ∃ d, atI l v = some d ∧ d ∈ l := by
  obtain ⟨n, rfl⟩ : ∃ n : Nat, v = n := ⟨v.toNat, by omega⟩
  have hv : n < l.length := by omega
  exact ⟨l[n], atI_nat (List.getElem?_eq_getElem hv), List.getElem_mem hv⟩
theorem pure_law_side (ds : List PyData) (c : PyData → Prop) (hl : ds.length = 0) (h : S_law_side ds c) : p_law_side (finB c) (.box :: startE N_law_side.tail ds) := by
  cases ds with
  | cons _ _ => cases hl
  | nil =>
    have h : ∀ d, sideOk d = true → c d := h
    -- from the period on
    have rest : ∀ p : Int, 1 ≤ p → p ≤ 100 → (pSeq (pAsg (pNew (pSortSet (pCons (pNew (pLcR [3] [3] (pCons (pCallB 1 S_law_next 0 (pCons (pC (.int 5)) pNil)) pNil) (pgN 3) pYes (pCallB 1 S_law_next 0 (pCons (pVar 1) pNil)))) pNil))) (pgN 2))
      (pSeq (pIfS (pTst (pEqD false (pIIc (fun _ j => 0 < j) (fun i j => .int (i % j)) (pFn fLen (pCons (pVar 2) pNil)) (pC (.int 2))) (pC (.int 1)))) (pAsg (pCut (pVar 2) (pPart (pC (.int 1))) pNoP) (pgN 2)) pNext)
      (pRet (pTup (pCons (pVar 1) (pCons (pFn fTuple (pCons (pVar 2) pNil)) (pCons (pEqD false (pCallB 1 S_law_next 0 (pCons (pC (.int 2)) pNil)) (pC (.int 1))) pNil))))))) (finB c) [.box, .d (.int p), .no, .no] := fun p p0 p1 => by
      refine ⟨by simp [Pu.cellAt], rfl, rfl, rfl, by decide, fun n n0 n1 => ⟨rfl, 0, n, .inl ⟨rfl, rfl⟩, ⟨by omega, by omega, by omega, by omega⟩, fun k acc => ∃ ns : List Int, acc = ns.map PyData.int ∧ ns.length = k ∧ ∀ x ∈ ns, 0 ≤ x ∧ x < p, ⟨[], rfl, rfl, fun _ z => nomatch z⟩, ?_, ?_⟩⟩
      · rintro k acc hk ⟨ns, rfl, hn, hb⟩
        refine ⟨rfl, ?_⟩
        refine ⟨rfl, rfl, rfl, by omega, fun v v0 v1 => ⟨rfl, by rw [List.length_map]; omega, ns ++ [v], by rw [List.map_append]; rfl, by simp [hn], fun x hx => ?_⟩⟩
        rcases List.mem_append.mp hx with hx | hx
        · exact hb x hx
        · rw [List.mem_singleton.mp hx]
          exact ⟨v0, v1⟩
      · rintro acc ⟨ns, rfl, hn, hb⟩
        refine ⟨ns, rfl, by omega, fun bs pw mem len => ?_⟩
        have hbs : ∀ x ∈ bs, 0 ≤ x ∧ x < p := fun x hx => hb x ((mem x).mp hx)
        -- from the even borders on
        have last : ∀ bs : List Int, bs.Pairwise (· < ·) → (∀ x ∈ bs, 0 ≤ x ∧ x < p) → bs.length ≤ 100 → bs.length % 2 = 0 → ∀ o, (pRet (pTup (pCons (pVar 1) (pCons (pFn fTuple (pCons (pVar 2) pNil)) (pCons (pEqD false (pCallB 1 S_law_next 0 (pCons (pC (.int 2)) pNil)) (pC (.int 1))) pNil))))) (finB c) [.box, .d (.int p), .d (.list (bs.map PyData.int)), o] := fun bs pw hb hl he o => by
          refine ⟨rfl, rfl, rfl, by decide, fun v v0 v1 => ⟨rfl, rfl, ?_, rfl, ?_⟩⟩
          · show 3 ≤ 100000
            decide
          · exact h _ (side_of p0 p1 pw hb hl he)
        refine ⟨_, rfl, (by decide : (0 : Int) < 2), rfl, rfl, ?_⟩
        show (if PyData.eqv (.int (((bs.map PyData.int).length : Int) % 2)) (.int 1) = true then _ else _)
        rw [eqv_int, List.length_map]
        refine ifd (fun z => ?_) (fun z => ?_)
        · cases bs with
          | nil => simp at z
          | cons b bs =>
            have e : cutP ((b :: bs).map PyData.int) (some 1) none = bs.map PyData.int := by
              simp only [cutP, HT.sIx]
              simp
              exact List.take_of_length_le (by simp)
            have q := last bs (List.pairwise_cons.mp pw).2 (fun x hx => hbs x (List.mem_cons_of_mem _ hx)) (by rw [List.length_cons] at len; omega) (by rw [List.length_cons] at z; omega) .no
            rw [← e] at q
            exact q
        · exact last bs pw hbs (by omega) (by omega) _
    refine ⟨rfl, rfl, rfl, by decide, fun v v0 v1 => ?_⟩
    refine ⟨rfl, rfl, rfl, by decide, fun u u0 u1 => ⟨rfl, rfl, ?_⟩⟩
    show (if PyData.eqv (.int u) (.int 0) = true then _ else _)
    rw [eqv_int]
    refine ifd (fun z => ?_) (fun z => ?_)
    · refine ⟨?_, rfl, rfl, rfl, by decide, fun t t0 t1 => ?_⟩
      · show 3 ≤ 100000
        decide
      · have k3 : t = 0 ∨ t = 1 ∨ t = 2 := by omega
        rcases k3 with rfl | rfl | rfl
        · exact rest 11 (by decide) (by decide)
        · exact rest 30 (by decide) (by decide)
        · exact rest 97 (by decide) (by decide)
    · exact rest (1 + v) (by omega) (by omega)
end Pr
namespace N7
/-! sides: periodic yes/no of days; marks; first differences -/
def odd (n : Nat) : Bool := decide (n % 2 = 1)
theorem odd_add (a b : Nat) : odd (a + b) = (odd a != odd b) := by
  unfold odd
  rcases Nat.mod_two_eq_zero_or_one a with h | h <;> rcases Nat.mod_two_eq_zero_or_one b with k | k <;> simp [Nat.add_mod, h, k]
theorem odd_succ (a : Nat) : odd (a + 1) = !odd a := by
  rw [odd_add]; cases odd a <;> rfl
theorem odd_even {m : Nat} (h : m % 2 = 0) (q : Nat) : odd (m * q) = false := by
  unfold odd
  have : m * q % 2 = 0 := by rw [Nat.mul_mod, h, Nat.zero_mul]
  simp [this]
/-- how many of an ascending row lie below x -/
def cnt : List Int → Int → Nat
  | [], _ => 0
  | b :: r, x => (if b < x then 1 else 0) + cnt r x
structure Sd where
  p : Int
  bs : List Int
  f : Bool
def holds (s : Sd) (d : Int) : Bool := s.f != odd (cnt s.bs (d % s.p + 1))
/-- ascending, each from lo to below hi -/
def Asc : Int → Int → List Int → Prop
  | _, _, [] => True
  | lo, hi, b :: r => lo ≤ b ∧ b < hi ∧ Asc (b + 1) hi r
structure SdOk (s : Sd) : Prop where
  p1 : 1 ≤ s.p
  asc : Asc 0 s.p s.bs
  ev : s.bs.length % 2 = 0
theorem cnt_zero : ∀ {l : List Int} {lo hi x : Int}, Asc lo hi l → x ≤ lo → cnt l x = 0
  | [], _, _, _, _, _ => rfl
  | b :: r, lo, hi, x, ⟨h1, h2, h3⟩, h => by
    unfold cnt
    rw [if_neg (by omega), cnt_zero h3 (by omega)]
theorem cnt_all : ∀ {l : List Int} {lo hi x : Int}, Asc lo hi l → hi ≤ x → cnt l x = l.length
  | [], _, _, _, _, _ => rfl
  | b :: r, lo, hi, x, ⟨h1, h2, h3⟩, h => by
    unfold cnt
    rw [if_pos (by omega), cnt_all h3 h, List.length_cons]
    omega
theorem cnt_le : ∀ (l : List Int) (x : Int), cnt l x ≤ l.length
  | [], _ => Nat.le_refl _
  | b :: r, x => by
    unfold cnt
    have := cnt_le r x
    rw [List.length_cons]
    split <;> omega
/-- the i-th lies below x just where i is below the count -/
theorem cnt_get : ∀ {l : List Int} {lo hi : Int}, Asc lo hi l → ∀ {i : Nat} {b : Int} (x : Int), l[i]? = some b → (b < x ↔ i < cnt l x)
  | [], _, _, _, i, b, x, h => by simp at h
  | c :: r, lo, hi, ⟨h1, h2, h3⟩, 0, b, x, h => by
    have e : c = b := by simpa using h
    subst e
    unfold cnt
    by_cases k : c < x
    · rw [if_pos k]; constructor <;> intro _ <;> omega
    · rw [if_neg k, cnt_zero h3 (by omega)]; constructor <;> intro _ <;> omega
  | c :: r, lo, hi, ⟨h1, h2, h3⟩, i + 1, b, x, h => by
    have ih := cnt_get h3 (i := i) (b := b) x (by simpa using h)
    unfold cnt
    by_cases k : c < x
    · rw [if_pos k, ih]; omega
    · have hb : c + 1 ≤ b := asc_get h3 (by simpa using h)
      have := cnt_zero (x := x) h3 (by omega)
      rw [if_neg k]; omega
where
  asc_get : ∀ {l : List Int} {lo hi : Int}, Asc lo hi l → ∀ {i : Nat} {b : Int}, l[i]? = some b → lo ≤ b
  | [], _, _, _, _, _, h => by simp at h
  | c :: r, lo, hi, ⟨h1, h2, h3⟩, 0, b, h => by
    have e : c = b := by simpa using h
    omega
  | c :: r, lo, hi, ⟨h1, h2, h3⟩, i + 1, b, h => by
    have := asc_get h3 (i := i) (b := b) (by simpa using h)
    omega
theorem asc_lo {l : List Int} {lo hi : Int} (h : Asc lo hi l) {i : Nat} {b : Int} (e : l[i]? = some b) : lo ≤ b := cnt_get.asc_get h e
theorem asc_hi : ∀ {l : List Int} {lo hi : Int}, Asc lo hi l → ∀ {i : Nat} {b : Int}, l[i]? = some b → b < hi
  | [], _, _, _, _, _, h => by simp at h
  | c :: r, lo, hi, ⟨h1, h2, h3⟩, 0, b, h => by
    have e : c = b := by simpa using h
    omega
  | c :: r, lo, hi, ⟨h1, h2, h3⟩, i + 1, b, h => asc_hi h3 (i := i) (b := b) (by simpa using h)
theorem asc_lt : ∀ {l : List Int} {lo hi : Int}, Asc lo hi l → ∀ {i j : Nat} {b c : Int}, i < j → l[i]? = some b → l[j]? = some c → b < c
  | [], _, _, _, _, _, _, _, _, h, _ => by simp at h
  | x :: r, lo, hi, ⟨h1, h2, h3⟩, 0, j + 1, b, c, _, h, k => by
    have e : x = b := by simpa using h
    have := asc_lo h3 (i := j) (b := c) (by simpa using k)
    omega
  | x :: r, lo, hi, ⟨h1, h2, h3⟩, i + 1, j + 1, b, c, l, h, k => asc_lt h3 (i := i) (j := j) (by omega) (by simpa using h) (by simpa using k)
/-! ### marks: where a yes/no of days changes -/
structure Marks (h : Int → Bool) (b e : Int) (X : Nat → Int) : Prop where
  ge : ∀ i, b ≤ X i
  le : ∀ i, X i ≤ e
  up : ∀ i, X i < X (i + 1) ∨ X i = e ∧ X (i + 1) = e
  at_ : ∀ d, b ≤ d → d < e → ∃ n : Nat, (∀ i, X i ≤ d ↔ i < n) ∧ h d = odd n
def FD (h1 h2 : Int → Bool) (b e : Int) : Option Int → Prop
  | some m => b ≤ m ∧ m < e ∧ h1 m ≠ h2 m ∧ ∀ d, b ≤ d → d < m → h1 d = h2 d
  | none => ∀ d, b ≤ d → d < e → h1 d = h2 d
theorem marks_mono {h : Int → Bool} {b e : Int} {X : Nat → Int} (M : Marks h b e X) {i j : Nat} (l : i ≤ j) : X i ≤ X j := by
  induction j with
  | zero =>
    have : i = 0 := by omega
    rw [this]; exact Int.le_refl _
  | succ j ih =>
    by_cases k : i = j + 1
    · rw [k]; exact Int.le_refl _
    · have := ih (by omega)
      rcases M.up j with u | ⟨u, v⟩ <;> omega
/-- the two rows alike ahead of k, apart at k -/
theorem marks_apart {h1 h2 : Int → Bool} {b e : Int} {X Y : Nat → Int} (M : Marks h1 b e X) (N : Marks h2 b e Y) {k : Nat} (hk : ∀ i, i < k → X i = Y i) (ne : X k ≠ Y k) : FD h1 h2 b e (some (min (X k) (Y k))) := by
  have key : ∀ {h1 h2 : Int → Bool} {X Y : Nat → Int}, Marks h1 b e X → Marks h2 b e Y → (∀ i, i < k → X i = Y i) → X k < Y k → h1 (X k) ≠ h2 (X k) := by
    intro h1 h2 X Y M N hk lt
    have hY := N.le k
    obtain ⟨n1, a1, e1⟩ := M.at_ (X k) (M.ge k) (by omega)
    obtain ⟨n2, a2, e2⟩ := N.at_ (X k) (M.ge k) (by omega)
    have c1 : n1 = k + 1 := by
      have x := (a1 k).mp (Int.le_refl _)
      have y : ¬ k + 1 < n1 := fun z => by
        have := (a1 (k + 1)).mpr z
        rcases M.up k with u | ⟨u, v⟩ <;> omega
      omega
    have c2 : n2 = k := by
      have x : ¬ k < n2 := fun z => by
        have := (a2 k).mpr z
        omega
      by_cases z : n2 = k
      · exact z
      · have w : n2 < k := by omega
        have v : ¬ Y n2 ≤ X k := fun q => by
          have := (a2 n2).mp q
          omega
        have := marks_mono M (i := n2) (j := k) (by omega)
        rw [hk n2 w] at this
        exact absurd this v
    rw [e1, e2, c1, c2, odd_succ]
    cases odd k <;> simp
  refine ⟨by have := M.ge k; have := N.ge k; omega, by have := M.le k; have := N.le k; omega, ?_, fun d hb hd => ?_⟩
  · rcases Int.lt_or_gt_of_ne ne with l | l
    · rw [Int.min_eq_left (by omega)]
      exact key M N hk l
    · rw [Int.min_eq_right (by omega)]
      exact fun z => key N M (fun i hi => (hk i hi).symm) l z.symm
  · have hX := M.le k
    obtain ⟨n1, a1, e1⟩ := M.at_ d hb (by omega)
    obtain ⟨n2, a2, e2⟩ := N.at_ d hb (by omega)
    have l1 : n1 ≤ k := by
      by_cases z : k < n1
      · have := (a1 k).mpr z
        omega
      · omega
    have l2 : n2 ≤ k := by
      by_cases z : k < n2
      · have := (a2 k).mpr z
        omega
      · omega
    have : n1 = n2 := by
      rcases Nat.lt_trichotomy n1 n2 with z | z | z
      · have := (a2 n1).mpr z
        rw [← hk n1 (by omega)] at this
        have := (a1 n1).mp this
        omega
      · exact z
      · have := (a1 n2).mpr z
        rw [hk n2 (by omega)] at this
        have := (a2 n2).mp this
        omega
    rw [e1, e2, this]
theorem marks_alike {h1 h2 : Int → Bool} {b e : Int} {X Y : Nat → Int} (M : Marks h1 b e X) (N : Marks h2 b e Y) {k : Nat} (hk : ∀ i, i < k → X i = Y i) (he : X k = e) (he2 : Y k = e) : FD h1 h2 b e none := fun d hb hd => by
  obtain ⟨n1, a1, e1⟩ := M.at_ d hb hd
  obtain ⟨n2, a2, e2⟩ := N.at_ d hb hd
  have l1 : n1 ≤ k := by
    by_cases z : k < n1
    · have := (a1 k).mpr z
      omega
    · omega
  have l2 : n2 ≤ k := by
    by_cases z : k < n2
    · have := (a2 k).mpr z
      omega
    · omega
  have : n1 = n2 := by
    rcases Nat.lt_trichotomy n1 n2 with z | z | z
    · have := (a2 n1).mpr z
      rw [← hk n1 (by omega)] at this
      have := (a1 n1).mp this
      omega
    · exact z
    · have := (a1 n2).mpr z
      rw [hk n2 (by omega)] at this
      have := (a2 n2).mp this
      omega
  rw [e1, e2, this]
theorem fd_one {h1 h2 : Int → Bool} {b e : Int} {r r' : Option Int} (h : FD h1 h2 b e r) (h' : FD h1 h2 b e r') : r = r' := by
  cases r with
  | none =>
    cases r' with
    | none => rfl
    | some m' => exact absurd (h m' h'.1 h'.2.1) h'.2.2.1
  | some m =>
    cases r' with
    | none => exact absurd (h' m h.1 h.2.1) h.2.2.1
    | some m' =>
      obtain ⟨a1, a2, a3, a4⟩ := h
      obtain ⟨b1, b2, b3, b4⟩ := h'
      rcases Int.lt_trichotomy m m' with z | z | z
      · exact absurd (b4 m a1 z) a3
      · rw [z]
      · exact absurd (a4 m' b1 z) b3
end N7
namespace N7
/-! the marks of a side: what a walk tells -/
def bd (s : Sd) (n : Nat) : Int := s.p * ((n / s.bs.length : Nat) : Int) + s.bs.getD (n % s.bs.length) 0
def below (s : Sd) (D : Int) : Nat := s.bs.length * (D / s.p).toNat + cnt s.bs (D % s.p + 1)
theorem getD_some {l : List Int} {i : Nat} (h : i < l.length) : l[i]? = some (l.getD i 0) := by
  rw [List.getD_eq_getElem?_getD, List.getElem?_eq_getElem h]
  rfl
theorem bd_le {s : Sd} (ok : SdOk s) (hm : 0 < s.bs.length) (n : Nat) {D : Int} (hD : 0 ≤ D) : bd s n ≤ D ↔ n < below s D := by
  have p1 := ok.p1
  have hr0 := Int.emod_nonneg D (show s.p ≠ 0 by omega)
  have hr1 := Int.emod_lt_of_pos D (show 0 < s.p by omega)
  have hq : (((D / s.p).toNat : Nat) : Int) = D / s.p := Int.toNat_of_nonneg (Int.ediv_nonneg hD (by omega))
  have hd : D = s.p * (((D / s.p).toNat : Nat) : Int) + D % s.p := by rw [hq]; have := Int.mul_ediv_add_emod D s.p; omega
  have hi := Nat.mod_lt n hm
  have hg := getD_some hi
  have hn := Nat.div_add_mod n s.bs.length
  have b0 := asc_lo ok.asc hg
  have b1 := asc_hi ok.asc hg
  have hc := cnt_get ok.asc (D % s.p + 1) hg
  have hcl := cnt_le s.bs (D % s.p + 1)
  unfold bd below
  generalize (D / s.p).toNat = q at *
  generalize D % s.p = r at *
  generalize n / s.bs.length = k at *
  generalize n % s.bs.length = j at *
  generalize s.bs.getD j 0 = b at *
  generalize cnt s.bs (r + 1) = c at *
  rcases Nat.lt_trichotomy k q with z | z | z
  · have e1 : s.p * ((k : Int) + 1) ≤ s.p * (q : Int) := Int.mul_le_mul_of_nonneg_left (by omega) (by omega)
    have e2 : s.bs.length * (k + 1) ≤ s.bs.length * q := Nat.mul_le_mul_left _ (by omega)
    rw [Int.mul_add, Int.mul_one] at e1
    rw [Nat.mul_add, Nat.mul_one] at e2
    constructor <;> intro _ <;> omega
  · subst z
    constructor
    · intro h
      have := hc.mp (by omega)
      omega
    · intro h
      have := hc.mpr (by omega)
      omega
  · have e1 : s.p * ((q : Int) + 1) ≤ s.p * (k : Int) := Int.mul_le_mul_of_nonneg_left (by omega) (by omega)
    have e2 : s.bs.length * (q + 1) ≤ s.bs.length * k := Nat.mul_le_mul_left _ (by omega)
    rw [Int.mul_add, Int.mul_one] at e1
    rw [Nat.mul_add, Nat.mul_one] at e2
    constructor <;> intro _ <;> omega
theorem bd_lt {s : Sd} (ok : SdOk s) (hm : 0 < s.bs.length) {n k : Nat} (l : n < k) : bd s n < bd s k := by
  have b0 : 0 ≤ bd s k := by
    unfold bd
    have := asc_lo ok.asc (getD_some (Nat.mod_lt k hm))
    have := Int.mul_nonneg (show (0 : Int) ≤ s.p by have := ok.p1; omega) (Int.natCast_nonneg (k / s.bs.length))
    omega
  have h1 := (bd_le ok hm k b0).mp (Int.le_refl _)
  have h2 := (bd_le ok hm n b0).mpr (by omega)
  have ne : bd s n ≠ bd s k := by
    have n0 : 0 ≤ bd s n := by
      unfold bd
      have := asc_lo ok.asc (getD_some (Nat.mod_lt n hm))
      have := Int.mul_nonneg (show (0 : Int) ≤ s.p by have := ok.p1; omega) (Int.natCast_nonneg (n / s.bs.length))
      omega
    have e1 := Nat.div_add_mod n s.bs.length
    have e2 := Nat.div_add_mod k s.bs.length
    have i1 := getD_some (Nat.mod_lt n hm)
    have i2 := getD_some (Nat.mod_lt k hm)
    have a1 := asc_lo ok.asc i1
    have a2 := asc_hi ok.asc i1
    have a3 := asc_lo ok.asc i2
    have a4 := asc_hi ok.asc i2
    intro z
    unfold bd at z
    have p1 := ok.p1
    by_cases q : n / s.bs.length = k / s.bs.length
    · rw [q] at z e1
      have lt : n % s.bs.length < k % s.bs.length := by omega
      have := asc_lt ok.asc lt i1 i2
      omega
    · have q2 : n / s.bs.length < k / s.bs.length := by
        have := Nat.div_le_div_right (c := s.bs.length) (show n ≤ k by omega)
        omega
      have : s.p * (((n / s.bs.length : Nat) : Int) + 1) ≤ s.p * ((k / s.bs.length : Nat) : Int) := Int.mul_le_mul_of_nonneg_left (by omega) (by omega)
      rw [Int.mul_add, Int.mul_one] at this
      omega
  omega
theorem holds_below {s : Sd} (ok : SdOk s) (z D : Int) : holds s (s.p * z + D) = (s.f != odd (below s D)) := by
  unfold holds below
  rw [odd_add, odd_even ok.ev, Int.mul_add_emod_self_left]
  cases odd (cnt s.bs (D % s.p + 1)) <;> rfl
theorem holds_period {s : Sd} (z d : Int) : holds s (s.p * z + d) = holds s d := by
  unfold holds
  rw [Int.mul_add_emod_self_left]
def seqOf (h0 : Bool) (b : Int) (V : Nat → Int) : Nat → Int
  | 0 => if h0 then b else V 0
  | i + 1 => if h0 then V i else V (i + 1)
theorem marks_of {h : Int → Bool} {b e : Int} {V : Nat → Int} (be : b ≤ e) (hV : ∀ i, V i < V (i + 1)) (hb : ∀ i, b < V i) (hc : ∀ d, b ≤ d → d < e → ∃ n : Nat, (∀ i, V i ≤ d ↔ i < n) ∧ h d = (h b != odd n)) :
    Marks h b e (seqOf (h b) b fun i => min (V i) e) := by
  cases hh : h b with
  | true =>
    refine ⟨fun i => ?_, fun i => ?_, fun i => ?_, fun d h1 h2 => ?_⟩
    · cases i with
      | zero => exact Int.le_refl _
      | succ i =>
        show b ≤ min (V i) e
        have := hb i
        omega
    · cases i with
      | zero => exact be
      | succ i =>
        show min (V i) e ≤ e
        omega
    · cases i with
      | zero =>
        show b < min (V 0) e ∨ b = e ∧ min (V 0) e = e
        have := hb 0
        omega
      | succ i =>
        show min (V i) e < min (V (i + 1)) e ∨ min (V i) e = e ∧ min (V (i + 1)) e = e
        have := hV i
        omega
    · obtain ⟨n, a1, a2⟩ := hc d h1 h2
      refine ⟨n + 1, fun i => ?_, ?_⟩
      · cases i with
        | zero =>
          show b ≤ d ↔ _
          constructor <;> intro _ <;> omega
        | succ i =>
          show min (V i) e ≤ d ↔ _
          have := a1 i
          constructor <;> intro q
          · have := this.mp (by omega)
            omega
          · have := this.mpr (by omega)
            omega
      · rw [a2, hh, odd_succ]
        cases odd n <;> rfl
  | false =>
    have key : ∀ i, seqOf false b (fun i => min (V i) e) i = min (V i) e := fun i => by cases i <;> rfl
    refine ⟨fun i => ?_, fun i => ?_, fun i => ?_, fun d h1 h2 => ?_⟩
    · rw [key]
      have := hb i
      omega
    · rw [key]
      omega
    · rw [key, key]
      have := hV i
      omega
    · obtain ⟨n, a1, a2⟩ := hc d h1 h2
      refine ⟨n, fun i => ?_, ?_⟩
      · rw [key]
        have := a1 i
        constructor <;> intro q
        · exact this.mp (by omega)
        · have := this.mpr q
          omega
      · rw [a2, hh]
        cases odd n <;> rfl
/-- the row that a walk over s from b tells, borders standing -/
def wRow (s : Sd) (b e : Int) : Nat → Int :=
  if s.bs = [] then seqOf (holds s b) b fun _ => e
  else seqOf (holds s b) b fun i => min (b - b % s.p + bd s (cnt s.bs (b % s.p + 1) + i)) e
theorem wRow_marks {s : Sd} (ok : SdOk s) {b e : Int} (be : b ≤ e) : Marks (holds s) b e (wRow s b e) := by
  unfold wRow
  by_cases hn : s.bs = []
  · rw [if_pos hn]
    have hf : ∀ d, holds s d = s.f := fun d => by
      unfold holds
      rw [hn]
      cases s.f <;> rfl
    have q := marks_of (h := holds s) (V := fun i => e + 1 + (i : Int)) be (fun i => by omega) (fun i => by omega) fun d h1 h2 => ⟨0, fun i => by constructor <;> intro _ <;> omega, by rw [hf, hf]; cases s.f <;> rfl⟩
    have e1 : (fun i : Nat => min (e + 1 + (i : Int)) e) = fun _ => e := by
      funext i
      omega
    rw [e1] at q
    exact q
  · rw [if_neg hn]
    have hm : 0 < s.bs.length := List.length_pos_iff.mpr hn
    have p1 := ok.p1
    have hr0 := Int.emod_nonneg b (show s.p ≠ 0 by omega)
    have hr1 := Int.emod_lt_of_pos b (show 0 < s.p by omega)
    have hb : b - b % s.p = s.p * (b / s.p) := by
      have := Int.mul_ediv_add_emod b s.p
      omega
    have b0 : below s (b % s.p) = cnt s.bs (b % s.p + 1) := by
      unfold below
      rw [Int.ediv_eq_zero_of_lt hr0 hr1, Int.emod_eq_of_lt hr0 hr1]
      simp
    have hd : ∀ d, holds s d = (s.f != odd (below s (d - s.p * (b / s.p)))) := fun d => by
      have := holds_below ok (b / s.p) (d - s.p * (b / s.p))
      rw [← this]
      congr 1
      omega
    refine marks_of be (fun i => ?_) (fun i => ?_) fun d h1 h2 => ?_
    · have := bd_lt ok hm (show cnt s.bs (b % s.p + 1) + i < cnt s.bs (b % s.p + 1) + (i + 1) by omega)
      omega
    · have := (bd_le ok hm (cnt s.bs (b % s.p + 1) + i) hr0)
      rw [b0] at this
      have : ¬ bd s (cnt s.bs (b % s.p + 1) + i) ≤ b % s.p := fun z => by
        have := this.mp z
        omega
      omega
    · have l0 : cnt s.bs (b % s.p + 1) ≤ below s (d - s.p * (b / s.p)) := by
        by_cases z : cnt s.bs (b % s.p + 1) = 0
        · omega
        · have h3 := (bd_le ok hm (cnt s.bs (b % s.p + 1) - 1) hr0).mpr (by rw [b0]; omega)
          have h4 := (bd_le ok hm (cnt s.bs (b % s.p + 1) - 1) (D := d - s.p * (b / s.p)) (by omega)).mp (by omega)
          omega
      refine ⟨below s (d - s.p * (b / s.p)) - cnt s.bs (b % s.p + 1), fun i => ?_, ?_⟩
      · have := bd_le ok hm (cnt s.bs (b % s.p + 1) + i) (D := d - s.p * (b / s.p)) (by omega)
        constructor <;> intro q
        · have := this.mp (by omega)
          omega
        · have := this.mpr (by omega)
          omega
      · have eb := hd b
        have eb2 : b - s.p * (b / s.p) = b % s.p := by omega
        rw [eb2, b0] at eb
        rw [hd d, eb]
        have : odd (below s (d - s.p * (b / s.p))) = (odd (cnt s.bs (b % s.p + 1)) != odd (below s (d - s.p * (b / s.p)) - cnt s.bs (b % s.p + 1))) := by
          rw [← odd_add]
          congr 1
          omega
        rw [this]
        cases s.f <;> cases odd (cnt s.bs (b % s.p + 1)) <;> cases odd (below s (d - s.p * (b / s.p)) - cnt s.bs (b % s.p + 1)) <;> rfl
end N7
namespace N7
/-! periods; sides whose holds are alike; runs -/
def Per (h : Int → Bool) (q : Int) : Prop := ∀ d, h (d + q) = h d
theorem per_mul {h : Int → Bool} {q : Int} (H : Per h q) (n : Nat) : Per h (q * n) := fun d => by
  induction n with
  | zero => rw [Int.natCast_zero, Int.mul_zero, Int.add_zero]
  | succ n ih =>
    have : d + q * ((n + 1 : Nat) : Int) = (d + q * n) + q := by
      rw [Int.natCast_add, Int.mul_add, Int.natCast_one, Int.mul_one]; omega
    rw [this, H, ih]
theorem per_mulZ {h : Int → Bool} {q : Int} (H : Per h q) (z : Int) : Per h (q * z) := fun d => by
  rcases Int.le_total 0 z with k | k
  · have := per_mul H z.toNat d
    rw [Int.toNat_of_nonneg k] at this
    exact this
  · have := per_mul H (-z).toNat (d + q * z)
    rw [Int.toNat_of_nonneg (by omega), Int.mul_neg] at this
    rw [← this]
    congr 1
    omega
theorem per_gcd {h : Int → Bool} (a b : Nat) : Per h a → Per h b → Per h (Nat.gcd a b) := by
  induction a, b using Nat.gcd.induction with
  | H0 n => intro _ k; rw [Nat.gcd_zero_left]; exact k
  | H1 m n hm ih =>
    intro k1 k2
    rw [Nat.gcd_rec]
    refine ih (fun d => ?_) k1
    have e : d + ((n % m : Nat) : Int) = (d + (n : Int)) + (m : Int) * (-((n / m : Nat) : Int)) := by
      have := Nat.div_add_mod n m
      have e2 : ((m * (n / m) + n % m : Nat) : Int) = (n : Int) := by rw [this]
      rw [Int.natCast_add, Int.natCast_mul] at e2
      rw [Int.mul_neg]
      omega
    rw [e, per_mulZ k1, k2]
theorem per_holds {s : Sd} : Per (holds s) s.p := fun d => by
  have := holds_period (s := s) 1 d
  rw [Int.mul_one] at this
  rw [Int.add_comm]
  exact this
/-- two that agree on a stretch as long as both periods agree everywhere -/
theorem fine_wilf {g h : Int → Bool} {p q : Int} (hp : 1 ≤ p) (hq : 1 ≤ q) (G : Per g p) (H : Per h q) {b : Int} (E : ∀ d, b ≤ d → d < b + p + q → g d = h d) : ∀ d, g d = h d := by
  have gq : Per g q := fun d => by
    have e : d = (b + (d - b) % p) + p * ((d - b) / p) := by
      have := Int.mul_ediv_add_emod (d - b) p
      omega
    have r0 := Int.emod_nonneg (d - b) (show p ≠ 0 by omega)
    have r1 := Int.emod_lt_of_pos (d - b) (show 0 < p by omega)
    have e1 := per_mulZ G ((d - b) / p) (b + (d - b) % p)
    have e2 := per_mulZ G ((d - b) / p) (b + (d - b) % p + q)
    have e3 : d + q = (b + (d - b) % p + q) + p * ((d - b) / p) := by omega
    rw [e3, e2, E _ (by omega) (by omega), H, ← E _ (by omega) (by omega), ← e1, ← e]
  intro d
  have e : d = (b + (d - b) % q) + q * ((d - b) / q) := by
    have := Int.mul_ediv_add_emod (d - b) q
    omega
  have r0 := Int.emod_nonneg (d - b) (show q ≠ 0 by omega)
  have r1 := Int.emod_lt_of_pos (d - b) (show 0 < q by omega)
  have e1 := per_mulZ gq ((d - b) / q) (b + (d - b) % q)
  have e2 := per_mulZ H ((d - b) / q) (b + (d - b) % q)
  rw [e, e1, e2]
  exact E _ (by omega) (by omega)
theorem cnt_mem : ∀ {l : List Int} {lo hi : Int}, Asc lo hi l → ∀ d, cnt l (d + 1) = cnt l d + if d ∈ l then 1 else 0
  | [], _, _, _, d => rfl
  | b :: r, lo, hi, ⟨h1, h2, h3⟩, d => by
    have ih := cnt_mem h3 d
    unfold cnt
    by_cases e : d = b
    · subst e
      have n : d ∉ r := fun m => by
        obtain ⟨i, hi, e⟩ := List.getElem_of_mem m
        have := asc_lo h3 (i := i) (b := d) (by rw [List.getElem?_eq_getElem hi, e])
        omega
      rw [if_pos (by omega), if_neg (by omega), if_pos List.mem_cons_self, ih, if_neg n]
      omega
    · have m : (d ∈ b :: r) ↔ d ∈ r := by
        rw [List.mem_cons]
        exact ⟨fun z => z.resolve_left e, .inr⟩
      rw [ih]
      by_cases k : d ∈ r
      · rw [if_pos k, if_pos (m.mpr k)]
        by_cases u : b < d
        · rw [if_pos u, if_pos (by omega)]; omega
        · rw [if_neg u, if_neg (by omega)]; omega
      · rw [if_neg k, if_neg (fun z => k (m.mp z))]
        by_cases u : b < d
        · rw [if_pos u, if_pos (by omega)]; omega
        · rw [if_neg u, if_neg (by omega)]; omega
theorem asc_mem {l : List Int} {lo hi : Int} (h : Asc lo hi l) {d : Int} (m : d ∈ l) : lo ≤ d ∧ d < hi := by
  obtain ⟨i, hi, e⟩ := List.getElem_of_mem m
  have q : l[i]? = some d := by rw [List.getElem?_eq_getElem hi, e]
  exact ⟨asc_lo h q, asc_hi h q⟩
theorem asc_ext : ∀ {l l' : List Int} {lo hi : Int}, Asc lo hi l → Asc lo hi l' → (∀ d, d ∈ l ↔ d ∈ l') → l = l'
  | [], [], _, _, _, _, _ => rfl
  | [], b :: r, _, _, _, _, h => absurd ((h b).mpr List.mem_cons_self) (by simp)
  | b :: r, [], _, _, _, _, h => absurd ((h b).mp List.mem_cons_self) (by simp)
  | b :: r, c :: t, lo, hi, ⟨h1, h2, h3⟩, ⟨k1, k2, k3⟩, h => by
    have e : b = c := by
      have m1 := (h b).mp List.mem_cons_self
      have m2 := (h c).mpr List.mem_cons_self
      rcases List.mem_cons.mp m1 with z | z
      · exact z
      · rcases List.mem_cons.mp m2 with y | y
        · exact y.symm
        · have := asc_mem h3 y
          have := asc_mem k3 z
          omega
    subst e
    congr 1
    refine asc_ext h3 k3 fun d => ⟨fun m => ?_, fun m => ?_⟩
    · have := asc_mem h3 m
      rcases List.mem_cons.mp ((h d).mp (List.mem_cons_of_mem _ m)) with z | z
      · omega
      · exact z
    · have := asc_mem k3 m
      rcases List.mem_cons.mp ((h d).mpr (List.mem_cons_of_mem _ m)) with z | z
      · omega
      · exact z
structure Least (s : Sd) : Prop where
  ok : SdOk s
  lp : ∀ q, 1 ≤ q → q ∣ s.p → Per (holds s) q → q = s.p
theorem holds_at {s : Sd} {d : Int} (h0 : 0 ≤ d) (h1 : d < s.p) : holds s d = (s.f != odd (cnt s.bs (d + 1))) := by
  unfold holds
  rw [Int.emod_eq_of_lt h0 h1]
theorem holds_pre {s : Sd} (ok : SdOk s) {d : Int} (h0 : 0 ≤ d) (h1 : d < s.p) : holds s (d - 1) = (s.f != odd (cnt s.bs d)) := by
  by_cases e : d = 0
  · subst e
    have e1 : holds s (0 - 1) = holds s (s.p - 1) := by
      have := per_holds (s := s) (0 - 1)
      rw [← this]
      congr 1
      omega
    rw [e1, holds_at (by omega) (by omega), show s.p - 1 + 1 = s.p by omega, cnt_all ok.asc (Int.le_refl _), cnt_zero ok.asc (Int.le_refl _)]
    have : odd s.bs.length = false := by
      unfold odd
      rw [ok.ev]
      rfl
    rw [this]
    rfl
  · rw [holds_at (by omega) (by omega), show d - 1 + 1 = d by omega]
theorem mem_border {s : Sd} (ok : SdOk s) {d : Int} (h0 : 0 ≤ d) (h1 : d < s.p) : d ∈ s.bs ↔ holds s d ≠ holds s (d - 1) := by
  rw [holds_at h0 h1, holds_pre ok h0 h1, cnt_mem ok.asc d]
  by_cases m : d ∈ s.bs
  · rw [if_pos m, odd_succ]
    cases s.f <;> cases odd (cnt s.bs d) <;> simp [m]
  · rw [if_neg m, Nat.add_zero]
    simp [m]
theorem side_unique {s t : Sd} (S : Least s) (T : Least t) (h : ∀ d, holds s d = holds t d) : s = t := by
  have he : holds s = holds t := funext h
  have p1 := S.ok.p1
  have q1 := T.ok.p1
  have ep : s.p = t.p := by
    have k1 : Per (holds s) (s.p.toNat : Nat) := by rw [Int.toNat_of_nonneg (by omega)]; exact per_holds
    have k2 : Per (holds s) (t.p.toNat : Nat) := by rw [Int.toNat_of_nonneg (by omega), he]; exact per_holds
    have kg := per_gcd _ _ k1 k2
    have d1 : ((Nat.gcd s.p.toNat t.p.toNat : Nat) : Int) ∣ s.p := by
      have := Int.natCast_dvd_natCast.mpr (Nat.gcd_dvd_left s.p.toNat t.p.toNat)
      rw [Int.toNat_of_nonneg (by omega)] at this
      exact this
    have d2 : ((Nat.gcd s.p.toNat t.p.toNat : Nat) : Int) ∣ t.p := by
      have := Int.natCast_dvd_natCast.mpr (Nat.gcd_dvd_right s.p.toNat t.p.toNat)
      rw [Int.toNat_of_nonneg (by omega)] at this
      exact this
    have g1 : 1 ≤ ((Nat.gcd s.p.toNat t.p.toNat : Nat) : Int) := by
      have := Nat.gcd_pos_of_pos_left t.p.toNat (show 0 < s.p.toNat by omega)
      omega
    have e1 := S.lp _ g1 d1 kg
    have e2 := T.lp _ g1 d2 (by rw [← he]; exact kg)
    omega
  have ef : s.f = t.f := by
    have a := holds_pre S.ok (d := 0) (by omega) (by omega)
    have b := holds_pre T.ok (d := 0) (by omega) (by omega)
    rw [cnt_zero S.ok.asc (Int.le_refl _)] at a
    rw [cnt_zero T.ok.asc (Int.le_refl _)] at b
    have c := h (0 - 1)
    rw [a, b] at c
    revert c
    cases s.f <;> cases t.f <;> decide
  have eb : s.bs = t.bs := by
    refine asc_ext S.ok.asc (by rw [ep]; exact T.ok.asc) fun d => ?_
    constructor
    · intro m
      have := asc_mem S.ok.asc m
      rw [mem_border T.ok (by omega) (by omega), ← he]
      exact (mem_border S.ok (by omega) (by omega)).mp m
    · intro m
      have := asc_mem T.ok.asc m
      rw [mem_border S.ok (by omega) (by omega), he]
      exact (mem_border T.ok (by omega) (by omega)).mp m
  cases s
  cases t
  simp only at ep ef eb
  subst ep ef eb
  rfl
end N7
namespace N7
/-! runs -/
abbrev Rn := List (Int × Int)
def RunsFrom : Int → Rn → Prop
  | _, [] => True
  | lo, (b, e) :: r => lo ≤ b ∧ b < e ∧ RunsFrom (e + 1) r
def runsEnd : Int → Rn → Int
  | lo, [] => lo
  | _, (_, e) :: r => runsEnd e r
def inRuns (rs : Rn) (d : Int) : Bool := rs.any fun r => decide (r.1 ≤ d) && decide (d < r.2)
def flat : Rn → List Int
  | [] => []
  | (b, e) :: r => b :: e :: flat r
theorem runs_weak {lo lo' : Int} : ∀ {rs : Rn}, RunsFrom lo rs → lo' ≤ lo → RunsFrom lo' rs
  | [], _, _ => trivial
  | (b, e) :: r, ⟨h1, h2, h3⟩, h => ⟨by omega, h2, h3⟩
theorem runs_end : ∀ {rs : Rn} {lo lo' : Int}, RunsFrom lo' rs → lo ≤ lo' → lo ≤ runsEnd lo rs
  | [], lo, _, _, _ => Int.le_refl _
  | (b, e) :: r, lo, lo', ⟨h1, h2, h3⟩, h => by
    have := runs_end (lo := e) h3 (by omega)
    show lo ≤ runsEnd e r
    omega
theorem flat_asc : ∀ {rs : Rn} {lo hi : Int}, RunsFrom lo rs → runsEnd lo rs ≤ hi → Asc lo (hi + 1) (flat rs)
  | [], _, _, _, _ => trivial
  | (b, e) :: r, lo, hi, ⟨h1, h2, h3⟩, h => by
    have k : runsEnd e r ≤ hi := h
    have l := runs_end (lo := e) h3 (by omega)
    refine ⟨h1, by omega, by omega, by omega, ?_⟩
    cases r with
    | nil => trivial
    | cons x r =>
      refine flat_asc h3 ?_
      cases x
      exact k
theorem inRuns_lo : ∀ {rs : Rn} {lo d : Int}, RunsFrom lo rs → d < lo → inRuns rs d = false
  | [], _, _, _, _ => rfl
  | (b, e) :: r, lo, d, ⟨h1, h2, h3⟩, h => by
    unfold inRuns
    rw [List.any_cons]
    have := inRuns_lo (d := d) h3 (by omega)
    unfold inRuns at this
    rw [this]
    simp
    omega
theorem inRuns_hi : ∀ {rs : Rn} {lo d : Int}, RunsFrom lo rs → runsEnd lo rs ≤ d → inRuns rs d = false
  | [], _, _, _, _ => rfl
  | (b, e) :: r, lo, d, ⟨h1, h2, h3⟩, h => by
    have k : runsEnd e r ≤ d := h
    have l := runs_end (lo := e) h3 (by omega)
    have ih : inRuns r d = false := by
      cases r with
      | nil => rfl
      | cons x r =>
        cases x
        exact inRuns_hi h3 k
    unfold inRuns at ih ⊢
    rw [List.any_cons, ih]
    simp
    omega
theorem inRuns_odd : ∀ {rs : Rn} {lo : Int}, RunsFrom lo rs → ∀ d, inRuns rs d = odd (cnt (flat rs) (d + 1))
  | [], _, _, _ => rfl
  | (b, e) :: r, lo, ⟨h1, h2, h3⟩, d => by
    have ih := inRuns_odd h3 d
    unfold inRuns at ih ⊢
    rw [List.any_cons, ih]
    show _ = odd ((if b < d + 1 then 1 else 0) + ((if e < d + 1 then 1 else 0) + cnt (flat r) (d + 1)))
    by_cases k1 : b < d + 1
    · by_cases k2 : e < d + 1
      · rw [if_pos k1, if_pos k2, decide_eq_true (show b ≤ d by omega), decide_eq_false (show ¬ d < e by omega)]
        rw [← Nat.add_assoc, odd_add]
        cases odd (cnt (flat r) (d + 1)) <;> rfl
      · have z : odd (cnt (flat r) (d + 1)) = false := by
          rw [← ih]
          have := inRuns_lo (d := d) h3 (by omega)
          unfold inRuns at this
          exact this
        rw [if_pos k1, if_neg k2, decide_eq_true (show b ≤ d by omega), decide_eq_true (show d < e by omega), Nat.zero_add, odd_add, z]
        rfl
    · have z : odd (cnt (flat r) (d + 1)) = false := by
        rw [← ih]
        have := inRuns_lo (d := d) h3 (by omega)
        unfold inRuns at this
        exact this
      rw [if_neg k1, if_neg (by omega), decide_eq_false (show ¬ b ≤ d by omega), Nat.zero_add, Nat.zero_add, z]
      rfl
/-- the row of borders below high, then high for ever -/
def bRow (rs : Rn) (high : Int) : List Int := (flat rs).filter fun x => decide (x < high)
def yRow (rs : Rn) (high : Int) (i : Nat) : Int := (bRow rs high).getD i high
theorem asc_filter {hi : Int} : ∀ {l : List Int} {lo hh : Int}, Asc lo hh l → Asc lo hi (l.filter fun x => decide (x < hi))
  | [], _, _, _ => trivial
  | b :: r, lo, hh, ⟨h1, h2, h3⟩ => by
    rw [List.filter_cons]
    have ih := asc_filter (hi := hi) h3
    split
    · rename_i k
      exact ⟨h1, by simpa using k, ih⟩
    · rename_i k
      have : ∀ {l : List Int} {a c : Int}, Asc a hi l → c ≤ a → Asc c hi l := fun {l} {a c} x y => by
        cases l with
        | nil => trivial
        | cons z l => exact ⟨by have := x.1; omega, x.2.1, x.2.2⟩
      exact this ih (by omega)
theorem cnt_filter {hi x : Int} (hx : x ≤ hi) : ∀ {l : List Int}, cnt (l.filter fun y => decide (y < hi)) x = cnt l x
  | [] => rfl
  | b :: r => by
    rw [List.filter_cons]
    have ih := cnt_filter hx (l := r)
    split
    · unfold cnt
      rw [ih]
    · rename_i k
      have k : ¬ b < hi := by simpa using k
      rw [ih]
      show _ = (if b < x then 1 else 0) + cnt r x
      rw [if_neg (by omega), Nat.zero_add]
theorem yRow_marks {rs : Rn} {low high : Int} (hr : RunsFrom low rs) (lh : low ≤ high) : Marks (inRuns rs) low high (yRow rs high) := by
  have A : Asc low high (bRow rs high) := asc_filter (flat_asc hr (Int.le_refl _))
  have big : ∀ i, ¬ i < (bRow rs high).length → yRow rs high i = high := fun i h => by
    unfold yRow
    rw [List.getD_eq_getElem?_getD, List.getElem?_eq_none (by omega)]
    rfl
  have at_ : ∀ i, i < (bRow rs high).length → (bRow rs high)[i]? = some (yRow rs high i) := fun i h => by
    unfold yRow
    rw [List.getD_eq_getElem?_getD, List.getElem?_eq_getElem h]
    rfl
  refine ⟨fun i => ?_, fun i => ?_, fun i => ?_, fun d h1 h2 => ⟨cnt (bRow rs high) (d + 1), fun i => ?_, ?_⟩⟩
  · by_cases h : i < (bRow rs high).length
    · exact asc_lo A (at_ i h)
    · rw [big i h]
      exact lh
  · by_cases h : i < (bRow rs high).length
    · have := asc_hi A (at_ i h)
      omega
    · rw [big i h]
      exact Int.le_refl _
  · by_cases h : i + 1 < (bRow rs high).length
    · exact .inl (asc_lt A (show i < i + 1 by omega) (at_ i (by omega)) (at_ (i + 1) h))
    · rw [big (i + 1) h]
      by_cases k : i < (bRow rs high).length
      · refine .inl ?_
        exact asc_hi A (at_ i k)
      · exact .inr ⟨big i k, rfl⟩
  · by_cases h : i < (bRow rs high).length
    · have := cnt_get A (d + 1) (at_ i h)
      constructor <;> intro q
      · exact this.mp (by omega)
      · have := this.mpr q
        omega
    · rw [big i h]
      have := cnt_le (bRow rs high) (d + 1)
      constructor <;> intro q <;> omega
  · rw [inRuns_odd hr]
    unfold bRow
    rw [cnt_filter (by omega)]
end N7
namespace N7
/-! daysets; what is normal; one set has one normal form -/
structure Ds where
  l : Sd
  low : Int
  rs : Rn
  high : Int
  r : Sd
structure DsOk (D : Ds) : Prop where
  l : SdOk D.l
  r : SdOk D.r
  rs : RunsFrom D.low D.rs
  hi : runsEnd D.low D.rs ≤ D.high
def mem (D : Ds) (d : Int) : Bool := if d < D.low then holds D.l d else if d < D.high then inRuns D.rs d else holds D.r d
theorem ok_lh {D : Ds} (ok : DsOk D) : D.low ≤ D.high := by
  have := runs_end (lo := D.low) ok.rs (Int.le_refl _)
  have := ok.hi
  omega
structure Norm (D : Ds) : Prop where
  l : Least D.l
  r : Least D.r
  rs : RunsFrom D.low D.rs
  hi : runsEnd D.low D.rs ≤ D.high
  tight : (D.l = D.r ∧ D.low = 0 ∧ D.rs = [] ∧ D.high = 0) ∨ (mem D D.low ≠ holds D.l D.low ∧ (D.high = D.low ∨ mem D (D.high - 1) ≠ holds D.r (D.high - 1)))
theorem Norm.ok {D : Ds} (N : Norm D) : DsOk D := ⟨N.l.ok, N.r.ok, N.rs, N.hi⟩
theorem mem_lo {D : Ds} {d : Int} (h : d < D.low) : mem D d = holds D.l d := if_pos h
theorem mem_mid {D : Ds} {d : Int} (h : ¬ d < D.low) (k : d < D.high) : mem D d = inRuns D.rs d := by
  unfold mem
  rw [if_neg h, if_pos k]
theorem mem_hi {D : Ds} {d : Int} (h : ¬ d < D.low) (k : ¬ d < D.high) : mem D d = holds D.r d := by
  unfold mem
  rw [if_neg h, if_neg k]
theorem flat_inj : ∀ {rs rs' : Rn}, flat rs = flat rs' → rs = rs'
  | [], [], _ => rfl
  | [], (_, _) :: _, h => by cases h
  | (_, _) :: _, [], h => by cases h
  | (a, b) :: r, (c, d) :: t, h => by
    have h : a :: b :: flat r = c :: d :: flat t := h
    injection h with e1 h
    injection h with e2 h
    rw [e1, e2, flat_inj h]
theorem runs_ext {rs rs' : Rn} {lo : Int} (h : RunsFrom lo rs) (h' : RunsFrom lo rs') (e : ∀ d, inRuns rs d = inRuns rs' d) : rs = rs' := by
  have k : ∀ {rs : Rn}, RunsFrom lo rs → ∀ d, d ∈ flat rs ↔ inRuns rs d ≠ inRuns rs (d - 1) := fun {rs} h d => by
    have A := flat_asc h (Int.le_refl _)
    rw [inRuns_odd h, inRuns_odd h, show d - 1 + 1 = d by omega, cnt_mem A d]
    by_cases m : d ∈ flat rs
    · rw [if_pos m, odd_succ]
      cases odd (cnt (flat rs) d) <;> simp [m]
    · rw [if_neg m, Nat.add_zero]
      simp [m]
  have w : ∀ {rs : Rn} {hi : Int}, RunsFrom lo rs → runsEnd lo rs ≤ hi → Asc lo (hi + 1) (flat rs) := fun h k => flat_asc h k
  refine flat_inj (asc_ext (w (hi := max (runsEnd lo rs) (runsEnd lo rs')) h (by omega)) (w h' (by omega)) fun d => ?_)
  rw [k h, k h', e, e]
theorem norm_unique {D E : Ds} (N : Norm D) (M : Norm E) (h : ∀ d, mem D d = mem E d) : D = E := by
  have p1 := N.l.ok.p1
  have p2 := N.r.ok.p1
  have q1 := M.l.ok.p1
  have q2 := M.r.ok.p1
  have lhD := ok_lh N.ok
  have lhE := ok_lh M.ok
  have el : D.l = E.l := by
    refine side_unique N.l M.l (fine_wilf p1 q1 per_holds per_holds (b := min D.low E.low - D.l.p - E.l.p) fun d h1 h2 => ?_)
    have := h d
    rw [mem_lo (by omega), mem_lo (by omega)] at this
    exact this
  have er : D.r = E.r := by
    refine side_unique N.r M.r (fine_wilf p2 q2 per_holds per_holds (b := max D.high E.high) fun d h1 h2 => ?_)
    have := h d
    rw [mem_hi (by omega) (by omega), mem_hi (by omega) (by omega)] at this
    exact this
  have triv : ∀ {D : Ds}, D.l = D.r ∧ D.low = 0 ∧ D.rs = [] ∧ D.high = 0 → ∀ d, mem D d = holds D.l d := fun {D} ⟨a, b, c, e⟩ d => by
    by_cases k : d < D.low
    · exact mem_lo k
    · rw [mem_hi k (by omega), a]
  rcases N.tight with t | ⟨t1, t2⟩
  · rcases M.tight with u | ⟨u1, u2⟩
    · obtain ⟨a1, a2, a3, a4⟩ := t
      obtain ⟨b1, b2, b3, b4⟩ := u
      cases D
      cases E
      simp only at *
      subst el er a2 a3 a4 b2 b3 b4
      rfl
    · refine absurd ?_ u1
      rw [← h, triv t, el]
  · rcases M.tight with u | ⟨u1, u2⟩
    · refine absurd ?_ t1
      rw [h, triv u, el]
    · have elow : D.low = E.low := by
        rcases Int.lt_trichotomy D.low E.low with z | z | z
        · refine absurd ?_ t1
          rw [h, mem_lo z, el]
        · exact z
        · refine absurd ?_ u1
          rw [← h, mem_lo z, el]
      have ehigh : D.high = E.high := by
        rcases Int.lt_trichotomy D.high E.high with z | z | z
        · refine absurd ?_ (u2.resolve_left (by omega))
          rw [← h, mem_hi (by omega) (by omega), er]
        · exact z
        · refine absurd ?_ (t2.resolve_left (by omega))
          rw [h, mem_hi (by omega) (by omega), er]
      have ers : D.rs = E.rs := by
        refine runs_ext N.rs (by rw [elow]; exact M.rs) fun d => ?_
        by_cases k1 : d < D.low
        · rw [inRuns_lo N.rs k1, inRuns_lo M.rs (by omega)]
        · by_cases k2 : d < D.high
          · have := h d
            rw [mem_mid k1 k2, mem_mid (by omega) (by omega)] at this
            exact this
          · have := N.hi
            have := M.hi
            rw [inRuns_hi N.rs (by omega), inRuns_hi M.rs (by omega)]
      cases D
      cases E
      simp only at *
      subst el er elow ehigh ers
      rfl
/-! a side told by its changes -/
theorem side_of {T : Sd} {h : Int → Bool} (p1 : 1 ≤ T.p) (asc : Asc 0 T.p T.bs) (P : Per h T.p) (hf : T.f = h (-1)) (hm : ∀ x, 0 ≤ x → x < T.p → (x ∈ T.bs ↔ h x ≠ h (x - 1))) : SdOk T ∧ ∀ d, holds T d = h d := by
  have g : ∀ n : Nat, (n : Int) ≤ T.p → (T.f != odd (cnt T.bs n)) = h ((n : Int) - 1) := fun n => by
    induction n with
    | zero =>
      intro _
      rw [Int.natCast_zero, cnt_zero asc (Int.le_refl _), hf]
      show (h (-1) != false) = h (-1)
      cases h (-1) <;> rfl
    | succ n ih =>
      intro hn
      have ih := ih (by omega)
      have m := hm n (by omega) (by omega)
      have e : (((n + 1 : Nat) : Int)) = (n : Int) + 1 := by omega
      rw [e, cnt_mem asc n, show (n : Int) + 1 - 1 = n by omega]
      by_cases k : (n : Int) ∈ T.bs
      · have m := m.mp k
        rw [if_pos k, odd_succ]
        revert ih m
        cases T.f <;> cases odd (cnt T.bs n) <;> cases h n <;> cases h ((n : Int) - 1) <;> simp
      · have m : h n = h ((n : Int) - 1) := by
          by_cases z : h n = h ((n : Int) - 1)
          · exact z
          · exact absurd (m.mpr z) k
        rw [if_neg k, Nat.add_zero, ih, m]
  have ok : SdOk T := by
    refine ⟨p1, asc, ?_⟩
    have := g T.p.toNat (by omega)
    rw [Int.toNat_of_nonneg (by omega), cnt_all asc (Int.le_refl _)] at this
    have e : h (T.p - 1) = h (-1) := by
      rw [show T.p - 1 = -1 + T.p by omega, P]
    rw [e, ← hf] at this
    have z : odd T.bs.length = false := by
      revert this
      cases T.f <;> cases odd T.bs.length <;> simp
    unfold odd at z
    have := of_decide_eq_false z
    omega
  refine ⟨ok, fun d => ?_⟩
  have r0 := Int.emod_nonneg d (show T.p ≠ 0 by omega)
  have r1 := Int.emod_lt_of_pos d (show 0 < T.p by omega)
  have := g (d % T.p + 1).toNat (by omega)
  rw [Int.toNat_of_nonneg (by omega)] at this
  unfold holds
  rw [this, show d % T.p + 1 - 1 = d % T.p by omega]
  have e : d = d % T.p + T.p * (d / T.p) := by
    have := Int.mul_ediv_add_emod d T.p
    omega
  have := per_mulZ P (d / T.p) (d % T.p)
  rw [← e] at this
  exact this.symm
end N7
namespace N7
/-! what normal makes is normal -/
def cutL (rs : Rn) (b e : Int) : Rn := (rs.map fun r => (max r.1 b, min r.2 e)).filter fun r => decide (r.1 < r.2)
theorem cut_nil {b e : Int} : cutL [] b e = [] := rfl
theorem cut_cons {x y b e : Int} {r : Rn} : cutL ((x, y) :: r) b e = if max x b < min y e then (max x b, min y e) :: cutL r b e else cutL r b e := by
  unfold cutL
  rw [List.map_cons, List.filter_cons]
  by_cases h : max x b < min y e
  · rw [if_pos (by simpa using h), if_pos h]
  · rw [if_neg (by simpa using h), if_neg h]
theorem cut_from : ∀ {rs : Rn} {lo b e : Int}, RunsFrom lo rs → RunsFrom (max lo b) (cutL rs b e)
  | [], _, _, _, _ => trivial
  | (x, y) :: r, lo, b, e, ⟨h1, h2, h3⟩ => by
    have ih := cut_from (b := b) (e := e) h3
    rw [cut_cons]
    split
    · rename_i k
      exact ⟨by omega, k, runs_weak ih (by omega)⟩
    · exact runs_weak ih (by omega)
theorem cut_end : ∀ {rs : Rn} {lo b e : Int}, lo ≤ e → runsEnd lo (cutL rs b e) ≤ e
  | [], _, _, _, h => h
  | (x, y) :: r, lo, b, e, h => by
    rw [cut_cons]
    split
    · exact cut_end (rs := r) (lo := min y e) (by omega)
    · exact cut_end h
theorem cut_in {b e d : Int} : ∀ {rs : Rn}, inRuns (cutL rs b e) d = (inRuns rs d && (decide (b ≤ d) && decide (d < e)))
  | [] => rfl
  | (x, y) :: r => by
    have ih := cut_in (b := b) (e := e) (d := d) (rs := r)
    rw [cut_cons]
    have k : inRuns ((x, y) :: r) d = ((decide (x ≤ d) && decide (d < y)) || inRuns r d) := rfl
    rw [k]
    split
    · rename_i h
      have k2 : inRuns ((max x b, min y e) :: cutL r b e) d = ((decide (max x b ≤ d) && decide (d < min y e)) || inRuns (cutL r b e) d) := rfl
      rw [k2, ih]
      have e1 : decide (max x b ≤ d) = (decide (x ≤ d) && decide (b ≤ d)) := by
        by_cases a : x ≤ d <;> by_cases c : b ≤ d <;> simp [a, c] <;> omega
      have e2 : decide (d < min y e) = (decide (d < y) && decide (d < e)) := by
        by_cases a : d < y <;> by_cases c : d < e <;> simp [a, c] <;> omega
      rw [e1, e2]
      cases decide (x ≤ d) <;> cases decide (b ≤ d) <;> cases decide (d < y) <;> cases decide (d < e) <;> cases inRuns r d <;> rfl
    · rename_i h
      rw [ih]
      by_cases a : x ≤ d
      · by_cases c : d < y
        · by_cases u : b ≤ d
          · by_cases v : d < e
            · exact absurd (show max x b < min y e by omega) h
            · simp [a, c, u, v]
          · simp [a, c, u]
        · simp [a, c]
      · simp [a]
/-- mirrored runs -/
def turnR : Rn → Rn
  | [] => []
  | (b, e) :: r => turnR r ++ [(1 - e, 1 - b)]
theorem turn_eq (rs : Rn) : turnR rs = rs.reverse.map fun r => (1 - r.2, 1 - r.1) := by
  induction rs with
  | nil => rfl
  | cons x r ih =>
    show turnR r ++ [(1 - x.2, 1 - x.1)] = _
    rw [List.reverse_cons, List.map_append, ih]
    rfl
theorem from_snoc : ∀ {rs : Rn} {lo u v : Int}, RunsFrom lo rs → (rs = [] → lo ≤ u) → (rs ≠ [] → runsEnd lo rs + 1 ≤ u) → u < v → RunsFrom lo (rs ++ [(u, v)])
  | [], _, _, _, _, h, _, k => ⟨h rfl, k, trivial⟩
  | (b, e) :: r, lo, u, v, ⟨h1, h2, h3⟩, _, h, k => by
    refine ⟨h1, h2, from_snoc h3 (fun z => ?_) (fun z => ?_) k⟩
    · have := h (by simp)
      rw [z] at this
      exact this
    · have := h (by simp)
      cases r with
      | nil => exact absurd rfl z
      | cons x r => exact this
theorem turn_end : ∀ {rs : Rn} {lo u v : Int}, runsEnd lo (rs ++ [(u, v)]) = v
  | [], _, _, _ => rfl
  | (b, e) :: r, _, u, v => turn_end (rs := r) (lo := e)
theorem turn_from : ∀ {rs : Rn} {lo hi : Int}, RunsFrom lo rs → runsEnd lo rs ≤ hi → RunsFrom (1 - hi) (turnR rs) ∧ runsEnd (1 - hi) (turnR rs) ≤ max (1 - hi) (1 - lo)
  | [], lo, hi, _, _ => ⟨trivial, by show 1 - hi ≤ _; omega⟩
  | (b, e) :: r, lo, hi, ⟨h1, h2, h3⟩, h => by
    have k : runsEnd e r ≤ hi := h
    have l := runs_end (lo := e) h3 (by omega)
    have ih : RunsFrom (1 - hi) (turnR r) ∧ (turnR r ≠ [] → runsEnd (1 - hi) (turnR r) ≤ -e) := by
      cases r with
      | nil => exact ⟨trivial, fun z => absurd rfl z⟩
      | cons x t =>
        have q := turn_from (rs := x :: t) (lo := e + 1) (hi := hi) h3 (by cases x; exact k)
        refine ⟨q.1, fun _ => ?_⟩
        have k3 : e + 1 ≤ hi := by
          obtain ⟨a, c⟩ := x
          obtain ⟨w1, w2, w3⟩ := h3
          have := runs_end (lo := c) w3 (by omega)
          have : runsEnd c t ≤ hi := k
          omega
        omega
    refine ⟨from_snoc ih.1 (fun _ => by omega) (fun z => ?_) (by omega), ?_⟩
    · have := ih.2 z
      omega
    · show runsEnd (1 - hi) (turnR r ++ [(1 - e, 1 - b)]) ≤ _
      rw [turn_end]
      omega
theorem turn_in {x : Int} : ∀ {rs : Rn}, inRuns (turnR rs) x = inRuns rs (-x)
  | [] => rfl
  | (b, e) :: r => by
    have ih := turn_in (x := x) (rs := r)
    show (turnR r ++ [(1 - e, 1 - b)]).any _ = ((decide (b ≤ -x) && decide (-x < e)) || inRuns r (-x))
    rw [List.any_append]
    have e0 : (turnR r).any (fun r => decide (r.1 ≤ x) && decide (x < r.2)) = inRuns r (-x) := ih
    rw [e0]
    have e1 : decide (1 - e ≤ x) = decide (-x < e) := by
      by_cases a : -x < e
      · rw [decide_eq_true a, decide_eq_true (by omega)]
      · rw [decide_eq_false a, decide_eq_false (by omega)]
    have e2 : decide (x < 1 - b) = decide (b ≤ -x) := by
      by_cases a : b ≤ -x
      · rw [decide_eq_true a, decide_eq_true (by omega)]
      · rw [decide_eq_false a, decide_eq_false (by omega)]
    rw [List.any_cons, List.any_nil, e1, e2]
    cases inRuns r (-x) <;> cases decide (b ≤ -x) <;> cases decide (-x < e) <;> rfl
/-- first difference of two from a day on -/
def FDI (g h : Int → Bool) (b : Int) : Option Int → Prop
  | some m => b ≤ m ∧ g m ≠ h m ∧ ∀ d, b ≤ d → d < m → g d = h d
  | none => ∀ d, b ≤ d → g d = h d
/-- where the right side begins: r is the first difference of the mirrored ones -/
def rightB (b : Int) : Option Int → Int
  | none => b
  | some x => 1 - x
theorem rightB_spec {g h : Int → Bool} {b hi : Int} {r : Option Int} (bh : b < hi) (F : FD (fun x => g (-x)) (fun x => h (-x)) (1 - hi) (1 - b) r) :
    b ≤ rightB b r ∧ rightB b r ≤ hi ∧ (∀ d, rightB b r ≤ d → d < hi → g d = h d) ∧ (rightB b r = b ∨ g (rightB b r - 1) ≠ h (rightB b r - 1)) := by
  cases r with
  | none =>
    refine ⟨Int.le_refl _, by show b ≤ hi; omega, fun d h1 h2 => ?_, .inl rfl⟩
    have h1 : b ≤ d := h1
    have := F (-d) (by omega) (by omega)
    simpa using this
  | some x =>
    obtain ⟨a1, a2, a3, a4⟩ := F
    refine ⟨by show b ≤ 1 - x; omega, by show 1 - x ≤ hi; omega, fun d h1 h2 => ?_, .inr ?_⟩
    · have h1 : 1 - x ≤ d := h1
      have := a4 (-d) (by omega) (by omega)
      simpa using this
    · show g (1 - x - 1) ≠ h (1 - x - 1)
      rw [show 1 - x - 1 = -x by omega]
      exact a3
/-- normal's value from what its helpers tell -/
def nrm (L R : Sd) (rs : Rn) (r1 r2 : Option Int) (e : Int → Int) : Ds := match r1 with
  | some b => ⟨L, b, cutL rs b (e b), e b, R⟩
  | none => match r2 with
    | none => ⟨L, 0, [], 0, L⟩
    | some b => ⟨L, b, [], b, R⟩
theorem nrm_spec {D : Ds} (ok : DsOk D) {L R : Sd} (hL : Least L) (hR : Least R) (eL : ∀ d, holds L d = holds D.l d) (eR : ∀ d, holds R d = holds D.r d) {r1 r2 : Option Int} (F1 : FD (holds L) (inRuns D.rs) D.low D.high r1) (F2 : r1 = none → FDI (holds L) (holds R) D.high r2)
    {e : Int → Int} (F3 : ∀ b, r1 = some b → b ≤ e b ∧ e b ≤ D.high ∧ (∀ d, e b ≤ d → d < D.high → holds R d = inRuns (cutL D.rs b D.high) d) ∧ (e b = b ∨ holds R (e b - 1) ≠ inRuns (cutL D.rs b D.high) (e b - 1))) :
    Norm (nrm L R D.rs r1 r2 e) ∧ ∀ d, mem (nrm L R D.rs r1 r2 e) d = mem D d := by
  have lh := ok_lh ok
  cases r1 with
  | none =>
    have F1 : ∀ d, D.low ≤ d → d < D.high → holds L d = inRuns D.rs d := F1
    have F2 := F2 rfl
    cases r2 with
    | none =>
      have F2 : ∀ d, D.high ≤ d → holds L d = holds R d := F2
      refine ⟨⟨hL, hL, trivial, Int.le_refl _, .inl ⟨rfl, rfl, rfl, rfl⟩⟩, fun d => ?_⟩
      have e1 : mem (nrm L R D.rs none none e) d = holds L d := by
        by_cases k : d < 0
        · exact mem_lo k
        · exact mem_hi k k
      rw [e1]
      by_cases k : d < D.low
      · rw [mem_lo k, eL]
      · by_cases k2 : d < D.high
        · rw [mem_mid k k2, F1 d (by omega) k2]
        · rw [mem_hi k k2, F2 d (by omega), eR]
    | some b =>
      obtain ⟨a1, a2, a3⟩ := F2
      have b1 : mem (nrm L R D.rs none (some b) e) b = holds R b := mem_hi (D := ⟨L, b, [], b, R⟩) (by show ¬ b < b; omega) (by show ¬ b < b; omega)
      refine ⟨⟨hL, hR, trivial, Int.le_refl _, .inr ⟨?_, .inl rfl⟩⟩, fun d => ?_⟩
      · show mem _ b ≠ holds L b
        rw [b1]
        exact fun z => a2 z.symm
      · by_cases k0 : d < b
        · rw [show mem (nrm L R D.rs none (some b) e) d = holds L d from mem_lo (D := ⟨L, b, [], b, R⟩) k0]
          by_cases k : d < D.low
          · rw [mem_lo k, eL]
          · by_cases k2 : d < D.high
            · rw [mem_mid k k2, F1 d (by omega) k2]
            · rw [mem_hi k k2, a3 d (by omega) k0, eR]
        · rw [show mem (nrm L R D.rs none (some b) e) d = holds R d from mem_hi (D := ⟨L, b, [], b, R⟩) k0 k0, mem_hi (by omega) (by omega), eR]
  | some b =>
    obtain ⟨a1, a2, a3, a4⟩ := F1
    obtain ⟨c1, c2, c3, c4⟩ := F3 b rfl
    have ci : ∀ d, b ≤ d → d < D.high → inRuns (cutL D.rs b D.high) d = inRuns D.rs d := fun d h1 h2 => by
      rw [cut_in, decide_eq_true h1, decide_eq_true h2]
      cases inRuns D.rs d <;> rfl
    have hN : nrm L R D.rs (some b) r2 e = ⟨L, b, cutL D.rs b (e b), e b, R⟩ := rfl
    have hm : ∀ d, mem (nrm L R D.rs (some b) r2 e) d = mem D d := fun d => by
      rw [hN]
      by_cases k0 : d < b
      · rw [mem_lo (D := ⟨L, b, cutL D.rs b (e b), e b, R⟩) k0]
        show holds L d = _
        by_cases k : d < D.low
        · rw [mem_lo k, eL]
        · rw [mem_mid k (by omega), a4 d (by omega) k0]
      · by_cases k1 : d < e b
        · rw [mem_mid (D := ⟨L, b, cutL D.rs b (e b), e b, R⟩) k0 k1, mem_mid (by omega) (by omega)]
          show inRuns (cutL D.rs b (e b)) d = _
          rw [cut_in, decide_eq_true (show b ≤ d by omega), decide_eq_true k1]
          cases inRuns D.rs d <;> rfl
        · rw [mem_hi (D := ⟨L, b, cutL D.rs b (e b), e b, R⟩) k0 k1]
          show holds R d = _
          by_cases k2 : d < D.high
          · rw [mem_mid (by omega) k2, c3 d (by omega) k2, ci d (by omega) k2]
          · rw [mem_hi (by omega) k2, eR]
    refine ⟨?_, hm⟩
    rw [hN] at hm ⊢
    have cf := cut_from (b := b) (e := e b) ok.rs
    refine ⟨hL, hR, runs_weak cf (by show b ≤ _; omega), cut_end (by show b ≤ e b; omega), .inr ⟨?_, ?_⟩⟩
    · rw [hm]
      show mem D b ≠ holds L b
      rw [mem_mid (by omega) a2]
      exact fun z => a3 z.symm
    · rcases c4 with z | z
      · exact .inl z
      · by_cases q : e b = b
        · exact .inl q
        · refine .inr ?_
          rw [hm]
          show mem D (e b - 1) ≠ holds R (e b - 1)
          rw [mem_mid (by omega) (by omega), ← ci _ (by omega) (by omega)]
          exact fun y => z y.symm
end N7
namespace N7
/-! mirrored sides; least sides -/
theorem asc_pw : ∀ {l : List Int} {lo hi : Int}, Asc lo hi l → l.Pairwise (· < ·)
  | [], _, _, _ => .nil
  | b :: r, lo, hi, ⟨h1, h2, h3⟩ => .cons (fun c m => by have := asc_mem h3 m; omega) (asc_pw h3)
theorem asc_of : ∀ {l : List Int} {lo hi : Int}, l.Pairwise (· < ·) → (∀ x ∈ l, lo ≤ x ∧ x < hi) → Asc lo hi l
  | [], _, _, _, _ => trivial
  | b :: r, lo, hi, h, k => by
    obtain ⟨h1, h2⟩ := List.pairwise_cons.mp h
    exact ⟨(k b List.mem_cons_self).1, (k b List.mem_cons_self).2, asc_of h2 fun x m => ⟨by have := h1 x m; omega, (k x (List.mem_cons_of_mem _ m)).2⟩⟩
theorem pw_lt : ∀ {l : List Int}, l.Pairwise (· ≤ ·) → l.Nodup → l.Pairwise (· < ·)
  | [], _, _ => .nil
  | b :: r, h, n => by
    obtain ⟨h1, h2⟩ := List.pairwise_cons.mp h
    obtain ⟨n1, n2⟩ := List.nodup_cons.mp n
    exact .cons (fun c m => by have := h1 c m; have : b ≠ c := fun e => n1 (by rw [e]; exact m); omega) (pw_lt h2 n2)
theorem neg_mod {p x b : Int} (p1 : 1 ≤ p) (x0 : 0 ≤ x) (x1 : x < p) (b0 : 0 ≤ b) (b1 : b < p) : (1 - b) % p = x ↔ b = (1 - x) % p := by
  have key : ∀ u v : Int, 0 ≤ v → v < p → (u % p = v ↔ p ∣ (u - v)) := fun u v v0 v1 => by
    constructor
    · intro h
      have := Int.mul_ediv_add_emod u p
      exact ⟨u / p, by omega⟩
    · rintro ⟨k, h⟩
      have e : u = v + p * k := by omega
      rw [e, Int.add_mul_emod_self_left, Int.emod_eq_of_lt v0 v1]
  rw [key _ _ x0 x1, eq_comm, key _ _ b0 b1]
  constructor
  · rintro ⟨k, h⟩
    exact ⟨k, by omega⟩
  · rintro ⟨k, h⟩
    exact ⟨k, by omega⟩
theorem mir_spec {s : Sd} (ok : SdOk s) {ns : List Int} (hp : ns.Perm (s.bs.map fun b => (1 - b) % s.p)) (hs : ns.Pairwise (· ≤ ·)) : SdOk ⟨s.p, ns, holds s 1⟩ ∧ ∀ d, holds ⟨s.p, ns, holds s 1⟩ d = holds s (-d) := by
  have p1 := ok.p1
  have mm : ∀ x, x ∈ ns ↔ ∃ b ∈ s.bs, (1 - b) % s.p = x := fun x => by rw [hp.mem_iff, List.mem_map]
  have rg : ∀ x ∈ ns, 0 ≤ x ∧ x < s.p := fun x m => by
    obtain ⟨b, _, e⟩ := (mm x).mp m
    rw [← e]
    exact ⟨Int.emod_nonneg _ (by omega), Int.emod_lt_of_pos _ (by omega)⟩
  have nd : ns.Nodup := by
    rw [hp.nodup_iff]
    refine List.pairwise_map.mpr ?_
    refine List.Pairwise.imp_of_mem (R := (· < ·)) (fun {a b} ma mb l e => ?_) (asc_pw ok.asc)
    have a1 := asc_mem ok.asc ma
    have b1 := asc_mem ok.asc mb
    have r0 := Int.emod_nonneg (1 - a) (show s.p ≠ 0 by omega)
    have r1 := Int.emod_lt_of_pos (1 - a) (show 0 < s.p by omega)
    have u := (neg_mod p1 r0 r1 a1.1 a1.2).mp rfl
    have v := (neg_mod p1 r0 r1 b1.1 b1.2).mp e.symm
    omega
  have asc : Asc 0 s.p ns := asc_of (pw_lt hs nd) rg
  have P : Per (fun x => holds s (-x)) s.p := fun d => by
    show holds s (-(d + s.p)) = holds s (-d)
    have := per_holds (s := s) (-(d + s.p))
    rw [← this]
    congr 1
    omega
  refine side_of (T := ⟨s.p, ns, holds s 1⟩) (h := fun x => holds s (-x)) p1 asc P rfl fun x x0 x1 => ?_
  have x1 : x < s.p := x1
  have r0 := Int.emod_nonneg (1 - x) (show s.p ≠ 0 by omega)
  have r1 := Int.emod_lt_of_pos (1 - x) (show 0 < s.p by omega)
  have e : 1 - x = (1 - x) % s.p + s.p * ((1 - x) / s.p) := by
    have := Int.mul_ediv_add_emod (1 - x) s.p
    omega
  have h1 := per_mulZ (per_holds (s := s)) ((1 - x) / s.p) ((1 - x) % s.p)
  have h2 := per_mulZ (per_holds (s := s)) ((1 - x) / s.p) ((1 - x) % s.p - 1)
  rw [← e] at h1
  rw [show (1 - x) % s.p - 1 + s.p * ((1 - x) / s.p) = -x by omega] at h2
  show x ∈ ns ↔ holds s (-x) ≠ holds s (-(x - 1))
  rw [show -(x - 1) = 1 - x by omega, h1, h2, mm]
  constructor
  · rintro ⟨b, m, eb⟩
    have bm := asc_mem ok.asc m
    have := (neg_mod p1 x0 x1 bm.1 bm.2).mp eb
    rw [this] at m
    exact fun z => (mem_border ok r0 r1).mp m z.symm
  · intro z
    refine ⟨_, (mem_border ok r0 r1).mpr fun y => z y.symm, ?_⟩
    exact (neg_mod p1 x0 x1 r0 r1).mpr rfl
/-! the law's least side -/
def chg (h : Int → Bool) (q : Nat) : List Int := ((List.range q).map fun i : Nat => (i : Int)).filter fun d => h d != h (d - 1)
theorem chg_asc (h : Int → Bool) (q : Nat) : Asc 0 q (chg h q) := by
  refine asc_of ?_ fun x m => ?_
  · refine List.Pairwise.filter _ ?_
    refine List.pairwise_map.mpr ?_
    refine List.Pairwise.imp (fun {a b} l => ?_) (List.pairwise_lt_range)
    omega
  · have := (List.mem_filter.mp m).1
    obtain ⟨i, hi, e⟩ := List.mem_map.mp this
    have := List.mem_range.mp hi
    omega
theorem chg_mem {h : Int → Bool} {q : Nat} {x : Int} (x0 : 0 ≤ x) (x1 : x < q) : x ∈ chg h q ↔ h x ≠ h (x - 1) := by
  unfold chg
  rw [List.mem_filter]
  constructor
  · rintro ⟨_, z⟩
    simpa using z
  · intro z
    refine ⟨List.mem_map.mpr ⟨x.toNat, List.mem_range.mpr (by omega), by omega⟩, by simpa using z⟩
theorem lawLeast_spec {s : Sd} (ok : SdOk s) {q : Nat} (q1 : 1 ≤ q) (qd : (q : Int) ∣ s.p) (P : Per (holds s) q) (lp : ∀ r : Nat, 1 ≤ r → r < q → (r : Int) ∣ s.p → ¬ Per (holds s) r) :
    Least ⟨q, chg (holds s) q, holds s (-1)⟩ ∧ ∀ d, holds ⟨q, chg (holds s) q, holds s (-1)⟩ d = holds s d := by
  have S := side_of (T := ⟨q, chg (holds s) q, holds s (-1)⟩) (h := holds s) (by show (1 : Int) ≤ q; omega) (chg_asc _ _) P rfl fun x x0 x1 => chg_mem x0 x1
  refine ⟨⟨S.1, fun r r1 rd rp => ?_⟩, S.2⟩
  have rd : r ∣ (q : Int) := rd
  have hq : r ≤ (q : Int) := Int.le_of_dvd (by omega) rd
  have he : holds ⟨q, chg (holds s) q, holds s (-1)⟩ = holds s := funext S.2
  rw [he] at rp
  show r = (q : Int)
  by_cases z : r = (q : Int)
  · exact z
  · refine absurd ?_ (lp r.toNat (by omega) (by omega) ?_)
    · rw [Int.toNat_of_nonneg (by omega)]
      exact rp
    · rw [Int.toNat_of_nonneg (by omega)]
      exact Int.dvd_trans rd qd
end N7
namespace N7
/-! least_side: borders that repeat -/
theorem bd_add_m {s : Sd} (hm : 0 < s.bs.length) (n : Nat) : bd s (n + s.bs.length) = bd s n + s.p := by
  unfold bd
  rw [Nat.add_div_right _ hm, Nat.add_mod_right]
  have : ((((n / s.bs.length).succ : Nat) : Int)) = ((n / s.bs.length : Nat) : Int) + 1 := by omega
  rw [this, Int.mul_add, Int.mul_one]
  omega
/-- the steps repeat every L -/
def Rep (s : Sd) (L : Nat) : Prop := ∀ i, i + L < s.bs.length → bd s (i + L + 1) - bd s (i + L) = bd s (i + 1) - bd s i
theorem rep_blocks {s : Sd} {L : Nat} (R : Rep s L) : ∀ a i, i + a * L < s.bs.length → bd s (i + a * L + 1) - bd s (i + a * L) = bd s (i + 1) - bd s i
  | 0, i, _ => by simp
  | a + 1, i, h => by
    rw [Nat.add_mul, Nat.one_mul] at h ⊢
    have := R (i + a * L) (by omega)
    rw [show i + (a * L + L) = i + a * L + L by omega, this]
    exact rep_blocks R a i (by omega)
theorem rep_all {s : Sd} (hm : 0 < s.bs.length) {L : Nat} (hL : 0 < L) (hd : L ∣ s.bs.length) (R : Rep s L) : ∀ n, bd s (n + L + 1) - bd s (n + L) = bd s (n + 1) - bd s n := by
  have st : ∀ k n, bd s (n + k * s.bs.length + 1) - bd s (n + k * s.bs.length) = bd s (n + 1) - bd s n := fun k => by
    induction k with
    | zero => intro n; simp
    | succ k ih =>
      intro n
      rw [Nat.add_mul, Nat.one_mul, show n + (k * s.bs.length + s.bs.length) = (n + k * s.bs.length) + s.bs.length by omega, show n + k * s.bs.length + s.bs.length + 1 = (n + k * s.bs.length + 1) + s.bs.length by omega, bd_add_m hm, bd_add_m hm, ← ih n]
      omega
  intro n
  obtain ⟨t, ht⟩ := hd
  have hj := Nat.mod_lt n hm
  have hn : n = n % s.bs.length + (n / s.bs.length) * s.bs.length := by
    have := Nat.div_add_mod n s.bs.length
    rw [Nat.mul_comm] at this
    omega
  have e1 := st (n / s.bs.length) (n % s.bs.length)
  rw [← hn] at e1
  have e2 := st (n / s.bs.length) (n % s.bs.length + L)
  rw [show n % s.bs.length + L + (n / s.bs.length) * s.bs.length = n + L by omega] at e2
  rw [e1, e2]
  generalize n % s.bs.length = j at *
  by_cases k : j + L < s.bs.length
  · exact R j k
  · have t1 : 1 ≤ t := by
      rcases Nat.eq_zero_or_pos t with z | z
      · rw [z, Nat.mul_zero] at ht
        omega
      · exact z
    have ht2 : (t - 1) * L + L = s.bs.length := by
      rw [ht, Nat.sub_mul, Nat.one_mul, Nat.mul_comm L t]
      have : L ≤ t * L := Nat.le_mul_of_pos_left L t1
      omega
    have b := rep_blocks R (t - 1) (j + L - s.bs.length) (by omega)
    rw [show j + L - s.bs.length + (t - 1) * L = j by omega] at b
    have c := st 1 (j + L - s.bs.length)
    rw [Nat.one_mul, show j + L - s.bs.length + s.bs.length = j + L by omega] at c
    omega
theorem shift_of {s : Sd} {L : Nat} (h : ∀ n, bd s (n + L + 1) - bd s (n + L) = bd s (n + 1) - bd s n) : ∀ n, bd s (n + L) = bd s n + (bd s L - bd s 0)
  | 0 => by rw [Nat.zero_add]; omega
  | n + 1 => by
    have := shift_of h n
    have := h n
    rw [show n + 1 + L = n + L + 1 by omega]
    omega
theorem shift_mul {s : Sd} {L : Nat} {c : Int} (h : ∀ n, bd s (n + L) = bd s n + c) : ∀ a n, bd s (n + a * L) = bd s n + (a : Nat) * c
  | 0, n => by rw [Nat.zero_mul, Nat.add_zero]; simp
  | a + 1, n => by
    have := shift_mul h a n
    rw [Nat.add_mul, Nat.one_mul, ← Nat.add_assoc, h, this, Int.natCast_add, Int.add_mul]
    omega
/-- how many borders from 0 to x, also for x = -1 -/
def bel (s : Sd) (x : Int) : Nat := if x < 0 then 0 else below s x
theorem bel_le {s : Sd} (ok : SdOk s) (hm : 0 < s.bs.length) (n : Nat) (x : Int) : bd s n ≤ x ↔ n < bel s x := by
  unfold bel
  by_cases h : x < 0
  · rw [if_pos h]
    have : 0 ≤ bd s n := by
      unfold bd
      have := asc_lo ok.asc (getD_some (Nat.mod_lt n hm))
      have := Int.mul_nonneg (show (0 : Int) ≤ s.p by have := ok.p1; omega) (Int.natCast_nonneg (n / s.bs.length))
      omega
    omega
  · rw [if_neg h]
    exact bd_le ok hm n (by omega)
theorem holds_bel {s : Sd} (ok : SdOk s) {x : Int} (h : -1 ≤ x) : holds s x = (s.f != odd (bel s x)) := by
  unfold bel
  by_cases k : x < 0
  · rw [if_pos k]
    have := holds_pre ok (d := 0) (by omega) (by have := ok.p1; omega)
    rw [cnt_zero ok.asc (Int.le_refl _)] at this
    rw [show x = 0 - 1 by omega]
    exact this
  · rw [if_neg k]
    have := holds_below ok 0 x
    rw [Int.mul_zero, Int.zero_add] at this
    exact this
theorem bel_step {s : Sd} (ok : SdOk s) (hm : 0 < s.bs.length) (x : Int) : bel s x ≤ bel s (x + 1) ∧ bel s (x + 1) ≤ bel s x + 1 := by
  have mono : ∀ {n k : Nat}, n < k → bd s n < bd s k := fun l => bd_lt ok hm l
  constructor
  · by_cases z : bel s x = 0
    · omega
    · have := (bel_le ok hm (bel s x - 1) x).mpr (by omega)
      have := (bel_le ok hm (bel s x - 1) (x + 1)).mp (by omega)
      omega
  · by_cases z : bel s (x + 1) ≤ bel s x + 1
    · exact z
    · have a := (bel_le ok hm (bel s x + 1) (x + 1)).mpr (by omega)
      have b := mono (show bel s x < bel s x + 1 by omega)
      have c := (bel_le ok hm (bel s x) x).mp (by omega)
      omega
/-- a period of the holds moves the borders -/
theorem per_shift {s : Sd} (ok : SdOk s) (hm : 0 < s.bs.length) {q : Int} (q1 : 1 ≤ q) (P : Per (holds s) q) : ∃ K : Nat, K % 2 = 0 ∧ ∀ n, bd s (n + K) = bd s n + q := by
  have inc : ∀ x : Int, -1 ≤ x → bel s (x + 1 + q) + bel s x = bel s (x + q) + bel s (x + 1) := fun x hx => by
    have a := bel_step ok hm x
    have b := bel_step ok hm (x + q)
    rw [show x + q + 1 = x + 1 + q by omega] at b
    have h1 := P x
    have h2 := P (x + 1)
    rw [holds_bel ok hx, holds_bel ok (by omega)] at h1
    rw [holds_bel ok (show -1 ≤ x + 1 by omega), holds_bel ok (by omega)] at h2
    have par : ∀ u v : Nat, odd u = odd v → (u + v) % 2 = 0 := fun u v h => by
      unfold odd at h
      have := decide_eq_decide.mp h
      omega
    have h1 : (bel s (x + q) + bel s x) % 2 = 0 := par _ _ (by
      revert h1
      cases s.f <;> cases odd (bel s (x + q)) <;> cases odd (bel s x) <;> decide)
    have h2 : (bel s (x + 1 + q) + bel s (x + 1)) % 2 = 0 := par _ _ (by
      revert h2
      cases s.f <;> cases odd (bel s (x + 1 + q)) <;> cases odd (bel s (x + 1)) <;> decide)
    omega
  have const : ∀ n : Nat, bel s ((n : Int) - 1 + q) = bel s ((n : Int) - 1) + bel s (-1 + q) := fun n => by
    induction n with
    | zero =>
      have e : bel s (-1) = 0 := rfl
      show bel s ((0 : Int) - 1 + q) = bel s ((0 : Int) - 1) + _
      rw [show (0 : Int) - 1 = -1 by omega, e, Nat.zero_add]
    | succ n ih =>
      have := inc ((n : Int) - 1) (by omega)
      rw [show ((n + 1 : Nat) : Int) - 1 = (n : Int) - 1 + 1 by omega]
      omega
  have const : ∀ x : Int, -1 ≤ x → bel s (x + q) = bel s x + bel s (-1 + q) := fun x hx => by
    have := const (x + 1).toNat
    rw [show (((x + 1).toNat : Nat) : Int) - 1 = x by omega] at this
    exact this
  refine ⟨bel s (-1 + q), ?_, fun n => ?_⟩
  · have := P (-1)
    rw [holds_bel ok (by omega), holds_bel ok (by omega)] at this
    have e : bel s (-1) = 0 := rfl
    rw [e] at this
    have z : odd (bel s (-1 + q)) = false := by
      revert this
      cases s.f <;> cases odd (bel s (-1 + q)) <;> decide
    unfold odd at z
    have := of_decide_eq_false z
    omega
  · have b0 : 0 ≤ bd s n := by
      unfold bd
      have := asc_lo ok.asc (getD_some (Nat.mod_lt n hm))
      have := Int.mul_nonneg (show (0 : Int) ≤ s.p by have := ok.p1; omega) (Int.natCast_nonneg (n / s.bs.length))
      omega
    have u := (bel_le ok hm n (bd s n)).mp (Int.le_refl _)
    have c1 := const (bd s n) (by omega)
    have v := (bel_le ok hm (n + bel s (-1 + q)) (bd s n + q)).mpr (by omega)
    have c2 := const (bd s n - 1) (by omega)
    have w : ¬ n < bel s (bd s n - 1) := fun z => by
      have := (bel_le ok hm n (bd s n - 1)).mpr z
      omega
    have y : ¬ bd s (n + bel s (-1 + q)) ≤ bd s n - 1 + q := fun z => by
      have := (bel_le ok hm _ _).mp z
      omega
    omega
end N7
namespace N7
theorem asc_take : ∀ {l : List Int} {lo hi hj : Int} (k : Nat), Asc lo hi l → (∀ i b, i < k → l[i]? = some b → b < hj) → Asc lo hj (l.take k)
  | [], _, _, _, _, _, _ => by rw [List.take_nil]; trivial
  | b :: r, lo, hi, hj, 0, _, _ => trivial
  | b :: r, lo, hi, hj, k + 1, ⟨h1, h2, h3⟩, h => ⟨h1, h 0 b (by omega) rfl, asc_take k h3 fun i c hi e => h (i + 1) c (by omega) (by simpa using e)⟩
theorem bd_small {s : Sd} {i : Nat} (h : i < s.bs.length) : bd s i = s.bs.getD i 0 := by
  unfold bd
  rw [Nat.div_eq_of_lt h, Nat.mod_eq_of_lt h]
  simp
theorem least_spec {s : Sd} (ok : SdOk s) (hm : 0 < s.bs.length) {L : Nat} (h2 : 2 ≤ L) (he : L % 2 = 0) (hd : L ∣ s.bs.length) (R : Rep s L) (hmin : ∀ K, 2 ≤ K → K < L → K % 2 = 0 → K ∣ s.bs.length → ¬ Rep s K) :
    Least ⟨s.p / ((s.bs.length / L : Nat) : Int), s.bs.take L, s.f⟩ ∧ ∀ d, holds ⟨s.p / ((s.bs.length / L : Nat) : Int), s.bs.take L, s.f⟩ d = holds s d := by
  have p1 := ok.p1
  have sh := shift_of (rep_all hm (by omega) hd R)
  obtain ⟨t, ht⟩ := hd
  have t1 : 1 ≤ t := by
    rcases Nat.eq_zero_or_pos t with z | z
    · rw [z, Nat.mul_zero] at ht
      omega
    · exact z
  have et : s.bs.length / L = t := by rw [ht, Nat.mul_div_cancel_left _ (by omega)]
  rw [et]
  generalize hc : bd s L - bd s 0 = c at sh
  have tc : (t : Int) * c = s.p := by
    have a := shift_mul sh t 0
    have b := bd_add_m hm 0
    rw [ht, Nat.mul_comm L t] at b
    omega
  have ec : s.p / (t : Int) = c := by rw [← tc, Int.mul_ediv_cancel_left _ (by omega)]
  rw [ec]
  have c1 : 1 ≤ c := by
    by_cases z : 1 ≤ c
    · exact z
    · have : (t : Int) * c ≤ (t : Int) * 0 := Int.mul_le_mul_of_nonneg_left (by omega) (by omega)
      omega
  have Lm : L ≤ s.bs.length := by
    rw [ht]
    exact Nat.le_mul_of_pos_right L t1
  have ht2 : (t - 1) * L + L = s.bs.length := by
    rw [ht, Nat.sub_mul, Nat.one_mul, Nat.mul_comm L t]
    have : L ≤ t * L := Nat.le_mul_of_pos_left L t1
    omega
  have tlen : (s.bs.take L).length = L := by rw [List.length_take]; omega
  have small : ∀ i b, i < L → s.bs[i]? = some b → b < c := fun i b hi e => by
    have a := shift_mul sh (t - 1) i
    have k : i + (t - 1) * L < s.bs.length := by omega
    have k2 := asc_hi ok.asc (getD_some k)
    rw [bd_small k, bd_small (by omega)] at a
    rw [getD_some (by omega)] at e
    have e := Option.some.inj e
    have q : ((t - 1 : Nat) : Int) * c = (t : Int) * c - c := by
      rw [show ((t - 1 : Nat) : Int) = (t : Int) - 1 by omega, Int.sub_mul, Int.one_mul]
    omega
  have T_ok : SdOk ⟨c, s.bs.take L, s.f⟩ := ⟨c1, asc_take L ok.asc small, by show (s.bs.take L).length % 2 = 0; rw [tlen]; exact he⟩
  have tpos : 0 < (Sd.mk c (s.bs.take L) s.f).bs.length := by show 0 < (s.bs.take L).length; omega
  have bdT : ∀ n, bd ⟨c, s.bs.take L, s.f⟩ n = bd s n := fun n => by
    have hl : n % L < L := Nat.mod_lt n (by omega)
    have e : n = n % L + (n / L) * L := by
      have := Nat.div_add_mod n L
      rw [Nat.mul_comm] at this
      omega
    have a := shift_mul sh (n / L) (n % L)
    rw [← e] at a
    rw [bd_small (i := n % L) (by omega)] at a
    rw [a]
    show c * ((n / (s.bs.take L).length : Nat) : Int) + (s.bs.take L).getD (n % (s.bs.take L).length) 0 = _
    rw [tlen]
    have g : (s.bs.take L).getD (n % L) 0 = s.bs.getD (n % L) 0 := by
      rw [List.getD_eq_getElem?_getD, List.getD_eq_getElem?_getD, List.getElem?_take_of_lt hl]
    rw [g, Int.mul_comm c]
    omega
  have same : ∀ d, holds ⟨c, s.bs.take L, s.f⟩ d = holds s d := by
    refine fine_wilf (p := c) (q := s.p) (b := 0) c1 p1 per_holds per_holds fun d h1 _ => ?_
    rw [holds_bel T_ok (by omega), holds_bel ok (by omega)]
    have : bel ⟨c, s.bs.take L, s.f⟩ d = bel s d := by
      rcases Nat.lt_trichotomy (bel ⟨c, s.bs.take L, s.f⟩ d) (bel s d) with z | z | z
      · have a := (bel_le ok hm _ d).mpr z
        rw [← bdT] at a
        have := (bel_le T_ok tpos _ d).mp a
        omega
      · exact z
      · have a := (bel_le T_ok tpos _ d).mpr z
        rw [bdT] at a
        have := (bel_le ok hm _ d).mp a
        omega
    rw [this]
  refine ⟨⟨T_ok, fun q q1 qd P => ?_⟩, same⟩
  have qd : q ∣ c := qd
  show q = c
  rw [funext same] at P
  obtain ⟨K, K2, KS⟩ := per_shift ok hm q1 P
  have K1 : K ≠ 0 := fun z => by
    have := KS 0
    rw [z, Nat.add_zero] at this
    omega
  obtain ⟨v, hv⟩ := qd
  have v0 : 1 ≤ v := by
    by_cases z : 1 ≤ v
    · exact z
    · have : q * v ≤ q * 0 := Int.mul_le_mul_of_nonneg_left (by omega) (by omega)
      omega
  have inj : ∀ {n k : Nat}, bd s n = bd s k → n = k := fun {n k} e => by
    rcases Nat.lt_trichotomy n k with z | z | z
    · have := bd_lt ok hm z
      omega
    · exact z
    · have := bd_lt ok hm z
      omega
  have vL : v.toNat * K = L := by
    refine inj ?_
    have a := shift_mul KS v.toNat 0
    rw [Nat.zero_add, Int.toNat_of_nonneg (by omega), Int.mul_comm] at a
    omega
  have KL : K ≤ L := by
    rw [← vL]
    exact Nat.le_mul_of_pos_left K (by omega)
  by_cases z : K < L
  · refine absurd (fun i hi => ?_) (hmin K (by omega) z K2 ⟨v.toNat * t, ?_⟩)
    · have a := KS i
      have b := KS (i + 1)
      rw [show i + 1 + K = i + K + 1 by omega] at b
      omega
    · rw [ht, ← vL, Nat.mul_comm v.toNat K, Nat.mul_assoc]
  · have e : K = L := by omega
    have a := KS 0
    rw [e, Nat.zero_add] at a
    omega
theorem least_nil {p : Int} {f : Bool} : Least ⟨1, [], f⟩ ∧ ∀ d, holds ⟨1, [], f⟩ d = holds ⟨p, [], f⟩ d := by
  refine ⟨⟨⟨Int.le_refl _, trivial, rfl⟩, fun q q1 qd _ => ?_⟩, fun d => ?_⟩
  · have := Int.le_of_dvd (show (0 : Int) < 1 by omega) qd
    show q = 1
    omega
  · unfold holds
    rfl
end N7
namespace Pu
open PySem L2
/-! ### dicts with int keys -/
def getA (kvs : List (Int × PyData)) (n : Int) : Option PyData := (kvs.find? fun kv => decide (kv.1 = n)).map (·.2)
def putA (kvs : List (Int × PyData)) (n : Int) (d : PyData) : List (Int × PyData) :=
  if (kvs.any fun kv => decide (kv.1 = n)) = true then kvs.map (fun kv => if kv.1 = n then (kv.1, d) else kv) else kvs ++ [(n, d)]
def asDct : Cell → (List (Int × PyData) → Prop) → Prop
  | .dct x, k => k x
  | _, _ => False
theorem asDct_of {c : Cell} {k : List (Int × PyData) → Prop} (h : asDct c k) : ∃ x, c = .dct x ∧ k x := by
  cases c <;> first | exact ⟨_, rfl, h⟩ | exact h.elim
section
variable {K : PySem.W.Frag} {H : Hp}
theorem kvs_any {n : Int} : ∀ {ws : List (Key × V)} {kvs : List (Int × PyData)}, Kvs K H ws kvs → (ws.any fun kv => decide (kv.1 = (.inl n : Key))) = kvs.any fun kv => decide (kv.1 = n)
  | _, _, .nil => rfl
  | _, _, .cons (n := m) h r => by
    rw [List.any_cons, List.any_cons, kvs_any r]
    congr 1
    by_cases e : m = n
    · rw [decide_eq_true (show (.inl m : Key) = .inl n by rw [e]), decide_eq_true e]
    · rw [decide_eq_false (show ¬ (.inl m : Key) = .inl n from fun z => e (Sum.inl.inj z)), decide_eq_false e]
theorem kvs_get {n : Int} : ∀ {ws : List (Key × V)} {kvs : List (Int × PyData)}, Kvs K H ws kvs → (getA kvs n = none ∧ valV ws (.inl n : Key) = none) ∨ ∃ d v, getA kvs n = some d ∧ valV ws (.inl n : Key) = some v ∧ Dq K H v d
  | _, _, .nil => .inl ⟨rfl, rfl⟩
  | _, _, .cons (n := m) (v := v) (d := d) h r => by
    unfold getA valV
    by_cases e : m = n
    · rw [List.find?_cons_of_pos (by simpa using e), List.find?_cons_of_pos (by simpa using e)]
      exact .inr ⟨d, v, rfl, rfl, h⟩
    · rw [List.find?_cons_of_neg (by simpa using e), List.find?_cons_of_neg (by simpa using e)]
      exact kvs_get r
theorem kvs_map {n : Int} {v : V} {d : PyData} (h : Dq K H v d) : ∀ {ws : List (Key × V)} {kvs : List (Int × PyData)}, Kvs K H ws kvs →
    Kvs K H (ws.map fun kv => if kv.1 = (.inl n : Key) then (kv.1, v) else kv) (kvs.map fun kv => if kv.1 = n then (kv.1, d) else kv)
  | _, _, .nil => .nil
  | _, _, .cons (n := m) h' r => by
    rw [List.map_cons, List.map_cons]
    by_cases e : m = n
    · rw [if_pos (show (.inl m : Key) = .inl n by rw [e]), if_pos e]
      exact .cons h (kvs_map h r)
    · rw [if_neg (show ¬ (.inl m : Key) = .inl n from fun z => e (Sum.inl.inj z)), if_neg e]
      exact .cons h' (kvs_map h r)
theorem kvs_app {n : Int} {v : V} {d : PyData} (h : Dq K H v d) : ∀ {ws : List (Key × V)} {kvs : List (Int × PyData)}, Kvs K H ws kvs → Kvs K H (ws ++ [(.inl n, v)]) (kvs ++ [(n, d)])
  | _, _, .nil => .cons h .nil
  | _, _, .cons h' r => .cons h' (kvs_app h r)
theorem kvs_put {n : Int} {v : V} {d : PyData} {ws : List (Key × V)} {kvs : List (Int × PyData)} (h : Dq K H v d) (r : Kvs K H ws kvs) : Kvs K H (putK ws (.inl n) v) (putA kvs n d) := by
  unfold putK putA
  rw [kvs_any r]
  by_cases e : (kvs.any fun kv => decide (kv.1 = n)) = true
  · rw [if_pos e, if_pos e]
    exact kvs_map h r
  · rw [if_neg e, if_neg e]
    exact kvs_app h r
end
def pAsgD (i : Nat) : PS' := fun G ρ => i ≠ 0 ∧ G.nx (cellSet ρ i (.dct []))
def pPutD (i : Nat) (pk pv : PE') : PS' := fun G ρ => pv ρ fun v ρ1 => asDct (cellAt ρ1 i) fun _ => pk ρ1 fun k ρ2 => asI k fun n => asDct (cellAt ρ2 i) fun kvs => kvs.length < 100000 ∧ G.nx (cellSet ρ2 i (.dct (putA kvs n v)))
def pGetD (i : Nat) (pk px : PE') : PE' := fun ρ R => asDct (cellAt ρ i) fun _ => pk ρ fun k ρ1 => px ρ1 fun x ρ2 => asI k fun n => asDct (cellAt ρ2 i) fun kvs => R ((getA kvs n).getD x) ρ2
def pItemsD (i : Nat) : PA' := fun ρ R => asDct (cellAt ρ i) fun kvs => kvs.length ≤ 100000 ∧ R (kvs.map fun kv => .tuple [.int kv.1, kv.2]) ρ
section
variable {K : PySem.W.Frag} {B Z : Addr → Prop} {A H0 H : Hp} {M : Nat → Option Addr} {σ : St} {ρ : En}
theorem dct_at (E : EnvR K B Z A H0 M σ H ρ) {i : Nat} {kvs : List (Int × PyData)} (h : cellAt ρ i = .dct kvs) : ∃ l ws, σ[i]? = some (some (.ref l)) ∧ M i = some l ∧ H l = some (.dK ws) ∧ Kvs K (veil (hid Z M) H) ws kvs := by
  obtain ⟨l, ws, e, m, hl, r⟩ := E.cell i _ (cellAt_some h (by intro z; cases z))
  refine ⟨l, ws, ?_, m, hl, r⟩
  cases q : σ[i]? with
  | none =>
    rw [q] at e
    cases e
  | some o =>
    rw [q] at e
    exact congrArg some e
/-- any new object for a place's own: what the list's rule says, for a dict -/
theorem EnvR.setK (E : EnvR K B Z A H0 M σ H ρ) {i : Nat} {l : Addr} (hi : i ≠ 0) (hl : H l = none) :
    EnvR K B Z A H0 (fun j => if j = i then some l else M j) (σ.set i (some (.ref l))) (upd H l (.dK [])) (cellSet ρ i (.dct [])) := by
  have E2 := E.setO (i := i) (l := l) (vs := []) (ds := []) hi hl .nil
  have nM : ∀ j, M j ≠ some l := fun j m => E.live j l m hl
  have same : ∀ a, a ≠ l → upd H l (.lst []) a = upd H l (.dK []) a := fun a h => by rw [upd_ne h, upd_ne h]
  have hv : veil (hid Z fun j => if j = i then some l else M j) (upd H l (.lst [])) = veil (hid Z fun j => if j = i then some l else M j) (upd H l (.dK [])) := by
    funext a
    unfold veil
    by_cases z : hid Z (fun j => if j = i then some l else M j) a
    · rw [if_pos z, if_pos z]
    · rw [if_neg z, if_neg z]
      exact same a fun e => z (.inr ⟨i, by rw [e]; exact if_pos rfl⟩)
  have nn : ∀ a, upd H l (.lst []) a ≠ none → upd H l (.dK []) a ≠ none := fun a h => by
    by_cases e : a = l
    · rw [e, upd_same]
      intro z; cases z
    · rw [← same a e]
      exact h
  rw [cellSet_eq] at E2 ⊢
  refine ⟨by rw [List.length_set, List.length_set]; exact E.len, E2.inj, fun j u m => nn u (E2.live j u m), E2.off, fun a z => nn a (E2.zl a z), fun a o nb h => ?_, E2.own, E2.m0, hv ▸ E2.anch, fun j c hc => ?_⟩
  · have q := E.ext a o nb h
    rw [upd_ne (fun e => by rw [e, hl] at q; cases q)]
    exact q
  · rcases set_at hc with ⟨rfl, hk, rfl⟩ | ⟨ne, hc⟩
    · rw [join_set (by rw [E.len]; exact hk)]
      exact ⟨l, [], rfl, if_pos rfl, upd_same, .nil⟩
    · have h := E2.cell j c (by rw [List.getElem?_set_ne ne]; exact hc)
      refine h.grow (by rw [hv]; exact Grow.refl _) fun u m o ho => ?_
      have mj : (if j = i then some l else M j) = some u := m
      rw [if_neg (Ne.symm ne)] at mj
      rw [← same u fun e => nM j (by rw [mj, e])]
      exact ho
theorem EnvR.putKv (E : EnvR K B Z A H0 M σ H ρ) {i : Nat} {l : Addr} {ws : List (Key × V)} {kvs : List (Int × PyData)} (hs : (σ[i]?).join = some (.ref l)) (hm : M i = some l) (r : Kvs K (veil (hid Z M) H) ws kvs) :
    EnvR K B Z A H0 M σ (upd H l (.dK ws)) (cellSet ρ i (.dct kvs)) := by
  rw [cellSet_eq]
  have hd : hid Z M l := .inr ⟨i, hm⟩
  have gv : Grow (veil (hid Z M) H) (veil (hid Z M) (upd H l (.dK ws))) := fun a o h => by
    obtain ⟨h1, h2⟩ := veil_off h
    exact veil_on h1 ((upd_ne fun e => h1 (by rw [e]; exact hd)).trans h2)
  have nn : ∀ a, H a ≠ none → (upd H l (.dK ws)) a ≠ none := fun a h => by
    by_cases e : a = l
    · rw [e, upd_same]
      intro z; cases z
    · rw [upd_ne e]
      exact h
  refine ⟨by rw [List.length_set]; exact E.len, E.inj, fun j u m => nn u (E.live j u m), E.off, fun a z => nn a (E.zl a z), fun a o nb h => ?_, E.own, E.m0, E.anch.trans gv, fun j c hc => ?_⟩
  · have ne : a ≠ l := fun e => by
      rcases E.own i l hm with b | n
      · exact nb (e ▸ b)
      · rw [e, n] at h
        cases h
    rw [upd_ne ne]
    exact E.ext a o nb h
  · rcases set_at hc with ⟨rfl, hk, rfl⟩ | ⟨ne, hc⟩
    · exact ⟨l, ws, hs, hm, upd_same, kvs_grow gv r⟩
    · exact (E.cell j c hc).grow gv fun u m o ho => (upd_ne fun e => ne (E.inj i j l hm (by rw [← e]; exact m))).trans ho
end
section
variable {K : PySem.W.Frag}
theorem s_asgD {i : Nat} : SimS K (tAsg tDNewK (gName i)) (pAsgD i) := fun B Z A H0 M σ H ρ D G E h C p hp => C.nx _ _ _ _ (E.setK h.1 hp) h.2
theorem s_putD {i : Nat} {tk tv : TE} {pk pv : PE'} (sk : Sim K tk pk) (sv : Sim K tv pv) : SimS K (sDPut (tVar i) tk tv) (pPutD i pk pv) := fun B Z A H0 M σ H ρ D G E h C =>
  sv B Z A H0 M σ H ρ _ E h _ fun v d ρ1 H1 h1 E1 d1 => by
    obtain ⟨kvs, hc, h2⟩ := asDct_of h1
    obtain ⟨l, ws, e, m, hl, r⟩ := dct_at E1 hc
    refine ⟨.ref l, e, sk B Z _ H0 M σ H1 ρ1 _ E1.anchor h2 _ fun u k ρ2 H2 h3 E2 d2 => ?_⟩
    obtain ⟨n, rfl, h4⟩ := asI_of h3
    obtain ⟨kvs2, hc2, h5, h6⟩ := asDct_of h4
    obtain ⟨l2, ws2, e2, m2, hl2, r2⟩ := dct_at E2 hc2
    rw [m] at m2
    cases m2
    rw [of_int d2]
    refine ⟨l, _, rfl, DPut.k (k := Sum.inl n) hl2 (Nat.lt_of_lt_of_le (by rw [kvs_len r2]; exact h5) (by decide)), ?_⟩
    exact C.nx M σ _ _ ((E2.weak E1.anch).putKv (by rw [e2]; rfl) m (kvs_put (dp_grow E2.anch _ _ d1) r2)) h6
theorem sim_getD {i : Nat} {tk tx : TE} {pk px : PE'} (sk : Sim K tk pk) (sx : Sim K tx px) : Sim K (tDGet2 (tVar i) tk tx) (pGetD i pk px) := fun B Z A H0 M σ H ρ R E h Q q => by
  obtain ⟨kvs, hc, h⟩ := asDct_of h
  obtain ⟨l, ws, e, m, hl, r⟩ := dct_at E hc
  refine ⟨.ref l, e, l, rfl, .inl ⟨ws, .inl hl⟩, ?_⟩
  refine two sk sx E h fun v w x y ρ2 H2 h2 E2 d1 d2 => ?_
  obtain ⟨n, rfl, h3⟩ := asI_of h2
  obtain ⟨kvs2, hc2, h4⟩ := asDct_of h3
  obtain ⟨l2, ws2, e2, m2, hl2, r2⟩ := dct_at E2 hc2
  rw [m] at m2
  cases m2
  rw [of_int d1]
  refine ⟨valV ws2 (.inl n), DGet.k (k := Sum.inl n) hl2, ?_⟩
  rcases kvs_get (n := n) r2 with ⟨g1, g2⟩ | ⟨d, u, g1, g2, du⟩
  · rw [g2]
    rw [g1] at h4
    exact q _ _ _ _ h4 E2 d2
  · rw [g2]
    rw [g1] at h4
    exact q _ _ _ _ h4 E2 du
theorem sim_itemsD {i : Nat} : Sim K (LiI.tListItems (tVar i)) (pNew (pItemsD i)) := fun B Z A H0 M σ H ρ R E h Q q => by
  obtain ⟨kvs, hc, hz, h⟩ := asDct_of h
  obtain ⟨l, ws, e, m, hl, r⟩ := dct_at E hc
  refine ⟨.ref l, e, l, ws, rfl, hl, fun H' p ts g hp ht np hP hpair => ?_⟩
  have E2 := E.grown g
  refine q _ _ ρ H' h E2 (.lst (veil_on (E.veiled hp) hP) ?_)
  have gv := grow_veil (Z := hid Z M) g
  have go : ∀ {ts : List Addr} {ws : List (Key × V)} {kvs : List (Int × PyData)}, (∀ t ∈ ts, H t = none) → Paired (fun (t : Addr) (q : Key × V) => H' t = some (.tup [kV q.1, q.2])) ts ws → Kvs K (veil (hid Z M) H) ws kvs →
      Dqs K (veil (hid Z M) H') (ts.map V.ref) (kvs.map fun kv => .tuple [.int kv.1, kv.2]) := fun {ts} => by
    induction ts with
    | nil =>
      intro ws kvs _ hp hr
      cases hp
      cases hr
      exact .nil
    | cons t ts ih =>
      intro ws kvs hn hp hr
      cases hp with
      | cons h1 h2 =>
        cases hr with
        | cons hd hr => exact .cons (.tup (.of (veil_on (E.veiled (hn t List.mem_cons_self)) h1)) (.cons (.int _) (.cons (dp_grow gv _ _ hd) .nil))) (ih (fun t m => hn t (List.mem_cons_of_mem _ m)) h2 hr)
  exact go ht hpair r
end

/-! ### sums, all, lcm, min, products -/
def rSum2 (K : PySem.W.Frag) : List V → Hp → VK → Prop := fun vs H Q => ∃ (a : Addr) (ns : List Int), vs = [V.ref a] ∧ (SqL K H a (ns.map V.int) ∨ SqT K H a (ns.map V.int)) ∧ Q (.int ns.sum) H
theorem c_sum {X : Cx} (hc : X.calm = true) : CallR X (.builtin "sum") (rSum2 X.K) := by
  intro pins s σ H vs us Q I r h
  obtain ⟨a, ns, rfl, hs | hs, q⟩ := h
  · exact cr_sum hc pins s σ H _ us Q I r ⟨a, ns, rfl, hs, q⟩
  · obtain ⟨its, rv, ht, _⟩ := I.tuple hs
    rw [Vals.ref1 r]
    have hi := ints_of_vals rv
    obtain ⟨xs, e⟩ := hi.allInts.items
    have hn : PySem.numsOf (intItems xs).toList = ns := by rw [← e]; exact hi.numsOf
    rw [PySem.nums_intItems] at hn
    rw [e] at ht
    refine PySem.W.ktm_sumG (I.ok.hd hc) ht fun h' tk t' hk => ?_
    rw [PySem.preSum_eq, List.take_of_length_le (by simp), hn]
    exact ⟨.int _, H, I.kept hk, ⟨_, rfl⟩, q⟩
def intsOf : List PyData → Option (List Int)
  | [] => some []
  | .int i :: r => (intsOf r).map (i :: ·)
  | _ => none
theorem intsOf_eq : ∀ {ds : List PyData} {ns : List Int}, intsOf ds = some ns → ds = ns.map PyData.int
  | [], ns, h => by cases h; rfl
  | .int i :: r, ns, h => by
    unfold intsOf at h
    cases e : intsOf r with
    | none => rw [e] at h; cases h
    | some ms =>
      rw [e] at h
      cases h
      rw [intsOf_eq e]
      rfl
  | .none :: _, _, h => by cases h
  | .bool _ :: _, _, h => by cases h
  | .str _ :: _, _, h => by cases h
  | .list _ :: _, _, h => by cases h
  | .tuple _ :: _, _, h => by cases h
  | .dict _ :: _, _, h => by cases h
theorem intsOf_map : ∀ ns : List Int, intsOf (ns.map PyData.int) = some ns
  | [] => rfl
  | n :: ns => by
    show (intsOf (ns.map PyData.int)).map (n :: ·) = _
    rw [intsOf_map ns]
    rfl
def fSum : FS := fun ds k => match ds with
  | [d] => asS d fun xs => ∃ ns, intsOf xs = some ns ∧ k (.int ns.sum)
  | _ => False
theorem fSum_of {ds : List PyData} {k : PyData → Prop} (h : fSum ds k) : ∃ ns : List Int, (ds = [.list (ns.map PyData.int)] ∨ ds = [.tuple (ns.map PyData.int)]) ∧ k (.int ns.sum) := by
  unfold fSum at h
  split at h
  · rename_i d
    cases d with
    | list xs =>
      obtain ⟨ns, e, h⟩ := h
      rw [intsOf_eq e]
      exact ⟨ns, .inl rfl, h⟩
    | tuple xs =>
      obtain ⟨ns, e, h⟩ := h
      rw [intsOf_eq e]
      exact ⟨ns, .inr rfl, h⟩
    | _ => exact h.elim
  · exact h.elim
/-- all(xs), xs a list of truth values -/
def boolsOf : List PyData → Option (List Bool)
  | [] => some []
  | .bool i :: r => (boolsOf r).map (i :: ·)
  | _ => none
theorem boolsOf_eq : ∀ {ds : List PyData} {ns : List Bool}, boolsOf ds = some ns → ds = ns.map PyData.bool
  | [], ns, h => by cases h; rfl
  | .bool i :: r, ns, h => by
    unfold boolsOf at h
    cases e : boolsOf r with
    | none => rw [e] at h; cases h
    | some ms =>
      rw [e] at h
      cases h
      rw [boolsOf_eq e]
      rfl
  | .none :: _, _, h => by cases h
  | .int _ :: _, _, h => by cases h
  | .str _ :: _, _, h => by cases h
  | .list _ :: _, _, h => by cases h
  | .tuple _ :: _, _, h => by cases h
  | .dict _ :: _, _, h => by cases h
theorem boolsOf_map : ∀ ns : List Bool, boolsOf (ns.map PyData.bool) = some ns
  | [] => rfl
  | n :: ns => by
    show (boolsOf (ns.map PyData.bool)).map (n :: ·) = _
    rw [boolsOf_map ns]
    rfl
def fAll : FS := fun ds k => match ds with
  | [d] => asL d fun xs => ∃ ns, boolsOf xs = some ns ∧ k (.bool (ns.all id))
  | _ => False
theorem fAll_of {ds : List PyData} {k : PyData → Prop} (h : fAll ds k) : ∃ ns : List Bool, ds = [.list (ns.map PyData.bool)] ∧ k (.bool (ns.all id)) := by
  unfold fAll at h
  split at h
  · rename_i d
    cases d with
    | list xs =>
      obtain ⟨ns, e, h⟩ := h
      rw [boolsOf_eq e]
      exact ⟨ns, rfl, h⟩
    | _ => exact h.elim
  · exact h.elim
/-- lcm of two numbers below 2 ^ 64 -/
def rLcm : List V → Hp → VK → Prop := fun vs H Q => ∃ a b : Int, vs = [.int a, .int b] ∧ a.natAbs < 2 ^ 64 ∧ b.natAbs < 2 ^ 64 ∧ Q (.int ((Nat.lcm a.natAbs b.natAbs : Nat) : Int)) H
theorem lcm_small {m n : Nat} (hm : m < 2 ^ 64) (hn : n < 2 ^ 64) : (Nat.lcm m n).log2 < PySem.bitsLine := by
  have h1 : Nat.lcm m n ≤ m * n := Nat.div_le_self _ _
  have h2 : m * n ≤ 2 ^ 64 * 2 ^ 64 := Nat.mul_le_mul (Nat.le_of_lt hm) (Nat.le_of_lt hn)
  have h3 : Nat.lcm m n < 2 ^ 129 := Nat.lt_of_le_of_lt (Nat.le_trans h1 h2) (by decide)
  have h4 : (129 : Nat) < PySem.bitsLine := by decide
  by_cases z : Nat.lcm m n = 0
  · rw [z]
    exact Nat.lt_of_le_of_lt (by decide) h4
  · exact Nat.lt_trans ((Nat.log2_lt z).mpr h3) h4
theorem c_lcm {X : Cx} : CallR X (.builtin "math.lcm") rLcm := by
  intro pins s σ H vs us Q I r h
  obtain ⟨a, b, rfl, ha, hb, q⟩ := h
  obtain ⟨t, u, rfl⟩ := Vals.int2 r
  refine PySem.W.mg_lcm_v ha hb (c := ((Nat.lcm a.natAbs b.natAbs : Nat) : Int)) (by rw [Nat.lcm_one_left]) (by simpa using lcm_small ha hb) ⟨.int _, H, I.tok _, ⟨_, rfl⟩, q⟩
def fLcm : FS := fun ds k => match ds with
  | [.int a, .int b] => a.natAbs < 2 ^ 64 ∧ b.natAbs < 2 ^ 64 ∧ k (.int ((Nat.lcm a.natAbs b.natAbs : Nat) : Int))
  | _ => False
theorem fLcm_of {ds : List PyData} {k : PyData → Prop} (h : fLcm ds k) : ∃ a b : Int, ds = [.int a, .int b] ∧ a.natAbs < 2 ^ 64 ∧ b.natAbs < 2 ^ 64 ∧ k (.int ((Nat.lcm a.natAbs b.natAbs : Nat) : Int)) := by
  unfold fLcm at h
  split at h
  · exact ⟨_, _, rfl, h⟩
  · exact h.elim
def rMin2 : List V → Hp → VK → Prop := fun xs H Q => ∃ i j, xs = [.int i, .int j] ∧ Q (.int (if j < i then j else i)) H
theorem c_min2 {X : Cx} (hc : X.calm = true) : CallR X (.builtin "min") rMin2 := call_min2 hc
def fMin2 : FS := fun ds k => match ds with
  | [.int a, .int b] => k (.int (if b < a then b else a))
  | _ => False
theorem fMin2_of {ds : List PyData} {k : PyData → Prop} (h : fMin2 ds k) : ∃ a b : Int, ds = [.int a, .int b] ∧ k (.int (if b < a then b else a)) := by
  unfold fMin2 at h
  split at h
  · exact ⟨_, _, rfl, h⟩
  · exact h.elim
/-- * of two ints, of a tuple or a list and an int -/
def rTimes (K : PySem.W.Frag) : R2 := fun x y H Q => rI CMul (fun i j => .int (i * j)) x y H Q ∨ rRepT K x y H Q ∨ rRep x y H Q
theorem op_times {X : Cx} : OpR X (binaryOp .Mult) (rTimes X.K) := either op_mul (either op_repT op_rep)
def timesD (x y : PyData) (k : PyData → Prop) : Prop := match x, y with
  | .int i, .int j => CMul i j ∧ k (.int (i * j))
  | .tuple xs, .int j => xs ≠ [] ∧ 2 ≤ j ∧ j ≤ 1000 ∧ xs.length ≤ 100 ∧ k (.tuple (List.replicate j.toNat xs).flatten)
  | .list xs, .int j => 0 ≤ j ∧ j ≤ 1000 ∧ xs.length ≤ 100 ∧ k (.list (List.replicate j.toNat xs).flatten)
  | _, _ => False
def pTimes (pa pb : PE') : PE' := fun ρ R => pa ρ fun x ρ1 => pb ρ1 fun y ρ2 => timesD x y fun d => R d ρ2
section
variable {K : PySem.W.Frag}
theorem dqs_rep {H : Hp} {vs : List V} {ds : List PyData} (r : Dqs K H vs ds) : ∀ n : Nat, Dqs K H (List.replicate n vs).flatten (List.replicate n ds).flatten
  | 0 => .nil
  | n + 1 => by
    rw [List.replicate_succ, List.replicate_succ, List.flatten_cons, List.flatten_cons]
    exact dqs_app r (dqs_rep r n)
theorem sim_times {ta tb : TE} {pa pb : PE'} (sa : Sim K ta pa) (sb : Sim K tb pb) : Sim K (tOp (rTimes K) ta tb) (pTimes pa pb) := fun B Z A H0 M σ H ρ R E h Q q =>
  two sa sb E h fun v w x y ρ2 H2 h2 E2 d1 d2 => by
    cases x with
    | int i =>
      cases y with
      | int j =>
        rw [of_int d1, of_int d2]
        exact .inl ⟨i, j, rfl, rfl, h2.1, q _ _ _ _ h2.2 E2 (.int _)⟩
      | _ => exact h2.elim
    | tuple xs =>
      cases y with
      | int j =>
        obtain ⟨h3, h4, h5, h6, h7⟩ := h2
        rw [of_int d2]
        cases d1 with
        | @tup a vs _ hl r =>
          refine .inr (.inl ⟨a, j, vs, rfl, rfl, grow_t (veil_grow _ _) hl, fun e => h3 ?_, h4, h5, by rw [dqs_len r]; omega, fun p hp => q _ _ _ _ h7 (E2.grown (grow_new hp)) (.new (E2.veiled hp) hp (dqs_rep r _))⟩)
          subst e
          exact nil_of r
      | _ => exact h2.elim
    | list xs =>
      cases y with
      | int j =>
        obtain ⟨h3, h4, h5, h6⟩ := h2
        rw [of_int d2]
        cases d1 with
        | @lst a vs _ hl r =>
          refine .inr (.inr ⟨a, j, vs, rfl, rfl, veil_grow _ _ _ _ hl, by omega, by omega, sz5 ?_, fun p hp => q _ _ _ _ h6 (E2.grown (grow_new hp)) (.newL (E2.veiled hp) hp (dqs_rep r _))⟩)
          rw [dqs_len r]
          have : xs.length * j.toNat ≤ 100 * 1000 := Nat.mul_le_mul h5 (by omega)
          omega
      | _ => exact h2.elim
    | _ => exact h2.elim
theorem sim_sum {ta : TA} {pa : PA'} (sa : SimA K ta pa) : Sim K (tCB (rSum2 K) ta) (pFn fSum pa) := fun B Z A H0 M σ H ρ R E h Q q =>
  sa B Z A H0 M σ H ρ _ E h _ fun vs ds ρ1 H1 h1 E1 d1 => by
    obtain ⟨ns, rfl | rfl, h2⟩ := fSum_of h1
    · obtain ⟨v, rfl, dv⟩ := one_of d1
      cases dv with
      | lst hl r =>
        have e := dqs_of_ints r
        subst e
        exact ⟨_, ns, rfl, .inl (.of (veil_grow _ _ _ _ hl)), q _ _ _ _ h2 E1 (.int _)⟩
    · obtain ⟨v, rfl, dv⟩ := one_of d1
      cases dv with
      | tup hl r =>
        have e := dqs_of_ints r
        subst e
        exact ⟨_, ns, rfl, .inr (grow_t (veil_grow _ _) hl), q _ _ _ _ h2 E1 (.int _)⟩
theorem dqs_of_bools {H : Hp} : ∀ {vs : List V} {ns : List Bool}, Dqs K H vs (ns.map PyData.bool) → vs = ns.map V.bl
  | _, [], .nil => rfl
  | _, n :: ns, .cons (.bl _) r => congrArg (V.bl n :: ·) (dqs_of_bools r)
theorem sim_all {ta : TA} {pa : PA'} (sa : SimA K ta pa) : Sim K (tCB (rAll K) ta) (pFn fAll pa) := fun B Z A H0 M σ H ρ R E h Q q =>
  sa B Z A H0 M σ H ρ _ E h _ fun vs ds ρ1 H1 h1 E1 d1 => by
    obtain ⟨ns, rfl, h2⟩ := fAll_of h1
    obtain ⟨v, rfl, dv⟩ := one_of d1
    cases dv with
    | lst hl r =>
      have e := dqs_of_bools r
      subst e
      exact ⟨_, ns, rfl, .of (veil_grow _ _ _ _ hl), q _ _ _ _ h2 E1 (.bl _)⟩
theorem two_of {H : Hp} {vs : List V} {d e : PyData} (r : Dqs K H vs [d, e]) : ∃ v w, vs = [v, w] ∧ Dq K H v d ∧ Dq K H w e := by
  cases r with
  | cons h r =>
    obtain ⟨w, rfl, hw⟩ := one_of r
    exact ⟨_, w, rfl, h, hw⟩
theorem sim_lcm {ta : TA} {pa : PA'} (sa : SimA K ta pa) : Sim K (tCB rLcm ta) (pFn fLcm pa) := fun B Z A H0 M σ H ρ R E h Q q =>
  sa B Z A H0 M σ H ρ _ E h _ fun vs ds ρ1 H1 h1 E1 d1 => by
    obtain ⟨a, b, rfl, ha, hb, h2⟩ := fLcm_of h1
    obtain ⟨v, w, rfl, dv, dw⟩ := two_of d1
    rw [of_int dv, of_int dw]
    exact ⟨a, b, rfl, ha, hb, q _ _ _ _ h2 E1 (.int _)⟩
theorem sim_min2 {ta : TA} {pa : PA'} (sa : SimA K ta pa) : Sim K (tCB rMin2 ta) (pFn fMin2 pa) := fun B Z A H0 M σ H ρ R E h Q q =>
  sa B Z A H0 M σ H ρ _ E h _ fun vs ds ρ1 H1 h1 E1 d1 => by
    obtain ⟨a, b, rfl, h2⟩ := fMin2_of h1
    obtain ⟨v, w, rfl, dv, dw⟩ := two_of d1
    rw [of_int dv, of_int dw]
    exact ⟨a, b, rfl, q _ _ _ _ h2 E1 (.int _)⟩
end
end Pu
namespace Pu
open PySem L2
/-! divmod, list of a value, a list's item changed in place, a statement that is not reached -/
def rDivmod : List V → Hp → VK → Prop := fun xs H Q => ∃ i j, xs = [.int i, .int j] ∧ CDiv i j ∧ ∀ p, H p = none → Q (.ref p) (upd H p (.tup [.int (i / j), .int (i % j)]))
theorem c_divmod {X : Cx} : CallR X (.builtin "divmod") rDivmod := call_divmod
def fDivmod : FS := fun ds k => match ds with
  | [.int i, .int j] => CDiv i j ∧ k (.tuple [.int (i / j), .int (i % j)])
  | _ => False
theorem fDivmod_of {ds : List PyData} {k : PyData → Prop} (h : fDivmod ds k) : ∃ a b : Int, ds = [.int a, .int b] ∧ CDiv a b ∧ k (.tuple [.int (a / b), .int (a % b)]) := by
  unfold fDivmod at h
  split at h
  · exact ⟨_, _, rfl, h.1, h.2⟩
  · exact h.elim
/-- any statement, where the reading never comes to it -/
theorem ps_dead {X : Cx} {st : Stmt} : PS X st (fun _ _ _ => False) := ⟨fun _ _ _ _ _ _ z => z.elim⟩
/-- an item of a list, read to be changed -/
theorem get_item {X : Cx} : PGet X (rIxL X.K) := fun pins s σ H o i ov iv Q I ro ri h => by
  obtain ⟨p, xs, k, z, rfl, rfl, hq, hz, q⟩ := h
  cases ro
  obtain ⟨t, rfl⟩ := ri
  obtain ⟨its, r, pl, hs⟩ := I.list hq
  obtain ⟨j, e1, e2, e3, e4, e5⟩ := atI_get hz
  obtain ⟨w, ew, rw'⟩ := r.get e2
  have len := r.length
  have big := line63
  have done : EP X pins σ Q w s := ⟨z, H, I, rw', q⟩
  by_cases k0 : 0 ≤ k
  · have ej : k.toNat = j := Option.some.inj ((seqIndex_of k0 e5).symm.trans e1)
    exact wpAny_getItem_list pl.isList k0 (by omega) (by rw [ej]; simpa using ew) done
  · have ej : (k + (its.toArray.size : Int)).toNat = j := by
      rw [List.size_toArray, ← len]
      exact Option.some.inj ((seqIndex_neg (by omega) e4).symm.trans e1)
    exact wpAny_getItem_list_neg pl.isList (by omega) (by rw [List.size_toArray]; omega) (by omega) (by rw [ej]; simpa using ew) done
section
variable {K : PySem.W.Frag}
theorem sim_divmod {ta : TA} {pa : PA'} (sa : SimA K ta pa) : Sim K (tCB rDivmod ta) (pFn fDivmod pa) := fun B Z A H0 M σ H ρ R E h Q q =>
  sa B Z A H0 M σ H ρ _ E h _ fun vs ds ρ1 H1 h1 E1 d1 => by
    obtain ⟨a, b, rfl, hc, h2⟩ := fDivmod_of h1
    obtain ⟨v, w, rfl, dv, dw⟩ := two_of d1
    rw [of_int dv, of_int dw]
    exact ⟨a, b, rfl, hc, fun p hp => q _ _ _ _ h2 (E1.grown (grow_new hp)) (.new (E1.veiled hp) hp (dqs_ints (ns := [a / b, a % b])))⟩
/-- list(x) of a tuple or of a list -/
def rListOf (K : PySem.W.Frag) : List V → Hp → VK → Prop := fun xs H Q => ∃ p ys, xs = [.ref p] ∧ (SqL K H p ys ∨ SqT K H p ys) ∧ ∀ l, H l = none → Q (.ref l) (upd H l (.lst ys))
theorem c_listOf {X : Cx} : CallR X (.type "list") (rListOf X.K) := call_list_of
def pListOf (pa : PE') : PA' := fun ρ R => pa ρ fun x ρ1 => asS x fun ds => R ds ρ1
theorem sim_listOf {ta : TE} {pa : PE'} (sa : Sim K ta pa) : SimL K (tCB (rListOf K) (tCons ta tNil)) (pListOf pa) := fun B Z A H0 M σ H ρ R E h Q q =>
  sa B Z A H0 M σ H ρ _ E h _ fun v x ρ1 H1 h1 E1 d1 => by
    cases x with
    | list ds =>
      cases d1 with
      | @lst a vs _ hs r => exact ⟨a, vs, rfl, .inl (.of (veil_grow _ _ _ _ hs)), fun l hl => q l vs ds ρ1 H1 h1 E1 hl r⟩
    | tuple ds =>
      cases d1 with
      | @tup a vs _ hs r => exact ⟨a, vs, rfl, .inr (grow_t (veil_grow _ _) hs), fun l hl => q l vs ds ρ1 H1 h1 E1 hl r⟩
    | _ => exact h1.elim
/-- a statement that is not reached -/
def pDead : PS' := fun _ _ => False
theorem s_dead : SimS K (fun _ _ _ => False) pDead := fun _ _ _ _ _ _ _ _ _ _ _ h => h.elim
/-- xs[i] += e of a list of the def's own -/
def pAugI (i : Nat) (f : Int → Int → Int) (pb pv : PE') : PS' := fun G ρ => asOwn (cellAt ρ i) fun _ => pb ρ fun y ρ1 => asI y fun j => asOwn (cellAt ρ1 i) fun ds => asO (atI ds j) fun x => asI x fun a =>
  pv ρ1 fun w ρ2 => asI w fun b => asOwn (cellAt ρ2 i) fun ds2 => ∃ m, ixN ds2.length j = some m ∧ G.nx (cellSet ρ2 i (.own (ds2.set m (.int (f a b)))))
theorem dqs_setA {H : Hp} {v : V} {d : PyData} (h : Dq K H v d) : ∀ {vs : List V} {ds : List PyData} (m : Nat), Dqs K H vs ds → Dqs K H (vs.set m v) (ds.set m d)
  | _, _, _, .nil => .nil
  | _, _, 0, .cons _ r => .cons h r
  | _, _, m + 1, .cons h1 r => .cons h1 (dqs_setA h m r)
theorem s_augI {i : Nat} {tb tv : TE} {pb pv : PE'} {f : Int → Int → Int} (sb : Sim K tb pb) (sv : Sim K tv pv) : SimS K (tAugS (tVar i) tb tv (rIxL K) (ipI f) L2.rSetL) (pAugI i f pb pv) := fun B Z A H0 M σ H ρ D G E h C => by
  obtain ⟨ds, hc, h⟩ := asOwn_of h
  obtain ⟨l, vs, e, m, hl, r⟩ := own_at E hc
  refine ⟨.ref l, e, sb B Z A H0 M σ H ρ _ E h _ fun w y ρ1 H1 h1 E1 d1 => ?_⟩
  obtain ⟨j, rfl, h2⟩ := asI_of h1
  rw [of_int d1]
  obtain ⟨ds1, hc1, h2⟩ := asOwn_of h2
  obtain ⟨l1, vs1, e1, m1, hl1, r1⟩ := own_at E1 hc1
  rw [m] at m1
  cases m1
  obtain ⟨x, hx, h3⟩ := asO_of h2
  obtain ⟨a, rfl, h3⟩ := asI_of h3
  obtain ⟨u, hu, du⟩ := at_dq r1 hx
  rw [of_int du] at hu
  refine ⟨l, vs1, j, .int a, rfl, rfl, .of hl1, hu, sv B Z A H0 M σ H1 ρ1 _ E1 h3 _ fun w2 y2 ρ2 H2 h4 E2 d2 => ?_⟩
  obtain ⟨b, rfl, h5⟩ := asI_of h4
  rw [of_int d2]
  obtain ⟨ds2, hc2, n, hn, h6⟩ := asOwn_of h5
  obtain ⟨l2, vs2, e2, m2, hl2, r2⟩ := own_at E2 hc2
  rw [m] at m2
  cases m2
  refine ⟨a, b, rfl, rfl, l, vs2, j, n, rfl, rfl, hl2, by rw [dqs_len r2]; exact hn, ?_⟩
  exact C.nx M σ _ _ (E2.putO (by rw [e2]; rfl) m (dqs_setA (.int (f a b)) n r2) (by rw [hc2]; intro z; cases z)) h6
end
end Pu
namespace Pu
open PySem L2
/-! dicts as data: returned by a def, read at a key -/
def keyEq : PyData → PyData → Bool
  | .int a, .int b => decide (a = b)
  | .str a, .str b => decide (a = b)
  | _, _ => false
theorem keyEq_key (k l : Key) : keyEq (keyD k) (keyD l) = decide (k = l) := by
  cases k <;> cases l <;> simp [keyD, keyEq]
def findK : List (PyData × PyData) → PyData → Option PyData
  | [], _ => none
  | (k, d) :: r, x => if keyEq k x = true then some d else findK r x
theorem key_of : ∀ {kvs : List (PyData × PyData)} {x d : PyData}, findK kvs x = some d → ∃ k : Key, x = keyD k
  | [], _, _, h => by cases h
  | (k, d) :: r, x, e, h => by
    unfold findK at h
    by_cases z : keyEq k x = true
    · cases k <;> cases x <;> first | exact ⟨.inl _, rfl⟩ | exact ⟨.inr _, rfl⟩ | cases z
    · rw [if_neg z] at h
      exact key_of h
def asK : PyData → (List (PyData × PyData) → Prop) → Prop
  | .dict kvs, k => k kvs
  | _, _ => False
theorem asK_of {d : PyData} {k : List (PyData × PyData) → Prop} (h : asK d k) : ∃ x, d = .dict x ∧ k x := by
  cases d <;> first | exact ⟨_, rfl, h⟩ | exact h.elim
section
variable {K : PySem.W.Frag}
theorem dks_get {H : Hp} {k : Key} {d : PyData} : ∀ {ws : List (Key × V)} {kvs : List (PyData × PyData)}, Dks K H ws kvs → findK kvs (keyD k) = some d → ∃ v, valV ws k = some v ∧ Dq K H v d
  | _, _, .nil, h => by cases h
  | (k0, v0) :: ws, _, .cons h0 r, h => by
    unfold findK at h
    rw [keyEq_key] at h
    unfold valV
    by_cases z : k0 = k
    · rw [if_pos (by simpa using z)] at h
      rw [List.find?_cons_of_pos (by simpa using z)]
      exact ⟨v0, rfl, Option.some.inj h ▸ h0⟩
    · rw [if_neg (by simpa using z)] at h
      rw [List.find?_cons_of_neg (by simpa using z)]
      exact dks_get r h
def pGetK (pa pk : PE') : PE' := fun ρ R => pa ρ fun x ρ1 => pk ρ1 fun y ρ2 => asK x fun kvs => asO (findK kvs y) fun d => R d ρ2
theorem sim_getK {ta tb : TE} {pa pb : PE'} (sa : Sim K ta pa) (sb : Sim K tb pb) : Sim K (tDGet ta tb) (pGetK pa pb) := fun B Z A H0 M σ H ρ R E h Q q =>
  two sa sb E h fun v w x y ρ2 H2 h2 E2 d1 d2 => by
    obtain ⟨kvs, rfl, h3⟩ := asK_of h2
    obtain ⟨d, hd, h4⟩ := asO_of h3
    obtain ⟨k, rfl⟩ := key_of hd
    cases d1 with
    | @dct a ws _ hs r =>
      obtain ⟨u, hu, du⟩ := dks_get r hd
      have ew : w = kV k := by
        cases k with
        | inl n => exact of_int d2
        | inr z => cases d2; rfl
      refine ⟨a, u, rfl, ?_, q _ _ _ _ h4 E2 du⟩
      rw [ew, ← hu]
      exact DGet.k (veil_grow _ _ _ _ hs)
    | ob hc hl r => cases k <;> cases hd
/-- a dict of the def's own, returned -/
def dctD (kvs : List (Int × PyData)) : PyData := .dict (kvs.map fun kv => (.int kv.1, kv.2))
def pRetD (i : Nat) : PS' := fun G ρ => asDct (cellAt ρ i) fun kvs => G.rt (dctD kvs) ρ
theorem kvs_dks {H : Hp} : ∀ {ws : List (Key × V)} {kvs : List (Int × PyData)}, Kvs K H ws kvs → Dks K H ws (kvs.map fun kv => (.int kv.1, kv.2))
  | _, _, .nil => .nil
  | _, _, .cons h r => .cons (k := .inl _) h (kvs_dks r)
theorem s_retD {i : Nat} (hi : i ≠ 0 := by decide) : SimS K (tRet (tVar i)) (pRetD i) := fun B Z A H0 M σ H ρ D G E h C => by
  obtain ⟨kvs, hc, h⟩ := asDct_of h
  obtain ⟨l, ws, e, m, hl, r⟩ := dct_at E hc
  exact ⟨.ref l, e, C.rt M σ H ρ _ _ E h (.dct (veil_on (fun z => z.elim (E.off i l m) fun b => hi (E.inj i 0 l m (E.m0 l b))) hl) (kvs_dks (kvs_grow (hid_zb E) r)))⟩
end
end Pu
namespace Pu
open PySem L2
/-! isinstance(x, T) where it is so; a loop down a range; a key of the def's own dict; an item of the def's own list set -/
def pIsi (T : String) (pa : PE') : PE' := fun ρ R => pa ρ fun x ρ1 => tyN x = T ∧ R (.bool true) ρ1
section
variable {K : PySem.W.Frag}
theorem tyX_of {Z : Addr → Prop} {H : Hp} {v : V} {d : PyData} (h : Dq K (veil Z H) v d) (no : noO d = true) : TyX K H v (.type (tyN d)) := by
  cases h with
  | ob hc hl r => cases no
  | non => exact .base .non
  | bl b => exact .base (.bl b)
  | int i => exact .base (.int i)
  | str x => exact .base (.str x)
  | lst h r => exact .base (.lst (veil_grow _ _ _ _ h))
  | tup h r =>
    rcases grow_t (veil_grow _ _) h with (h | ⟨o, h⟩) | ⟨o, its, n, h1, h2, _⟩
    · exact .base (.tup h)
    · exact .fTuple h
    · exact .kTuple h1 h2
  | dct h r => rw [dks_ty r]; exact .base (.dK (veil_grow _ _ _ _ h))
theorem sim_isi {ta : TE} {pa : PE'} {T : String} (hk : PySem.W.kitOne K (.type T) (.type T) = some true) (sa : Sim K ta pa) (nT : T ≠ "object" := by decide) : Sim K (tCB (rIsi K) (tCons ta (tCons (tC (.ty T)) tNil))) (pIsi T pa) := fun B Z A H0 M σ H ρ R E h Q q =>
  sa B Z A H0 M σ H ρ _ E h _ fun v x ρ1 H1 h1 E1 d1 => ⟨v, .ty T, .type T, .type T, true, rfl, .ty T, h1.1 ▸ tyX_of d1 (noO_of (by rw [h1.1]; exact nT)), hk, q _ _ _ _ h1.2 E1 (.bl true)⟩
/-- for x in reversed(range(a, b)) -/
def pRev (pa pb : PE') (pg : PG') (pd : PS') : PS' := fun G ρ => pa ρ fun x ρ1 => pb ρ1 fun y ρ2 => asI x fun a => asI y fun b => (-(2 ^ 62) ≤ a ∧ a < 2 ^ 62 ∧ -(2 ^ 62) ≤ b ∧ b < 2 ^ 62) ∧
  ∃ I : Nat → En → Prop, I 0 ρ2 ∧ (∀ i ρ, i < (b - a).toNat → I i ρ → pg (.int (a + (((b - a).toNat : Nat) : Int) - 1 + (i : Int) * -1)) ρ fun ρ3 => pd { G with nx := I (i + 1), ct := I (i + 1), bk := G.nx } ρ3) ∧ (∀ ρ, I (b - a).toNat ρ → G.nx ρ)
theorem s_rev {ta tb : TE} {g : TG} {td : TS} {pa pb : PE'} {pg : PG'} {pd : PS'} (sa : Sim K ta pa) (sb : Sim K tb pb) (sg : SimG K g pg) (sd : SimS K td pd) : SimS K (tFor (iRevR (tRg2 ta tb)) g td) (pRev pa pb pg pd) := fun B Z A H0 M σ H ρ D G E h C =>
  two sa sb E h fun v w x y ρ2 H2 h2 E2 d1 d2 => by
    obtain ⟨a, rfl, h3⟩ := asI_of h2
    obtain ⟨b, rfl, hb, I, i0, is, ie⟩ := asI_of h3
    rw [of_int d1, of_int d2]
    refine ⟨a, b, rfl, rfl, hb.1, hb.2.1, hb.2.2.1, hb.2.2.2, for_rangeC (fun i σ' H' => ∃ M' ρ', EnvR K B Z (veil (hid Z M) H2) H0 M' σ' H' ρ' ∧ I i ρ') ⟨M, ρ2, E2.anchor, i0⟩ (fun i σ' H' hlt ⟨M', ρ', E', hI⟩ => ?_)
      fun σ' H' ⟨M', ρ', E', hI⟩ => C.nx M' σ' H' ρ' (E'.weak E2.anch) (ie ρ' hI)⟩
    exact sg B Z _ H0 M' σ' H' ρ' _ _ _ E' (.int _) (is i ρ' (by omega) hI) _ fun σ2 ρ3 hR E3 => sd B Z _ H0 M' σ2 H' ρ3 _ _ E3 hR
      ⟨fun M σ H ρ E h => ⟨M, ρ, E, h⟩, fun M σ H ρ E h => C.nx M σ H ρ (E.weak E2.anch) h, fun M σ H ρ E h => ⟨M, ρ, E, h⟩, fun M σ H ρ v d E h k => C.rt M σ H ρ v d (E.weak E2.anch) h k⟩
/-- d[k] of a dict of the def's own, with an int key that is there -/
def pGetO (i : Nat) (pk : PE') : PE' := fun ρ R => asDct (cellAt ρ i) fun _ => pk ρ fun k ρ1 => asI k fun n => asDct (cellAt ρ1 i) fun kvs => asO (getA kvs n) fun d => R d ρ1
theorem sim_getO {i : Nat} {tk : TE} {pk : PE'} (sk : Sim K tk pk) : Sim K (tDGet (tVar i) tk) (pGetO i pk) := fun B Z A H0 M σ H ρ R E h Q q => by
  obtain ⟨kvs, hc, h⟩ := asDct_of h
  obtain ⟨l, ws, e, m, hl, r⟩ := dct_at E hc
  refine ⟨.ref l, e, sk B Z A H0 M σ H ρ _ E h _ fun w y ρ1 H1 h1 E1 d1 => ?_⟩
  obtain ⟨n, rfl, h2⟩ := asI_of h1
  rw [of_int d1]
  obtain ⟨kvs1, hc1, h3⟩ := asDct_of h2
  obtain ⟨l1, ws1, e1, m1, hl1, r1⟩ := dct_at E1 hc1
  rw [m] at m1
  cases m1
  obtain ⟨d, hd, h4⟩ := asO_of h3
  rcases kvs_get (n := n) r1 with ⟨z, _⟩ | ⟨d2, u, hd2, hu, du⟩
  · rw [z] at hd
    cases hd
  · rw [hd2] at hd
    cases hd
    refine ⟨l, u, rfl, ?_, q _ _ _ _ h4 E1 du⟩
    rw [← hu]
    exact DGet.k (k := .inl n) hl1
/-- xs[i] = e of a list of the def's own -/
def pSetI (i : Nat) (pb pv : PE') : PS' := fun G ρ => pv ρ fun w ρ1 => asOwn (cellAt ρ1 i) fun _ => pb ρ1 fun y ρ2 => asI y fun j => asOwn (cellAt ρ2 i) fun ds => ∃ m, ixN ds.length j = some m ∧ G.nx (cellSet ρ2 i (.own (ds.set m w)))
theorem s_setI {i : Nat} {tb tv : TE} {pb pv : PE'} (sb : Sim K tb pb) (sv : Sim K tv pv) : SimS K (tAsg tv (gSub (tVar i) tb L2.rSetL)) (pSetI i pb pv) := fun B Z A H0 M σ H ρ D G E h C =>
  sv B Z A H0 M σ H ρ _ E h _ fun w d ρ1 H1 h1 E1 d1 => by
    obtain ⟨ds, hc, h2⟩ := asOwn_of h1
    obtain ⟨l, vs, e, m, hl, r⟩ := own_at E1 hc
    refine ⟨.ref l, e, sb B Z _ H0 M σ H1 ρ1 _ E1.anchor h2 _ fun u y ρ2 H2 h3 E2 d2 => ?_⟩
    obtain ⟨j, rfl, h4⟩ := asI_of h3
    rw [of_int d2]
    obtain ⟨ds2, hc2, n, hn, h6⟩ := asOwn_of h4
    obtain ⟨l2, vs2, e2, m2, hl2, r2⟩ := own_at E2 hc2
    rw [m] at m2
    cases m2
    refine ⟨l, vs2, j, n, rfl, rfl, hl2, by rw [dqs_len r2]; exact hn, ?_⟩
    exact C.nx M σ _ _ ((E2.weak E1.anch).putO (by rw [e2]; rfl) m (dqs_setA (dp_grow E2.anch _ _ d1) n r2) (by rw [hc2]; intro z; cases z)) h6
end
end Pu
namespace Pu
open PySem L2
/-- xs.index(y) of a list of ints that has it -/
def pIndex (pa pb : PE') : PE' := fun ρ R => pa ρ fun x ρ1 => asL x fun ds => pb ρ1 fun y ρ2 => ∃ (ns : List Int) (n : Int) (j : Nat), ds = ns.map PyData.int ∧ y = .int n ∧ ns[j]? = some n ∧ (∀ m z, m < j → ns[m]? = some z → ¬ z = n) ∧ R (.int (j : Nat)) ρ2
section
variable {K : PySem.W.Frag}
theorem flat_ints : ∀ ns : List Int, (ns.map V.int).all flatV = true
  | [] => rfl
  | _ :: ns => flat_ints ns
theorem sim_index {ta tb : TE} {pa pb : PE'} (sa : Sim K ta pa) (sb : Sim K tb pb) : Sim K (tBM K "list" (rIndex K) ta (tCons tb tNil)) (pIndex pa pb) := fun B Z A H0 M σ H ρ R E h Q q =>
  sa B Z A H0 M σ H ρ _ E h _ fun v x ρ1 H1 h1 E1 d1 => by
    obtain ⟨ds, rfl, h2⟩ := asL_of h1
    cases d1 with
    | @lst a vs _ hs r =>
      refine ⟨.inl ⟨rfl, vs, .of (veil_grow _ _ _ _ hs)⟩, sb B Z _ H0 M σ H1 ρ1 _ E1.anchor h2 _ fun w y ρ2 H2 h3 E2 d2 => ?_⟩
      obtain ⟨ns, n, j, rfl, rfl, hj, hm, h4⟩ := h3
      have ev := dqs_of_ints r
      subst ev
      rw [of_int d2]
      refine ⟨a, ns.map V.int, .int n, j, .int n, rfl, rfl, .of (veil_grow _ _ _ _ (E2.anch _ _ hs)), rfl, flat_ints ns, by rw [List.getElem?_map, hj]; rfl, by simp [eqV], fun m z' hlt hz => ?_, q _ _ _ _ h4 (E2.weak E1.anch) (.int _)⟩
      rw [List.getElem?_map] at hz
      cases e : ns[m]? with
      | none =>
        rw [e] at hz
        cases hz
      | some z =>
        rw [e] at hz
        have hz : V.int z = z' := Option.some.inj hz
        subst hz
        have ne := hm m z hlt e
        simp [eqV, ne]
theorem sim_lcR2 {ta : TA} {g : TG} {tt : TT} {te : TE} {vs is : List Nat} {pa : PA'} {pg : PG'} {pt : PT'} {pe : PE'} (sa : SimA K ta pa) (sg : SimGV K vs g pg) (st : SimT K tt pt) (se : Sim K te pe) (hn : ∀ ρ R, pa ρ R → pa ρ fun x ρ1 => x.length = 2 ∧ R x ρ1) :
    SimL K (tLc (iRng2 ta) g tt te vs) (pLcR vs is pa pg pt pe) := fun B Z A H0 M σ H ρ R E ⟨hv, h⟩ Q q =>
  sa B Z A H0 M σ H ρ _ E (hn _ _ h) _ fun us x ρ1 H1 ⟨hx, e1, lo, hi, hx2, hb, I, i0, is, ie⟩ E1 d1 => by
    subst e1
    rcases hx2 with ⟨rfl, rfl⟩ | rfl
    · exact absurd hx (by simp)
    · have e : us = [.int lo, .int hi] := dqs_of_ints (ns := [lo, hi]) d1
      subst e
      refine ⟨lo, hi, rfl, hb, fun D hD => ?_⟩
      obtain ⟨h0, nB, nZ⟩ := lc_start E1 hD
      refine lc_range (lo := lo) (n := (hi - lo).toNat) (fun i H' => ∃ va acc, EnvR K B (plus Z D) (veil (hid Z M) H1) H0 M (wipe σ vs) H' ρ1 ∧ H' D = some (.lst va) ∧ Dqs K (veil (hid (plus Z D) M) H') va acc ∧ I i acc) ⟨[], [], E1.enter hv hD, upd_same, .nil, i0⟩
        (fun i H' hlt ⟨va, acc, E', hd', ra, hI⟩ => lc_turn sg st se E' hv hd' h0 nB (.int _) ra wipe_wipe (is i acc (by omega) hI) fun H2 va' acc' E2 h2 r2 y2 => ⟨va', acc', E2, h2, r2, y2⟩) fun H' ⟨va, acc, E', hd', ra, hI⟩ => ?_
      have z := q D va acc ρ1 (wiped H' D) (ie acc hI) (E'.leave E1.anch h0 nZ) wiped_at (dps_grow veil_in _ _ ra)
      rw [wiped_upd hd'] at z
      exact z
end
end Pu
namespace Pu
open PySem L2
/-- a, b = x, y -/
def two2 (ds : List PyData) (k : PyData → PyData → Prop) : Prop := match ds with
  | [x, y] => k x y
  | _ => False
theorem two2_of {ds : List PyData} {k : PyData → PyData → Prop} (h : two2 ds k) : ∃ x y, ds = [x, y] ∧ k x y := by
  unfold two2 at h
  split at h
  · exact ⟨_, _, rfl, h⟩
  · exact h.elim
def pPar (i j : Nat) (pa : PA') : PS' := fun G ρ => pa ρ fun ds ρ1 => two2 ds fun x y => G.nx (cellSet (cellSet ρ1 i (.d x)) j (.d y))
section
variable {K : PySem.W.Frag}
theorem s_par {i j : Nat} {ta : TA} {pa : PA'} (sa : SimA K ta pa) : SimS K (tPar i j ta) (pPar i j pa) := fun B Z A H0 M σ H ρ D G E h C =>
  sa B Z A H0 M σ H ρ _ E h _ fun vs ds ρ1 H1 h1 E1 d1 => by
    obtain ⟨x, y, rfl, h2⟩ := two2_of h1
    obtain ⟨v, w, rfl, dv, dw⟩ := two_of d1
    refine ⟨v, w, rfl, ?_⟩
    exact g_name (i := i) B Z A H0 M σ H1 ρ1 v x (fun ρ2 => ρ2 = cellSet ρ1 i (.d x)) E1 dv rfl (fun σ2 _ => D.nx (σ2.set j (some w)) H1) fun σ2 ρ2 e E2 => by
      subst e
      exact g_name (i := j) B Z A H0 M σ2 H1 _ w y (fun ρ3 => G.nx ρ3) E2 dw h2 (fun σ3 _ => D.nx σ3 H1) fun σ3 ρ3 hR E3 => C.nx M σ3 H1 ρ3 E3 hR
end
end Pu
namespace Pu
open PySem L2
/-! any(xs) of a list of truth values; xs.count(y) of a list of ints -/
def fAny : FS := fun ds k => match ds with
  | [d] => asL d fun xs => ∃ ns, boolsOf xs = some ns ∧ k (.bool (ns.any id))
  | _ => False
theorem fAny_of {ds : List PyData} {k : PyData → Prop} (h : fAny ds k) : ∃ ns : List Bool, ds = [.list (ns.map PyData.bool)] ∧ k (.bool (ns.any id)) := by
  unfold fAny at h
  split at h
  · obtain ⟨xs, rfl, ns, e, h⟩ := asL_of h
    rw [boolsOf_eq e]
    exact ⟨ns, rfl, h⟩
  · exact h.elim
def pCount (pa pb : PE') : PE' := fun ρ R => pa ρ fun x ρ1 => asL x fun ds => pb ρ1 fun y ρ2 => asI y fun n => ∃ ns : List Int, ds = ns.map PyData.int ∧ R (.int (ns.count n : Nat)) ρ2
/-- a slice of a list of the def's own -/
def pCutO (i : Nat) (pl ph : PO') : PE' := fun ρ R => asOwn (cellAt ρ i) fun _ => pl ρ fun l ρ1 => ph ρ1 fun h ρ2 => asOwn (cellAt ρ2 i) fun ds => R (.list (cutP ds l h)) ρ2
section
variable {K : PySem.W.Frag}
theorem sim_cutO {i : Nat} {tl th : TO} {pl ph : PO'} (sl : SimO K tl pl) (sh : SimO K th ph) : Sim K (tSl (rCut K) (tVar i) tl th) (pCutO i pl ph) := fun B Z A H0 M σ H ρ R E h Q q => by
  obtain ⟨ds, hc, h⟩ := asOwn_of h
  obtain ⟨l, vs, e, m, hl, r⟩ := own_at E hc
  refine ⟨.ref l, e, sl B Z A H0 M σ H ρ _ E h _ fun lo ρ1 H1 h1 E1 => sh B Z _ H0 M σ H1 ρ1 _ E1.anchor h1 _ fun hi ρ2 H2 h2 E2 => ?_⟩
  obtain ⟨ds2, hc2, h3⟩ := asOwn_of h2
  obtain ⟨l2, vs2, e2, m2, hl2, r2⟩ := own_at E2 hc2
  rw [m] at m2
  cases m2
  have E4 := E2.weak E1.anch
  exact .inl ⟨l, vs2, rfl, .of hl2, fun p hp => q _ _ _ _ h3 (E4.grown (grow_new hp)) (.newL (E4.veiled hp) hp (cut_dq r2 lo hi))⟩
theorem sim_any {ta : TA} {pa : PA'} (sa : SimA K ta pa) : Sim K (tCB (rAny K) ta) (pFn fAny pa) := fun B Z A H0 M σ H ρ R E h Q q =>
  sa B Z A H0 M σ H ρ _ E h _ fun vs ds ρ1 H1 h1 E1 d1 => by
    obtain ⟨ns, rfl, h2⟩ := fAny_of h1
    obtain ⟨v, rfl, dv⟩ := one_of d1
    cases dv with
    | lst hl r =>
      have e := dqs_of_bools r
      subst e
      exact ⟨_, ns, rfl, .of (veil_grow _ _ _ _ hl), q _ _ _ _ h2 E1 (.bl _)⟩
theorem sim_count {ta tb : TE} {pa pb : PE'} (sa : Sim K ta pa) (sb : Sim K tb pb) : Sim K (tBM K "list" (rCntI K) ta (tCons tb tNil)) (pCount pa pb) := fun B Z A H0 M σ H ρ R E h Q q =>
  sa B Z A H0 M σ H ρ _ E h _ fun v x ρ1 H1 h1 E1 d1 => by
    obtain ⟨ds, rfl, h2⟩ := asL_of h1
    cases d1 with
    | @lst a vs _ hs r =>
      refine ⟨.inl ⟨rfl, vs, .of (veil_grow _ _ _ _ hs)⟩, sb B Z _ H0 M σ H1 ρ1 _ E1.anchor h2 _ fun w y ρ2 H2 h3 E2 d2 => ?_⟩
      obtain ⟨n, rfl, ns, rfl, h4⟩ := asI_of h3
      have ev := dqs_of_ints r
      subst ev
      rw [of_int d2]
      exact ⟨a, ns, n, rfl, rfl, .of (veil_grow _ _ _ _ (E2.anch _ _ hs)), q _ _ _ _ h4 (E2.weak E1.anch) (.int _)⟩
end
end Pu
namespace Pu
open PySem L2
/-! a dict written out, its keys written texts -/
def dispD (ks : List Str) (ds : List PyData) : PyData := .dict ((ks.map PyData.str).zip ds)
def pDisp (ks : List Str) (pa : PA') : PE' := fun ρ R => pa ρ fun ds ρ1 => R (dispD ks ds) ρ1
section
variable {K : PySem.W.Frag}
def SimK (K : PySem.W.Frag) (trs : List (TE × TE)) (ks : List Str) (p : PA') : Prop := ∀ B Z A H0 M σ H ρ R, EnvR K B Z A H0 M σ H ρ → p ρ R →
  ∀ Q : List (V × V) → Hp → Prop, (∀ vs ds ρ' H2, R ds ρ' → EnvR K B Z A H0 M σ H2 ρ' → Dqs K (veil (hid Z M) H2) vs ds → vs.length = ks.length → Q ((ks.map V.str).zip vs) H2) → tPairs trs σ H Q
theorem k_nil : SimK K [] [] pNil := fun B Z A H0 M σ H ρ R E h Q q => q [] [] ρ H h E .nil rfl
theorem k_cons {k : Str} {tv : TE} {trs : List (TE × TE)} {ks : List Str} {pv : PE'} {pr : PA'} (sv : Sim K tv pv) (sr : SimK K trs ks pr) : SimK K ((tC (.str k), tv) :: trs) (k :: ks) (pCons pv pr) := fun B Z A H0 M σ H ρ R E h Q q =>
  sv B Z A H0 M σ H ρ _ E h _ fun v x ρ1 H1 h1 E1 d1 => sr B Z _ H0 M σ H1 ρ1 _ E1.anchor h1 _ fun vs ds ρ2 H2 h2 E2 d2 hl =>
    q _ _ ρ2 H2 h2 (E2.weak E1.anch) (.cons (dp_grow E2.anch _ _ d1) d2) (congrArg (· + 1) hl)
theorem put_new {kvs : List (Key × V)} {k : Key} {v : V} (h : k ∉ kvs.map (·.1)) : putK kvs k v = kvs ++ [(k, v)] := by
  unfold putK
  rw [if_neg]
  intro z
  rw [List.any_eq_true] at z
  obtain ⟨x, hx, e⟩ := z
  exact h (List.mem_map.mpr ⟨x, hx, of_decide_eq_true e⟩)
theorem merge_new : ∀ {more kvs : List (Key × V)}, ((kvs ++ more).map (·.1)).Nodup → mergeK kvs more = kvs ++ more
  | [], kvs, _ => (List.append_nil kvs).symm
  | (k, v) :: r, kvs, h => by
    have h2 : (kvs.map (·.1) ++ k :: r.map (·.1)).Nodup := by simpa using h
    have nk : k ∉ kvs.map (·.1) := fun m => (List.nodup_append.mp h2).2.2 k m k List.mem_cons_self rfl
    show mergeK (putK kvs k v) r = _
    rw [put_new nk, merge_new (more := r) (kvs := kvs ++ [(k, v)]) (by simpa using h)]
    simp
theorem zip_keys : ∀ {ks : List Str} {vs : List V}, vs.length = ks.length → ((ks.map (Sum.inr : Str → Key)).zip vs).map (·.1) = ks.map Sum.inr
  | [], [], _ => rfl
  | k :: ks, v :: vs, h => by
    show Sum.inr k :: ((ks.map (Sum.inr : Str → Key)).zip vs).map (·.1) = _
    rw [zip_keys (ks := ks) (vs := vs) (by simpa using h)]
    rfl
theorem zip_vals : ∀ {ks : List Str} {vs : List V}, (ks.map V.str).zip vs = ((ks.map (Sum.inr : Str → Key)).zip vs).map fun kv => (kV kv.1, kv.2)
  | [], _ => rfl
  | _ :: _, [] => rfl
  | k :: ks, v :: vs => congrArg ((V.str k, v) :: ·) (zip_vals (ks := ks) (vs := vs))
theorem zip_dks {H : Hp} : ∀ {ks : List Str} {vs : List V} {ds : List PyData}, Dqs K H vs ds → Dks K H ((ks.map (Sum.inr : Str → Key)).zip vs) ((ks.map PyData.str).zip ds)
  | [], _, _, _ => .nil
  | _ :: _, _, _, .nil => .nil
  | k :: ks, _, _, .cons h r => .cons (k := .inr k) h (zip_dks r)
theorem wiped_put {H : Hp} {D : Addr} {u : HO} : upd (wiped H D) D u = upd H D u := by
  funext a
  by_cases e : a = D
  · rw [e, upd_same, upd_same]
  · rw [upd_ne e, upd_ne e, wiped_ne e]
theorem sim_disp {trs : List (TE × TE)} {ks : List Str} {pa : PA'} (nd : ks.Nodup) (hl : ks.length ≤ 15) (sa : SimK K trs ks pa) : Sim K (tDisp trs) (pDisp ks pa) := fun B Z A H0 M σ H ρ R E h Q q p hp => by
  obtain ⟨h0, nB, nZ⟩ := lc_start E hp
  have E0 : EnvR K B (plus Z p) (veil (hid Z M) H) H0 M σ (upd H p (.dK [])) ρ := E.enter (vs := []) (fun v hv => absurd hv (List.not_mem_nil)) hp
  have nM : ∀ i l, M i = some l → l ≠ p := fun i l m e => E0.off i l m (.inr e)
  refine sa B (plus Z p) _ _ M σ _ ρ _ (E0.hold upd_same nM) h _ fun vs ds ρ' H2 hR E2 dv hlen => ?_
  have hD : H2 p = some (.dK []) := E2.ext p _ nB upd_same
  refine ⟨hD, (ks.map (Sum.inr : Str → Key)).zip vs, zip_vals, ?_, ?_⟩
  · rw [List.length_zip, List.length_map]
    omega
  have hk : ((ks.map (Sum.inr : Str → Key)).zip vs).map (·.1) = ks.map Sum.inr := zip_keys hlen
  have ndk : (ks.map (Sum.inr : Str → Key)).Nodup := by
    unfold List.Nodup at nd ⊢
    rw [List.pairwise_map]
    exact nd.imp fun hab e => hab (Sum.inr.inj e)
  rw [merge_new (by rw [List.nil_append, hk]; exact ndk), List.nil_append]
  have E3 : EnvR K B Z A H0 M σ (wiped H2 p) ρ' := EnvR.leave (vs := []) (E2.unhold h0 nM) E.anch h0 nZ
  have E4 := E3.grown (grow_new (o := HO.dK ((ks.map (Sum.inr : Str → Key)).zip vs)) wiped_at)
  rw [wiped_put] at E4
  refine q _ _ ρ' _ hR E4 (.dct (veil_on (E3.veiled wiped_at) upd_same) (zip_dks (dqs_up ?_ dv)))
  have g1 : Grow (veil (hid (plus Z p) M) H2) (veil (hid Z M) (wiped H2 p)) := veil_in
  have g2 := grow_veil (Z := hid Z M) (grow_new (o := HO.dK ((ks.map (Sum.inr : Str → Key)).zip vs)) (wiped_at (H := H2) (D := p)))
  rw [wiped_put] at g2
  exact g1.trans g2
end
end Pu
namespace Pu
open PySem PySem.Spec PyProof.Rows L2
/-! sorted(d) of a dict with int keys, of any length -/
def rSortDI : List V → Hp → VK → Prop := fun zs H Q => ∃ (a : Addr) (kvs : List (Key × V)) (ns : List Int), zs = [.ref a] ∧ Rd H a (.dK kvs) ∧ kvs.map (·.1) = ns.map Sum.inl ∧ ns.length ≤ sizeLine ∧
  ∀ (ms : List Int) (p : Addr), ms.Perm ns → ms.Pairwise (· ≤ ·) → H p = none → Q (.ref p) (upd H p (.lst (ms.map V.int)))
theorem c_sortDI {X : Cx} (hc : X.calm = true) : CallR X (.builtin "sorted") rSortDI := by
  intro pins s σ H zs us Q I r h
  obtain ⟨a, kvs, ns, ez, hd, hns, hsz, h⟩ := h
  subst ez
  obtain ⟨u, eu, rx⟩ := vals1 r
  subst eu
  cases rx
  obtain ⟨z, lo, vs, rel, dd⟩ := dk_rd I.hok hd
  obtain ⟨ep, hat⟩ := dd.dictAt
  have kk : vs.map (·.1) = ns.map Sum.inl := rel.keys.symm.trans hns
  have lv : vs.length = ns.length := by simpa using congrArg List.length kk
  refine Calls.call_function_entry PyProof.Rows.kind_sorted
    PyProof.Rows.plain_sorted PyProof.Rows.entry_sorted
    (PyProof.Rows.args_sorted1 _) ?_
  unfold Builtin.«sorted»
  refine wpAny_bind (m := checkCount "sorted" 1 1 _)
    (wpAny_pure ?_)
  refine wpAny_bind (PySem.W.kdu_collect (A := X.A.in1) (PySem.W.kdl_dict
    (knd := mixKind X.prog X.w) (kvs := vs) (ep := ep) lo)
    (I.ok.hd hc) hat (by rw [lv]; exact hsz) fun g tk acc hk ha => ?_)
  have la : acc.toList.length = ns.length := by
    rw [Array.length_toList, ha.1, lv]
  have ia : IntsAre acc.toList ns := ints_each la fun j w e => by
    obtain ⟨k, x, e1, e2⟩ := ha.2 j w (by rw [← Array.getElem?_toList]
                                          exact e)
    have e3 : (vs.map (·.1))[j]? = some k := by rw [List.getElem?_map, e1]
                                                rfl
    rw [kk, List.getElem?_map] at e3
    cases e4 : ns[j]? with
    | none => rw [e4] at e3
              cases e3
    | some y =>
      rw [e4] at e3
      cases (show Sum.inl y = k from Option.some.inj e3)
      rcases keyIs_shape (show keyIs (Sum.inl y) w = true from e2) with ⟨i, t, ek, ew⟩ | ⟨i, t, ek, ew⟩
      · cases ek
        exact ⟨y, t, rfl, ew⟩
      · cases ek
  have J : Inv X pins σ H { s with heap := g, toks := tk } := I.kept hk
  refine wpAny_bind (wpAny_newList ?_ (by rw [la]
                                          exact hsz))
  have at0 : (g.push (seqObj "list" acc.toList.toArray 0)).get? g.objs.size =
      some (seqObj "list" acc.toList.toArray 0) := Heap.get?_push_size _ rfl
  show wpAny _ _ _ _ _ { s with heap := g.push (seqObj "list" acc.toList.toArray 0), toks := tk }
  refine wpAny_bind (wpAny_holding (wpAny_call_entry PyProof.Rows.slot_list_sort ⟨_, at0, rfl⟩
    PyProof.Rows.entry_list_sort (PyProof.Rows.list_sort_treeAny
      (s := { s with heap := g.push (seqObj "list" acc.toList.toArray 0), toks := tk })
      at0 ia (by rw [la]; exact hsz) fun out ms g1 g2 g3 => ⟨_, rfl, ?_⟩)
    (PyProof.Rows.args_list_sort _)))
  obtain ⟨n', hn'⟩ := PyProof.Rows.sortedHeap_at (vs := acc.toList)
    (out := out) at0
  have lm : (ms.map V.int).length ≤ sizeLine := by rw [List.length_map, g2.length_eq]; exact hsz
  refine wpAny_pure ⟨_, rfl, .ref g.objs.size, upd H g.objs.size (.lst (ms.map V.int)),
    J.laid (t' := tk) (fun b o e => ?_) (Nat.le_refl _)
      (show ObjOk X.prog X.w _ _ _ (.lst (ms.map V.int)) from ⟨lm, out.toList, n',
        vals_of_ints g1, by rw [Array.toArray_toList]; exact hn'⟩), rfl,
    h ms _ g2 g3 (J.hok.fresh (Nat.le_refl _))⟩
  have hb : b < g.objs.size := Heap.lt_size e
  rw [PyProof.Rows.sortedHeap_old (Nat.ne_of_lt hb)
    (by rw [size_push']; exact Nat.lt_succ_of_lt hb)]
  exact Heap.get?_push_of_some _ e
def intK : List (PyData × PyData) → Option (List Int)
  | [] => some []
  | (.int i, _) :: r => (intK r).map (i :: ·)
  | _ => none
def pSortK (pa : PE') : PA' := fun ρ R => pa ρ fun x ρ1 => asK x fun kvs => ∃ ns, intK kvs = some ns ∧ ns.length ≤ 100000 ∧ ∀ ms : List Int, ms.Perm ns → ms.Pairwise (· ≤ ·) → R (ms.map PyData.int) ρ1
section
variable {K : PySem.W.Frag}
theorem dks_keys {H : Hp} : ∀ {ws : List (Key × V)} {kvs : List (PyData × PyData)} {ns : List Int}, Dks K H ws kvs → intK kvs = some ns → ws.map (·.1) = ns.map Sum.inl
  | [], _, ns, .nil, e => by
    cases e
    rfl
  | (k, v) :: ws, _, ns, .cons (kvs := kvs) h r, e => by
    cases k with
    | inl n =>
      have e : (intK kvs).map (n :: ·) = some ns := e
      cases q : intK kvs with
      | none => rw [q] at e; cases e
      | some ms =>
        rw [q] at e
        cases e
        rw [List.map_cons, List.map_cons, dks_keys r q]
    | inr z => cases e
theorem sim_sortK {ta : TE} {pa : PE'} (sa : Sim K ta pa) : SimL K (tCB rSortDI (tCons ta tNil)) (pSortK pa) := fun B Z A H0 M σ H ρ R E h Q q =>
  sa B Z A H0 M σ H ρ _ E h _ fun v x ρ1 H1 h1 E1 d1 => by
    obtain ⟨kvs, rfl, ns, hn, hl, h2⟩ := asK_of h1
    cases d1 with
    | @dct a ws _ hs r =>
      exact ⟨a, ws, ns, rfl, .inl (veil_grow _ _ _ _ hs), dks_keys r hn, sz5 hl, fun ms p pm pw hp => q p _ _ ρ1 H1 (h2 ms pm pw) E1 hp dqs_ints⟩
    | ob hc hl r => cases hn
end
end Pu
namespace Pu
open PySem L2
/-! a def that raises: an own class of error, without fields; its raise is read as a break of the body -/
abbrev FSX := List PyData → (PyData → Prop) → Prop → Prop
def spX (K : PySem.W.Frag) (C : Addr) (n : Nat) (S : FSX) : Sp := fun vs H Q E => vs.length = n ∧ ∃ (Z : Addr → Prop) (ds : List PyData) (k : PyData → Prop) (kx : Prop), (∀ a, Z a → H a ≠ none) ∧ Dqs K (veil Z H) vs ds ∧
  S ds k kx ∧ (∀ d v H', k d → Grow H H' → Dq K (veil Z H') v d → Q v H') ∧ (kx → ∀ H', Grow H H' → E (.ref C) none H')
/-- the way out by a raise -/
def tR (C : Addr) (E : XK) : TS := fun _ _ H => E (.ref C) none H
def SimS2 (K : PySem.W.Frag) (Hx : Hp) (C : Addr) (E : XK) (t : TS) (p : PS') : Prop := ∀ Z A M σ H ρ D G, EnvR K (fun _ => False) Z A Hx M σ H ρ → p G ρ →
  (∀ M σ H ρ, EnvR K (fun _ => False) Z A Hx M σ H ρ → G.nx ρ → D.nx σ H) → (∀ M σ H ρ v d, EnvR K (fun _ => False) Z A Hx M σ H ρ → G.rt d ρ → Dq K (veil (fun a => Z a ∨ False) H) v d → D.rt v H) →
  (∀ M σ H ρ, EnvR K (fun _ => False) Z A Hx M σ H ρ → G.bk ρ → E (.ref C) none H) → t D σ H
section
variable {K : PySem.W.Frag} {Hx : Hp} {C : Addr} {E : XK}
theorem s2_raise : SimS2 K Hx C E (tR C E) pBrk := fun Z A M σ H ρ D G e h n r x => x M σ H ρ e h
theorem s2_of {t : TS} {p : PS'} (st : SimS K t p) (hp : ∀ G ρ, p G ρ → p { nx := G.nx, rt := G.rt } ρ) : SimS2 K Hx C E t p := fun Z A M σ H ρ D G e h n r x =>
  st (fun _ => False) Z A Hx M σ H ρ D _ e (hp G ρ h) ⟨n, fun _ _ _ _ _ z => z.elim, fun _ _ _ _ _ z => z.elim, r⟩
theorem s2_seq {t u : TS} {p q : PS'} (st : SimS2 K Hx C E t p) (su : SimS2 K Hx C E u q) : SimS2 K Hx C E (tSeq t u) (pSeq p q) := fun Z A M σ H ρ D G e h n r x =>
  st Z A M σ H ρ _ _ e h (fun M σ H ρ e h => su Z A M σ H ρ D G e h n r x) r x
theorem s2_if {tt : TT} {t u : TS} {pt : PT'} {p q : PS'} (sc : SimT K tt pt) (st : SimS2 K Hx C E t p) (su : SimS2 K Hx C E u q) : SimS2 K Hx C E (tIfS tt t u) (pIfS pt p q) := fun Z A M σ H ρ D G e h n r x =>
  sc (fun _ => False) Z A Hx M σ H ρ _ e h _ fun c ρ1 H1 h1 E1 => by
    cases c with
    | true => exact st Z A M σ H1 ρ1 D G E1 h1 n r x
    | false => exact su Z A M σ H1 ρ1 D G E1 h1 n r x
end
section
variable {P : Program} {w : World} {K : PySem.W.Frag} {mg : Str → Option Value} {base : Heap}
def BodyX (P : Program) (w : World) (K : PySem.W.Frag) (mg : Str → Option Value) (base : Heap) (C : Addr) (N : List Str) (qual : Str) (st : Stmt) (f : Addr) (k : Nat) (go : PS' → Prop) : Prop :=
  ∀ (cdv : Value) (A : Around) (outer : List Env) (s : Shared) (H : Hp) (E : XK), Room k (A.deeper (PyProof.Rows.envOfC qual (defScope st) s.heap.objs.size f cdv)) →
    ∃ t p, PSs (cxOf (L2.CX P w) P w K mg base N qual (defScope st) f cdv A outer s H E) (defBody st) t ∧ SimS2 K H C E t p ∧ go p
theorem ok_PX {x qual : Str} {st : Stmt} {f : Addr} {fd : FuncData} {N ps : List Str} {k n : Nat} {C : Addr} {S : FSX} (F : Fun K x qual st f fd) (Sc : FnScope N ps (defScope st)) (hn : ps.length = n)
    (hb : BodyX P w K mg base C N qual st f k fun p => ∀ ds c kx, ds.length = n → S ds c kx → p ⟨fun _ => c .none, fun d _ => c d, fun _ => kx, fun _ => False⟩ (startE N ds)) : FnOk P w K mg base (L2.CX P w) (k + 1) f fd ps (spX K C n S) := by
  refine F.okX Sc (fun vs H Q E h => by rw [h.1, hn]) (fun cdv A outer s H vs Q E hr h => ?_)
  obtain ⟨hl, Z, ds, c, kx, hz, r, hS, q, qx⟩ := h
  obtain ⟨t, p, ht, hs, hp⟩ := hb cdv A outer s H E hr
  have hnl : ps.length ≤ N.length := by
    have := congrArg List.length Sc.pre
    rw [List.length_take] at this
    omega
  have dl := dqs_len r
  refine ⟨t, ht, hs Z (fun _ => none) (fun _ => none) _ H (startE N ds) _ _ ?_ (hp ds c kx (by omega) hS) (fun M σ H' ρ E' k => q .none .non H' k (fun a o e => E'.ext a o id e) .non) (fun M σ H' ρ v d E' k dv => q d v H' k (fun a o e => E'.ext a o id e) (dp_grow (veil_less fun _ z => .inl z) _ _ dv)) (fun M σ H' ρ E' k => qx k H' (fun a o e => E'.ext a o id e))⟩
  refine ⟨by rw [start_len (by omega), startE_len (by omega)], fun _ _ _ z => (nomatch z), fun _ _ z => (nomatch z), fun _ _ z => (nomatch z), hz, fun _ _ _ h => h, fun _ _ z => (nomatch z), fun _ z => False.elim z, fun _ _ z => (nomatch z), fun i cc hc => ?_⟩
  rcases start_cell r hc with rfl | ⟨v, d, rfl, e, dv⟩
  · trivial
  · refine ⟨v, e, ?_⟩
    rw [no_hid]
    exact dv
end
end Pu
namespace Pu
open PySem L2
/-! an object of the def's own: read, written, made, its methods called -/
def putFd (f : Str) (d : PyData) : List (Str × PyData) → List (Str × PyData)
  | [] => [(f, d)]
  | (g, x) :: r => if g = f then (g, d) :: r else (g, x) :: putFd f d r
def asObj : Cell → (Str → List (Str × PyData) → Prop) → Prop
  | .obj nm fs, k => k nm fs
  | _, _ => False
theorem asObj_of {c : Cell} {k : Str → List (Str × PyData) → Prop} (h : asObj c k) : ∃ nm fs, c = .obj nm fs ∧ k nm fs := by
  cases c <;> first | exact ⟨_, _, rfl, h⟩ | exact h.elim
theorem cls_one {K : PySem.W.Frag} {nm : Str} {C C' : Addr} (h : ClsNm K nm C) (h' : ClsNm K nm C') : C = C' := by
  have e : some (some (Value.ref C)) = some (some (.ref C')) := h.symm.trans h'
  cases e
  rfl
def ObjAt (K : PySem.W.Frag) (Z : Addr → Prop) (H : Hp) (nm : Str) (b : Addr) (fs : List (Str × PyData)) : Prop := ∃ C dx ws, ClsNm K nm C ∧ H b = some (.ins C dx ws) ∧ Fds K (veil Z H) ws fs
section
variable {K : PySem.W.Frag} {H : Hp}
theorem fds_len : ∀ {ws : List (Str × V)} {fs : List (Str × PyData)}, Fds K H ws fs → ws.length = fs.length
  | _, _, .nil => rfl
  | _, _, .cons _ r => congrArg (· + 1) (fds_len r)
theorem fds_get {f : Str} : ∀ {ws : List (Str × V)} {fs : List (Str × PyData)} {d : PyData}, Fds K H ws fs → fs.lookup f = some d → ∃ v, ws.lookup f = some v ∧ Dq K H v d
  | _, _, _, .nil, e => by cases e
  | _, _, _, .cons (f := g) (v := v) h r, e => by
    unfold List.lookup at e ⊢
    split at e
    · cases e
      exact ⟨v, rfl, h⟩
    · exact fds_get r e
theorem fds_none {f : Str} : ∀ {ws : List (Str × V)} {fs : List (Str × PyData)}, Fds K H ws fs → fs.lookup f = none → ws.lookup f = none
  | _, _, .nil, _ => rfl
  | _, _, .cons (f := g) h r, e => by
    unfold List.lookup at e ⊢
    split at e
    · cases e
    · exact fds_none r e
theorem fds_put {f : Str} {v : V} {d : PyData} (h : Dq K H v d) : ∀ {ws : List (Str × V)} {fs : List (Str × PyData)}, Fds K H ws fs → Fds K H (putF f v ws) (putFd f d fs)
  | _, _, .nil => .cons h .nil
  | _, _, .cons (f := g) h' r => by
    unfold putF putFd
    by_cases e : g = f
    · rw [if_pos e, if_pos e]
      exact .cons h r
    · rw [if_neg e, if_neg e]
      exact .cons h' (fds_put h r)
end
section
variable {K : PySem.W.Frag} {B Z : Addr → Prop} {A H0 H H' : Hp} {M : Nat → Option Addr} {σ : L2.St} {ρ : En}
theorem obj_at (E : EnvR K B Z A H0 M σ H ρ) {i : Nat} {nm : Str} {fs : List (Str × PyData)} (h : cellAt ρ i = .obj nm fs) : ∃ l C dx ws, σ[i]? = some (some (.ref l)) ∧ M i = some l ∧ ClsNm K nm C ∧ H l = some (.ins C dx ws) ∧ Fds K (veil (hid Z M) H) ws fs := by
  obtain ⟨l, C, dx, ws, e, m, hc, hl, r⟩ := E.cell i _ (cellAt_some h (by intro z; cases z))
  refine ⟨l, C, dx, ws, ?_, m, hc, hl, r⟩
  cases q : σ[i]? with
  | none =>
    rw [q] at e
    cases e
  | some o =>
    rw [q] at e
    exact congrArg some e
/-- what stands at a place's own object has changed, all else stands -/
theorem EnvR.objCh (E : EnvR K B Z A H0 M σ H ρ) {i : Nat} {b : Addr} {nm nm' : Str} {fs fs' : List (Str × PyData)} (m : M i = some b) (hc : cellAt ρ i = .obj nm fs) (g : ∀ a o, a ≠ b → H a = some o → H' a = some o) (hb : ObjAt K (hid Z M) H' nm' b fs') :
    EnvR K B Z A H0 M σ H' (cellSet ρ i (.obj nm' fs')) := by
  have nb : H' b ≠ none := by
    obtain ⟨C, dx, ws, _, h, _⟩ := hb
    rw [h]
    intro z; cases z
  have nn : ∀ a, H a ≠ none → H' a ≠ none := fun a h => by
    by_cases e : a = b
    · rw [e]; exact nb
    · cases q : H a with
      | none => exact absurd q h
      | some o =>
        rw [g a o e q]
        intro z; cases z
  have gv : Grow (veil (hid Z M) H) (veil (hid Z M) H') := fun a o h => by
    obtain ⟨h1, h2⟩ := veil_off h
    exact veil_on h1 (g a o (fun e => h1 (.inr ⟨i, by rw [e]; exact m⟩)) h2)
  obtain ⟨l, C, dx, ws, e1, m1, _⟩ := obj_at E hc
  rw [m] at m1
  cases m1
  rw [cellSet_eq]
  refine ⟨by rw [List.length_set]; exact E.len, E.inj, fun j u k => nn u (E.live j u k), E.off, fun a z => nn a (E.zl a z), fun a o nB h => ?_, E.own, E.m0, E.anch.trans gv, fun j c h => ?_⟩
  · refine g a o (fun e => ?_) (E.ext a o nB h)
    rcases E.own i b m with x | x
    · exact nB (by rw [e]; exact x)
    · rw [e, x] at h
      cases h
  · rcases set_at h with ⟨rfl, hk, rfl⟩ | ⟨ne, h⟩
    · obtain ⟨C', dx', ws', c1, c2, c3⟩ := hb
      exact ⟨b, C', dx', ws', by rw [e1]; rfl, m, c1, c2, c3⟩
    · exact (E.cell j c h).grow gv fun u mu o ho => g u o (fun z => ne (E.inj i j b m (by rw [← z]; exact mu))) ho
/-- a place gets a new object -/
theorem EnvR.setObj (E : EnvR K B Z A H0 M σ H ρ) {i : Nat} {l : Addr} {nm : Str} {fs : List (Str × PyData)} (hi : i ≠ 0) (hl : H l = none) (g : Grow H H') (hb : ObjAt K (plus (hid Z M) l) H' nm l fs) :
    EnvR K B Z A H0 (fun j => if j = i then some l else M j) (σ.set i (some (.ref l))) H' (cellSet ρ i (.obj nm fs)) := by
  rw [cellSet_eq]
  have nM : ∀ j, M j ≠ some l := fun j m => E.live j l m hl
  have nZ : ¬ Z l := fun z => E.zl l z hl
  have nn : ∀ a, H a ≠ none → H' a ≠ none := fun a h => by
    cases q : H a with
    | none => exact absurd q h
    | some o =>
      rw [g a o q]
      intro z; cases z
  have hsub : ∀ a, hid Z (fun j => if j = i then some l else M j) a → plus (hid Z M) l a := by
    rintro a (z | ⟨j, m⟩)
    · exact .inl (.inl z)
    · have m : (if j = i then some l else M j) = some a := m
      by_cases e : j = i
      · rw [if_pos e] at m
        cases m
        exact .inr rfl
      · rw [if_neg e] at m
        exact .inl (.inr ⟨j, m⟩)
  have gv : Grow (veil (hid Z M) H) (veil (hid Z fun j => if j = i then some l else M j) H') := fun a o h => by
    obtain ⟨h1, h2⟩ := veil_off h
    refine veil_on (fun z => ?_) (g a o h2)
    rcases hsub a z with z | z
    · exact h1 z
    · rw [z, hl] at h2
      cases h2
  have hl' : H' l ≠ none := by
    obtain ⟨C, dx, ws, _, h, _⟩ := hb
    rw [h]
    intro z; cases z
  refine ⟨by rw [List.length_set, List.length_set]; exact E.len, fun a b u h1 h2 => ?_, fun j u m => ?_, fun j u m => ?_, fun a z => nn a (E.zl a z), fun a o nb h => g a o (E.ext a o nb h), fun j u m => ?_, fun b hb => ?_, E.anch.trans gv, fun j c hc => ?_⟩
  · by_cases ea : a = i
    · by_cases eb : b = i
      · rw [ea, eb]
      · rw [if_pos ea] at h1
        rw [if_neg eb] at h2
        cases h1
        exact absurd h2 (nM b)
    · by_cases eb : b = i
      · rw [if_neg ea] at h1
        rw [if_pos eb] at h2
        cases h2
        exact absurd h1 (nM a)
      · rw [if_neg ea] at h1
        rw [if_neg eb] at h2
        exact E.inj a b u h1 h2
  · by_cases e : j = i
    · rw [if_pos e] at m
      cases m
      exact hl'
    · rw [if_neg e] at m
      exact nn u (E.live j u m)
  · by_cases e : j = i
    · rw [if_pos e] at m
      cases m
      exact nZ
    · rw [if_neg e] at m
      exact E.off j u m
  · by_cases e : j = i
    · rw [if_pos e] at m
      cases m
      by_cases nb : B l
      · exact .inl nb
      · refine .inr ?_
        cases q : H0 l with
        | none => rfl
        | some o =>
          rw [E.ext l o nb q] at hl
          cases hl
    · rw [if_neg e] at m
      exact E.own j u m
  · rw [if_neg (Ne.symm hi)]
    exact E.m0 b hb
  · rcases set_at hc with ⟨rfl, hk, rfl⟩ | ⟨ne, hc⟩
    · rw [join_set (by rw [E.len]; exact hk)]
      obtain ⟨C, dx, ws, c1, c2, c3⟩ := hb
      exact ⟨l, C, dx, ws, rfl, if_pos rfl, c1, c2, fds_grow (veil_less hsub) c3⟩
    · rw [join_ne ne]
      have h := E.cell j c hc
      have mj : (fun j => if j = i then some l else M j) j = M j := if_neg (Ne.symm ne)
      cases c with
      | no => trivial
      | d x =>
        obtain ⟨v, e, h⟩ := h
        exact ⟨v, e, dp_grow gv _ _ h⟩
      | own xs =>
        obtain ⟨u, ws, e, m, hu, h⟩ := h
        exact ⟨u, ws, e, mj.trans m, g _ _ hu, dps_grow gv _ _ h⟩
      | dct kvs =>
        obtain ⟨u, ws, e, m, hu, h⟩ := h
        exact ⟨u, ws, e, mj.trans m, g _ _ hu, kvs_grow gv h⟩
      | box =>
        obtain ⟨b, e, m, r, rows, at_, hb, h0, hr, h1, h2, h3⟩ := h
        exact ⟨b, e, mj.trans m, r, rows, at_, g _ _ hb, h0, gv _ _ hr, h1, h2, h3⟩
      | obj nm' fs' =>
        obtain ⟨u, C, dx, ws, e, m, hc, hu, h⟩ := h
        exact ⟨u, C, dx, ws, e, mj.trans m, hc, g _ _ hu, fds_grow gv h⟩
end
/-! the readings -/
def pFldO (i : Nat) (nm f : Str) : PE' := fun ρ R => asObj (cellAt ρ i) fun n fs => n = nm ∧ asO (fs.lookup f) fun d => R d ρ
def pSetF (i : Nat) (nm f : Str) (pv : PE') : PS' := fun G ρ => pv ρ fun d ρ1 => asObj (cellAt ρ1 i) fun n fs => n = nm ∧ fs.length < 1000 ∧ G.nx (cellSet ρ1 i (.obj nm (putFd f d fs)))
def pAugF (i : Nat) (nm f : Str) (op : Int → Int → Int) (pv : PE') : PS' := fun G ρ => asObj (cellAt ρ i) fun n fs => n = nm ∧ asO (fs.lookup f) fun x => asI x fun a => pv ρ fun y ρ1 => asI y fun b =>
  asObj (cellAt ρ1 i) fun n fs => n = nm ∧ fs.length < 1000 ∧ G.nx (cellSet ρ1 i (.obj nm (putFd f (.int (op a b)) fs)))
abbrev FSO := List (Str × PyData) → List PyData → (PyData → List (Str × PyData) → Prop) → Prop
/-- C(..), kept in a place -/
def pMakeO (i : Nat) (nm : Str) (n : Nat) (S : FSO) (pa : PA') : PS' := fun G ρ => i ≠ 0 ∧ pa ρ fun ds ρ1 => ds.length = n ∧ S [] ds fun d fs => d = .none ∧ G.nx (cellSet ρ1 i (.obj nm fs))
def pMethO (i : Nat) (nm m : Str) (n : Nat) (S : FSO) (pa : PA') : PE' := fun ρ R => asObj (cellAt ρ i) fun n1 fs1 => n1 = nm ∧ fs1.lookup m = none ∧ pa ρ fun ds ρ1 => asObj (cellAt ρ1 i) fun n' fs => n' = nm ∧ ds.length = n ∧ S fs ds fun d fs' => R d (cellSet ρ1 i (.obj nm fs'))
def spO (K : PySem.W.Frag) (nm : Str) (n : Nat) (S : FSO) : Sp := fun vs H Q _ => ∃ (b : Addr) (us : List V), vs = .ref b :: us ∧ us.length = n ∧ ∃ (Z : Addr → Prop) (ds : List PyData) (fs : List (Str × PyData)) (k : PyData → List (Str × PyData) → Prop), ¬ Z b ∧ (∀ a, Z a → H a ≠ none) ∧
  ObjAt K (plus Z b) H nm b fs ∧ Dqs K (veil (plus Z b) H) us ds ∧ S fs ds k ∧ ∀ d fs' v H', k d fs' → (∀ a o, a ≠ b → H a = some o → H' a = some o) → ObjAt K (plus Z b) H' nm b fs' → Dq K (veil (plus Z b) H') v d → Q v H'
section
variable {K : PySem.W.Frag}
theorem sim_fldO {i : Nat} {nm f : Str} (hc : ∀ C, ClsNm K nm C → Cls K C ∧ NoAttr K C f) : Sim K (tFld K (tVar i) f) (pFldO i nm f) := fun B Z A H0 M σ H ρ R E h Q q => by
  obtain ⟨n, fs, ec, en, h1⟩ := asObj_of h
  subst en
  obtain ⟨l, C, dx, ws, e, m, c, hl, r⟩ := obj_at E ec
  obtain ⟨d, hd, h2⟩ := asO_of h1
  obtain ⟨v, hv, dv⟩ := fds_get r hd
  exact ⟨.ref l, e, l, C, dx, ws, v, rfl, hl, (hc C c).1, (hc C c).2, hv, q v d ρ H h2 E dv⟩
theorem s_setF {i : Nat} {nm f : Str} {tv : TE} {pv : PE'} (hc : ∀ C, ClsNm K nm C → Cls K C ∧ NoAttr K C f) (sv : Sim K tv pv) : SimS K (sFld K (tVar i) tv f) (pSetF i nm f pv) := fun B Z A H0 M σ H ρ D G E h C =>
  sv B Z A H0 M σ H ρ _ E h _ fun v d ρ1 H1 h1 E1 d1 => by
    obtain ⟨n, fs, ec, rfl, hz, h2⟩ := asObj_of h1
    obtain ⟨l, Cc, dx, ws, e, m, c, hl, r⟩ := obj_at E1 ec
    refine ⟨.ref l, e, l, Cc, dx, ws, rfl, hl, (hc Cc c).1, (hc Cc c).2, by rw [fds_len r]; exact hz, ?_⟩
    have gv : Grow (veil (hid Z M) H1) (veil (hid Z M) (upd H1 l (.ins Cc dx (putF f v ws)))) := fun a o h => by
      obtain ⟨h1, h2⟩ := veil_off h
      exact veil_on h1 ((upd_ne fun e => h1 (.inr ⟨i, by rw [e]; exact m⟩)).trans h2)
    exact C.nx M σ _ _ (E1.objCh m ec (fun a o ne h => (upd_ne ne).trans h) ⟨Cc, dx, _, c, upd_same, fds_put (dp_grow gv _ _ d1) (fds_grow gv r)⟩) h2
theorem s_augF {i : Nat} {nm f : Str} {op : Int → Int → Int} {tv : TE} {pv : PE'} (hc : ∀ C, ClsNm K nm C → Cls K C ∧ NoAttr K C f) (sv : Sim K tv pv) : SimS K (sFldAug K (tVar i) tv (ipI op) f) (pAugF i nm f op pv) := fun B Z A H0 M σ H ρ D G E h C => by
  obtain ⟨n, fs, ec, en, h5⟩ := asObj_of h
  subst en
  obtain ⟨l, Cc, dx, ws, e, m, c, hl, r⟩ := obj_at E ec
  obtain ⟨x, hx, h6⟩ := asO_of h5
  obtain ⟨a, rfl, h7⟩ := asI_of h6
  obtain ⟨v, hv, dv⟩ := fds_get r hx
  rw [of_int dv] at hv
  refine ⟨.ref l, e, l, Cc, dx, ws, .int a, rfl, hl, (hc Cc c).1, (hc Cc c).2, hv, sv B Z A H0 M σ H ρ _ E h7 _ fun w y ρ1 H1 h1 E1 d1 => ?_⟩
  obtain ⟨b, rfl, h8⟩ := asI_of h1
  obtain ⟨n1, fs1, ec1, en, hz, h2⟩ := asObj_of h8
  subst en
  obtain ⟨l1, C1, dx1, ws1, e1, m1, c1, hl1, r1⟩ := obj_at E1 ec1
  rw [m] at m1
  cases m1
  cases cls_one c c1
  rw [of_int d1]
  refine ⟨a, b, rfl, rfl, dx1, ws1, hl1, by rw [fds_len r1]; exact hz, ?_⟩
  have gv : Grow (veil (hid Z M) H1) (veil (hid Z M) (upd H1 l (.ins Cc dx1 (putF f (.int (op a b)) ws1)))) := fun a o h => by
    obtain ⟨h1, h2⟩ := veil_off h
    exact veil_on h1 ((upd_ne fun e => h1 (.inr ⟨i, by rw [e]; exact m⟩)).trans h2)
  exact C.nx M σ _ _ (E1.objCh m ec1 (fun a o ne h => (upd_ne ne).trans h) ⟨Cc, dx1, _, c1, upd_same, fds_put (.int _) (fds_grow gv r1)⟩) h2
theorem s_makeO {i n : Nat} {nm : Str} {C0 : Addr} {S : FSO} {EX : XK} {ta : TA} {pa : PA'} (hn : ClsNm K nm C0) (sa : SimA K ta pa) : SimS K (tAsg (tMake C0 (spO K nm n S) [] EX ta) (gName i)) (pMakeO i nm n S pa) := fun B Z A H0 M σ H ρ D G E h C =>
  sa B Z A H0 M σ H ρ _ E h.2 _ fun vs ds ρ1 H1 h1 E1 d1 x dx hx hdx ne => by
    rw [List.append_nil]
    have ng : Grow H1 (upd (upd H1 dx (.own x)) x (.ins C0 dx [])) := (grow_new hdx).trans (grow_new (by rw [upd_ne (Ne.symm ne)]; exact hx))
    have nh : ¬ hid Z M x := E1.veiled hx
    have live : ∀ a, hid Z M a → (upd (upd H1 dx (.own x)) x (.ins C0 dx [])) a ≠ none := fun a z => by
      have : H1 a ≠ none := z.elim (fun z => E1.zl a z) fun ⟨j, m⟩ => E1.live j a m
      cases q : H1 a with
      | none => exact absurd q this
      | some o =>
        rw [ng a o q]
        intro z; cases z
    have gv : Grow (veil (hid Z M) H1) (veil (plus (hid Z M) x) (upd (upd H1 dx (.own x)) x (.ins C0 dx []))) := fun a o h => by
      obtain ⟨h1, h2⟩ := veil_off h
      refine veil_on (fun z => z.elim h1 fun e => ?_) (ng a o h2)
      rw [e, hx] at h2
      cases h2
    refine ⟨x, vs, rfl, by rw [dqs_len d1]; exact h1.1, hid Z M, ds, [], _, nh, live, ⟨C0, dx, [], hn, upd_same, .nil⟩, dps_grow gv _ _ d1, h1.2, fun d fs' v H' k g hb dv => ?_⟩
    have g1 : Grow H1 H' := fun a o h => g a o (fun e => by rw [e, hx] at h; cases h) (ng a o h)
    obtain ⟨k1, k2⟩ := k
    subst k1
    cases dv
    exact ⟨rfl, C.nx _ _ _ _ (E1.setObj h.1 hx g1 hb) k2⟩
theorem sim_methO {i n : Nat} {nm m : Str} {C0 : Addr} {S : FSO} {EX : XK} {ta : TA} {pa : PA'} (hn : ClsNm K nm C0) (sa : SimA K ta pa) : Sim K (tMeth C0 m (spO K nm n S) [] EX (tVar i) ta) (pMethO i nm m n S pa) := fun B Z A H0 M σ H ρ R EE h Q q => by
  obtain ⟨n1, fs1, ec1, en, hm, h1⟩ := asObj_of h
  subst en
  obtain ⟨l, C, dx, ws, e, hM, c, hl, r⟩ := obj_at EE ec1
  cases cls_one c hn
  refine ⟨.ref l, e, l, dx, ws, rfl, hl, fds_none r hm, sa B Z A H0 M σ H ρ _ EE h1 _ fun vs ds ρ1 H1 h2 E1 d1 => ?_⟩
  obtain ⟨n2, fs2, ec2, en, hlen, h3⟩ := asObj_of h2
  subst en
  obtain ⟨l2, C2, dx2, ws2, e2, m2, c2, hl2, r2⟩ := obj_at E1 ec2
  rw [hM] at m2
  cases m2
  rw [List.append_nil]
  refine ⟨l, vs, rfl, by rw [dqs_len d1]; exact hlen, fun a => hid Z M a ∧ a ≠ l, ds, fs2, _, fun z => z.2 rfl, ?_, by rw [hid_plus hM]; exact ⟨C2, dx2, ws2, c2, hl2, r2⟩, by rw [hid_plus hM]; exact d1, h3, fun d fs' v H' k g hb dv => ?_⟩
  · rintro a ⟨z | ⟨j, mj⟩, _⟩
    · exact E1.zl a z
    · exact E1.live j a mj
  · rw [hid_plus hM] at hb dv
    exact q v d _ H' k (E1.objCh hM ec2 g hb) dv
end
section
variable {P : Program} {w : World} {K : PySem.W.Frag} {mg : Str → Option Value} {base : Heap}
/-- a method whose object changes: self stands in place 0 -/
theorem ok_O {x qual : Str} {st : Stmt} {f : Addr} {fd : FuncData} {N ps : List Str} {k n : Nat} {nm : Str} {S : FSO} (F : Fun K x qual st f fd) (Sc : FnScope N ps (defScope st)) (hn : ps.length = n + 1)
    (hb : Body P w K mg base N qual st f k fun p => ∀ fs ds c, ds.length = n → S fs ds c → p ⟨fun ρ => asObj (cellAt ρ 0) fun m fs' => m = nm ∧ c .none fs', fun d ρ => asObj (cellAt ρ 0) fun m fs' => m = nm ∧ c d fs', fun _ => False, fun _ => False⟩ (.obj nm fs :: startE N.tail ds)) : FnOk P w K mg base CX0 (k + 1) f fd ps (spO K nm n S) := by
  refine F.ok Sc (fun vs H Q E h => ?_) (fun cdv A outer s H vs Q E hr h => ?_)
  · obtain ⟨b, us, rfl, hl, _⟩ := h
    rw [List.length_cons, hl, hn]
  obtain ⟨b, us, rfl, hl, Z, ds, fs, c, nz, hz, ob, r, hS, q⟩ := h
  obtain ⟨t, p, ht, hs, hp⟩ := hb cdv A outer s H E hr
  have hnl : ps.length ≤ N.length := by
    have := congrArg List.length Sc.pre
    rw [List.length_take] at this
    omega
  have dl := dqs_len r
  have nb : H b ≠ none := by
    obtain ⟨C, dx, ws, _, h, _⟩ := ob
    rw [h]
    intro z; cases z
  have s0 : L2.start N (.ref b :: us) = some (.ref b) :: L2.start N.tail us := by
    unfold L2.start
    rw [List.map_cons, List.length_cons, List.length_tail, List.cons_append]
    congr 3
    omega
  have fin : ∀ M σ H' ρ, EnvR K (fun a => a = b) Z (fun _ => none) H M σ H' ρ → ∀ v d, (asObj (cellAt ρ 0) fun m fs' => m = nm ∧ c d fs') → Dq K (veil (plus Z b) H') v d → Q v H' := fun M σ H' ρ E' v d hc dv => by
    obtain ⟨m, fs', ec, em, k⟩ := asObj_of hc
    subst em
    obtain ⟨b', C, dx, ws, e1, m1, cc, hh, rr⟩ := obj_at E' ec
    have m := E'.m0 b rfl
    rw [m] at m1
    cases m1
    refine q d fs' v H' k (fun a o ne e => E'.ext a o ne e) ⟨C, dx, ws, cc, hh, fds_grow (veil_less ?_) rr⟩ dv
    rintro a (z | e)
    · exact .inl z
    · exact .inr ⟨0, by rw [e]; exact m⟩
  refine ⟨t, ht, hs (fun a => a = b) Z (fun _ => none) H (fun i => if i = 0 then some b else none) _ H (.obj nm fs :: startE N.tail ds) _ _ ?_ (hp fs ds c (by omega) hS) ?_⟩
  · rw [s0]
    refine ⟨?_, fun i j l h1 h2 => ?_, fun i l h => ?_, fun i l h => ?_, hz, fun _ _ _ h => h, fun i l h => ?_, fun b' e => (by rw [e]; rfl), fun _ _ z => (nomatch z), fun i cc hc => ?_⟩
    · rw [List.length_cons, List.length_cons, start_len (by rw [List.length_tail]; omega), startE_len (by rw [List.length_tail]; omega)]
    · by_cases ei : i = 0
      · by_cases ej : j = 0
        · rw [ei, ej]
        · rw [if_neg ej] at h2; cases h2
      · rw [if_neg ei] at h1; cases h1
    · by_cases ei : i = 0
      · rw [if_pos ei] at h; cases h; exact nb
      · rw [if_neg ei] at h; cases h
    · by_cases ei : i = 0
      · rw [if_pos ei] at h; cases h; exact nz
      · rw [if_neg ei] at h; cases h
    · by_cases ei : i = 0
      · rw [if_pos ei] at h; cases h; exact .inl rfl
      · rw [if_neg ei] at h; cases h
    · cases i with
      | zero =>
        have e : cc = .obj nm fs := (Option.some.inj hc).symm
        rw [e]
        obtain ⟨C, dx, ws, c1, c2, c3⟩ := ob
        exact ⟨b, C, dx, ws, rfl, rfl, c1, c2, by rw [one_hid]; exact c3⟩
      | succ i =>
        rw [List.getElem?_cons_succ] at hc ⊢
        rcases start_cell r hc with rfl | ⟨v, d, rfl, e, dv⟩
        · trivial
        · refine ⟨v, e, ?_⟩
          rw [one_hid]
          exact dv
  · exact ⟨fun M σ H' ρ E' k => fin M σ H' ρ E' .non .none k .non, fun _ _ _ _ _ z => z.elim, fun _ _ _ _ _ z => z.elim, fun M σ H' ρ v d E' k dv => fin M σ H' ρ E' v d k dv⟩
end
end Pu
namespace Pu
open PySem L2
/-! rows with a star in them; a loop or comprehension over a list or a tuple; two fors; zip; range with a step; max -/
/-- a display's items with one starred ahead -/
def pStar (pa : PE') (pr : PA') : PA' := fun ρ R => pa ρ fun x ρ1 => asS x fun ds => pr ρ1 fun es ρ2 => R (ds ++ es) ρ2
section
variable {X : Cx}
/-- either walk -/
def iOr (w1 w2 : TI) : TI := fun σ H R => w1 σ H R ∨ w2 σ H R
theorem pi_or {tg e : Expr} {w1 w2 : TI} (h1 : PI X tg e w1) (h2 : PI X tg e w2) : PI X tg e (iOr w1 w2) :=
  ⟨fun pins s σ H Q I h => h.elim (h1.run pins s σ H Q I) (h2.run pins s σ H Q I)⟩
end
theorem walkW {J : It} {n : Nat} {Qd : Hp → Prop} {body : (Hp → Prop) → V → Hp → Prop} {Hs : Hp} (Pv : Nat → Hp → Prop) (h0 : Pv 0 Hs) (hs : ∀ H, Pv n H → J.stop n H ∧ Qd H)
    (hg : ∀ i H, i < n → Pv i H → J.go i H ∧ ∀ x H', J.yld i H x H' → body (Pv (i + 1)) x H') :
    ∃ W : Nat → Nat → Hp → Prop, (∃ m, W 0 m Hs) ∧ ∀ i m H, W i m H → J.stop i H ∧ Qd H ∨ J.go i H ∧ ∃ Nx : Hp → Prop, (∀ H', Nx H' → ∃ m', m' < m ∧ W (i + 1) m' H') ∧ ∀ x H', J.yld i H x H' → body Nx x H' :=
  ⟨fun i m H => i + m = n ∧ Pv i H, ⟨n, by omega, h0⟩, fun i m H ⟨e, p⟩ => by
    by_cases hi : i = n
    · subst hi
      exact .inl (hs H p)
    · obtain ⟨h1, h2⟩ := hg i H (by omega) p
      exact .inr ⟨h1, Pv (i + 1), fun H' p' => ⟨m - 1, by omega, by omega, p'⟩, h2⟩⟩
section
variable {K : PySem.W.Frag}
theorem sim_star {ta : TE} {tr : TA} {pa : PE'} {pr : PA'} (sa : Sim K ta pa) (sr : SimA K tr pr) : SimA K (StX.tStar K ta tr) (pStar pa pr) := fun B Z A H0 M σ H ρ R E h Q q =>
  sa B Z A H0 M σ H ρ _ E h _ fun v x ρ1 H1 h1 E1 d1 => by
    cases x with
    | list ds =>
      cases d1 with
      | @lst a vs _ hs r =>
        exact ⟨a, vs, rfl, .inr (.of (veil_grow _ _ _ _ hs)), sr B Z _ H0 M σ H1 ρ1 _ E1.anchor h1 _ fun us es ρ2 H2 h2 E2 d2 => q _ _ ρ2 H2 h2 (E2.weak E1.anch) (dqs_app (dqs_up E2.anch r) d2)⟩
    | tuple ds =>
      cases d1 with
      | @tup a vs _ hs r =>
        exact ⟨a, vs, rfl, .inl (grow_t (veil_grow _ _) hs), sr B Z _ H0 M σ H1 ρ1 _ E1.anchor h1 _ fun us es ρ2 H2 h2 E2 d2 => q _ _ ρ2 H2 h2 (E2.weak E1.anch) (dqs_app (dqs_up E2.anch r) d2)⟩
    | _ => exact h1.elim
/-- range(a, b, c) -/
def pRng3 (pa : PA') (pg : PG') (pb : PS') : PS' := fun G ρ => pa ρ fun x ρ1 => ∃ (lo hi c : Int) (n : Nat), x = [.int lo, .int hi, .int c] ∧ RgC lo hi c n ∧ ∃ I : Nat → En → Prop, I 0 ρ1 ∧
  (∀ (i : Nat) ρ', i < n → I i ρ' → pg (.int (lo + (i : Int) * c)) ρ' fun ρ2 => pb { G with nx := I (i + 1), ct := I (i + 1), bk := G.nx } ρ2) ∧ ∀ ρ', I n ρ' → G.nx ρ'
theorem s_rng3 {ta : TA} {g : TG} {tb : TS} {pa : PA'} {pg : PG'} {pb : PS'} (sa : SimA K ta pa) (sg : SimG K g pg) (sb : SimS K tb pb) : SimS K (tFor (iRng3 ta) g tb) (pRng3 pa pg pb) := fun B Z A H0 M σ H ρ D G E h C =>
  sa B Z A H0 M σ H ρ _ E h _ fun vs x ρ1 H1 ⟨lo, hi, c, n, hx, hb, I, i0, is, ie⟩ E1 d1 => by
    subst hx
    have e : vs = [.int lo, .int hi, .int c] := dqs_of_ints (ns := [lo, hi, c]) d1
    subst e
    refine ⟨lo, hi, c, n, rfl, hb, for_rangeC (lo := lo) (c := c) (n := n) (fun i σ' H' => ∃ M' ρ', EnvR K B Z (veil (hid Z M) H1) H0 M' σ' H' ρ' ∧ I i ρ') ⟨M, ρ1, E1.anchor, i0⟩ (fun i σ' H' hlt ⟨M', ρ', E', hI⟩ => ?_)
      fun σ' H' ⟨M', ρ', E', hI⟩ => C.nx M' σ' H' ρ' (E'.weak E1.anch) (ie ρ' hI)⟩
    exact sg B Z _ H0 M' σ' H' ρ' _ _ _ E' (.int _) (is i ρ' hlt hI) _ fun σ2 ρ2 hR E2 => sb B Z _ H0 M' σ2 H' ρ2 _ _ E2 hR
      ⟨fun M σ H ρ E h => ⟨M, ρ, E, h⟩, fun M σ H ρ E h => C.nx M σ H ρ (E.weak E1.anch) h, fun M σ H ρ E h => ⟨M, ρ, E, h⟩, fun M σ H ρ v d E h k => C.rt M σ H ρ v d (E.weak E1.anch) h k⟩
/-- max of two -/
def fMax2 : FS := fun ds k => match ds with
  | [.int i, .int j] => k (.int (if j > i then j else i))
  | _ => False
theorem fMax2_of {ds : List PyData} {k : PyData → Prop} (h : fMax2 ds k) : ∃ i j, ds = [.int i, .int j] ∧ k (.int (if j > i then j else i)) := by
  unfold fMax2 at h
  split at h
  · exact ⟨_, _, rfl, h⟩
  · exact h.elim
def rMax2 : List V → Hp → VK → Prop := fun xs H Q => ∃ i j, xs = [.int i, .int j] ∧ Q (.int (if j > i then j else i)) H
theorem c_max2 {X : Cx} (hc : X.calm = true) : CallR X (.builtin "max") rMax2 := call_max2 hc
theorem sim_max2 {ta : TA} {pa : PA'} (sa : SimA K ta pa) : Sim K (tCB rMax2 ta) (pFn fMax2 pa) := fun B Z A H0 M σ H ρ R E h Q q =>
  sa B Z A H0 M σ H ρ _ E h _ fun vs ds ρ1 H1 h1 E1 d1 => by
    obtain ⟨i, j, rfl, h2⟩ := fMax2_of h1
    have e : vs = [.int i, .int j] := dqs_of_ints (ns := [i, j]) d1
    exact ⟨i, j, e, q _ _ _ _ h2 E1 (.int _)⟩
/-- [e for a, b in zip(x, y)] of two tuples -/
def pLcZ (vs is : List Nat) (pa : PA') (pg : PG') (pt : PT') (pe : PE') : PA' := fun ρ R => (∀ v ∈ vs, cellAt ρ v = .no) ∧ pa ρ fun x ρ1 => ρ1 = ρ ∧ ∃ xs ys : List PyData, x = [.tuple xs, .tuple ys] ∧ ∃ I : Nat → List PyData → Prop, I 0 [] ∧
  (∀ i c d acc, xs[i]? = some c → ys[i]? = some d → I i acc → pg (.tuple [c, d]) ρ fun ρ2 => pt ρ2 fun b ρ3 => ρ3 = ρ2 ∧ if b = true then pe ρ2 fun y ρ4 => ρ4 = ρ2 ∧ acc.length < 100000 ∧ I (i + 1) (acc ++ [y]) else I (i + 1) acc) ∧ ∀ acc, I (min xs.length ys.length) acc → R acc ρ
theorem pair_of {H : Hp} {vs : List V} {c d : PyData} (r : Dqs K H vs [c, d]) : ∃ v w, vs = [v, w] ∧ Dq K H v c ∧ Dq K H w d := by
  cases r with
  | cons h r =>
    cases r with
    | cons h' r =>
      cases r
      exact ⟨_, _, rfl, h, h'⟩
theorem sim_lcZ {ta : TA} {g : TG} {tt : TT} {te : TE} {vs is : List Nat} {pa : PA'} {pg : PG'} {pt : PT'} {pe : PE'} (sa : SimA K ta pa) (sg : SimGV K vs g pg) (st : SimT K tt pt) (se : Sim K te pe) :
    SimL K (tLc (RZ.iZipA K ta) g tt te vs) (pLcZ vs is pa pg pt pe) := fun B Z A H0 M σ H ρ R E ⟨hv, h⟩ Q q =>
  sa B Z A H0 M σ H ρ _ E h _ fun us x ρ1 H1 ⟨e1, xs, ys, hx, I, i0, is, ie⟩ E1 d1 => by
    subst e1
    subst hx
    obtain ⟨u, w, rfl, du, dw⟩ := pair_of d1
    cases du with
    | @tup a us _ hs r =>
      cases dw with
      | @tup b ws _ hs2 r2 =>
        have l1 := dqs_len r
        have l2 := dqs_len r2
        refine ⟨a, b, us, ws, rfl, .inr ⟨grow_t (veil_grow _ _) hs, grow_t (veil_grow _ _) hs2, fun D hD => ?_⟩⟩
        obtain ⟨h0, nB, nZ⟩ := lc_start E1 hD
        refine walkW (n := min us.length ws.length) (fun i H' => ∃ va acc, EnvR K B (plus Z D) (veil (hid Z M) H1) H0 M (wipe σ vs) H' ρ1 ∧ H' D = some (.lst va) ∧ Dqs K (veil (hid (plus Z D) M) H') va acc ∧ I i acc) ⟨[], [], E1.enter hv hD, upd_same, .nil, i0⟩
          (fun H' ⟨va, acc, E', hd', ra, hI⟩ => ⟨⟨us, ws, grow_t (veil_grow _ _) (grow_t E'.anch hs), grow_t (veil_grow _ _) (grow_t E'.anch hs2), by omega⟩, ?_⟩) (fun i H' hi ⟨va, acc, E', hd', ra, hI⟩ => ?_)
        · have z := q D va acc ρ1 (wiped H' D) (ie acc (by rw [← l1, ← l2]; exact hI)) (E'.leave E1.anch h0 nZ) wiped_at (dps_grow veil_in _ _ ra)
          rw [wiped_upd hd'] at z
          exact z
        · have s1 := grow_t (veil_grow _ _) (grow_t E'.anch hs)
          have s2 := grow_t (veil_grow _ _) (grow_t E'.anch hs2)
          have g1 : us[i]? = some us[i] := List.getElem?_eq_getElem (by omega)
          have g2 : ws[i]? = some ws[i] := List.getElem?_eq_getElem (by omega)
          refine ⟨⟨us, ws, _, _, s1, s2, g1, g2⟩, fun x H2 hy => ?_⟩
          obtain ⟨T, y1, y2, rfl, hT, rfl, k1, k2⟩ := hy
          have e1 := k1 us s1
          have e2 := k2 ws s2
          obtain ⟨c, hc, dc⟩ := dqs_got r e1
          obtain ⟨d, hd, dd⟩ := dqs_got r2 e2
          have nT : D ≠ T := fun e => by rw [← e, hd'] at hT; cases hT
          have gT := grow_new (o := HO.tup [y1, y2]) hT
          have E3 := E'.grown gT
          refine lc_turn sg st se E3 hv ((upd_ne nT).trans hd') h0 nB (.new (E'.veiled hT) hT (.cons (dp_grow E'.anch _ _ dc) (.cons (dp_grow E'.anch _ _ dd) .nil))) (dps_grow (grow_veil gT) _ _ ra) wipe_wipe (is i c d acc hc hd hI) fun H2 va' acc' E2 h2 r2 y2 => ⟨va', acc', E2, h2, r2, y2⟩
theorem wipe_in {σ : St} {vs : List Nat} : ∀ {ws : List Nat}, (∀ v ∈ ws, v ∈ vs) → wipe (wipe σ ws) vs = wipe σ vs
  | [], _ => rfl
  | w :: ws, h => by
    show wipe ((wipe σ ws).set w none) vs = wipe σ vs
    rw [wipe_set (h w List.mem_cons_self), wipe_in fun v m => h v (List.mem_cons_of_mem _ m)]
/-- [e for x in xs for y in ys if t]: xs a list or a tuple, ys a tuple -/
def pLc2 (vs vs1 : List Nat) (pl : PE') (pg : PG') (pl1 : PE') (pg1 : PG') (pt1 : PT') (pe : PE') : PA' := fun ρ R => (∀ v ∈ vs, cellAt ρ v = .no) ∧ pl ρ fun x ρ1 => ρ1 = ρ ∧ asS x fun ds => ∃ I : Nat → List PyData → Prop, I 0 [] ∧
  (∀ i d acc, ds[i]? = some d → I i acc → pg d ρ fun ρ2 => (∀ v ∈ vs1, cellAt ρ2 v = .no) ∧ pl1 ρ2 fun y ρ3 => ρ3 = ρ2 ∧ asT y fun es => ∃ J : Nat → List PyData → Prop, J 0 acc ∧
    (∀ j e acc, es[j]? = some e → J j acc → pg1 e ρ2 fun ρ4 => pt1 ρ4 fun b ρ5 => ρ5 = ρ4 ∧ if b = true then pe ρ4 fun z ρ6 => ρ6 = ρ4 ∧ acc.length < 100000 ∧ J (j + 1) (acc ++ [z]) else J (j + 1) acc) ∧ ∀ acc, J es.length acc → I (i + 1) acc) ∧ ∀ acc, I ds.length acc → R acc ρ
theorem lc2_turn {B Z : Addr → Prop} {A H0 H : Hp} {M : Nat → Option Addr} {σ : St} {ρ : En} {D : Addr} {vs vs1 : List Nat} {g g1 : TG} {pg pg1 : PG'} {tt1 : TT} {pt1 : PT'} {te tl1 : TE} {pe pl1 : PE'} {v : V} {d : PyData} {va : List V} {acc : List PyData} {yes : List PyData → Prop}
    (hin : ∀ v ∈ vs1, v ∈ vs) (sg : SimGV K vs g pg) (sl1 : Sim K tl1 pl1) (sg1 : SimGV K vs1 g1 pg1) (st : SimT K tt1 pt1) (se : Sim K te pe) (E : EnvR K B (plus Z D) A H0 M (wipe σ vs) H ρ) (hv : ∀ v ∈ vs, cellAt ρ v = .no) (hD : H D = some (.lst va)) (h0 : H0 D = none) (nB : ¬ B D) (dv : Dq K (veil (hid (plus Z D) M) H) v d)
    (ra : Dqs K (veil (hid (plus Z D) M) H) va acc)
    (h : pg d ρ fun ρ2 => (∀ v ∈ vs1, cellAt ρ2 v = .no) ∧ pl1 ρ2 fun y ρ3 => ρ3 = ρ2 ∧ asT y fun es => ∃ J : Nat → List PyData → Prop, J 0 acc ∧
      (∀ j e acc, es[j]? = some e → J j acc → pg1 e ρ2 fun ρ4 => pt1 ρ4 fun b ρ5 => ρ5 = ρ4 ∧ if b = true then pe ρ4 fun z ρ6 => ρ6 = ρ4 ∧ acc.length < 100000 ∧ J (j + 1) (acc ++ [z]) else J (j + 1) acc) ∧ ∀ acc, J es.length acc → yes acc) {Pv : Hp → Prop}
    (hP : ∀ H' va' acc', EnvR K B (plus Z D) A H0 M (wipe σ vs) H' ρ → H' D = some (.lst va') → Dqs K (veil (hid (plus Z D) M) H') va' acc' → yes acc' → Pv H') :
    g v (wipe σ vs) H fun σ2 H2 => wipe σ2 vs = wipe σ vs ∧ tYes σ2 H2 fun b H3 => if b = true then iTup K tl1 σ2 H3 fun J1 H4 => ∃ W1 : Nat → Nat → Hp → Prop, (∃ m, W1 0 m H4) ∧ ∀ j k H, W1 j k H → J1.stop j H ∧ Pv H ∨ J1.go j H ∧ ∃ Nx1 : Hp → Prop, (∀ H', Nx1 H' → ∃ k', k' < k ∧ W1 (j + 1) k' H') ∧ ∀ x H', J1.yld j H x H' →
      g1 x (wipe σ2 vs1) H' fun σ3 H5 => wipe σ3 vs1 = wipe σ2 vs1 ∧ tt1 σ3 H5 fun b H6 => if b = true then te σ3 H6 fun y H7 => ∃ acc, H7 D = some (.lst acc) ∧ acc.length < sizeLine ∧ Nx1 (upd H7 D (.lst (acc ++ [y]))) else Nx1 H6 else Pv H3 := by
  have nM : ∀ i l, M i = some l → l ≠ D := fun i l m e => E.off i l m (.inr e)
  have E' := (E.anchor.hold hD nM)
  refine sg B _ _ _ M _ H ρ v d _ E' dv h _ fun σ2 ρ2 h2 E2 w2 l2 o2 => ⟨w2.trans wipe_wipe, ?_⟩
  obtain ⟨hv1, h2⟩ := h2
  refine sl1 B _ _ _ M σ2 H ρ2 _ E2 h2 _ fun u y ρ3 H4 ⟨e3, h3⟩ E4 d4 => ?_
  subst e3
  obtain ⟨es, rfl, J, j0, js, je⟩ := asT_of h3
  have hD4 : H4 D = some (.lst va) := E4.ext D _ nB upd_same
  cases d4 with
  | @tup a us _ hs r =>
    have len := dqs_len r
    have g4 : Grow (veil (hid (plus Z D) M) H) (veil (hid (plus Z D) M) H4) := E4.anch
    have E5 : EnvR K B (plus Z D) (veil (hid (plus Z D) M) H4) H0 M (wipe σ2 vs1) H4 ρ3 := ((E4.anchor.unhold h0 nM)).back (ρ := ρ3) rfl rfl (fun _ _ => rfl) hv1
    refine ⟨a, rfl, ⟨us, grow_t (veil_grow _ _) hs⟩, walkW (n := us.length) (fun j H' => ∃ va acc, EnvR K B (plus Z D) (veil (hid (plus Z D) M) H4) H0 M (wipe σ2 vs1) H' ρ3 ∧ H' D = some (.lst va) ∧ Dqs K (veil (hid (plus Z D) M) H') va acc ∧ J j acc) ⟨va, acc, E5, hD4, dps_grow g4 _ _ ra, j0⟩
      (fun H' ⟨va', acc', E6, hd6, ra6, hJ⟩ => ⟨⟨us, grow_t (veil_grow _ _) (grow_t E6.anch hs), Nat.le_refl _⟩, ?_⟩) (fun j H' hj ⟨va', acc', E6, hd6, ra6, hJ⟩ => ?_)⟩
    · refine hP H' va' acc' (((E6.weak g4).weak E.anch).back ?_ l2 o2 hv) hd6 ra6 (je acc' (len ▸ hJ))
      rw [wipe_in hin]
      exact w2.trans wipe_wipe
    · have s1 := grow_t (veil_grow _ _) (grow_t E6.anch hs)
      have g1 : us[j]? = some us[j] := List.getElem?_eq_getElem (by omega)
      refine ⟨⟨us, _, s1, g1⟩, fun x H2 hy => ?_⟩
      obtain ⟨rfl, k1⟩ := hy
      obtain ⟨c, hc, dc⟩ := dqs_got r (k1 us s1)
      exact lc_turn sg1 st se E6 hv1 hd6 h0 nB (dp_grow E6.anch _ _ dc) ra6 wipe_wipe (js j c acc' hc hJ) fun H2 va' acc' E2 h2 r2 y2 => ⟨va', acc', E2, h2, r2, y2⟩
end
end Pu
namespace Pu
open PySem L2
/-! a walk over a list or a tuple, which of them the value tells -/
def iEi (K : PySem.W.Frag) (tl : TE) : TI := fun σ H R => tl σ H fun x H1 => ∃ a, x = .ref a ∧ (((∃ xs, SqT K H1 a xs) ∧ R (Itt K a) H1) ∨ ((∃ xs, SqL K H1 a xs) ∧ R (Itl K a) H1))
section
variable {X : Cx}
theorem pi_ei {tg l : Expr} {tl : TE} (hp : PE X l tl) : PI X tg l (iEi X.K tl) := ⟨fun pins s σ H R I h => by
  refine wpAny_mono (hp.run pins s σ H _ I h) (fun v s1 ⟨y, H1, I1, ry, a, ey, k⟩ => ?_) (fun _ _ e => e)
  subst ey
  have ev : v = .ref a := ry
  subst ev
  have hf : H1 s1.heap.objs.size = none := HOk.fresh I1.hok (Nat.le_refl _)
  rcases k with ⟨⟨xs, hx⟩, hr⟩ | ⟨⟨xs, hx⟩, hr⟩
  · obtain ⟨its, rv, ht, _⟩ := I1.tuple hx
    refine wpAny_pyIter_tuple ht ?_
    exact ⟨_, [s1.heap.objs.size], _, Itt X.K a, H1, rfl, I1.kept fun b u h => Heap.get?_push_of_some _ h, turn_tuple a _, ⟨_, Heap.get?_push_size _ rfl, rfl, rfl⟩, fun b hb => by
      rw [List.mem_singleton] at hb
      subst hb
      exact I1.fpOk (Nat.le_refl _) hf, hr⟩
  · obtain ⟨its, rv, ht, _⟩ := I1.list hx
    refine wpAny_pyIter_list ht.isList ?_
    exact ⟨_, [s1.heap.objs.size], _, Itl X.K a, H1, rfl, I1.kept fun b u h => Heap.get?_push_of_some _ h, turn_list a _, ⟨_, Heap.get?_push_size _ rfl, rfl, rfl⟩, fun b hb => by
      rw [List.mem_singleton] at hb
      subst hb
      exact I1.fpOk (Nat.le_refl _) hf, hr⟩⟩
end
section
variable {K : PySem.W.Frag}
theorem sim_lc2 {tl tl1 : TE} {g g1 : TG} {tt1 : TT} {te : TE} {vs vs1 : List Nat} {pl pl1 : PE'} {pg pg1 : PG'} {pt1 : PT'} {pe : PE'} (hin : ∀ v ∈ vs1, v ∈ vs) (sl : Sim K tl pl) (sg : SimGV K vs g pg) (sl1 : Sim K tl1 pl1) (sg1 : SimGV K vs1 g1 pg1) (st : SimT K tt1 pt1) (se : Sim K te pe) :
    SimL K (tLc2 (iEi K tl) g tYes (iTup K tl1) g1 tt1 te vs vs1) (pLc2 vs vs1 pl pg pl1 pg1 pt1 pe) := fun B Z A H0 M σ H ρ R E ⟨hv, h⟩ Q q =>
  sl B Z A H0 M σ H ρ _ E h _ fun u x ρ1 H1 ⟨e1, h1⟩ E1 d1 => by
    subst e1
    cases x with
    | list ds =>
      obtain ⟨I, i0, is, ie⟩ := h1
      cases d1 with
      | @lst a us _ hs r =>
        have len := dqs_len r
        refine ⟨a, rfl, .inr ⟨⟨us, .of (veil_grow _ _ _ _ hs)⟩, fun D hD => ?_⟩⟩
        obtain ⟨h0, nB, nZ⟩ := lc_start E1 hD
        refine walkW (n := us.length) (fun i H' => ∃ va acc, EnvR K B (plus Z D) (veil (hid Z M) H1) H0 M (wipe σ vs) H' ρ1 ∧ H' D = some (.lst va) ∧ Dqs K (veil (hid (plus Z D) M) H') va acc ∧ I i acc) ⟨[], [], E1.enter hv hD, upd_same, .nil, i0⟩
          (fun H' ⟨va, acc, E', hd', ra, hI⟩ => ⟨⟨us, .of (veil_grow _ _ _ _ (E'.anch _ _ hs)), Nat.le_refl _⟩, ?_⟩) (fun i H' hi ⟨va, acc, E', hd', ra, hI⟩ => ?_)
        · have z := q D va acc ρ1 (wiped H' D) (ie acc (len ▸ hI)) (E'.leave E1.anch h0 nZ) wiped_at (dps_grow veil_in _ _ ra)
          rw [wiped_upd hd'] at z
          exact z
        · have s1 : SqL K H' a us := .of (veil_grow _ _ _ _ (E'.anch _ _ hs))
          have g1 : us[i]? = some us[i] := List.getElem?_eq_getElem (by omega)
          refine ⟨⟨us, _, s1, g1⟩, fun x H2 hy => ?_⟩
          obtain ⟨rfl, k1⟩ := hy
          obtain ⟨d, hd, dd⟩ := dqs_got r (k1 us s1)
          exact lc2_turn hin sg sl1 sg1 st se E' hv hd' h0 nB (dp_grow E'.anch _ _ dd) ra (is i d acc hd hI) fun H2 va' acc' E2 h2 r2 y2 => ⟨va', acc', E2, h2, r2, y2⟩
    | tuple ds =>
      obtain ⟨I, i0, is, ie⟩ := h1
      cases d1 with
      | @tup a us _ hs r =>
        have len := dqs_len r
        refine ⟨a, rfl, .inl ⟨⟨us, grow_t (veil_grow _ _) hs⟩, fun D hD => ?_⟩⟩
        obtain ⟨h0, nB, nZ⟩ := lc_start E1 hD
        refine walkW (n := us.length) (fun i H' => ∃ va acc, EnvR K B (plus Z D) (veil (hid Z M) H1) H0 M (wipe σ vs) H' ρ1 ∧ H' D = some (.lst va) ∧ Dqs K (veil (hid (plus Z D) M) H') va acc ∧ I i acc) ⟨[], [], E1.enter hv hD, upd_same, .nil, i0⟩
          (fun H' ⟨va, acc, E', hd', ra, hI⟩ => ⟨⟨us, grow_t (veil_grow _ _) (grow_t E'.anch hs), Nat.le_refl _⟩, ?_⟩) (fun i H' hi ⟨va, acc, E', hd', ra, hI⟩ => ?_)
        · have z := q D va acc ρ1 (wiped H' D) (ie acc (len ▸ hI)) (E'.leave E1.anch h0 nZ) wiped_at (dps_grow veil_in _ _ ra)
          rw [wiped_upd hd'] at z
          exact z
        · have s1 : SqT K H' a us := grow_t (veil_grow _ _) (grow_t E'.anch hs)
          have g1 : us[i]? = some us[i] := List.getElem?_eq_getElem (by omega)
          refine ⟨⟨us, _, s1, g1⟩, fun x H2 hy => ?_⟩
          obtain ⟨rfl, k1⟩ := hy
          obtain ⟨d, hd, dd⟩ := dqs_got r (k1 us s1)
          exact lc2_turn hin sg sl1 sg1 st se E' hv hd' h0 nB (dp_grow E'.anch _ _ dd) ra (is i d acc hd hI) fun H2 va' acc' E2 h2 r2 y2 => ⟨va', acc', E2, h2, r2, y2⟩
    | _ => exact h1.elim
end
end Pu
namespace Pu
open PySem L2
/-! t[::-1] of a tuple -/
theorem pick_rev (its : List Value) : (List.filterMap (fun k => its.toArray[((its.length : Int) - 1 + (k : Nat) * (-1)).toNat]?) (List.range its.length)) = its.reverse := by
  have h : ∀ n, n ≤ its.length → List.filterMap (fun k => its.toArray[((its.length : Int) - 1 + (k : Nat) * (-1)).toNat]?) (List.range n) = (its.reverse).take n := by
    intro n
    induction n with
    | zero => intro _; rfl
    | succ n ih =>
      intro hn
      rw [List.range_succ, List.filterMap_append, ih (by omega)]
      have e : ((its.length : Int) - 1 + (n : Nat) * (-1)).toNat = its.length - 1 - n := by omega
      have g : its.toArray[((its.length : Int) - 1 + (n : Nat) * (-1)).toNat]? = some its[its.length - 1 - n] := by
        rw [e, List.getElem?_toArray, List.getElem?_eq_getElem (by omega)]
      rw [List.take_succ]
      congr 1
      rw [List.filterMap_cons, g, List.getElem?_reverse (by omega), List.getElem?_eq_getElem (by omega)]
      rfl
  rw [h its.length (Nat.le_refl _), List.take_of_length_le (by rw [List.length_reverse]; exact Nat.le_refl _)]
theorem get_rev {prog : Program} {w : World} {A : Around} {E : Value → Shared → Prop} {s : Shared} {a sl : Addr} {its : List Value} {tk : Tok} {Q : Value → Shared → Prop} (ht : PyProof.Rows.IsTup s.heap a its.toArray) (hs : s.heap.IsSliceOf sl .none .none (.int (-1) tk)) (hz : its.length ≤ sizeLine)
    (q : Q (.ref s.heap.objs.size) { s with heap := s.heap.push { cls := .type "tuple", data := .seq its.reverse.toArray } }) : wpAny (model prog w) A (getItem (.ref a) (.ref sl)) Q E s := by
  refine getItem_meets (S := fun x R s => PyProof.Rows.IsTup s.heap a its.toArray ∧ s.heap.IsSliceOf sl .none .none (.int (-1) tk) ∧ R (Except.ok (Flow.ret (.ref s.heap.objs.size))) { s with heap := s.heap.push { cls := .type "tuple", data := .seq its.reverse.toArray } }) ht.typeIs rfl PyProof.Rows.slot_tuple_getitem PyProof.Rows.entry_tuple_getitem (PyProof.Rows.args_tuple_getitem _ _) ?_ ⟨ht, hs, q⟩
  intro prog w A R s ⟨ht, hs, q⟩
  obtain ⟨o, ho, hoc, n, hod⟩ := ht
  obtain ⟨z, hz1, hz2, hz3⟩ := hs
  unfold Builtin.«tuple.__getitem__»
  refine wpAny_bind ?_
  show wpAny _ _ (pure (Value.ref a, [Value.ref sl])) _ _ _
  refine wpAny_pure ?_
  show wpAny _ _ _ _ _ _
  dsimp only
  refine wpAny_bind ?_
  unfold Builtin.Tuple.tupleItemsOf
  refine wpAny_bind ?_
  unfold seqItems?
  refine wpAny_bind (wpAny_load ho ?_)
  rw [hod]
  refine wpAny_pure ?_
  dsimp only
  refine wpAny_pure ?_
  refine wpAny_bind (wpAny_typeOf_ref hz1 ?_)
  rw [hz2]
  rw [if_pos (by rfl)]
  unfold Builtin.Slice.sliceApplied
  refine wpAny_bind (wpAny_bind ?_)
  unfold Builtin.Slice.sliceFields
  refine wpAny_bind (wpAny_field hz1 hz3 rfl ?_)
  refine wpAny_bind (wpAny_field hz1 hz3 rfl ?_)
  refine wpAny_bind (wpAny_field hz1 hz3 rfl ?_)
  refine wpAny_pure ?_
  dsimp only
  refine wpAny_bind (HT.slicePart_ (.int (-1) tk) ?_)
  dsimp only [Option.getD]
  rw [if_neg (by decide)]
  refine wpAny_bind (HT.slicePart_ .none ?_)
  refine wpAny_bind (HT.slicePart_ .none ?_)
  refine wpAny_bind (wpAny_pure ?_)
  refine wpAny_pure ?_
  have e1 : (Builtin.Slice.sliceAdjust none none (-1) ↑its.toArray.size).1 = (its.length : Int) - 1 := rfl
  have e2 : (Builtin.Slice.sliceAdjust none none (-1) ↑its.toArray.size).2 = -1 := rfl
  have e3 : Builtin.Slice.slicePlaces ((its.length : Int) - 1) (-1) (-1) = its.length := by
    unfold Builtin.Slice.slicePlaces
    rw [if_neg (by decide)]
    by_cases h : (its.length : Int) - 1 > -1
    · rw [if_pos h]
      have : ((its.length : Int) - 1 - -1 - 1) / (- -1) = (its.length : Int) - 1 := by
        rw [show (- -1 : Int) = 1 from rfl, Int.ediv_one]; omega
      rw [this]; omega
    · rw [if_neg h]
      have : its.length = 0 := by omega
      rw [this]; rfl
  show wpAny _ _ (if ((Builtin.Slice.sliceAdjust none none (-1) ↑its.toArray.size).1 == 0 && (-1 : Int) == 1 && (Builtin.Slice.slicePlaces (Builtin.Slice.sliceAdjust none none (-1) ↑its.toArray.size).1 (Builtin.Slice.sliceAdjust none none (-1) ↑its.toArray.size).2 (-1)) == its.toArray.size) = true then _ else _) _ _ _
  rw [if_neg (by rw [show ((-1 : Int) == 1) = false from rfl, Bool.and_false, Bool.false_and]; decide)]
  dsimp only
  rw [e1, e2, e3, pick_rev]
  refine wpAny_bind ?_
  unfold Builtin.Tuple.tupleExact
  refine wpAny_newObj_type ?_ ?_
  · exact wpAny_pure q
  · show its.reverse.toArray.size ≤ sizeLine
    rw [List.size_toArray, List.length_reverse]
    exact hz
theorem pe_revT {X : Cx} {e : Expr} {te : TE} {k : Nat} {p1 p2 p3 pos : Pos} (hp : PE X e te) (hl : ∀ o r, letTemporaryGo e o r = pure () := by intros; rfl) : PE X (e.Subscript (.Slice none none (some (.UnaryOp .USub (.Constant (.int 1) k p1) p2)) p3) pos)
    (fun σ H Q => te σ H fun x H1 => ∃ a xs, x = V.ref a ∧ SqT X.K H1 a xs ∧ ∀ p, H1 p = none → Q (.ref p) (upd H1 p (.tup xs.reverse))) := ⟨fun pins s σ H Q I h => by
  rw [arm_eval_Subscript]
  refine wpAny_bind (wpAny_mono (hp.run pins s σ H _ I h) (fun v s1 ⟨y, H1, I1, ry, a, xs, ey, hx, q⟩ => ?_) (fun _ _ e => e))
  subst ey
  have ev : v = .ref a := ry
  subst ev
  refine wpAny_bind (wpAny_holding ?_)
  rw [arm_eval_Slice]
  refine wpAny_bind ?_
  show wpAny _ _ (pure Value.none) _ _ _
  refine wpAny_pure (wpAny_bind (wpAny_holding ?_))
  show wpAny _ _ (pure Value.none) _ _ _
  refine wpAny_pure (wpAny_bind (wpAny_holding ?_))
  show wpAny _ _ (eval (.UnaryOp .USub (.Constant (.int 1) k p1) p2) X.env) _ _ _
  have hs : PE X (.UnaryOp .USub (.Constant (.int 1) k p1) p2) _ := pe_un un_neg pe_int
  refine wpAny_mono (hs.run pins s1 σ H1 (fun v H' => v = .int (-1) ∧ H' = H1) I1 ⟨1, rfl, rfl, rfl⟩) (fun u s2 ⟨v, H2, I2, rv, e1, e2⟩ => ?_) (fun _ _ e => e)
  subst e1
  subst e2
  obtain ⟨tk, rfl⟩ := rv
  unfold newFields
  refine wpAny_newObj_type ?_
  refine wpAny_bind (wpAny_standAt ?_)
  have I3 : L2.Inv X pins σ H2 { heap := s2.heap.push { cls := .type "slice", data := .fields [Value.none, Value.none, Value.int (-1) tk].toArray }, gens := s2.gens, drawn := s2.drawn, toks := s2.toks, os := s2.os } := I2.kept fun b u h => Heap.get?_push_of_some _ h
  obtain ⟨its, rv, ht, hz⟩ := I3.tuple hx
  have hl2 : its.length ≤ sizeLine := by rw [← Vals.length rv]; exact hz
  refine PyProof.Rows.subscriptTail_ops (T := "tuple") ht.typeIs PyProof.Rows.slot_tuple_getitem.lookup (get_rev ht (Heap.IsSliceOf.new _ _ _ _) hl2 ?_) (ops := [Value.ref a, Value.ref s2.heap.objs.size]) rfl (hl _)
  have hp0 := HOk.fresh I3.hok (Nat.le_refl _)
  refine ⟨.ref _, _, I3.laid (o := .tup xs.reverse) (fun b u h => Heap.get?_push_of_some _ h) (Nat.le_refl _) ?_, rfl, q _ hp0⟩
  exact ⟨by rw [List.length_reverse]; exact hz, its.reverse, Vals.reverse rv, _, Heap.get?_push_size _ rfl, rfl, _, rfl⟩⟩
/-- t[::-1] of a tuple -/
def tRevT (K : PySem.W.Frag) (te : TE) : TE := fun σ H Q => te σ H fun x H1 => ∃ a xs, x = V.ref a ∧ SqT K H1 a xs ∧ ∀ p, H1 p = none → Q (.ref p) (upd H1 p (.tup xs.reverse))
theorem pe_rvT {X : Cx} {e : Expr} {te : TE} {k : Nat} {p1 p2 p3 pos : Pos} (hp : PE X e te) (hl : ∀ o r, letTemporaryGo e o r = pure () := by intros; rfl) : PE X (e.Subscript (.Slice none none (some (.UnaryOp .USub (.Constant (.int 1) k p1) p2)) p3) pos) (tRevT X.K te) := pe_revT hp hl
def pRevT (pa : PE') : PE' := fun ρ R => pa ρ fun x ρ1 => asT x fun ds => R (.tuple ds.reverse) ρ1
theorem dqs_rev {K : PySem.W.Frag} {H : Hp} : ∀ {vs : List V} {ds : List PyData}, Dqs K H vs ds → Dqs K H vs.reverse ds.reverse
  | _, _, .nil => .nil
  | _, _, .cons h r => by
    rw [List.reverse_cons, List.reverse_cons]
    exact dqs_app (dqs_rev r) (.cons h .nil)
theorem sim_revT {K : PySem.W.Frag} {ta : TE} {pa : PE'} (sa : Sim K ta pa) : Sim K (tRevT K ta) (pRevT pa) := fun B Z A H0 M σ H ρ R E h Q q =>
  sa B Z A H0 M σ H ρ _ E h _ fun v x ρ1 H1 h1 E1 d1 => by
    obtain ⟨ds, rfl, h2⟩ := asT_of h1
    cases d1 with
    | @tup a vs _ hs r =>
      exact ⟨a, vs, rfl, grow_t (veil_grow _ _) hs, fun p hp => q _ _ _ _ h2 (E1.grown (grow_new hp)) (.new (E1.veiled hp) hp (dqs_rev r))⟩
end Pu
namespace Pu
open PySem L2
/-! list(range(a, b)) -/
def rgD (a b : Int) : List PyData := (List.range (b - a).toNat).map fun i => PyData.int (a + ((i : Nat) : Int))
def pLstRg (pa pb : PE') : PA' := fun ρ R => pa ρ fun x ρ1 => pb ρ1 fun y ρ2 => asI x fun a => asI y fun b => RgOk a b ∧ R (rgD a b) ρ2
theorem dqs_rg {K : PySem.W.Frag} {H : Hp} {a b : Int} : Dqs K H (rgV a b) (rgD a b) := by
  unfold rgV rgD
  generalize List.range (b - a).toNat = l
  induction l with
  | nil => exact .nil
  | cons x l ih => exact .cons (.int _) ih
theorem sim_lstRg {K : PySem.W.Frag} {ta tb : TE} {pa pb : PE'} (sa : Sim K ta pa) (sb : Sim K tb pb) : SimL K (tLstRg (tRg2 ta tb)) (pLstRg pa pb) := fun B Z A H0 M σ H ρ R E h Q q =>
  two sa sb E h fun v w x y ρ2 H2 h2 E2 d1 d2 => by
    obtain ⟨a, rfl, h3⟩ := asI_of h2
    obtain ⟨b, rfl, h4, h5⟩ := asI_of h3
    exact ⟨a, b, of_int d1, of_int d2, h4, fun p hp => q p _ _ _ _ h5 E2 hp dqs_rg⟩
end Pu
/-! list(zip(xs, ys)) of two lists -/
namespace ZL
open PySem PySem.W PySem.Calls PyProof.Rows PyProof.V PySem.Spec
abbrev IsZipO (h : Heap) (z TI TO T : Addr) (f : Bool) : Prop :=
  h.get? z = some { cls := .type "zip", dict := none, data := .fields #[rawInt T, .bool f, .bool false, .ref TI, .ref TO], slots := #[] }
section
variable {prog : Program} {w : World} {A : Around} {E : Value → Shared → Prop} {s : Shared}
theorem zo_alive {a : Addr} {o : Obj} {Q : Option Obj → Shared → Prop} (ho : s.heap.get? a = some o) (h : Q (some o) s) : wpAny (model prog w) A (loadIfAlive a) Q E s := by
  have h' : Q (s.heap.get? a) s := by rw [ho]; exact h
  exact fun _ _ _ => h'
theorem zo_free {z TI TO T : Addr} {f : Bool} {oT : Obj} {Q : Bool → Shared → Prop} (hz : IsZipO s.heap z TI TO T f) (hT : s.heap.get? T = some oT)
    (hQ : ∀ h', IsZipO h' z TI TO T true → Heap.SameBut z s.heap h' → Q false { s with heap := h' }) : wpAny (model prog w) A (Builtin.SmallTypes.ownedTupleIsFree (.ref z)) Q E s := by
  unfold Builtin.SmallTypes.ownedTupleIsFree
  refine wpAny_bind (wpAny_field hz rfl (x := rawInt T) rfl ?_)
  show wpAny _ _ (loadIfAlive ((T : Int).toNat) >>= _) _ _ _
  rw [Int.toNat_natCast]
  refine wpAny_bind (zo_alive hT ?_)
  simp only [Option.isNone_some, Bool.false_eq_true, if_false]
  refine wpAny_bind (wpAny_field hz rfl (x := .bool f) rfl ?_)
  cases f with
  | true =>
    rw [if_neg (show ¬ ((Value.bool true != Value.bool true) = true) from Bool.false_ne_true)]
    exact wpAny_pure (hQ s.heap hz (Heap.SameBut.refl _ _))
  | false =>
    rw [if_pos (show (Value.bool false != Value.bool true) = true from rfl)]
    refine wpAny_bind (wpAny_setField_rec hz (by simp) fun h₃ he₃ hs₃ => ?_)
    exact wpAny_pure (hQ h₃ he₃ hs₃)
theorem zo_next_item {z TI TO i1 i2 l1 l2 T : Addr} {f : Bool} {oT : Obj} {k1 k2 : Nat} {xs ys : Array Value} {x y : Value} {Q : Value → Shared → Prop} (D : ZipApart z TI TO i1 i2 l1 l2)
    (hz : IsZipO s.heap z TI TO T f) (hTI : IsPair s.heap TI (.ref i1) (.ref i2)) (hT : s.heap.get? T = some oT)
    (h1 : s.heap.IsListIter i1 l1 k1) (h2 : s.heap.IsListIter i2 l2 k2) (hl1 : s.heap.IsList l1 xs) (hl2 : s.heap.IsList l2 ys) (hx : xs[k1]? = some x) (hy : ys[k2]? = some y)
    (hQ : ∀ h', IsZipO h' z TI TO T true → h'.IsListIter i1 l1 (k1 + 1) → h'.IsListIter i2 l2 (k2 + 1) → IsPair h' s.heap.objs.size x y → h'.objs.size = s.heap.objs.size + 1 →
      (∀ c o, c ≠ z → c ≠ i1 → c ≠ i2 → s.heap.get? c = some o → h'.get? c = some o) → Q (.ref s.heap.objs.size) { s with heap := h' }) :
    wpAny (model prog w) A (Builtin.«zip.__next__» ⟨[.ref z], []⟩) (fun fin s' => ∃ v, fin = .done (.ret v) ∧ Q v s') E s := by
  show wpAny _ _ (field (.ref z) 2 >>= _) _ _ _
  refine wpAny_bind (wpAny_field hz rfl (x := .bool false) rfl ?_)
  show wpAny _ _ (field (.ref z) 3 >>= _) _ _ _
  refine wpAny_bind (wpAny_field hz rfl (x := .ref TI) rfl ?_)
  refine wpAny_bind (wpAny_seqItems hTI rfl ?_)
  show wpAny _ _ (Builtin.SmallTypes.ownedTupleIsFree (.ref z) >>= _) _ _ _
  refine wpAny_bind (zo_free hz hT fun h₁ hz₁ hs₁ => ?_)
  simp only [Bool.false_eq_true, if_false]
  refine wpAny_bind ?_
  simp only [List.forIn_toArray, List.forIn_cons, List.forIn_nil]
  refine wpAny_bind (wpAny_bind (wpAny_holding ?_))
  show wpAny _ _ (Builtin.SmallTypes.nextOf (.ref i1) >>= _) _ _ _
  refine wpAny_bind (wpAny_nextOf_list_item (h1.extBut hs₁.extBut D.i1z) (hl1.extBut hs₁.extBut D.l1z) hx fun h₂ h1₂ hs₂ => wpAny_pure ?_)
  refine wpAny_pure ?_
  dsimp only
  refine wpAny_bind (wpAny_bind (wpAny_holding ?_))
  show wpAny _ _ (Builtin.SmallTypes.nextOf (.ref i2) >>= _) _ _ _
  refine wpAny_bind (wpAny_nextOf_list_item ((h2.extBut hs₁.extBut D.i2z).extBut hs₂.extBut D.i12.symm)
    ((hl2.extBut hs₁.extBut D.l2z).extBut hs₂.extBut D.l2i1) hy fun h₄ h2₄ hs₄ => wpAny_pure ?_)
  refine wpAny_pure ?_
  dsimp only
  refine wpAny_pure ?_
  dsimp only
  refine wpAny_bind (wpAny_newTuple ?_ (by show 2 ≤ sizeLine; decide))
  have hsz : h₄.objs.size = s.heap.objs.size := by rw [hs₄.1, hs₂.1, hs₁.1]
  have up : ∀ c o, c ≠ z → c ≠ i1 → c ≠ i2 → s.heap.get? c = some o → h₄.get? c = some o := fun c o c1 c3 c4 e =>
    hs₄.extBut _ _ c4 (hs₂.extBut _ _ c3 (hs₁.extBut _ _ c1 e))
  refine wpAny_pure ⟨_, rfl, ?_⟩
  show Q (.ref h₄.objs.size) _
  rw [hsz]
  refine hQ _ (Heap.get?_push_of_some _ (hs₄.extBut _ _ D.i2z.symm (hs₂.extBut _ _ D.i1z.symm hz₁))) ((h1₂.extBut hs₄.extBut D.i12).at fun o e => Heap.get?_push_of_some _ e) (h2₄.at fun o e => Heap.get?_push_of_some _ e) ?_ (by show (h₄.push _).objs.size = _; rw [Heap.size_push, hsz]) fun c o c1 c3 c4 e => Heap.get?_push_of_some _ (up c o c1 c3 c4 e)
  show (h₄.push _).get? s.heap.objs.size = _
  rw [← hsz]
  exact Heap.get?_push_size _ rfl
theorem zo_next_end {z TI TO i1 i2 l1 l2 T : Addr} {f : Bool} {oT : Obj} {k1 k2 : Nat} {xs ys : Array Value} {Q : Fin → Shared → Prop} (hh : A.handled = none) (D : ZipApart z TI TO i1 i2 l1 l2)
    (hz : IsZipO s.heap z TI TO T f) (hTI : IsPair s.heap TI (.ref i1) (.ref i2)) (hT : s.heap.get? T = some oT)
    (h1 : s.heap.IsListIter i1 l1 k1) (h2 : s.heap.IsListIter i2 l2 k2) (hl1 : s.heap.IsList l1 xs) (hl2 : s.heap.IsList l2 ys) (hend : xs[k1]? = none ∨ ys[k2]? = none)
    (hE : ∀ h' e, (∀ c o, c ≠ z → c ≠ i1 → c ≠ i2 → s.heap.get? c = some o → h'.get? c = some o) → (∃ o, h'.get? e = some o ∧ o.cls = .type "StopIteration") → E (.ref e) { s with heap := h' }) :
    wpAny (model prog w) A (Builtin.«zip.__next__» ⟨[.ref z], []⟩) Q E s := by
  show wpAny _ _ (field (.ref z) 2 >>= _) _ _ _
  refine wpAny_bind (wpAny_field hz rfl (x := .bool false) rfl ?_)
  show wpAny _ _ (field (.ref z) 3 >>= _) _ _ _
  refine wpAny_bind (wpAny_field hz rfl (x := .ref TI) rfl ?_)
  refine wpAny_bind (wpAny_seqItems hTI rfl ?_)
  show wpAny _ _ (Builtin.SmallTypes.ownedTupleIsFree (.ref z) >>= _) _ _ _
  refine wpAny_bind (zo_free hz hT fun h₁ hz₁ hs₁ => ?_)
  simp only [Bool.false_eq_true, if_false]
  refine wpAny_bind ?_
  simp only [List.forIn_toArray, List.forIn_cons, List.forIn_nil]
  refine wpAny_bind (wpAny_bind (wpAny_holding ?_))
  show wpAny _ _ (Builtin.SmallTypes.nextOf (.ref i1) >>= _) _ _ _
  cases hx : xs[k1]? with
  | none =>
    exact wpAny_bind (wpAny_nextOf_list_end hh (h1.extBut hs₁.extBut D.i1z) (hl1.extBut hs₁.extBut D.l1z) hx fun h₂ e hs₂ he => hE h₂ e (fun c o c1 c3 c4 x => hs₂ _ _ c3 (hs₁.extBut _ _ c1 x)) he)
  | some x =>
    have hy : ys[k2]? = none := by rcases hend with h | h; rw [hx] at h; cases h; exact h
    refine wpAny_bind (wpAny_nextOf_list_item (h1.extBut hs₁.extBut D.i1z) (hl1.extBut hs₁.extBut D.l1z) hx fun h₂ h1₂ hs₂ => wpAny_pure ?_)
    refine wpAny_pure ?_
    dsimp only
    refine wpAny_bind (wpAny_bind (wpAny_holding ?_))
    show wpAny _ _ (Builtin.SmallTypes.nextOf (.ref i2) >>= _) _ _ _
    exact wpAny_bind (wpAny_nextOf_list_end hh ((h2.extBut hs₁.extBut D.i2z).extBut hs₂.extBut D.i12.symm) ((hl2.extBut hs₁.extBut D.l2z).extBut hs₂.extBut D.l2i1) hy fun h₄ e hs₄ he =>
      hE h₄ e (fun c o c1 c3 c4 x => hs₄ _ _ c4 (hs₂.extBut _ _ c3 (hs₁.extBut _ _ c1 x))) he)
/-- the state of the walk -/
def ZSt (h : Heap) (z TI TO i1 i2 S : Addr) (i : Nat) : Prop :=
  (i = 0 ∧ IsZip h z TI TO .none ∧ ∃ a b, IsPair h TO a b) ∨ ∃ T f oT, IsZipO h z TI TO T f ∧ h.get? T = some oT ∧ T ≠ z ∧ T ≠ i1 ∧ T ≠ i2 ∧ T ≠ S
theorem ZSt.keep {h h' : Heap} {z TI TO i1 i2 S : Addr} {i : Nat} (x : ZSt h z TI TO i1 i2 S i) (hk : ∀ b o, b ≠ S → h.get? b = some o → h'.get? b = some o) (hz : z ≠ S) (hTO : TO ≠ S) : ZSt h' z TI TO i1 i2 S i := by
  rcases x with ⟨e, a, b, c, d⟩ | ⟨T, f, oT, a, b, c, d, e, g⟩
  · exact .inl ⟨e, hk _ _ hz a, b, c, hk _ _ hTO d⟩
  · exact .inr ⟨T, f, oT, hk _ _ hz a, hk _ _ g b, c, d, e, g⟩
theorem z_item {z TI TO i1 i2 l1 l2 S : Addr} {i : Nat} {xs ys : Array Value} {x y : Value} {Q : Option Value → Shared → Prop} (D : ZipApart z TI TO i1 i2 l1 l2) (hst : ZSt s.heap z TI TO i1 i2 S i) (hS : S < s.heap.objs.size)
    (hTI : IsPair s.heap TI (.ref i1) (.ref i2)) (h1 : s.heap.IsListIter i1 l1 i) (h2 : s.heap.IsListIter i2 l2 i) (hl1 : s.heap.IsList l1 xs) (hl2 : s.heap.IsList l2 ys) (hx : xs[i]? = some x) (hy : ys[i]? = some y)
    (hQ : ∀ h', ZSt h' z TI TO i1 i2 S (i + 1) → h'.IsListIter i1 l1 (i + 1) → h'.IsListIter i2 l2 (i + 1) → IsPair h' s.heap.objs.size x y → h'.objs.size = s.heap.objs.size + 1 →
      (∀ c o, c ≠ z → c ≠ TO → c ≠ i1 → c ≠ i2 → s.heap.get? c = some o → h'.get? c = some o) → Q (some (.ref s.heap.objs.size)) { s with heap := h' }) :
    wpAny (model prog w) A (pyNext (.ref z)) Q E s := by
  have i1l : i1 < s.heap.objs.size := by obtain ⟨_, e, _⟩ := h1; exact Heap.lt_size e
  have i2l : i2 < s.heap.objs.size := by obtain ⟨_, e, _⟩ := h2; exact Heap.lt_size e
  rcases hst with ⟨rfl, hz, a, b, hTO⟩ | ⟨T, f, oT, hz, hT, t1, t2, t3, t4⟩
  · exact wpAny_pyNext_zip_item D hz hTI hTO h1 h2 hl1 hl2 hx hy fun h' a1 a2 a3 a4 a5 a6 a7 => hQ h' (.inr ⟨_, false, _, a1, a5, Nat.ne_of_gt (Heap.lt_size hz), Nat.ne_of_gt i1l, Nat.ne_of_gt i2l, Nat.ne_of_gt hS⟩) a3 a4 a5 a6 a7
  · have hTy : s.TypeIs (.ref z) "zip" := ⟨_, hz, rfl⟩
    unfold pyNext
    exact wpAny_bind (wpAny_attempt (wpAny_callSpecial?_slot (name := Str.ofString "__next__") hTy F.slot_zip_next
      (wpAny_call_entry F.slot_zip_next hTy F.entry_zip_next
        (zo_next_item D hz hTI hT h1 h2 hl1 hl2 hx hy fun h' a1 a3 a4 a5 a6 a7 => wpAny_pure (hQ h' (.inr ⟨T, true, oT, a1, a7 _ _ t1 t2 t3 hT, t1, t2, t3, t4⟩) a3 a4 a5 a6 fun c o c1 _ c3 c4 e => a7 c o c1 c3 c4 e)) (F.args_zip_next_1 _))))
theorem z_end {z TI TO i1 i2 l1 l2 S : Addr} {i : Nat} {xs ys : Array Value} {Q : Option Value → Shared → Prop} (hh : A.handled = none) (D : ZipApart z TI TO i1 i2 l1 l2) (hst : ZSt s.heap z TI TO i1 i2 S i)
    (hTI : IsPair s.heap TI (.ref i1) (.ref i2)) (h1 : s.heap.IsListIter i1 l1 i) (h2 : s.heap.IsListIter i2 l2 i) (hl1 : s.heap.IsList l1 xs) (hl2 : s.heap.IsList l2 ys) (hend : xs[i]? = none ∨ ys[i]? = none)
    (hQ : ∀ h', (∀ c o, c ≠ z → c ≠ TO → c ≠ i1 → c ≠ i2 → s.heap.get? c = some o → h'.get? c = some o) → Q none { s with heap := h' }) : wpAny (model prog w) A (pyNext (.ref z)) Q E s := by
  rcases hst with ⟨rfl, hz, a, b, hTO⟩ | ⟨T, f, oT, hz, hT, t1, t2, t3, t4⟩
  · exact wpAny_pyNext_zip_end hh D hz hTI hTO h1 h2 hl1 hl2 hend hQ
  · have hTy : s.TypeIs (.ref z) "zip" := ⟨_, hz, rfl⟩
    unfold pyNext
    refine wpAny_bind (wpAny_attempt (wpAny_callSpecial?_slot (name := Str.ofString "__next__") hTy F.slot_zip_next
      (wpAny_call_entry F.slot_zip_next hTy F.entry_zip_next (zo_next_end hh D hz hTI hT h1 h2 hl1 hl2 hend fun h' e hk he => ?_) (F.args_zip_next_1 _))))
    obtain ⟨o, ho, hc⟩ := he
    refine wpAny_bind (wpAny_isInstance (T := "StopIteration") (b := true) ⟨o, ho, hc⟩ isSubtype_stop ?_)
    exact wpAny_pure (hQ _ fun c o c1 _ c3 c4 e => hk c o c1 c3 c4 e)
/-- the pairs so far -/
structure ZG (xs ys : Array Value) (lo : Addr) (h : Heap) (as : List Addr) : Prop where
  rise : as.Pairwise (· < ·)
  above : ∀ a ∈ as, lo < a
  pairs : ∀ (j : Nat) (a : Addr), as[j]? = some a → ∃ x y, xs[j]? = some x ∧ ys[j]? = some y ∧ IsPair h a x y
theorem ZG.there {xs ys : Array Value} {lo : Addr} {h : Heap} {as : List Addr} (g : ZG xs ys lo h as) {a : Addr} (ha : a ∈ as) : a < h.objs.size := by
  obtain ⟨j, hj⟩ := List.mem_iff_getElem?.mp ha
  obtain ⟨_, _, _, _, e⟩ := g.pairs j a hj
  exact Heap.lt_size e
end
section
variable {prog : Program} {w : World} {A : Around} {s : Shared} {R : Result → Shared → Prop} {xs ys : Array Value}
theorem off_lo {a lo z : Addr} (h : lo < a) (k : z ≤ lo) : a ≠ z := Nat.ne_of_gt (Nat.lt_of_le_of_lt k h)
/-- the five addresses of a zip lie from lo to lo + 4 -/
theorem z_loop {S z TI TO i1 i2 l1 l2 lo : Addr} (hh : A.handled = none) (D : ZipApart z TI TO i1 i2 l1 l2) (up5 : z ≤ lo ∧ TI ≤ lo ∧ TO ≤ lo ∧ i1 ≤ lo ∧ i2 ≤ lo) (nS : S ≠ z ∧ S ≠ TI ∧ S ≠ TO ∧ S ≠ i1 ∧ S ≠ i2 ∧ S ≠ l1 ∧ S ≠ l2) (hSlo : S ≤ lo)
    {n : Nat} (en : n = min xs.size ys.size) (hn : n ≤ sizeLine) (res : Value) {h₁ : Heap}
    (hR : ∀ h' tk acc c as, (∀ b o, b ≠ S → b ≠ z → b ≠ TO → b ≠ i1 → b ≠ i2 → h₁.get? b = some o → h'.get? b = some o) → h'.get? S = some { cls := .type "list", dict := none, data := .seq acc c, slots := #[] } → as.length = n → ZG xs ys lo h' as →
      acc.toList = as.map Value.ref → R (.ok (.ret res)) { s with heap := h', toks := tk }) :
    ∀ (k i : Nat) (h : Heap) (tk c : Nat) (acc : Array Value) (as : List Addr), n - i = k → i ≤ n → ZSt h z TI TO i1 i2 S i → IsPair h TI (.ref i1) (.ref i2) → h.IsListIter i1 l1 i → h.IsListIter i2 l2 i → h.IsList l1 xs → h.IsList l2 ys →
      (∀ b o, b ≠ S → b ≠ z → b ≠ TO → b ≠ i1 → b ≠ i2 → h₁.get? b = some o → h.get? b = some o) →
      h.get? S = some { cls := .type "list", dict := none, data := .seq acc c, slots := #[] } → acc.toList = as.map Value.ref → as.length = i → ZG xs ys lo h as → lo < h.objs.size →
      codeAny (model prog w) A (.builtin "list.extend.loop" ⟨[.ref S, .ref z, res], []⟩) R { s with heap := h, toks := tk } := by
  obtain ⟨n1, n2, n3, n4, n5, n6, n7⟩ := nS
  intro k
  induction k with
  | zero =>
    intro i h tk c acc as hk hi hst hTI h1 h2 hl1 hl2 hkeep hS hacc hal hG hIs
    have hin : i = n := by omega
    refine codeAny_builtin PySem.F.entry_extend_loop ?_
    rw [Around.under_plainId PySem.F.plain_extend_loop _]
    show wpAny _ A.in1 (pyNext (.ref z) >>= _) _ _ _
    have he : xs[i]? = none ∨ ys[i]? = none := by
      rcases Nat.le_total xs.size ys.size with h | h
      · exact .inl (Array.getElem?_eq_none (by omega))
      · exact .inr (Array.getElem?_eq_none (by omega))
    refine wpAny_bind (z_end (s := { s with heap := h, toks := tk }) (A := A.in1) hh D hst hTI h1 h2 hl1 hl2 he fun h' hk' => ?_)
    refine wpAny_pure (hR h' tk acc c as (fun b o a1 a2 a3 a4 a5 e => hk' b o a2 a3 a4 a5 (hkeep b o a1 a2 a3 a4 a5 e)) (hk' S _ n1 n3 n4 n5 hS) (by omega) ⟨hG.rise, hG.above, fun j a hj => ?_⟩ hacc)
    obtain ⟨x, y, e1, e2, e3⟩ := hG.pairs j a hj
    have := hG.above a (List.mem_of_getElem? hj)
    exact ⟨x, y, e1, e2, hk' a _ (off_lo this up5.1) (off_lo this up5.2.2.1) (off_lo this up5.2.2.2.1) (off_lo this up5.2.2.2.2) e3⟩
  | succ k ih =>
    intro i h tk c acc as hk hi hst hTI h1 h2 hl1 hl2 hkeep hS hacc hal hG hIs
    have hlt : i < n := by omega
    have hix : i < xs.size := by omega
    have hiy : i < ys.size := by omega
    have hsz : acc.size = i := by rw [← Array.length_toList, hacc, List.length_map, hal]
    refine codeAny_builtin PySem.F.entry_extend_loop ?_
    rw [Around.under_plainId PySem.F.plain_extend_loop _]
    show wpAny _ A.in1 (pyNext (.ref z) >>= _) _ _ _
    have hSl : S < h.objs.size := Heap.lt_size hS
    refine wpAny_bind (z_item (s := { s with heap := h, toks := tk }) D hst hSl hTI h1 h2 hl1 hl2 (Array.getElem?_eq_getElem hix) (Array.getElem?_eq_getElem hiy) fun h' hst' h1' h2' ht hz hkp => ?_)
    dsimp only at ht hz hkp ⊢
    have hS' := hkp S _ n1 n3 n4 n5 hS
    have up : ∀ b o, b ≠ S → h'.get? b = some o → (h'.update S (Obj.mapSeq (·.push (Value.ref h.objs.size)))).get? b = some o := fun b o hb e => (Heap.get?_update_other _ _ (Ne.symm hb)).trans e
    show wpAny _ A.in1 (updateSeq S (·.push (Value.ref h.objs.size)) >>= _) _ _ _
    refine wpAny_bind ?_
    refine wpAny_updateSeq hS' rfl (wpAny_pure ⟨plainId_quiet PySem.F.plain_extend_loop _, ih (i + 1) _ tk _ (acc.push (Value.ref h.objs.size)) (as ++ [h.objs.size]) (by omega) hlt (hst'.keep up (Ne.symm n1) (Ne.symm n3)) (up _ _ (Ne.symm n2) (hkp _ _ D.TIz D.TITO D.TIi1 D.TIi2 hTI))
      (h1'.at fun o e => up _ o (Ne.symm n4) e) (h2'.at fun o e => up _ o (Ne.symm n5) e) (hl1.at fun o e => up _ o (Ne.symm n6) (hkp _ o D.l1z D.l1TO D.l1i1 D.l1i2 e)) (hl2.at fun o e => up _ o (Ne.symm n7) (hkp _ o D.l2z D.l2TO D.l2i1 D.l2i2 e))
      (fun b o a1 a2 a3 a4 a5 e => up b o a1 (hkp b o a2 a3 a4 a5 (hkeep b o a1 a2 a3 a4 a5 e))) (Heap.get?_update_self _ hS' rfl) (by rw [Array.toList_push, hacc, List.map_append]; rfl) (by rw [List.length_append, hal]; rfl) ⟨?_, ?_, ?_⟩ ?_⟩) (by rw [hsz]; omega) (by show (acc.push (Value.ref h.objs.size)).size ≤ sizeLine + 1; rw [Array.size_push, hsz]; omega)
    · refine List.pairwise_append.mpr ⟨hG.rise, List.pairwise_singleton _ _, fun a ha b hb => ?_⟩
      rw [List.mem_singleton.mp hb]
      exact hG.there ha
    · intro a ha
      rcases List.mem_append.mp ha with ha | ha
      · exact hG.above a ha
      · rw [List.mem_singleton.mp ha]; exact hIs
    · intro j b hj
      rcases Nat.lt_trichotomy j as.length with q1 | q1 | q1
      · rw [List.getElem?_append_left q1] at hj
        obtain ⟨x', y', e1, e2, e3⟩ := hG.pairs j b hj
        have hb := hG.above b (List.mem_of_getElem? hj)
        exact ⟨x', y', e1, e2, up b _ (off_lo hb hSlo) (hkp b _ (off_lo hb up5.1) (off_lo hb up5.2.2.1) (off_lo hb up5.2.2.2.1) (off_lo hb up5.2.2.2.2) e3)⟩
      · subst q1
        have hb : h.objs.size = b := by simpa using hj
        subst hb
        exact ⟨xs[i], ys[i], by rw [hal]; exact Array.getElem?_eq_getElem hix, by rw [hal]; exact Array.getElem?_eq_getElem hiy, up _ _ (Nat.ne_of_gt hSl) ht⟩
      · have hnone : (as ++ [h.objs.size])[j]? = none := List.getElem?_eq_none (by rw [List.length_append, List.length_singleton]; omega)
        rw [hnone] at hj; cases hj
    · have e : (h'.update S (Obj.mapSeq (·.push (Value.ref h.objs.size)))).get? h.objs.size = _ := up _ _ (Nat.ne_of_gt hSl) ht
      exact Nat.lt_trans hIs (Heap.lt_size e)
end
theorem nolen_zip : typeLookup (.type "zip") "__len__" = pure none := by rw [typeLookup_type, builtinLookup_eq_fast]; kernel_rfl
theorem nohint_zip : typeLookup (.type "zip") "__length_hint__" = pure none := by rw [typeLookup_type, builtinLookup_eq_fast]; kernel_rfl
section
variable {prog : Program} {w : World} {A : Around} {E : Value → Shared → Prop} {s : Shared} {xs ys : Array Value}
theorem z_hint {z : Addr} (hT : s.TypeIs (.ref z) "zip") {Q : Bool → Shared → Prop} (h : Q true s) : wpAny (model prog w) A (Builtin.List.listLengthHint (.ref z)) Q E s := by
  unfold Builtin.List.listLengthHint
  refine wpAny_bind (wpAny_specialOf hT nolen_zip ?_)
  show wpAny _ A (specialOf (Value.ref z) (Str.ofString "__length_hint__") >>= _) _ _ _
  refine wpAny_bind (wpAny_specialOf hT nohint_zip ?_)
  exact wpAny_pure h
/-- a zip that was just made -/
structure ZNew (h : Heap) (z TI TO i1 i2 l1 l2 : Addr) (xs ys : Array Value) : Prop where
  ap : ZipApart z TI TO i1 i2 l1 l2
  zip : IsZip h z TI TO .none
  ti : IsPair h TI (.ref i1) (.ref i2)
  to_ : IsPair h TO .none .none
  h1 : h.IsListIter i1 l1 0
  h2 : h.IsListIter i2 l2 0
  a1 : h.IsList l1 xs
  a2 : h.IsList l2 ys
theorem ZNew.at {h h' : Heap} {z TI TO i1 i2 l1 l2 : Addr} (N : ZNew h z TI TO i1 i2 l1 l2 xs ys) (k : ∀ b o, h.get? b = some o → b = z ∨ b = TI ∨ b = TO ∨ b = i1 ∨ b = i2 ∨ b = l1 ∨ b = l2 → h'.get? b = some o) : ZNew h' z TI TO i1 i2 l1 l2 xs ys :=
  ⟨N.ap, k _ _ N.zip (by simp), k _ _ N.ti (by simp), k _ _ N.to_ (by simp), N.h1.at fun o e => k _ o e (by simp), N.h2.at fun o e => k _ o e (by simp), N.a1.at fun o e => k _ o e (by simp), N.a2.at fun o e => k _ o e (by simp)⟩
theorem z_extend {R : Result → Shared → Prop} {z TI TO i1 i2 l1 l2 S : Addr} (hh : A.handled = none) (N : ZNew s.heap z TI TO i1 i2 l1 l2 xs ys) (up5 : z ≤ s.heap.objs.size ∧ TI ≤ s.heap.objs.size ∧ TO ≤ s.heap.objs.size ∧ i1 ≤ s.heap.objs.size ∧ i2 ≤ s.heap.objs.size)
    (nS : S ≠ z ∧ S ≠ TI ∧ S ≠ TO ∧ S ≠ i1 ∧ S ≠ i2 ∧ S ≠ l1 ∧ S ≠ l2) (res : Value) (c₀ : Nat) (hS : s.heap.get? S = some { cls := .type "list", data := .seq #[] c₀ }) {lo : Addr} (up6 : z ≤ lo ∧ TI ≤ lo ∧ TO ≤ lo ∧ i1 ≤ lo ∧ i2 ≤ lo) (hSlo : S ≤ lo) (hlo : lo < s.heap.objs.size) (hn : min xs.size ys.size ≤ sizeLine)
    (hR : ∀ h' tk acc c as, (∀ b o, b ≠ S → b ≠ z → b ≠ TO → b ≠ i1 → b ≠ i2 → s.heap.get? b = some o → h'.get? b = some o) → h'.get? S = some { cls := .type "list", dict := none, data := .seq acc c, slots := #[] } → as.length = min xs.size ys.size → ZG xs ys lo h' as →
      acc.toList = as.map Value.ref → R (.ok (.ret res)) { s with heap := h', toks := tk }) :
    wpAny (model prog w) A.in1 (Builtin.List.listExtendWith (.ref S) (.ref z) res)
      (fun fin s' => match fin with | .done f => R (.ok f) s' | .again c' => c'.quiet = true ∧ codeAny (model prog w) A c' R s') (fun e s' => R (.error e) s') s := by
  obtain ⟨n1, n2, n3, n4, n5, n6, n7⟩ := id nS
  have hT : s.TypeIs (.ref z) "zip" := ⟨_, N.zip, rfl⟩
  unfold Builtin.List.listExtendWith
  refine wpAny_bind (wpAny_typeOf (T := "zip") hT ?_)
  have h1 : Builtin.List.listSameRef (.ref S) (.ref z) = false := by simp [Builtin.List.listSameRef, n1]
  have h2 : (Value.type "zip" == Value.type "list") = false := by decide
  have h3 : (Value.type "zip" == Value.type "tuple") = false := by decide
  simp only [h1, h2, h3, Bool.or_false, Bool.false_eq_true, if_false]
  refine wpAny_bind (wpAny_pyIter_zip N.zip ?_)
  refine wpAny_bind (wpAny_holding (z_hint hT ?_))
  refine wpAny_ite_split (fun _ => ?_) (fun q => absurd rfl q)
  refine wpAny_bind (wpAny_rule ?_)
  refine wpAny_bind ?_
  show wpAny _ _ (updateSeq S (·.push .none) >>= fun _ => updateSeq S (·.pop)) _ _ _
  refine wpAny_bind (wpAny_updateSeq hS rfl ?_)
  have hS₂ := Heap.get?_update_self (Obj.mapSeq (·.push Value.none)) hS rfl
  refine wpAny_updateSeq (hz := by seq_fits) hS₂ rfl ?_
  have hS₃ := Heap.get?_update_self (Obj.mapSeq (·.pop)) hS₂ rfl
  have oth : ∀ b o, b ≠ S → s.heap.get? b = some o → ((s.heap.update S (Obj.mapSeq (·.push Value.none))).update S (Obj.mapSeq (·.pop))).get? b = some o := fun b o hb e =>
    (Heap.get?_update_other _ _ (Ne.symm hb)).trans ((Heap.get?_update_other _ _ (Ne.symm hb)).trans e)
  have N2 := N.at fun b o e q => oth b o (by rcases q with q | q | q | q | q | q | q <;> rw [q] <;> exact Ne.symm ‹_›) e
  refine wpAny_pure ⟨plainId_quiet PySem.F.plain_extend_loop _, ?_⟩
  refine z_loop (s := s) (h₁ := s.heap) hh N.ap up6 nS hSlo rfl hn res hR _ 0 _ _ _ #[] [] (Nat.sub_zero _) (Nat.zero_le _) (.inl ⟨rfl, N2.zip, _, _, N2.to_⟩) N2.ti N2.h1 N2.h2 N2.a1 N2.a2 (fun b o hb _ _ _ _ e => oth b o hb e) hS₃ rfl rfl
    ⟨List.Pairwise.nil, (fun _ ha => nomatch ha), (fun j a hj => by simp at hj)⟩ ?_
  show lo < ((s.heap.update S (Obj.mapSeq (·.push Value.none))).update S (Obj.mapSeq (·.pop))).objs.size
  rw [(Heap.SameBut.update ..).1, (Heap.SameBut.update ..).1]
  exact hlo
theorem z_init {R : Result → Shared → Prop} {z TI TO i1 i2 l1 l2 S : Addr} (hh : A.handled = none) (N : ZNew s.heap z TI TO i1 i2 l1 l2 xs ys)
    (nS : S ≠ z ∧ S ≠ TI ∧ S ≠ TO ∧ S ≠ i1 ∧ S ≠ i2 ∧ S ≠ l1 ∧ S ≠ l2) (hS : s.heap.get? S = some { cls := .type "list", data := .seq #[] }) {lo : Addr} (up6 : z ≤ lo ∧ TI ≤ lo ∧ TO ≤ lo ∧ i1 ≤ lo ∧ i2 ≤ lo) (hSlo : S ≤ lo) (hlo : lo < s.heap.objs.size) (hn : min xs.size ys.size ≤ sizeLine)
    (hR : ∀ h' tk acc c as, (∀ b o, b ≠ S → b ≠ z → b ≠ TO → b ≠ i1 → b ≠ i2 → s.heap.get? b = some o → h'.get? b = some o) → h'.get? S = some { cls := .type "list", dict := none, data := .seq acc c, slots := #[] } → as.length = min xs.size ys.size → ZG xs ys lo h' as →
      acc.toList = as.map Value.ref → R (.ok (.ret .none)) { s with heap := h', toks := tk }) :
    wpAny (model prog w) A.in1 (Builtin.«list.__init__» ⟨[.ref S, .ref z], []⟩)
      (fun fin s' => match fin with | .done f => R (.ok f) s' | .again c' => c'.quiet = true ∧ codeAny (model prog w) A c' R s') (fun e s' => R (.error e) s') s := by
  obtain ⟨n1, n2, n3, n4, n5, n6, n7⟩ := id nS
  show wpAny _ _ (do let old ← Builtin.List.listItems (.ref S); Builtin.List.listUpdate (.ref S) (fun _ => #[]); letGo old.toList.reverse; Builtin.List.listExtendWith (.ref S) (.ref z) .none) _ _ s
  refine wpAny_bind ?_
  unfold Builtin.List.listItems
  refine wpAny_bind (wpAny_seqItems hS rfl (wpAny_pure ?_))
  show wpAny _ _ (updateSeq S (fun _ => #[]) >>= fun _ => letGo (#[] : Array Value).toList.reverse >>= fun _ => Builtin.List.listExtendWith (.ref S) (.ref z) .none) _ _ s
  refine wpAny_bind (wpAny_updateSeq hS rfl ?_)
  have hS₂ := Heap.get?_update_self (Obj.mapSeq (fun _ => (#[] : Array Value))) hS rfl
  have oth : ∀ b o, b ≠ S → s.heap.get? b = some o → (s.heap.update S (Obj.mapSeq (fun _ => (#[] : Array Value)))).get? b = some o :=
    fun b o hb e => (Heap.get?_update_other _ _ (Ne.symm hb)).trans e
  refine wpAny_bind (wpAny_letGo ?_)
  have N2 := N.at fun b o e q => oth b o (by rcases q with q | q | q | q | q | q | q <;> rw [q] <;> exact Ne.symm ‹_›) e
  have hsz : (s.heap.update S (Obj.mapSeq (fun _ => (#[] : Array Value)))).objs.size = s.heap.objs.size := (Heap.SameBut.update ..).1
  have lt : ∀ {a : Addr}, a ≤ lo → a ≤ (s.heap.update S (Obj.mapSeq (fun _ => (#[] : Array Value)))).objs.size := fun h => by rw [hsz]; exact Nat.le_of_lt (Nat.lt_of_le_of_lt h hlo)
  refine z_extend (s := { s with heap := s.heap.update S (Obj.mapSeq (fun _ => (#[] : Array Value))) }) hh N2 ⟨lt up6.1, lt up6.2.1, lt up6.2.2.1, lt up6.2.2.2.1, lt up6.2.2.2.2⟩ nS .none _ hS₂ up6 hSlo (by show lo < (s.heap.update S _).objs.size; rw [hsz]; exact hlo) hn (fun h' tk acc c as hk hS' hl hG hacc => ?_)
  exact hR h' tk acc c as (fun b o a1 a2 a3 a4 a5 e => hk b o a1 a2 a3 a4 a5 (oth b o a1 e)) hS' hl hG hacc
theorem z_call {Q : Value → Shared → Prop} {z TI TO i1 i2 l1 l2 : Addr} (hh : A.handled = none) (N : ZNew s.heap z TI TO i1 i2 l1 l2 xs ys) (hn : min xs.size ys.size ≤ sizeLine)
    (hQ : ∀ h' tk acc c as, (∀ b o, b ≠ z → b ≠ TO → b ≠ i1 → b ≠ i2 → s.heap.get? b = some o → h'.get? b = some o) → h'.get? s.heap.objs.size = some { cls := .type "list", dict := none, data := .seq acc c, slots := #[] } → as.length = min xs.size ys.size → ZG xs ys s.heap.objs.size h' as →
      acc.toList = as.map Value.ref → Q (.ref s.heap.objs.size) { s with heap := h', toks := tk }) :
    wpAny (model prog w) A (call (.type "list") [.ref z]) Q E s := by
  refine callType_codes (Q₁ := fun obj s₁ => obj = .ref s.heap.objs.size ∧ s₁ = { s with heap := s.heap.push { cls := .type "list", data := .seq #[] } }) PySem.F.called_list (PySem.F.typeCall_list_1 _) PySem.F.entry_list_init
    (code_list_new _ ⟨rfl, rfl⟩) fun obj s₁ h₁ => ?_
  obtain ⟨rfl, rfl⟩ := h₁
  have hS : (s.heap.push { cls := .type "list", data := .seq #[] }).get? s.heap.objs.size = some { cls := .type "list", data := .seq #[] } := Heap.get?_push_size _ rfl
  have q1 : z < s.heap.objs.size := Heap.lt_size N.zip
  have q2 : TI < s.heap.objs.size := Heap.lt_size N.ti
  have q3 : TO < s.heap.objs.size := Heap.lt_size N.to_
  have q4 : i1 < s.heap.objs.size := let ⟨_, e, _⟩ := N.h1; Heap.lt_size e
  have q5 : i2 < s.heap.objs.size := let ⟨_, e, _⟩ := N.h2; Heap.lt_size e
  have q6 : l1 < s.heap.objs.size := let ⟨_, e, _⟩ := N.a1; Heap.lt_size e
  have q7 : l2 < s.heap.objs.size := let ⟨_, e, _⟩ := N.a2; Heap.lt_size e
  refine ⟨⟨_, hS, rfl⟩, PySem.F.args_list_init_2 _ _, z_init (A := A.in1) (s := { s with heap := s.heap.push { cls := .type "list", data := .seq #[] } }) hh (N.at fun b o e _ => Heap.get?_push_of_some _ e)
    ⟨Nat.ne_of_gt q1, Nat.ne_of_gt q2, Nat.ne_of_gt q3, Nat.ne_of_gt q4, Nat.ne_of_gt q5, Nat.ne_of_gt q6, Nat.ne_of_gt q7⟩ hS (lo := s.heap.objs.size) ⟨Nat.le_of_lt q1, Nat.le_of_lt q2, Nat.le_of_lt q3, Nat.le_of_lt q4, Nat.le_of_lt q5⟩ (Nat.le_refl _) (by show s.heap.objs.size < (s.heap.push _).objs.size; rw [Heap.size_push]; exact Nat.lt_succ_self _) hn (fun h' tk acc c as hk hS' hl hG hacc => ?_)⟩
  exact ⟨rfl, hQ h' tk acc c as (fun b o a2 a3 a4 a5 e => hk b o (Nat.ne_of_lt (Heap.lt_size e)) a2 a3 a4 a5 (Heap.get?_push_of_some _ e)) hS' hl hG hacc⟩
end
open L2
/-- the pairs tracked at their addresses -/
def putP : Hp → List Addr → List (V × V) → Hp
  | H, a :: as, p :: kvs => putP (upd H a (.tup [p.1, p.2])) as kvs
  | H, _, _ => H
theorem putP_off {b : Addr} : ∀ (as : List Addr) (kvs : List (V × V)) (H : Hp), b ∉ as → putP H as kvs b = H b
  | [], _, _, _ => rfl
  | _ :: _, [], _, _ => rfl
  | a :: as, p :: kvs, H, h => by
    show putP (upd H a (.tup [p.1, p.2])) as kvs b = H b
    rw [putP_off as kvs _ (fun z => h (List.mem_cons_of_mem _ z)), upd_ne (fun z => h (by rw [z]; exact List.mem_cons_self))]
theorem putP_at : ∀ (as : List Addr) (kvs : List (V × V)) (H : Hp), as.length = kvs.length → as.Nodup → Paired (fun (t : Addr) (p : V × V) => putP H as kvs t = some (.tup [p.1, p.2])) as kvs
  | [], [], _, _, _ => .nil
  | [], _ :: _, _, h, _ => by cases h
  | _ :: _, [], _, h, _ => by cases h
  | a :: as, p :: kvs, H, h, hn => by
    have hn' := List.nodup_cons.mp hn
    have ih := putP_at as kvs (upd H a (.tup [p.1, p.2])) (Nat.succ.inj h) hn'.2
    refine .cons ?_ ih
    show putP (upd H a (.tup [p.1, p.2])) as kvs a = some (.tup [p.1, p.2])
    rw [putP_off as kvs _ hn'.1, upd_same]
section
variable {X : Cx}
theorem pairs_laid {pins : List (Addr × Obj)} {σ : L2.St} {H : Hp} {s : Shared} {h' : Heap} {tk : Nat} {vs ws : List V} {us ts : List Value} {acc : Array Value} {c : Nat} {S : Addr} {as : List Addr} (I : L2.Inv X pins σ H s) (r1 : Vals vs us) (r2 : Vals ws ts) (hz : min vs.length ws.length ≤ sizeLine)
    (hS0 : s.heap.objs.size ≤ S) (hk : ∀ b o, s.heap.get? b = some o → h'.get? b = some o) (hS : h'.get? S = some { cls := .type "list", dict := none, data := .seq acc c, slots := #[] }) (hl : as.length = min us.length ts.length) (hG : ZG us.toArray ts.toArray S h' as) (hacc : acc.toList = as.map Value.ref) :
    ∃ H' : Hp, (∀ b o, H b = some o → H' b = some o) ∧ H S = none ∧ (∀ t ∈ as, H t = none) ∧ S ∉ as ∧ as.Nodup ∧ H' S = some (.lst (as.map V.ref)) ∧ Paired (fun (t : Addr) (q : V × V) => H' t = some (.tup [q.1, q.2])) as (vs.zip ws) ∧ L2.Inv X pins σ H' { s with heap := h', toks := tk } := by
  have lk : (vs.zip ws).length = as.length := by rw [List.length_zip, Vals.length r1, Vals.length r2, hl]
  have hSn : S ∉ as := fun z => Nat.lt_irrefl _ (hG.above _ z)
  have nd : as.Nodup := List.Pairwise.imp (fun {a b} (h : a < b) => Nat.ne_of_lt h) hG.rise
  have new : ∀ t ∈ as, H t = none := fun t ht => I.hok.fresh (Nat.le_of_lt (Nat.lt_of_le_of_lt hS0 (hG.above t ht)))
  have newS : H S = none := I.hok.fresh hS0
  have atP := putP_at as (vs.zip ws) (upd H S (.lst (as.map V.ref))) (by omega) nd
  have off : ∀ b, b ∉ as → b ≠ S → putP (upd H S (.lst (as.map V.ref))) as (vs.zip ws) b = H b := fun b h1 h2 => by rw [putP_off as _ _ h1, upd_ne h2]
  have low : ∀ b o, s.heap.get? b = some o → b ∉ as ∧ b ≠ S := fun b o e => ⟨fun z => absurd (Heap.lt_size e) (Nat.not_lt.mpr (Nat.le_of_lt (Nat.lt_of_le_of_lt hS0 (hG.above b z)))), Nat.ne_of_lt (Nat.lt_of_lt_of_le (Heap.lt_size e) hS0)⟩
  have kp : ∀ b u, H b = some u → (putP (upd H S (.lst (as.map V.ref))) as (vs.zip ws)) b = some u := fun b u e => by
    rw [off b (fun z => by rw [new b z] at e; cases e) (fun z => by rw [z, newS] at e; cases e)]
    exact e
  have eS : putP (upd H S (.lst (as.map V.ref))) as (vs.zip ws) S = some (.lst (as.map V.ref)) := by rw [putP_off as _ _ hSn, upd_same]
  refine ⟨putP (upd H S (.lst (as.map V.ref))) as (vs.zip ws), kp, newS, new, hSn, nd, eS, atP, ?_⟩
  refine I.call' (ch := []) rfl ⟨fun b o q _ _ _ => hk b o q, fun b o q _ _ _ => ⟨o.slots, hk b o q⟩, fun b o q n _ => ?_, fun b o q _ => ⟨o, hk b o q⟩, fun b xs q => kp b _ q, fun b o u q => kp b _ q, fun b ps q => ⟨#[], by rw [kp b _ q]; simp⟩⟩ (fun b u q => ?_) I.bare fun b z => by simp at z
  · obtain ⟨z1, z2⟩ := low b o q
    rw [off b z1 z2]
    exact n
  · by_cases hb : b ∈ as
    · obtain ⟨j, pk, e1, e2, e3⟩ := LiI.paired_ix atP hb
      rw [e3] at q
      cases q
      obtain ⟨x, y, f1, f2, f3⟩ := hG.pairs j b e1
      rw [List.getElem?_zip_eq_some] at e2
      obtain ⟨u1, g1, k1⟩ := r1.get e2.1
      obtain ⟨u2, g2, k2⟩ := r2.get e2.2
      have f1' : us[j]? = some x := by simpa using f1
      have f2' : ts[j]? = some y := by simpa using f2
      rw [g1] at f1'
      rw [g2] at f2'
      cases f1'
      cases f2'
      exact ⟨by show 2 ≤ sizeLine; decide, [x, y], .cons k1 (.cons k2 .nil), ⟨_, f3, rfl, _, rfl⟩⟩
    · by_cases hb2 : b = S
      · rw [hb2] at q ⊢
        rw [eS] at q
        cases q
        refine ⟨by rw [List.length_map, hl, ← Vals.length r1, ← Vals.length r2]; exact hz, acc.toList, c, by rw [hacc]; exact LiI.vals_refs as, ?_⟩
        rw [Array.toArray_toList]
        exact hS
      · rw [off b hb hb2] at q
        exact (I.hok b u q).stay (fun d v _ y => hk d v y) (fun d y => kp d _ y) fun d xs y => kp d _ y
/-- list(zip(xs, ys)) of two lists -/
def tListZip (K : PySem.W.Frag) (ta : TA) : TE := fun σ H Q => ta σ H fun us H1 => ∃ (a b : Addr) (xs ys : List V), us = [.ref a, .ref b] ∧ SqL K H1 a xs ∧ SqL K H1 b ys ∧
  ∀ (H' : Hp) (p : Addr) (ts : List Addr), (∀ b o, H1 b = some o → H' b = some o) → H1 p = none → (∀ t ∈ ts, H1 t = none) → p ∉ ts → ts.Nodup → H' p = some (.lst (ts.map V.ref)) → Paired (fun (t : Addr) (q : V × V) => H' t = some (.tup [q.1, q.2])) ts (xs.zip ys) → Q (.ref p) H'
theorem pe_listZip {e e2 : Expr} {ta : TA} {p p2 pos pos2 : Pos} (hc : X.calm = true) (hg : Gl X "list") (hm : X.mg "list" = none) (hg2 : Gl X "zip") (hm2 : X.mg "zip" = none) (ha : PA X [e, e2] ta)
    (hs2 : starEach [.Call (.Name "zip" p2) [e, e2] [] pos2] X.env = (false, eval (.Call (.Name "zip" p2) [e, e2] [] pos2) X.env) :: starEach [] X.env := by rfl)
    (hs : starEach [e, e2] X.env = (false, eval e X.env) :: starEach [e2] X.env := by rfl) (hpl : (backTo pos2 (starEach [e2] X.env)).any (·.1) = false := by rfl) :
    PE X (.Call (.Name "list" p) [.Call (.Name "zip" p2) [e, e2] [] pos2] [] pos) (tListZip X.K ta) := by
  refine ⟨fun pins s σ H Q I h => ?_⟩
  refine Call_ (ld_blt I hg hm boot_list (PyProof.Rows.callWith_type1 (args_cons (Call_ (ld_blt I hg2 hm2 PyProof.Rows.boot_zip (PyProof.Rows.callWith_type1 (thn (ha.run pos2 pins s σ H _ I h) fun us s1 ⟨vs, H1, I1, r1, q1⟩ => ?_) hs hpl))) hs2) hs2 rfl))
  obtain ⟨a, b, xs, ys, ex, hqx, hqy, q⟩ := q1
  subst ex
  cases r1 with
  | cons r rr =>
    cases rr with
    | cons r' rr =>
      cases rr
      cases r
      cases r'
      obtain ⟨its, rv, p1, hz1⟩ := I1.list hqx
      obtain ⟨its2, rv2, p2', hz2⟩ := I1.list hqy
      refine call_zip_2 p1.isList p2'.isList fun h' hz hTI hTO h1 h2 hsz hk => args_nil ?_
      have N : ZNew h' (s1.heap.objs.size + 4) (s1.heap.objs.size + 2) (s1.heap.objs.size + 3) s1.heap.objs.size (s1.heap.objs.size + 1) a b its.toArray its2.toArray :=
        ⟨PySem.W.ktu_apart s1.heap.objs.size a b p1.lt p2'.lt, hz, hTI, hTO, h1, h2, p1.isList.at fun o e => hk _ o e, p2'.isList.at fun o e => hk _ o e⟩
      have hl1 := Vals.length rv
      have hl2 := Vals.length rv2
      have hmin : min its.toArray.size its2.toArray.size ≤ sizeLine := by rw [List.size_toArray, List.size_toArray]; omega
      refine z_call (s := { s1 with heap := h' }) (I1.ok.hd hc) N hmin fun h2' tk acc c as hk2 hS hl hG hacc => ?_
      have hk3 : ∀ b o, s1.heap.get? b = some o → h2'.get? b = some o := fun b o e => by
        have lt := Heap.lt_size e
        exact hk2 b o (Nat.ne_of_lt (Nat.lt_of_lt_of_le lt (Nat.le_add_right _ _))) (Nat.ne_of_lt (Nat.lt_of_lt_of_le lt (Nat.le_add_right _ _))) (Nat.ne_of_lt lt) (Nat.ne_of_lt (Nat.lt_of_lt_of_le lt (Nat.le_add_right _ _))) (hk b o e)
      obtain ⟨H', k1, k2, k3, k4, k5, k6, k7, J⟩ := pairs_laid (tk := tk) I1 rv rv2 (by omega) (S := h'.objs.size) (by rw [hsz]; exact Nat.le_add_right _ _) hk3 hS (by rw [hl, List.size_toArray, List.size_toArray]) hG hacc
      exact ⟨.ref _, H', J, rfl, q H' _ as k1 k2 k3 k4 k5 k6 k7⟩
end
end ZL
namespace Pu
open PySem L2
section
variable {K : PySem.W.Frag}
def pairD (p : PyData × PyData) : PyData := .tuple [p.1, p.2]
def fZip : List PyData → (List PyData → Prop) → Prop := fun ds k => match ds with
  | [.list xs, .list ys] => k ((xs.zip ys).map pairD)
  | _ => False
theorem fZip_of {ds : List PyData} {k : List PyData → Prop} (h : fZip ds k) : ∃ xs ys, ds = [.list xs, .list ys] ∧ k ((xs.zip ys).map pairD) := by
  unfold fZip at h
  split at h
  · exact ⟨_, _, rfl, h⟩
  · exact h.elim
/-- list(zip(xs, ys)) -/
def pListZip (pa : PA') : PA' := fun ρ R => pa ρ fun ds ρ1 => fZip ds fun xs => R xs ρ1
theorem dqs_zip {H1 H2 : Hp} (g : ∀ v d, Dq K H1 v d → Dq K H2 v d) : ∀ {vs ws : List V} {ds es : List PyData} {ts : List Addr}, Dqs K H1 vs ds → Dqs K H1 ws es → Paired (fun (t : Addr) (q : V × V) => H2 t = some (.tup [q.1, q.2])) ts (vs.zip ws) → Dqs K H2 (ts.map V.ref) ((ds.zip es).map pairD)
  | _, _, _, _, _, .nil, _, h => by
    cases h
    exact .nil
  | _, _, _, _, _, .cons _ _, .nil, h => by
    cases h
    exact .nil
  | _, _, _, _, _, .cons a r, .cons b r2, h => by
    cases h with
    | cons h t => exact .cons (.tup (.of h) (.cons (g _ _ a) (.cons (g _ _ b) .nil))) (dqs_zip g r r2 t)
theorem paired_map {α β : Type} {F G : α → β → Prop} : ∀ {xs : List α} {ys : List β}, Paired F xs ys → (∀ a ∈ xs, ∀ b, F a b → G a b) → Paired G xs ys
  | _, _, .nil, _ => .nil
  | _, _, .cons h t, k => .cons (k _ List.mem_cons_self _ h) (paired_map t fun a m b => k a (List.mem_cons_of_mem _ m) b)
theorem sim_listZip {ta : TA} {pa : PA'} (sa : SimA K ta pa) : SimL K (ZL.tListZip K ta) (pListZip pa) := fun B Z A H0 M σ H ρ R E h Q q =>
  sa B Z A H0 M σ H ρ _ E h _ fun vs ds ρ1 H1 h1 E1 d1 => by
    obtain ⟨xs, ys, rfl, h2⟩ := fZip_of h1
    obtain ⟨v, w, rfl, dv, dw⟩ := two_of d1
    cases dv with
    | @lst a us _ hl r =>
    cases dw with
    | @lst b us2 _ hl2 r2 =>
    refine ⟨a, b, us, us2, rfl, .of (veil_grow _ _ _ _ hl), .of (veil_grow _ _ _ _ hl2), fun H' p ts k1 k2 k3 k4 k5 k6 k7 => ?_⟩
    have g : Grow H1 (wiped H' p) := fun c o e => by
      rw [wiped_ne (ne_of_none e k2)]
      exact k1 c o e
    have E2 := E1.grown g
    have gv : Grow (veil (hid Z M) H1) (veil (hid Z M) (wiped H' p)) := fun c o e => veil_on (veil_off e).1 (g _ _ (veil_off e).2)
    have e := wiped_upd (H := H') k6
    have := q p (ts.map V.ref) _ ρ1 (wiped H' p) h2 E2 wiped_at (dqs_zip (fun v d => dp_grow gv d v) r r2 (paired_map k7 fun t m pq ht => by
      refine veil_on (E1.veiled (k3 t m)) ?_
      rw [wiped_ne (fun z => k4 (by rw [← z]; exact m))]
      exact ht))
    rw [e] at this
    exact this

/-! *xs of a list of the def's own -/
def pStarO (i : Nat) (pr : PA') : PA' := fun ρ R => asOwn (cellAt ρ i) fun ds => pr ρ fun xs ρ1 => R (ds ++ xs) ρ1
theorem sim_starO {i : Nat} {tr : TA} {pr : PA'} (sr : SimA K tr pr) : SimA K (StX.tStar K (tVar i) tr) (pStarO i pr) := fun B Z A H0 M σ H ρ R E h Q q => by
  obtain ⟨ds, hc, h⟩ := asOwn_of h
  obtain ⟨l, vs, e, m, hl, r⟩ := own_at E hc
  exact ⟨.ref l, e, l, vs, rfl, .inr (.of hl), sr B Z _ H0 M σ H ρ _ E.anchor h _ fun us es ρ2 H2 h2 E2 d2 => q _ _ ρ2 H2 h2 (E2.weak E.anch) (dqs_app (dqs_up E2.anch r) d2)⟩
/-- xs.extend(ys) of a list of the def's own -/
def pExt (i : Nat) (pa : PE') : PS' := fun G ρ => asOwn (cellAt ρ i) fun _ => pa ρ fun x ρ1 => asL x fun es => asOwn (cellAt ρ1 i) fun ds => ds.length + es.length ≤ 100000 ∧ G.nx (cellSet ρ1 i (.own (ds ++ es)))
theorem s_ext {i : Nat} {te : TE} {pa : PE'} (sa : Sim K te pa) : SimS K (tDrop (tBM K "list" rExtend (tVar i) (tCons te tNil))) (pExt i pa) := fun B Z A H0 M σ H ρ D G E h C => by
  obtain ⟨ds, hc, h⟩ := asOwn_of h
  obtain ⟨l, vs, e, m, hl, r⟩ := own_at E hc
  refine ⟨.ref l, e, .inl ⟨rfl, vs, .of hl⟩, sa B Z A H0 M σ H ρ _ E h _ fun v d ρ1 H1 h1 E1 d1 => ?_⟩
  obtain ⟨es, rfl, h1⟩ := asL_of h1
  obtain ⟨ds1, hc1, h2, h3⟩ := asOwn_of h1
  obtain ⟨l1, vs1, e1, m1, hl1, r1⟩ := own_at E1 hc1
  rw [m] at m1
  cases m1
  cases d1 with
  | @lst b us _ hb r2 =>
  refine ⟨l, b, vs1, us, rfl, rfl, hl1, (veil_off hb).2, Nat.le_trans (by rw [dqs_len r1, dqs_len r2]; exact h2) (by decide), ?_⟩
  refine C.nx M σ _ _ (E1.putO (by rw [e1]; rfl) m (dqs_app r1 r2) (by rw [hc1]; intro z; cases z)) h3
/-- a list made by one of two ways -/
def pIfL (pt : PT') (pa pb : PA') : PA' := fun ρ R => pt ρ fun c ρ1 => if c = true then pa ρ1 R else pb ρ1 R
theorem sim_ifL {tt : TT} {ta tb : TE} {pt : PT'} {pa pb : PA'} (st : SimT K tt pt) (sa : SimL K ta pa) (sb : SimL K tb pb) : SimL K (tIf tt ta tb) (pIfL pt pa pb) := fun B Z A H0 M σ H ρ R E h Q q =>
  st B Z A H0 M σ H ρ _ E h _ fun c ρ1 H1 h1 E1 => by
    cases c with
    | true => exact sa B Z A H0 M σ H1 ρ1 _ E1 h1 _ q
    | false => exact sb B Z A H0 M σ H1 ρ1 _ E1 h1 _ q
/-- min(xs), max(xs) of one list of ints -/
def fMin1 : FS := fun ds k => match ds with
  | [.list xs] => match intsOf xs with
    | some ns => 0 < ns.length ∧ ∀ m, m ∈ ns → (∀ y, y ∈ ns → m ≤ y) → k (.int m)
    | none => False
  | _ => False
def fMax1 : FS := fun ds k => match ds with
  | [.list xs] => match intsOf xs with
    | some ns => 0 < ns.length ∧ ∀ m, m ∈ ns → (∀ y, y ∈ ns → y ≤ m) → k (.int m)
    | none => False
  | _ => False
theorem fMin1_of {ds : List PyData} {k : PyData → Prop} (h : fMin1 ds k) : ∃ ns : List Int, ds = [.list (ns.map PyData.int)] ∧ 0 < ns.length ∧ ∀ m, m ∈ ns → (∀ y, y ∈ ns → m ≤ y) → k (.int m) := by
  unfold fMin1 at h
  split at h
  · split at h
    · rename_i e
      exact ⟨_, by rw [intsOf_eq e], h⟩
    · exact h.elim
  · exact h.elim
theorem fMax1_of {ds : List PyData} {k : PyData → Prop} (h : fMax1 ds k) : ∃ ns : List Int, ds = [.list (ns.map PyData.int)] ∧ 0 < ns.length ∧ ∀ m, m ∈ ns → (∀ y, y ∈ ns → y ≤ m) → k (.int m) := by
  unfold fMax1 at h
  split at h
  · split at h
    · rename_i e
      exact ⟨_, by rw [intsOf_eq e], h⟩
    · exact h.elim
  · exact h.elim
theorem sim_min1 {ta : TA} {pa : PA'} (sa : SimA K ta pa) : Sim K (tCB (rMin K) ta) (pFn fMin1 pa) := fun B Z A H0 M σ H ρ R E h Q q =>
  sa B Z A H0 M σ H ρ _ E h _ fun vs ds ρ1 H1 h1 E1 d1 => by
    obtain ⟨ns, rfl, h0, h2⟩ := fMin1_of h1
    obtain ⟨v, rfl, dv⟩ := one_of d1
    cases dv with
    | @lst a us _ hl r =>
    have e := dqs_of_ints r
    subst e
    exact ⟨a, ns, rfl, .of (veil_grow _ _ _ _ hl), h0, fun m m1 m2 => q _ _ ρ1 H1 (h2 m m1 m2) E1 (.int _)⟩
theorem sim_max1 {ta : TA} {pa : PA'} (sa : SimA K ta pa) : Sim K (tCB (rMax K) ta) (pFn fMax1 pa) := fun B Z A H0 M σ H ρ R E h Q q =>
  sa B Z A H0 M σ H ρ _ E h _ fun vs ds ρ1 H1 h1 E1 d1 => by
    obtain ⟨ns, rfl, h0, h2⟩ := fMax1_of h1
    obtain ⟨v, rfl, dv⟩ := one_of d1
    cases dv with
    | @lst a us _ hl r =>
    have e := dqs_of_ints r
    subst e
    exact ⟨a, ns, rfl, .of (veil_grow _ _ _ _ hl), h0, fun m m1 m2 => q _ _ ρ1 H1 (h2 m m1 m2) E1 (.int _)⟩
end
/-! ### slices with a step, of a list -/
def pickV {α : Type} (xs : List α) (lo hi st : Option Int) : List α :=
  (sliceRange (sliceBounds lo hi st xs.length).1 (sliceBounds lo hi st xs.length).2.1 (sliceBounds lo hi st xs.length).2.2).filterMap (xs[·]?)
theorem vals_pick {xs : List V} {us : List Value} (r : Vals xs us) : ∀ l : List Nat, Vals (l.filterMap (xs[·]?)) (l.filterMap (us[·]?))
  | [] => .nil
  | i :: l => by
    have ih := vals_pick r l
    have hl := Vals.length r
    rw [List.filterMap_cons, List.filterMap_cons]
    by_cases h : i < xs.length
    · obtain ⟨u, hu, ru⟩ := r.get (List.getElem?_eq_getElem h)
      rw [List.getElem?_eq_getElem h, hu]
      exact .cons ru ih
    · rw [List.getElem?_eq_none (by omega), List.getElem?_eq_none (by omega)]
      exact ih
theorem dqs_pick {K : PySem.W.Frag} {H : Hp} {vs : List V} {ds : List PyData} (r : Dqs K H vs ds) : ∀ l : List Nat, Dqs K H (l.filterMap (vs[·]?)) (l.filterMap (ds[·]?))
  | [] => .nil
  | i :: l => by
    have ih := dqs_pick r l
    have hl := dqs_len r
    rw [List.filterMap_cons, List.filterMap_cons]
    by_cases h : i < ds.length
    · obtain ⟨u, hu, ru⟩ := dqs_get r (List.getElem?_eq_getElem h)
      rw [List.getElem?_eq_getElem h, hu]
      exact .cons ru ih
    · rw [List.getElem?_eq_none (by omega), List.getElem?_eq_none (by omega)]
      exact ih
def tSlS (K : PySem.W.Frag) (te : TE) (tl th ts : TO) : TE := fun σ H Q => te σ H fun x H1 => tl σ H1 fun l H2 => th σ H2 fun u H3 => ts σ H3 fun o H4 => ∃ a xs, x = V.ref a ∧ SqL K H4 a xs ∧ o ≠ some 0 ∧ (pickV xs l u o).length ≤ sizeLine ∧ ∀ p, H4 p = none → Q (.ref p) (upd H4 p (.lst (pickV xs l u o)))
theorem pe_sliceS {X : Cx} {e se : Expr} {lo hi : Option Expr} {te : TE} {tl th ts : TO} {p3 pos : Pos} (he : PE X e te) (hlo : PO X lo tl) (hhi : PO X hi th) (hst : PO X (some se) ts) (hlt : ∀ o r, letTemporaryGo e o r = pure () := by intros; rfl) : PE X (.Subscript e (.Slice lo hi (some se) p3) pos) (tSlS X.K te tl th ts) := by
  refine ⟨fun pins s σ H Q I h => ?_⟩
  refine PyProof.Rows.Subscript_ (thn (he.run pins s σ H _ I h) fun v s1 ⟨x, H1, I1, r1, q1⟩ => ?_)
  refine wpAny_Slice (thn (hlo.run pins s1 σ H1 _ I1 q1) fun vl s2 ⟨l, H2, I2, pl, q2⟩ => ?_)
  refine thn (hhi.run pins s2 σ H2 _ I2 q2) fun vu s3 ⟨u, H3, I3, pu, q3⟩ => ?_
  refine thn (hst.run pins s3 σ H3 _ I3 q3) fun vs s4 ⟨o, H4, I4, ps, q4⟩ => ?_
  obtain ⟨a, xs, ex, hx, ho, hz4, q⟩ := q4
  subst ex
  cases r1
  have I5 : L2.Inv X pins σ H4 { s4 with heap := s4.heap.push { cls := .type "slice", data := .fields #[vl, vu, vs] } } := I4.kept (t' := s4.toks) fun b ob q => Heap.get?_push_of_some _ q
  obtain ⟨its, r, ht, hz⟩ := I5.list hx
  have hlen := Vals.length r
  show wpAny (model X.prog X.w) X.A (PyProof.Rows.subscriptTail e (.Slice lo hi (some se) p3) (.ref a) (.ref s4.heap.objs.size)) (EP X pins σ Q) X.xe { s4 with heap := s4.heap.push { cls := .type "slice", data := .fields #[vl, vu, vs] } }
  refine PyProof.Rows.tail_any (ops := [.ref a, .ref s4.heap.objs.size]) ht.isList.typeIs (PySem.slot_list_getitem.lookup) ?_ (by with_unfolding_all rfl)
  refine wpAny_getItem_list_slice ht.isList (Heap.IsSliceOf.new _ vl vu vs) pl pu ps ho ?_ (by rw [List.size_toArray]; omega)
  have e1 : slicePick its.toArray l u o = (pickV its l u o).toArray := by
    unfold slicePick pickV
    rw [List.size_toArray]
    congr 2
    funext i
    rw [List.getElem?_toArray]
  rw [e1]
  refine ⟨.ref _, _, I5.laid (t' := s4.toks) (o := .lst (pickV xs l u o)) (fun b ob q => Heap.get?_push_of_some _ q) (Nat.le_refl _) ?_, rfl, q _ (I5.hok.fresh (Nat.le_refl _))⟩
  refine ⟨hz4, pickV its l u o, 0, ?_, Heap.get?_push_size _ rfl⟩
  unfold pickV
  rw [← hlen]
  exact vals_pick r _
section
variable {K : PySem.W.Frag}
def pPickO (i : Nat) (pl ph ps : PO') : PA' := fun ρ R => asOwn (cellAt ρ i) fun _ => pl ρ fun l ρ1 => ph ρ1 fun h ρ2 => ps ρ2 fun s ρ3 => asOwn (cellAt ρ3 i) fun ds => s ≠ some 0 ∧ (pickV ds l h s).length ≤ 100000 ∧ R (pickV ds l h s) ρ3
theorem sim_pickO {i : Nat} {tl th ts : TO} {pl ph ps : PO'} (sl : SimO K tl pl) (sh : SimO K th ph) (ss : SimO K ts ps) : SimL K (tSlS K (tVar i) tl th ts) (pPickO i pl ph ps) := fun B Z A H0 M σ H ρ R E h Q q => by
  obtain ⟨ds, hc, h⟩ := asOwn_of h
  obtain ⟨l, vs, e, m, hl, r⟩ := own_at E hc
  refine ⟨.ref l, e, sl B Z A H0 M σ H ρ _ E h _ fun lo ρ1 H1 h1 E1 => sh B Z A H0 M σ H1 ρ1 _ E1 h1 _ fun hi ρ2 H2 h2 E2 => ss B Z A H0 M σ H2 ρ2 _ E2 h2 _ fun st ρ3 H3 h3 E3 => ?_⟩
  obtain ⟨ds3, hc3, h30, h31, h32⟩ := asOwn_of h3
  obtain ⟨l3, vs3, e3, m3, hl3, r3⟩ := own_at E3 hc3
  rw [m] at m3
  cases m3
  have er : Dqs K (veil (hid Z M) H3) (pickV vs3 lo hi st) (pickV ds3 lo hi st) := by
    unfold pickV
    rw [dqs_len r3]
    exact dqs_pick r3 _
  exact ⟨l, vs3, rfl, .of hl3, h30, by rw [dqs_len er]; exact sz5 h31, fun p hp => q p _ _ ρ3 H3 h32 E3 hp er⟩
/-- every second one -/
def evens {α : Type} : List α → List α
  | a :: _ :: r => a :: evens r
  | [a] => [a]
  | [] => []
theorem sl_range2 (a : Nat) (m : Nat) (n : Nat) (h : (m : Int) = ((n : Int) - a + 2 - 1) / 2) (hn : a ≤ n) : sliceRange (a : Int) (n : Int) 2 = (List.range m).map fun k => a + 2 * k := by
  unfold sliceRange
  simp only [show (2 : Int) > 0 from by decide, if_true]
  have e : (if (a : Int) < n then ((n : Int) - a + 2 - 1) / 2 else 0).toNat = m := by
    split
    · omega
    · omega
  rw [e]
  apply List.map_congr_left
  intro k _
  omega
theorem pick_even {α : Type} : ∀ (xs : List α) (pre : List α), ((List.range ((xs.length + 1) / 2)).map fun k => pre.length + 2 * k).filterMap ((pre ++ xs)[·]?) = evens xs
  | [], pre => by simp [evens]
  | [a], pre => by
    rw [show ((([a] : List α).length + 1) / 2) = 1 from by simp]
    show (List.filterMap (fun x => (pre ++ [a])[x]?) ((List.range 1).map fun k => pre.length + 2 * k)) = [a]
    simp [List.range_succ]
  | a :: b :: r, pre => by
    have ih := pick_even r (pre ++ [a, b])
    have e : ((a :: b :: r).length + 1) / 2 = (r.length + 1) / 2 + 1 := by
      simp only [List.length_cons]
      omega
    rw [e, List.range_succ_eq_map, List.map_cons, List.filterMap_cons, List.map_map]
    have e2 : (pre ++ a :: b :: r)[pre.length + 2 * 0]? = some a := by
      rw [Nat.mul_zero, Nat.add_zero, List.getElem?_append_right (Nat.le_refl _), Nat.sub_self]
      rfl
    rw [e2]
    show a :: _ = a :: evens r
    congr 1
    rw [← ih]
    have e3 : (pre ++ [a, b]) ++ r = pre ++ a :: b :: r := by simp
    rw [e3]
    congr 1
    apply List.map_congr_left
    intro k _
    show pre.length + 2 * (k + 1) = (pre ++ [a, b]).length + 2 * k
    rw [List.length_append]
    show _ = pre.length + 2 + 2 * k
    omega
theorem pickV_even {α : Type} (xs : List α) : pickV xs none none (some 2) = evens xs := by
  unfold pickV
  have e : sliceBounds none none (some 2) xs.length = (0, (xs.length : Int), 2) := rfl
  rw [e]
  show (sliceRange ((0 : Nat) : Int) (xs.length : Int) 2).filterMap (xs[·]?) = _
  rw [sl_range2 0 ((xs.length + 1) / 2) xs.length (by omega) (Nat.zero_le _)]
  exact pick_even xs []
theorem pickV_odd {α : Type} (xs : List α) : pickV xs (some 1) none (some 2) = evens (xs.drop 1) := by
  cases xs with
  | nil => rfl
  | cons a r =>
    unfold pickV
    have e : sliceBounds (some 1) none (some 2) (a :: r).length = (1, ((r.length + 1 : Nat) : Int), 2) := by
      show ((max 0 (min 1 (((r.length + 1 : Nat) : Int)))), _, _) = _
      congr 1
      omega
    rw [e]
    show (sliceRange ((1 : Nat) : Int) ((r.length + 1 : Nat) : Int) 2).filterMap ((a :: r)[·]?) = _
    rw [sl_range2 1 ((r.length + 1) / 2) (r.length + 1) (by omega) (by omega)]
    exact pick_even r [a]
end
end Pu
namespace Pu
open PySem L2
/-! a def that returns a list that it made itself -/
def spF (K : PySem.W.Frag) (n : Nat) (S : FS) : Sp := fun vs H Q _ => vs.length = n ∧ ∃ (Z : Addr → Prop) (ds : List PyData) (k : PyData → Prop), (∀ a, Z a → H a ≠ none) ∧ Dqs K (veil Z H) vs ds ∧
  S ds k ∧ ∀ xs l us H', k (.list xs) → Grow H H' → H l = none → H' l = some (.lst us) → Dqs K (veil (plus Z l) H') us xs → Q (.ref l) H'
def pCallF (n : Nat) (S : FS) (pa : PA') : PA' := fun ρ R => pa ρ fun ds ρ1 => ds.length = n ∧ S ds fun d => asL d fun xs => R xs ρ1
structure CompF (K : PySem.W.Frag) (Z : Addr → Prop) (A H0 : Hp) (D : Ends) (G : PEnds) : Prop where
  nx : ∀ M σ H ρ, EnvR K (fun _ => False) Z A H0 M σ H ρ → G.nx ρ → D.nx σ H
  bk : ∀ M σ H ρ, EnvR K (fun _ => False) Z A H0 M σ H ρ → G.bk ρ → D.bk σ H
  ct : ∀ M σ H ρ, EnvR K (fun _ => False) Z A H0 M σ H ρ → G.ct ρ → D.ct σ H
  rt : ∀ M σ H ρ l us xs, EnvR K (fun _ => False) Z A H0 M σ H ρ → G.rt (.list xs) ρ → H0 l = none → H l = some (.lst us) → Dqs K (veil (plus Z l) H) us xs → D.rt (.ref l) H
def SimSF (K : PySem.W.Frag) (ts : TS) (p : PS') : Prop := ∀ Z A H0 M σ H ρ D G, EnvR K (fun _ => False) Z A H0 M σ H ρ → p G ρ → CompF K Z A H0 D G → ts D σ H
section
variable {K : PySem.W.Frag}
theorem sim_callF {n : Nat} {S : FS} {E : XK} {ta : TA} {pa : PA'} (sa : SimA K ta pa) : SimL K (tCall (spF K n S) [] E ta) (pCallF n S pa) := fun B Z A H0 M σ H ρ R EE h Q q =>
  sa B Z A H0 M σ H ρ _ EE h _ fun vs ds ρ1 H1 h1 E1 d1 => by
    rw [List.append_nil]
    refine ⟨by rw [dqs_len d1]; exact h1.1, hid Z M, ds, _, ?_, d1, h1.2, fun xs l us H' k g hl hl2 dv => ?_⟩
    · rintro a (z | ⟨i, m⟩)
      · exact E1.zl a z
      · exact E1.live i a m
    · have k : R xs ρ1 := k
      have g2 : Grow H1 (wiped H' l) := fun c o e => by
        rw [wiped_ne (ne_of_none e hl)]
        exact g c o e
      have gv : Grow (veil (plus (hid Z M) l) H') (veil (hid Z M) (wiped H' l)) := fun c o e => by
        obtain ⟨e1, e2⟩ := veil_off e
        refine veil_on (fun z => e1 (.inl z)) ?_
        rw [wiped_ne (fun z => e1 (.inr z))]
        exact e2
      have := q l us xs ρ1 (wiped H' l) k (E1.grown g2) wiped_at (dps_grow gv _ _ dv)
      rw [wiped_upd hl2] at this
      exact this
theorem sF_of {t : TS} {p : PS'} (st : SimS K t p) (hp : ∀ G ρ, p G ρ → p { nx := G.nx, bk := G.bk, ct := G.ct, rt := fun _ _ => False } ρ) : SimSF K t p := fun Z A H0 M σ H ρ D G e h C =>
  st (fun _ => False) Z A H0 M σ H ρ D _ e (hp G ρ h) ⟨C.nx, C.bk, C.ct, fun _ _ _ _ _ _ _ z => z.elim⟩
theorem sF_seq {t u : TS} {p q : PS'} (st : SimSF K t p) (su : SimSF K u q) : SimSF K (tSeq t u) (pSeq p q) := fun Z A H0 M σ H ρ D G E h C =>
  st Z A H0 M σ H ρ _ _ E h ⟨fun M σ H ρ E h => su Z A H0 M σ H ρ D G E h C, C.bk, C.ct, C.rt⟩
theorem sF_if {tt : TT} {t u : TS} {pt : PT'} {p q : PS'} (sc : SimT K tt pt) (st : SimSF K t p) (su : SimSF K u q) : SimSF K (tIfS tt t u) (pIfS pt p q) := fun Z A H0 M σ H ρ D G E h C =>
  sc (fun _ => False) Z A H0 M σ H ρ _ E h _ fun c ρ1 H1 h1 E1 => by
    cases c with
    | true => exact st Z A H0 M σ H1 ρ1 D G E1 h1 C
    | false => exact su Z A H0 M σ H1 ρ1 D G E1 h1 C
theorem sF_retO {i : Nat} : SimSF K (tRet (tVar i)) (pRetO i) := fun Z A H0 M σ H ρ D G E h C => by
  obtain ⟨ds, hc, h⟩ := asOwn_of h
  obtain ⟨l, vs, e, m, hl, r⟩ := own_at E hc
  refine ⟨.ref l, e, C.rt M σ H ρ l vs ds E h ((E.own i l m).elim (fun z => z.elim) id) hl (dps_grow (veil_less fun a z => ?_) _ _ r)⟩
  rcases z with z | z
  · exact .inl z
  · exact .inr ⟨i, by rw [z]; exact m⟩
def pRetNew (pa : PA') : PS' := fun G ρ => pa ρ fun ds ρ1 => G.rt (.list ds) ρ1
theorem sF_retL {te : TE} {pa : PA'} (sa : SimL K te pa) : SimSF K (tRet te) (pRetNew pa) := fun Z A H0 M σ H ρ D G E h C =>
  sa (fun _ => False) Z A H0 M σ H ρ _ E h _ fun l vs ds ρ1 H1 h1 E1 hl d1 => by
    have g : Grow (veil (hid Z M) H1) (veil (plus Z l) (upd H1 l (.lst vs))) := fun c o e => by
      obtain ⟨e1, e2⟩ := veil_off e
      have n := ne_of_none e2 hl
      refine veil_on ?_ ?_
      · rintro (z | z)
        · exact e1 (.inl z)
        · exact n z
      · rw [upd_ne n]
        exact e2
    refine C.rt M σ _ ρ1 l vs ds (E1.grown (grow_new hl)) h1 ?_ upd_same (dps_grow g _ _ d1)
    cases q : H0 l with
    | none => rfl
    | some o =>
      have := E1.ext l o id q
      rw [hl] at this
      cases this
theorem sF_while {tt : TT} {tb : TS} {pt : PT'} {pb : PS'} (st : SimT K tt pt) (sb : SimSF K tb pb) : SimSF K (tWhile tt tb) (pWhile pt pb) := fun Z A H0 M σ H ρ D G E ⟨W, ⟨m, w0⟩, ws⟩ C => by
  refine ⟨fun n σ' H' => ∃ M' ρ', EnvR K (fun _ => False) Z A H0 M' σ' H' ρ' ∧ W n ρ', ⟨m, M, ρ, E, w0⟩, fun n σ' H' ⟨M', ρ', E', w⟩ => ?_⟩
  refine st (fun _ => False) Z A H0 M' σ' H' ρ' _ E' (ws n ρ' w) _ fun c ρ1 H1 h1 E1 => ?_
  cases c with
  | false => exact C.nx M' σ' H1 ρ1 E1 h1
  | true =>
    refine ⟨fun σ2 H2 => ∃ m', m' < n ∧ ∃ M' ρ', EnvR K (fun _ => False) Z A H0 M' σ2 H2 ρ' ∧ W m' ρ', fun _ _ h => h, ?_⟩
    exact sb Z A H0 M' σ' H1 ρ1 _ _ E1 h1 ⟨fun M σ H ρ E ⟨m', l, w⟩ => ⟨m', l, M, ρ, E, w⟩, fun M σ H ρ E h => C.nx M σ H ρ E h, fun M σ H ρ E ⟨m', l, w⟩ => ⟨m', l, M, ρ, E, w⟩, C.rt⟩
end
section
variable {P : Program} {w : World} {K : PySem.W.Frag} {mg : Str → Option Value} {base : Heap}
def BodyF (P : Program) (w : World) (K : PySem.W.Frag) (mg : Str → Option Value) (base : Heap) (N : List Str) (qual : Str) (st : Stmt) (f : Addr) (k : Nat) (go : PS' → Prop) : Prop :=
  ∀ (cdv : Value) (A : Around) (outer : List Env) (s : Shared) (H : Hp) (E : XK), Room k (A.deeper (PyProof.Rows.envOfC qual (defScope st) s.heap.objs.size f cdv)) →
    ∃ t p, PSs (cxOf CX0 P w K mg base N qual (defScope st) f cdv A outer s H E).nox (defBody st) t ∧ SimSF K t p ∧ go p
theorem ok_F {x qual : Str} {st : Stmt} {f : Addr} {fd : FuncData} {N ps : List Str} {k n : Nat} {S : FS} (F : Fun K x qual st f fd) (Sc : FnScope N ps (defScope st)) (hn : ps.length = n)
    (hb : BodyF P w K mg base N qual st f k fun p => ∀ ds c, ds.length = n → S ds c → p ⟨fun _ => False, fun d _ => c d, fun _ => False, fun _ => False⟩ (startE N ds)) : FnOk P w K mg base CX0 (k + 1) f fd ps (spF K n S) := by
  refine F.ok Sc (fun vs H Q E h => by rw [h.1, hn]) (fun cdv A outer s H vs Q E hr h => ?_)
  obtain ⟨hl, Z, ds, c, hz, r, hS, q⟩ := h
  obtain ⟨t, p, ht, hs, hp⟩ := hb cdv A outer s H E hr
  have hnl : ps.length ≤ N.length := by
    have := congrArg List.length Sc.pre
    rw [List.length_take] at this
    omega
  have dl := dqs_len r
  refine ⟨t, ht, hs Z (fun _ => none) H (fun _ => none) _ H (startE N ds) _ _ ?_ (hp ds c (by omega) hS) ?_⟩
  · refine ⟨by rw [start_len (by omega), startE_len (by omega)], fun _ _ _ z => (nomatch z), fun _ _ z => (nomatch z), fun _ _ z => (nomatch z), hz, fun _ _ _ h => h, fun _ _ z => (nomatch z), fun _ z => False.elim z, fun _ _ z => (nomatch z), fun i cc hc => ?_⟩
    rcases start_cell r hc with rfl | ⟨v, d, rfl, e, dv⟩
    · trivial
    · refine ⟨v, e, ?_⟩
      rw [no_hid]
      exact dv
  · refine ⟨fun _ _ _ _ _ z => z.elim, fun _ _ _ _ _ z => z.elim, fun _ _ _ _ _ z => z.elim, fun M σ H' ρ l us xs E' k hl1 hl2 dv => q xs l us H' k (fun a o e => E'.ext a o id e) hl1 hl2 dv⟩
end
end Pu
/-! list(reversed(xs)) of a list -/
namespace RL
open PySem PySem.W PySem.Calls PyProof.Rows PyProof.V PySem.Spec
section
variable {prog : Program} {w : World} {A : Around} {E : Value → Shared → Prop} {s : Shared}
theorem r_extend {R : Result → Shared → Prop} {it l S : Addr} {items : Array Value} (hh : A.handled = none) (hit : s.heap.IsRevIter it l ((items.size : Int) - 1)) (hl : s.heap.IsList l items) (hne : l ≠ it) (hn : items.size ≤ sizeLine)
    (hSi : S ≠ it) (hSl : S ≠ l) (res : Value) (c₀ : Nat) (hS : s.heap.get? S = some { cls := .type "list", data := .seq #[] c₀ })
    (hR : ∀ (h' : Heap) (tk : Nat) (acc : Array Value) (c : Nat), (∀ b o, b ≠ S → b ≠ it → s.heap.get? b = some o → h'.get? b = some o) → h'.get? S = some { cls := .type "list", dict := none, data := .seq acc c, slots := #[] } → ItemsOf (fun i v => items[items.size - 1 - i]? = some v) acc items.size → R (.ok (.ret res)) { s with heap := h', toks := tk }) :
    wpAny (model prog w) A.in1 (Builtin.List.listExtendWith (.ref S) (.ref it) res)
      (fun fin s' => match fin with | .done f => R (.ok f) s' | .again c' => c'.quiet = true ∧ codeAny (model prog w) A c' R s') (fun e s' => R (.error e) s') s := by
  have W := (Walks.listRev (prog := prog) (w := w) (A := A.in1) hh it l hne items).toS
  have hSf : S ∉ [it, l] := by simp only [List.mem_cons, List.not_mem_nil, or_false, not_or]; exact ⟨hSi, hSl⟩
  have hT : s.TypeIs (.ref it) "list_reverseiterator" := hit.typeIs
  unfold Builtin.List.listExtendWith
  refine wpAny_bind (wpAny_typeOf hT ?_)
  have h1 : Builtin.List.listSameRef (.ref S) (.ref it) = false := by simp [Builtin.List.listSameRef, hSi]
  rw [if_neg (by rw [h1]; decide)]
  refine wpAny_bind (wpAny_pyIter_revIter hit ?_)
  refine wpAny_bind (wpAny_holding ?_)
  unfold Builtin.List.listLengthHint
  refine wpAny_bind (wpAny_specialOf hT RT.nolen_lri ?_)
  show wpAny _ A.in1 (specialOf (Value.ref it) (Str.ofString "__length_hint__") >>= _) _ _ _
  refine wpAny_bind (wpAny_specialOf hT RT.hint_lri ?_)
  generalize hid : ("list_reverseiterator.__length_hint__" : String) = id0
  wp_delta
  rw [show splitId id0 = some ("list_reverseiterator", "__length_hint__") from by subst hid; decide +kernel]
  subst hid
  refine wpAny_bind (wpAny_isInstance (b := true) hT (by rw [isSubtype_type]; kernel_rfl) ?_)
  refine wpAny_pure ?_
  rw [if_neg (by decide)]
  have e0 : ((items.size : Nat) : Int) - 1 - ((0 : Nat) : Int) = (items.size : Int) - 1 := by omega
  refine wpAny_pure ⟨plainId_quiet F.plain_extend_loop _, codeAny_extend_loopS W hn _ hSf _ items.size 0 _ _ _ rfl (Nat.zero_le _) ⟨Nat.zero_le _, by rw [e0]; exact hit, hl⟩ hS (ItemsOf.nil _) fun s' acc' c' hm hS' hacc => ?_⟩
  rw [Moved.eq_with hm]
  refine hR s'.heap s'.toks acc' c' (fun b o hb hb2 e => hm.heap b o (fun hmem => ?_) e) hS' hacc
  rcases List.mem_cons.mp hmem with e' | hmem
  · exact hb e'
  · exact hb2 (List.mem_singleton.mp hmem)
theorem r_init {R : Result → Shared → Prop} {it l S : Addr} {items : Array Value} (hh : A.handled = none) (hit : s.heap.IsRevIter it l ((items.size : Int) - 1)) (hl : s.heap.IsList l items) (hne : l ≠ it) (hn : items.size ≤ sizeLine)
    (hSi : S ≠ it) (hSl : S ≠ l) (hS : s.heap.get? S = some { cls := .type "list", data := .seq #[] })
    (hR : ∀ (h' : Heap) (tk : Nat) (acc : Array Value) (c : Nat), (∀ b o, b ≠ S → b ≠ it → s.heap.get? b = some o → h'.get? b = some o) → h'.get? S = some { cls := .type "list", dict := none, data := .seq acc c, slots := #[] } → ItemsOf (fun i v => items[items.size - 1 - i]? = some v) acc items.size → R (.ok (.ret .none)) { s with heap := h', toks := tk }) :
    wpAny (model prog w) A.in1 (Builtin.«list.__init__» ⟨[.ref S, .ref it], []⟩)
      (fun fin s' => match fin with | .done f => R (.ok f) s' | .again c' => c'.quiet = true ∧ codeAny (model prog w) A c' R s') (fun e s' => R (.error e) s') s := by
  show wpAny _ _ (do let old ← Builtin.List.listItems (.ref S); Builtin.List.listUpdate (.ref S) (fun _ => #[]); letGo old.toList.reverse; Builtin.List.listExtendWith (.ref S) (.ref it) .none) _ _ s
  refine wpAny_bind ?_
  unfold Builtin.List.listItems
  refine wpAny_bind (wpAny_seqItems hS rfl (wpAny_pure ?_))
  show wpAny _ _ (updateSeq S (fun _ => #[]) >>= fun _ => letGo (#[] : Array Value).toList.reverse >>= fun _ => Builtin.List.listExtendWith (.ref S) (.ref it) .none) _ _ s
  refine wpAny_bind (wpAny_updateSeq hS rfl ?_)
  have hS₂ := Heap.get?_update_self (Obj.mapSeq (fun _ => (#[] : Array Value))) hS rfl
  have oth : ∀ b o, b ≠ S → s.heap.get? b = some o → (s.heap.update S (Obj.mapSeq (fun _ => (#[] : Array Value)))).get? b = some o :=
    fun b o hb e => (Heap.get?_update_other _ _ (Ne.symm hb)).trans e
  refine wpAny_bind (wpAny_letGo ?_)
  refine r_extend (s := { s with heap := s.heap.update S (Obj.mapSeq (fun _ => (#[] : Array Value))) }) hh (hit.at fun o e => oth _ o (Ne.symm hSi) e) (hl.at fun o e => oth _ o (Ne.symm hSl) e) hne hn hSi hSl .none _ hS₂ (fun h' tk acc c hk hS' hacc => ?_)
  exact hR h' tk acc c (fun b o hb hb2 e => hk b o hb hb2 (oth b o hb e)) hS' hacc
theorem r_call {Q : Value → Shared → Prop} {it l : Addr} {items : Array Value} (hh : A.handled = none) (hit : s.heap.IsRevIter it l ((items.size : Int) - 1)) (hl : s.heap.IsList l items) (hne : l ≠ it) (hn : items.size ≤ sizeLine)
    (hQ : ∀ (h' : Heap) (tk : Nat) (acc : Array Value) (c : Nat), (∀ b o, b ≠ it → s.heap.get? b = some o → h'.get? b = some o) → h'.get? s.heap.objs.size = some { cls := .type "list", dict := none, data := .seq acc c, slots := #[] } → ItemsOf (fun i v => items[items.size - 1 - i]? = some v) acc items.size → Q (.ref s.heap.objs.size) { s with heap := h', toks := tk }) :
    wpAny (model prog w) A (call (.type "list") [.ref it]) Q E s := by
  refine callType_codes (Q₁ := fun obj s₁ => obj = .ref s.heap.objs.size ∧ s₁ = { s with heap := s.heap.push { cls := .type "list", data := .seq #[] } }) PySem.F.called_list (PySem.F.typeCall_list_1 _) PySem.F.entry_list_init
    (code_list_new _ ⟨rfl, rfl⟩) fun obj s₁ h₁ => ?_
  obtain ⟨rfl, rfl⟩ := h₁
  have hS : (s.heap.push { cls := .type "list", data := .seq #[] }).get? s.heap.objs.size = some { cls := .type "list", data := .seq #[] } := Heap.get?_push_size _ rfl
  have q1 : it < s.heap.objs.size := let ⟨_, e, _⟩ := hit; Heap.lt_size e
  have q2 : l < s.heap.objs.size := let ⟨_, e, _⟩ := hl; Heap.lt_size e
  refine ⟨⟨_, hS, rfl⟩, PySem.F.args_list_init_2 _ _, r_init (A := A.in1) (s := { s with heap := s.heap.push { cls := .type "list", data := .seq #[] } }) hh (hit.at fun o e => Heap.get?_push_of_some _ e) (hl.push _) hne hn (Nat.ne_of_gt q1) (Nat.ne_of_gt q2) hS (fun h' tk acc c hk hS' hacc => ?_)⟩
  exact ⟨rfl, hQ h' tk acc c (fun b o hb e => hk b o (Nat.ne_of_lt (Heap.lt_size e)) hb (Heap.get?_push_of_some _ e)) hS' hacc⟩
end
open L2
/-- list(reversed(x)), x a list: a new list -/
def tListRev (K : PySem.W.Frag) (te : TE) : TE := fun σ H Q => te σ H fun v H1 => ∃ (a : Addr) (xs : List V), v = .ref a ∧ SqL K H1 a xs ∧ ∀ q, H1 q = none → Q (.ref q) (upd H1 q (.lst xs.reverse))
theorem pe_listRev {X : Cx} {e : Expr} {te : TE} {p p2 pos pos2 : Pos} (hc : X.calm = true) (hg : Gl X "list") (hm : X.mg "list" = none) (hg2 : Gl X "reversed") (hm2 : X.mg "reversed" = none) (he : PE X e te)
    (hs : starEach [e] X.env = (false, eval e X.env) :: starEach [] X.env := by rfl)
    (hs2 : starEach [.Call (.Name "reversed" p2) [e] [] pos2] X.env = (false, eval (.Call (.Name "reversed" p2) [e] [] pos2) X.env) :: starEach [] X.env := by rfl) :
    PE X (.Call (.Name "list" p) [.Call (.Name "reversed" p2) [e] [] pos2] [] pos) (tListRev X.K te) := by
  refine ⟨fun pins s σ H Q I h => ?_⟩
  refine Call_ (ld_blt I hg hm boot_list (PyProof.Rows.callWith_type1 (args_cons (Call_ (ld_blt I hg2 hm2 PyProof.Rows.boot_reversed (PyProof.Rows.callWith_type1 (args_cons (thn (he.run pins s σ H _ I h) fun u s1 ⟨v, H1, I1, r1, q1⟩ => args_nil ?_) hs) hs rfl))) hs2) hs2 rfl))
  obtain ⟨a, xs, ev, hq, q⟩ := q1
  subst ev
  obtain rfl : u = Value.ref a := r1
  obtain ⟨its, rv, p', hz⟩ := I1.list hq
  refine call_reversed_list p'.isList (args_nil ?_)
  have hl := p'.isList
  obtain ⟨ol, hol, _⟩ := id hl
  have hne : a ≠ s1.heap.objs.size := Nat.ne_of_lt (Heap.lt_size hol)
  have hn : its.toArray.size ≤ sizeLine := by rw [List.size_toArray, ← Vals.length rv]; exact hz
  refine r_call (s := { s1 with heap := s1.heap.push (revObj a ((its.toArray.size : Int) - 1)) }) (I1.ok.hd hc) ⟨_, Heap.get?_push_size _ rfl, rfl, rfl⟩ (hl.push _) hne hn fun h' tk acc c hk hS hi => ?_
  have hk3 : ∀ b o, s1.heap.get? b = some o → h'.get? b = some o := fun b o e => hk b o (Nat.ne_of_lt (Heap.lt_size e)) (Heap.get?_push_of_some _ e)
  have sz : s1.heap.objs.size ≤ (s1.heap.push (revObj a ((its.toArray.size : Int) - 1))).objs.size := by rw [Heap.size_push]; exact Nat.le_succ _
  refine ⟨.ref _, upd H1 _ (.lst xs.reverse), I1.laid (t' := tk) hk3 sz (show ObjOk X.prog X.w _ _ _ (.lst xs.reverse) from ⟨by rw [List.length_reverse]; exact hz, acc.toList, c, RT.vals_rev rv hi, ?_⟩), rfl, q _ (I1.hok.fresh sz)⟩
  rw [Array.toArray_toList]
  exact hS
end RL
namespace Pu
open PySem L2
section
variable {K : PySem.W.Frag}
def pListRev (pa : PE') : PA' := fun ρ R => pa ρ fun x ρ1 => asL x fun ds => R ds.reverse ρ1
theorem dqs_revs {H : Hp} : ∀ {vs : List V} {ds : List PyData}, Dqs K H vs ds → Dqs K H vs.reverse ds.reverse
  | _, _, .nil => .nil
  | _, _, .cons h r => by
    rw [List.reverse_cons, List.reverse_cons]
    exact dqs_app (dqs_revs r) (.cons h .nil)
theorem sim_listRev {te : TE} {pa : PE'} (sa : Sim K te pa) : SimL K (RL.tListRev K te) (pListRev pa) := fun B Z A H0 M σ H ρ R E h Q q =>
  sa B Z A H0 M σ H ρ _ E h _ fun v d ρ1 H1 h1 E1 d1 => by
    obtain ⟨ds, rfl, h2⟩ := asL_of h1
    cases d1 with
    | @lst a us _ hl r =>
    exact ⟨a, us, rfl, .of (veil_grow _ _ _ _ hl), fun p hp => q p _ _ ρ1 H1 h2 E1 hp (dqs_revs r)⟩
end
end Pu
namespace Pu
open PySem L2
section
variable {K : PySem.W.Frag}
/-- [e for a, b in zip(x, y)] of two lists -/
def pLcZL (vs is : List Nat) (pa : PA') (pg : PG') (pt : PT') (pe : PE') : PA' := fun ρ R => (∀ v ∈ vs, cellAt ρ v = .no) ∧ pa ρ fun x ρ1 => ρ1 = ρ ∧ ∃ xs ys : List PyData, x = [.list xs, .list ys] ∧ ∃ I : Nat → List PyData → Prop, I 0 [] ∧
  (∀ i c d acc, xs[i]? = some c → ys[i]? = some d → I i acc → pg (.tuple [c, d]) ρ fun ρ2 => pt ρ2 fun b ρ3 => ρ3 = ρ2 ∧ if b = true then pe ρ2 fun y ρ4 => ρ4 = ρ2 ∧ acc.length < 100000 ∧ I (i + 1) (acc ++ [y]) else I (i + 1) acc) ∧ ∀ acc, I (min xs.length ys.length) acc → R acc ρ
theorem sim_lcZL {ta : TA} {g : TG} {tt : TT} {te : TE} {vs is : List Nat} {pa : PA'} {pg : PG'} {pt : PT'} {pe : PE'} (sa : SimA K ta pa) (sg : SimGV K vs g pg) (st : SimT K tt pt) (se : Sim K te pe) :
    SimL K (tLc (RZ.iZipA K ta) g tt te vs) (pLcZL vs is pa pg pt pe) := fun B Z A H0 M σ H ρ R E ⟨hv, h⟩ Q q =>
  sa B Z A H0 M σ H ρ _ E h _ fun us x ρ1 H1 ⟨e1, xs, ys, hx, I, i0, is, ie⟩ E1 d1 => by
    subst e1
    subst hx
    obtain ⟨u, w, rfl, du, dw⟩ := pair_of d1
    cases du with
    | @lst a us _ hs r =>
      cases dw with
      | @lst b ws _ hs2 r2 =>
        have l1 := dqs_len r
        have l2 := dqs_len r2
        refine ⟨a, b, us, ws, rfl, .inl ⟨.of (veil_grow _ _ _ _ hs), .of (veil_grow _ _ _ _ hs2), fun D hD => ?_⟩⟩
        obtain ⟨h0, nB, nZ⟩ := lc_start E1 hD
        refine walkW (n := min us.length ws.length) (fun i H' => ∃ va acc, EnvR K B (plus Z D) (veil (hid Z M) H1) H0 M (wipe σ vs) H' ρ1 ∧ H' D = some (.lst va) ∧ Dqs K (veil (hid (plus Z D) M) H') va acc ∧ I i acc) ⟨[], [], E1.enter hv hD, upd_same, .nil, i0⟩
          (fun H' ⟨va, acc, E', hd', ra, hI⟩ => ⟨⟨us, ws, .of (veil_grow _ _ _ _ (E'.anch _ _ hs)), .of (veil_grow _ _ _ _ (E'.anch _ _ hs2)), by omega⟩, ?_⟩) (fun i H' hi ⟨va, acc, E', hd', ra, hI⟩ => ?_)
        · have z := q D va acc ρ1 (wiped H' D) (ie acc (by rw [← l1, ← l2]; exact hI)) (E'.leave E1.anch h0 nZ) wiped_at (dps_grow veil_in _ _ ra)
          rw [wiped_upd hd'] at z
          exact z
        · have s1 : SqL K H' a us := .of (veil_grow _ _ _ _ (E'.anch _ _ hs))
          have s2 : SqL K H' b ws := .of (veil_grow _ _ _ _ (E'.anch _ _ hs2))
          have g1 : us[i]? = some us[i] := List.getElem?_eq_getElem (by omega)
          have g2 : ws[i]? = some ws[i] := List.getElem?_eq_getElem (by omega)
          refine ⟨⟨us, ws, _, _, s1, s2, g1, g2⟩, fun x H2 hy => ?_⟩
          obtain ⟨T, y1, y2, rfl, hT, rfl, k1, k2⟩ := hy
          have e1 := k1 us s1
          have e2 := k2 ws s2
          obtain ⟨c, hc, dc⟩ := dqs_got r e1
          obtain ⟨d, hd, dd⟩ := dqs_got r2 e2
          have nT : D ≠ T := fun e => by rw [← e, hd'] at hT; cases hT
          have gT := grow_new (o := HO.tup [y1, y2]) hT
          have E3 := E'.grown gT
          refine lc_turn sg st se E3 hv ((upd_ne nT).trans hd') h0 nB (.new (E'.veiled hT) hT (.cons (dp_grow E'.anch _ _ dc) (.cons (dp_grow E'.anch _ _ dd) .nil))) (dps_grow (grow_veil gT) _ _ ra) wipe_wipe (is i c d acc hc hd hI) fun H2 va' acc' E2 h2 r2 y2 => ⟨va', acc', E2, h2, r2, y2⟩
end
end Pu
namespace Pu
open PySem L2
/-! a < b of two ints, or of two tuples of ints -/
def rLtA (K : PySem.W.Frag) : R2 := fun x y H Q => rI0 (fun i j => .bl (decide (i < j))) x y H Q ∨ rLtT K x y H Q
theorem op_ltA {X : Cx} (hu : X.A.units + 64 < cLine) : OpR X (compareOp .Lt) (rLtA X.K) := either op_lt (op_ltT (by omega))
def ltD (x y : PyData) (k : Bool → Prop) : Prop := match x, y with
  | .int i, .int j => k (decide (i < j))
  | .tuple xs, .tuple ys => match intsOf xs, intsOf ys with
    | some ns, some ms => k (HT.lexLt ns ms)
    | _, _ => False
  | _, _ => False
theorem ltD_of {x y : PyData} {k : Bool → Prop} (h : ltD x y k) : (∃ i j, x = .int i ∧ y = .int j ∧ k (decide (i < j))) ∨ ∃ ns ms : List Int, x = .tuple (ns.map PyData.int) ∧ y = .tuple (ms.map PyData.int) ∧ k (HT.lexLt ns ms) := by
  unfold ltD at h
  split at h
  · exact .inl ⟨_, _, rfl, rfl, h⟩
  · split at h
    · rename_i e1 e2
      exact .inr ⟨_, _, by rw [intsOf_eq e1], by rw [intsOf_eq e2], h⟩
    · exact h.elim
  · exact h.elim
def pLtA (pa pb : PE') : PE' := fun ρ R => pa ρ fun x ρ1 => pb ρ1 fun y ρ2 => ltD x y fun b => R (.bool b) ρ2
theorem sim_ltA {K : PySem.W.Frag} {ta tb : TE} {pa pb : PE'} (sa : Sim K ta pa) (sb : Sim K tb pb) : Sim K (tOp (rLtA K) ta tb) (pLtA pa pb) := fun B Z A H0 M σ H ρ R E h Q q =>
  two sa sb E h fun v w x y ρ2 H2 h2 E2 d1 d2 => by
    rcases ltD_of h2 with ⟨i, j, rfl, rfl, h3⟩ | ⟨ns, ms, rfl, rfl, h3⟩
    · rw [of_int d1, of_int d2]
      exact .inl ⟨i, j, rfl, rfl, q _ _ _ _ h3 E2 (.bl _)⟩
    · cases d1 with
      | @tup a us _ hl r =>
      cases d2 with
      | @tup b ws _ hl2 r2 =>
      have e1 := dqs_of_ints r
      have e2 := dqs_of_ints r2
      subst e1
      subst e2
      exact .inr ⟨a, b, ns, ms, rfl, rfl, grow_t (veil_grow _ _) hl, grow_t (veil_grow _ _) hl2, q _ _ _ _ h3 E2 (.bl _)⟩
end Pu
namespace Pr
open PySem L2 Pu N7
abbrev nums (l : List Int) : List PyData := l.map PyData.int
def sideD (s : Sd) : PyData := .tuple [.int s.p, .tuple (nums s.bs), .bool s.f]
def runD (r : Int × Int) : PyData := .tuple [.int r.1, .int r.2]
def runsD (rs : Rn) : PyData := .tuple (rs.map runD)
def dsD (D : Ds) : PyData := .tuple [sideD D.l, .int D.low, runsD D.rs, .int D.high, sideD D.r]
structure SdB (s : Sd) : Prop where
  ok : SdOk s
  n : s.bs.length ≤ 40000
def S_count_below : FS := fun ds k => match ds with
  | [d, .int x] => ∃ (l : List Int) (lo hi : Int), (d = .tuple (nums l) ∨ d = .list (nums l)) ∧ Asc lo hi l ∧ l.length ≤ 100000 ∧ k (.int (cnt l x : Nat))
  | [d, .tuple [.int x]] => ∃ (rs : Rn) (lo : Int), (d = runsD rs ∨ d = .list (rs.map runD)) ∧ RunsFrom lo rs ∧ rs.length ≤ 100000 ∧ k (.int (cnt (rs.map fun r => r.1) x : Nat))
  | _ => False
def S_side_holds : FS := fun ds k => match ds with
  | [d, .int x] => ∃ s : Sd, d = sideD s ∧ SdB s ∧ k (.bool (holds s x))
  | _ => False
-- count_below: ['rows', 'mark', 'low', 'high', 'middle']
abbrev N_count_below : List Str := ["rows", "mark", "low", "high", "middle"]
def p_count_below : PS' := (pSeq (pPar 2 3 (pCons (pC (.int 0)) (pCons (pFn fLen (pCons (pVar 0) pNil)) pNil)))
      (pSeq (pWhile (pTst (pII (fun i j => .bool (decide (i < j))) (pVar 2) (pVar 3))) (pSeq (pAsg (pIIc CDiv (fun i j => .int (i / j)) (pPlus (pVar 2) (pVar 3)) (pC (.int 2))) (pgN 4))
      (pIfS (pTst (pLtA (pIx (pVar 0) (pVar 4)) (pVar 1))) (pAsg (pPlus (pVar 4) (pC (.int 1))) (pgN 2)) (pAsg (pVar 4) (pgN 3)))))
      (pRet (pVar 2))))
-- side_holds: ['side', 'number', 'period', 'borders', 'inside', 'odd']
abbrev N_side_holds : List Str := ["side", "number", "period", "borders", "inside", "odd"]
def p_side_holds : PS' := (pSeq (pAsg (pVar 0) (pgT [2, 3, 4]))
      (pSeq (pAsg (pEqD false (pIIc (fun _ j => 0 < j) (fun i j => .int (i % j)) (pCall 2 S_count_below (pCons (pVar 3) (pCons (pPlus (pIIc (fun _ j => 0 < j) (fun i j => .int (i % j)) (pVar 1) (pVar 2)) (pC (.int 1))) pNil))) (pC (.int 2))) (pC (.int 1))) (pgN 5))
      (pRet (pEqD true (pVar 4) (pVar 5)))))
theorem nums_at {l : List Int} {i : Nat} (h : i < l.length) : atI (nums l) (i : Nat) = some (.int (l.getD i 0)) := by
  refine atI_nat ?_
  rw [List.getElem?_map, getD_some h]
  rfl
/-- the search, over any row whose items are told apart by the mark as the numbers of a list are by x -/
theorem count_loop {d m : PyData} {c : PyData → Prop} {x lo hi : Int} {l : List Int} (ha : Asc lo hi l) (hlen : lenD d = some l.length) (h : c (.int (cnt l x : Nat)))
    (hat : ∀ (i : Nat) (G : Bool → Prop), i < l.length → G (decide (l.getD i 0 < x)) → asS d fun ds => asO (atI ds (i : Nat)) fun y => ltD y m G) : p_count_below (fin c) [.d d, .d m, .no, .no, .no] := by
  refine ⟨l.length, hlen, ?_⟩
  refine ⟨fun n ρ => ∃ (a b : Nat) (o : Cell), ρ = [.d d, .d m, .d (.int (a : Nat)), .d (.int (b : Nat)), o] ∧ n = b - a ∧ a ≤ cnt l x ∧ cnt l x ≤ b ∧ b ≤ l.length, ⟨_, 0, l.length, .no, rfl, rfl, Nat.zero_le _, cnt_le _ _, Nat.le_refl _⟩, ?_⟩
  rintro n ρ ⟨a, b, o, rfl, rfl, h1, h2, h3⟩
  show (if decide ((a : Int) < (b : Int)) = true then _ else _)
  refine ifd (fun z => ?_) (fun z => ?_)
  · have z : a < b := by omega
    refine ⟨⟨by decide, by decide⟩, ?_⟩
    have hm : (a + b) / 2 < l.length := by omega
    have e : (((a + b) / 2 : Nat) : Int) = ((a : Int) + (b : Int)) / 2 := by omega
    have k := cnt_get ha x (getD_some hm)
    have g := hat ((a + b) / 2) (fun q => if q = true then (pAsg (pPlus (pVar 4) (pC (.int 1))) (pgN 2)) { fin c with nx := fun ρ2 => ∃ m', m' < b - a ∧ ∃ (a b : Nat) (o : Cell), ρ2 = [.d d, .d m, .d (.int (a : Nat)), .d (.int (b : Nat)), o] ∧ m' = b - a ∧ a ≤ cnt l x ∧ cnt l x ≤ b ∧ b ≤ l.length } ([.d d, .d m, .d (.int (a : Nat)), .d (.int (b : Nat)), .d (.int (((a : Int) + (b : Int)) / 2))] : En)
      else (pAsg (pVar 4) (pgN 3)) { fin c with nx := fun ρ2 => ∃ m', m' < b - a ∧ ∃ (a b : Nat) (o : Cell), ρ2 = [.d d, .d m, .d (.int (a : Nat)), .d (.int (b : Nat)), o] ∧ m' = b - a ∧ a ≤ cnt l x ∧ cnt l x ≤ b ∧ b ≤ l.length } ([.d d, .d m, .d (.int (a : Nat)), .d (.int (b : Nat)), .d (.int (((a : Int) + (b : Int)) / 2))] : En)) hm ?_
    · rw [e] at g
      exact g
    · show (if decide (l.getD ((a + b) / 2) 0 < x) = true then _ else _)
      refine ifd (fun y => ?_) (fun y => ?_)
      · have := k.mp y
        exact ⟨b - ((a + b) / 2 + 1), by omega, (a + b) / 2 + 1, b, _, congrArg (fun z : Int => ([.d d, .d m, .d (.int z), .d (.int (b : Nat)), .d (.int (((a : Int) + (b : Int)) / 2))] : En)) (show ((a : Int) + (b : Int)) / 2 + 1 = (((a + b) / 2 + 1 : Nat) : Int) by omega), rfl, by omega, h2, h3⟩
      · have : ¬ (a + b) / 2 < cnt l x := fun w => y (k.mpr w)
        exact ⟨(a + b) / 2 - a, by omega, a, (a + b) / 2, _, congrArg (fun z : Int => ([.d d, .d m, .d (.int (a : Nat)), .d (.int z), .d (.int (((a : Int) + (b : Int)) / 2))] : En)) (show ((a : Int) + (b : Int)) / 2 = (((a + b) / 2 : Nat) : Int) by omega), rfl, h1, by omega, by omega⟩
  · have e : a = cnt l x := by omega
    show c (.int (a : Nat))
    rw [e]
    exact h
theorem starts_asc : ∀ {rs : Rn} {lo hi : Int}, RunsFrom lo rs → runsEnd lo rs ≤ hi → Asc lo hi (rs.map fun r => r.1)
  | [], _, _, _, _ => trivial
  | (a, b) :: r, lo, hi, ⟨h1, h2, h3⟩, k => by
    have he : b ≤ runsEnd b r := runs_end (rs := r) (lo := b) (lo' := b + 1) h3 (by omega)
    have k : runsEnd b r ≤ hi := k
    have ih := starts_asc (RunsFrom_weak h3) k
    exact ⟨h1, by show a < hi; omega, asc_up ih h3 (by omega)⟩
where
  RunsFrom_weak {r : Rn} {b : Int} (h : RunsFrom (b + 1) r) : RunsFrom b r := runs_weak h (by omega)
  asc_up : ∀ {r : Rn} {a b hi : Int}, Asc b hi (r.map fun r => r.1) → RunsFrom (b + 1) r → a < b → Asc (a + 1) hi (r.map fun r => r.1)
    | [], _, _, _, _, _, _ => trivial
    | (c, d) :: t, _, _, _, ⟨_, h2, h3⟩, ⟨k1, _, _⟩, ab => ⟨by show _ ≤ c; omega, h2, h3⟩
theorem runD_at {rs : Rn} {i : Nat} (h : i < rs.length) : ∃ b : Int, atI (rs.map runD) (i : Nat) = some (.tuple [.int ((rs.map fun r => r.1).getD i 0), .int b]) := by
  refine ⟨rs[i].2, atI_nat ?_⟩
  rw [List.getElem?_map, List.getElem?_eq_getElem h]
  show some (runD rs[i]) = _
  have : (rs.map fun r => r.1).getD i 0 = rs[i].1 := by
    rw [List.getD_eq_getElem?_getD, List.getElem?_map, List.getElem?_eq_getElem h]
    rfl
  rw [this]
  rfl
theorem pure_count_below (ds : List PyData) (c : PyData → Prop) (hl : ds.length = 2) (h : S_count_below ds c) : p_count_below (fin c) (startE N_count_below ds) := by
  unfold S_count_below at h
  split at h
  · rename_i d x
    obtain ⟨l, lo, hi, hd, ha, hn, h⟩ := h
    rcases hd with rfl | rfl
    · refine count_loop ha (by show some (nums l).length = _; rw [List.length_map]) h fun i G hi g => ?_
      show asO (atI (nums l) (i : Nat)) _
      exact oSome (nums_at hi) g
    · refine count_loop ha (by show some (nums l).length = _; rw [List.length_map]) h fun i G hi g => ?_
      show asO (atI (nums l) (i : Nat)) _
      exact oSome (nums_at hi) g
  · rename_i d x
    obtain ⟨rs, lo, hd, hr, hn, h⟩ := h
    have ha := starts_asc hr (Int.le_refl _)
    have lt : ∀ (a b : Int), HT.lexLt [a, b] [x] = decide (a < x) := fun a b => by
      rw [HT.lexLt_cons]
      by_cases e : a = x
      · rw [if_pos e, decide_eq_false (by omega)]
        rfl
      · rw [if_neg e]
    have at_ : ∀ (i : Nat) (G : Bool → Prop), i < (rs.map fun r => r.1).length → G (decide ((rs.map fun r => r.1).getD i 0 < x)) → asO (atI (rs.map runD) (i : Nat)) fun y => ltD y (.tuple [.int x]) G := fun i G hi g => by
      obtain ⟨b, eb⟩ := runD_at (rs := rs) (by rw [List.length_map] at hi; exact hi)
      refine oSome eb ?_
      show G (HT.lexLt [_, b] [x])
      rw [lt]
      exact g
    rcases hd with rfl | rfl
    · exact count_loop ha (by show some (rs.map runD).length = _; rw [List.length_map, List.length_map]) h at_
    · exact count_loop ha (by show some (rs.map runD).length = _; rw [List.length_map, List.length_map]) h at_
  · exact h.elim
theorem eqv_bool (a b : Bool) : PyData.eqv (.bool a) (.bool b) = (a == b) := by cases a <;> cases b <;> rfl
theorem pure_side_holds (ds : List PyData) (c : PyData → Prop) (hl : ds.length = 2) (h : S_side_holds ds c) : p_side_holds (fin c) (startE N_side_holds ds) := by
  unfold S_side_holds at h
  split at h
  · rename_i d x
    obtain ⟨s, rfl, hs, h⟩ := h
    have p1 := hs.ok.p1
    refine ⟨rfl, by show 0 < s.p; omega, rfl, s.bs, 0, s.p, .inl rfl, hs.ok.asc, Nat.le_trans hs.n (by decide), (by decide : (0 : Int) < 2), rfl, rfl, rfl, rfl, ?_⟩
    show c (.bool (!(PyData.eqv (.bool s.f) (.bool (PyData.eqv (.int (((cnt s.bs (x % s.p + 1) : Nat) : Int) % 2)) (.int 1))))))
    rw [eqv_int, eqv_bool]
    have e : (!(s.f == decide (((cnt s.bs (x % s.p + 1) : Nat) : Int) % 2 = 1))) = holds s x := by
      unfold holds odd
      have : decide (((cnt s.bs (x % s.p + 1) : Nat) : Int) % 2 = 1) = decide (cnt s.bs (x % s.p + 1) % 2 = 1) := by
        by_cases z : cnt s.bs (x % s.p + 1) % 2 = 1
        · rw [decide_eq_true z, decide_eq_true (by omega)]
        · rw [decide_eq_false z, decide_eq_false (by omega)]
      rw [this]
      rfl
    rw [e]
    exact h
  · exact h.elim
end Pr
namespace Pr
open PySem L2 Pu N7
/-! a walk along a side -/
abbrev Fs := List (Str × PyData)
abbrev lkf (fs : Fs) (f : Str) : Option PyData := fs.lookup f
theorem lk_put_same {f : Str} {d : PyData} : ∀ {fs : Fs}, (putFd f d fs).lookup f = some d
  | [] => by
    unfold putFd
    simp [List.lookup]
  | (g, x) :: r => by
    unfold putFd
    by_cases e : g = f
    · rw [if_pos e, e]
      simp [List.lookup]
    · rw [if_neg e]
      have : (f == g) = false := beq_eq_false_iff_ne.mpr fun z => e z.symm
      rw [List.lookup_cons, this]
      exact lk_put_same (fs := r)
theorem lk_put_ne {f g : Str} {d : PyData} (h : ¬ f = g) : ∀ {fs : Fs}, (putFd f d fs).lookup g = fs.lookup g
  | [] => by
    have : (g == f) = false := beq_eq_false_iff_ne.mpr fun z => h z.symm
    unfold putFd
    rw [List.lookup_cons, this]
  | (k, x) :: r => by
    unfold putFd
    by_cases e : k = f
    · have : (g == f) = false := beq_eq_false_iff_ne.mpr fun z => h z.symm
      rw [if_pos e, e, List.lookup_cons, List.lookup_cons, this]
    · rw [if_neg e, List.lookup_cons, List.lookup_cons, lk_put_ne h (fs := r)]
theorem len_put {f : Str} {d x : PyData} : ∀ {fs : Fs}, fs.lookup f = some x → (putFd f d fs).length = fs.length
  | [], h => by cases h
  | (g, y) :: r, h => by
    unfold putFd
    by_cases e : g = f
    · rw [if_pos e]; rfl
    · have : (f == g) = false := beq_eq_false_iff_ne.mpr fun z => e z.symm
      rw [List.lookup_cons, this] at h
      rw [if_neg e, List.length_cons, List.length_cons, len_put h]
theorem len_put_le {f : Str} {d : PyData} : ∀ {fs : Fs}, (putFd f d fs).length ≤ fs.length + 1
  | [] => Nat.le_refl _
  | (g, y) :: r => by
    unfold putFd
    by_cases e : g = f
    · rw [if_pos e, List.length_cons, List.length_cons]; omega
    · have := len_put_le (f := f) (d := d) (fs := r)
      rw [if_neg e, List.length_cons, List.length_cons]; omega
structure Rp (s : Sd) (base : Int) (n : Nat) (turn place : Int) : Prop where
  rep : (place = 0 ∧ n = 0 ∧ turn = base) ∨ (0 < n ∧ place = (((n - 1) % s.bs.length + 1 : Nat) : Int) ∧ turn = base + s.p * (((n - 1) / s.bs.length : Nat) : Int))
structure Wk (fs : Fs) (s : Sd) (base e : Int) (n : Nat) : Prop where
  per : lkf fs "period" = some (.int s.p)
  bor : lkf fs "borders" = some (.tuple (nums s.bs))
  en : lkf fs "end" = some (.int e)
  tp : ∃ turn place : Int, lkf fs "turn" = some (.int turn) ∧ lkf fs "place" = some (.int place) ∧ (s.bs ≠ [] → Rp s base n turn place)
  no1 : lkf fs "step" = none
  no2 : lkf fs "_border_behind" = none
  len : fs.length ≤ 10
def nxt (s : Sd) (base e : Int) (n : Nat) : Int := if s.bs = [] then e else min (base + bd s n) e
def S_Walk__border_behind : FSO := fun fs ds k => ds = [] ∧ ∃ (s : Sd) (base e : Int) (n : Nat), Wk fs s base e n ∧ SdB s ∧ ∀ fs', Wk fs' s base e (n + 1) → lkf fs' "ahead" = lkf fs "ahead" → fs'.length = fs.length → k (.int (nxt s base e n)) fs'
abbrev N_Walk__border_behind : List Str := ["self"]
def p_Walk__border_behind : PS' := (pSeq (pIfS (pNot (pTru (pFldO 0 "Walk" "borders"))) (pRet (pFldO 0 "Walk" "end")) pNext)
      (pSeq (pIfS (pTst (pEqD false (pFldO 0 "Walk" "place") (pFn fLen (pCons (pFldO 0 "Walk" "borders") pNil)))) (pSeq (pSetF 0 "Walk" "place" (pC (.int 0)))
      (pAugF 0 "Walk" "turn" (fun i j => i + j) (pFldO 0 "Walk" "period"))) pNext)
      (pSeq (pAugF 0 "Walk" "place" (fun i j => i + j) (pC (.int 1)))
      (pRet (pFn fMin2 (pCons (pPlus (pFldO 0 "Walk" "turn") (pIx (pFldO 0 "Walk" "borders") (pII (fun i j => .int (i - j)) (pFldO 0 "Walk" "place") (pC (.int 1))))) (pCons (pFldO 0 "Walk" "end") pNil)))))))
abbrev objG (c : PyData → Fs → Prop) : PEnds := ⟨fun ρ => asObj (Pu.cellAt ρ 0) fun m fs' => m = "Walk" ∧ c .none fs', fun d ρ => asObj (Pu.cellAt ρ 0) fun m fs' => m = "Walk" ∧ c d fs', fun _ => False, fun _ => False⟩
theorem divq {n m q r : Nat} (h : n = m * q + r) (l : r < m) : n / m = q ∧ n % m = r := by
  subst h
  rw [Nat.mul_add_div (by omega), Nat.div_eq_of_lt l, Nat.mul_add_mod, Nat.mod_eq_of_lt l]
  exact ⟨rfl, rfl⟩
theorem min_py (a b : Int) : (if b < a then b else a) = min a b := by
  split <;> omega
theorem pure_Walk__border_behind (fs : List (Str × PyData)) (ds : List PyData) (c : PyData → List (Str × PyData) → Prop) (hl : ds.length = 0) (h : S_Walk__border_behind fs ds c) : p_Walk__border_behind ⟨fun ρ => asObj (Pu.cellAt ρ 0) fun m fs' => m = "Walk" ∧ c .none fs', fun d ρ => asObj (Pu.cellAt ρ 0) fun m fs' => m = "Walk" ∧ c d fs', fun _ => False, fun _ => False⟩ (.obj "Walk" fs :: startE N_Walk__border_behind.tail ds) := by
  obtain ⟨rfl, s, base, e, n, w, hs, h⟩ := h
  obtain ⟨turn, place, ht, hp, hr⟩ := w.tp
  refine ⟨rfl, oSome w.bor ⟨_, rfl, ?_⟩⟩
  refine tf (fun z => ?_) (fun z => ?_)
  · have z : s.bs = [] := by
      have z : (!(!(nums s.bs).isEmpty)) = true := z
      cases q : s.bs with
      | nil => rfl
      | cons a r =>
        rw [q] at z
        cases z
    have k := h fs ⟨w.per, w.bor, w.en, ⟨turn, place, ht, hp, fun y => absurd z y⟩, w.no1, w.no2, w.len⟩ rfl rfl
    unfold nxt at k
    rw [if_pos z] at k
    exact ⟨rfl, oSome w.en ⟨rfl, k⟩⟩
  · have z : s.bs ≠ [] := fun q => by
      have z : (!(!(nums s.bs).isEmpty)) = false := z
      rw [q] at z
      cases z
    have hm : 0 < s.bs.length := List.length_pos_iff.mpr z
    have R := (hr z).rep
    -- from the raised place on
    have rest : ∀ (fs2 : Fs) (turn2 place2 : Int), lkf fs2 "period" = some (.int s.p) → lkf fs2 "borders" = some (.tuple (nums s.bs)) → lkf fs2 "end" = some (.int e) → lkf fs2 "turn" = some (.int turn2) → lkf fs2 "place" = some (.int place2) → lkf fs2 "step" = none → lkf fs2 "_border_behind" = none → fs2.length = fs.length → lkf fs2 "ahead" = lkf fs "ahead" →
        place2 = ((n % s.bs.length : Nat) : Int) → turn2 = base + s.p * ((n / s.bs.length : Nat) : Int) →
        (pSeq (pAugF 0 "Walk" "place" (fun i j => i + j) (pC (.int 1)))
      (pRet (pFn fMin2 (pCons (pPlus (pFldO 0 "Walk" "turn") (pIx (pFldO 0 "Walk" "borders") (pII (fun i j => .int (i - j)) (pFldO 0 "Walk" "place") (pC (.int 1))))) (pCons (pFldO 0 "Walk" "end") pNil))))) (objG c) ([.obj "Walk" fs2] : En) := by
      intro fs2 turn2 place2 h1 h2 h3 h4 h5 h6 h7 h8 h9 e1 e2
      have n1 : ¬ ("place" : Str) = "turn" := by decide +kernel
      have n2 : ¬ ("place" : Str) = "borders" := by decide +kernel
      have n3 : ¬ ("place" : Str) = "end" := by decide +kernel
      have n4 : ¬ ("place" : Str) = "period" := by decide +kernel
      have n5 : ¬ ("place" : Str) = "step" := by decide +kernel
      have n6 : ¬ ("place" : Str) = "_border_behind" := by decide +kernel
      have n7 : ¬ ("place" : Str) = "ahead" := by decide +kernel
      have b : atI (nums s.bs) (place2 + 1 - 1) = some (.int (s.bs.getD (n % s.bs.length) 0)) := by
        rw [show place2 + 1 - 1 = ((n % s.bs.length : Nat) : Int) by omega]
        exact nums_at (Nat.mod_lt n hm)
      refine ⟨rfl, oSome h5 ⟨rfl, by have := w.len; omega, ?_⟩⟩
      refine ⟨rfl, oSome ((lk_put_ne n1).trans h4) ⟨rfl, oSome ((lk_put_ne n2).trans h2) ⟨rfl, oSome lk_put_same (oSome b ⟨rfl, oSome ((lk_put_ne n3).trans h3) ⟨rfl, ?_⟩⟩)⟩⟩⟩
      have k := h (putFd "place" (.int (place2 + 1)) fs2) ⟨(lk_put_ne n4).trans h1, (lk_put_ne n2).trans h2, (lk_put_ne n3).trans h3, ⟨turn2, place2 + 1, (lk_put_ne n1).trans h4, lk_put_same, fun _ => ⟨.inr ⟨Nat.succ_pos _, by rw [Nat.add_sub_cancel]; omega, by rw [Nat.add_sub_cancel]; exact e2⟩⟩⟩, (lk_put_ne n5).trans h6, (lk_put_ne n6).trans h7, by rw [len_put h5, h8]; exact w.len⟩ ((lk_put_ne n7).trans h9) (by rw [len_put h5]; exact h8)
      unfold nxt at k
      rw [if_neg z] at k
      show c (.int (if e < turn2 + s.bs.getD (n % s.bs.length) 0 then e else turn2 + s.bs.getD (n % s.bs.length) 0)) _
      rw [min_py]
      have ev : turn2 + s.bs.getD (n % s.bs.length) 0 = base + bd s n := by
        unfold bd
        rw [e2]
        omega
      rw [ev]
      exact k
    refine ⟨rfl, oSome hp ⟨rfl, oSome w.bor ⟨_, rfl, by rfl, by rfl, ?_⟩⟩⟩
    show (if PyData.eqv (.int place) (.int ((nums s.bs).length : Nat)) = true then _ else _)
    rw [eqv_int, List.length_map]
    refine ifd (fun y => ?_) (fun y => ?_)
    · have n1 : ¬ ("place" : Str) = "turn" := by decide +kernel
      have n2 : ¬ ("place" : Str) = "period" := by decide +kernel
      have np := fun {g : Str} (h : ¬ ("place" : Str) = g) {fs : Fs} => lk_put_ne (d := .int 0) h (fs := fs)
      refine ⟨rfl, by have := w.len; omega, ?_⟩
      refine ⟨rfl, oSome ((lk_put_ne n1).trans ht) ⟨rfl, oSome ((lk_put_ne n2).trans w.per) ⟨rfl, by rw [len_put hp]; have := w.len; omega, ?_⟩⟩⟩
      have m1 : ¬ ("turn" : Str) = "period" := by decide +kernel
      have m2 : ¬ ("turn" : Str) = "borders" := by decide +kernel
      have m3 : ¬ ("turn" : Str) = "end" := by decide +kernel
      have m4 : ¬ ("turn" : Str) = "place" := by decide +kernel
      have m5 : ¬ ("turn" : Str) = "step" := by decide +kernel
      have m6 : ¬ ("turn" : Str) = "_border_behind" := by decide +kernel
      have m7 : ¬ ("turn" : Str) = "ahead" := by decide +kernel
      have k2 : ¬ ("place" : Str) = "borders" := by decide +kernel
      have k3 : ¬ ("place" : Str) = "end" := by decide +kernel
      have k5 : ¬ ("place" : Str) = "step" := by decide +kernel
      have k6 : ¬ ("place" : Str) = "_border_behind" := by decide +kernel
      have k7 : ¬ ("place" : Str) = "ahead" := by decide +kernel
      refine rest (putFd "turn" (.int (turn + s.p)) (putFd "place" (.int 0) fs)) (turn + s.p) 0 ((lk_put_ne m1).trans ((lk_put_ne n2).trans w.per)) ((lk_put_ne m2).trans ((lk_put_ne k2).trans w.bor)) ((lk_put_ne m3).trans ((lk_put_ne k3).trans w.en)) lk_put_same ((lk_put_ne m4).trans lk_put_same) ((lk_put_ne m5).trans ((lk_put_ne k5).trans w.no1)) ((lk_put_ne m6).trans ((lk_put_ne k6).trans w.no2)) ?_ ((lk_put_ne m7).trans (lk_put_ne k7)) ?_ ?_
      · rw [len_put ((lk_put_ne n1).trans ht), len_put hp]
      · rcases R with ⟨a, b, c⟩ | ⟨a, b, c⟩
        · omega
        · have : n % s.bs.length = 0 := by
            have d := Nat.div_add_mod (n - 1) s.bs.length
            have : n = s.bs.length * ((n - 1) / s.bs.length + 1) := by rw [Nat.mul_add, Nat.mul_one]; omega
            rw [this, Nat.mul_mod_right]
          omega
      · rcases R with ⟨a, b, c⟩ | ⟨a, b, c⟩
        · omega
        · have : n / s.bs.length = (n - 1) / s.bs.length + 1 := by
            have d := Nat.div_add_mod (n - 1) s.bs.length
            have : n = s.bs.length * ((n - 1) / s.bs.length + 1) := by rw [Nat.mul_add, Nat.mul_one]; omega
            rw [this, Nat.mul_div_cancel_left _ hm, ← this]
          rw [this, c, Int.natCast_add, Int.mul_add, Int.natCast_one, Int.mul_one]
          omega
    · refine rest fs turn place w.per w.bor w.en ht hp w.no1 w.no2 rfl rfl ?_ ?_
      · rcases R with ⟨a, b, c⟩ | ⟨a, b, c⟩
        · rw [a, b, Nat.zero_mod]
          rfl
        · have : n % s.bs.length = (n - 1) % s.bs.length + 1 := by
            have d := Nat.div_add_mod (n - 1) s.bs.length
            have lt := Nat.mod_lt (n - 1) hm
            have : n = s.bs.length * ((n - 1) / s.bs.length) + ((n - 1) % s.bs.length + 1) := by omega
            rw [this, Nat.mul_add_mod, Nat.mod_eq_of_lt (by omega), ← this]
          rw [this]
          exact b
      · rcases R with ⟨a, b, c⟩ | ⟨a, b, c⟩
        · rw [c, b, Nat.zero_div]
          simp
        · have : n / s.bs.length = (n - 1) / s.bs.length := by
            have d := Nat.div_add_mod (n - 1) s.bs.length
            have lt := Nat.mod_lt (n - 1) hm
            exact (divq (r := (n - 1) % s.bs.length + 1) (by omega) (by omega)).1
          rw [this]
          exact c
end Pr
namespace Pr
open PySem L2 Pu N7
def wN (s : Sd) (b : Int) (i : Nat) : Nat := cnt s.bs (b % s.p + 1) + i + (if holds s b then 0 else 1)
structure WkAt (fs : Fs) (s : Sd) (b e : Int) (i : Nat) : Prop where
  w : Wk fs s (b - b % s.p) e (wN s b i)
  ah : lkf fs "ahead" = some (.int (wRow s b e i))
theorem row_next (s : Sd) (b e : Int) (i : Nat) : nxt s (b - b % s.p) e (wN s b i) = wRow s b e (i + 1) := by
  unfold nxt wRow wN
  by_cases z : s.bs = []
  · rw [if_pos z, if_pos z]
    show e = if holds s b = true then e else e
    split <;> rfl
  · rw [if_neg z, if_neg z]
    show _ = if holds s b = true then _ else _
    cases holds s b with
    | true => rfl
    | false => rfl
theorem row_first (s : Sd) (b e : Int) (h : holds s b = false) : nxt s (b - b % s.p) e (cnt s.bs (b % s.p + 1)) = wRow s b e 0 := by
  unfold nxt wRow
  by_cases z : s.bs = []
  · rw [if_pos z, if_pos z]
    show e = if holds s b = true then b else e
    rw [h]
    rfl
  · rw [if_neg z, if_neg z]
    show _ = if holds s b = true then b else _
    rw [h]
    rfl
theorem row_now (s : Sd) (b e : Int) (h : holds s b = true) : wRow s b e 0 = b := by
  unfold wRow
  split
  · show (if holds s b = true then b else e) = b
    rw [h]
    rfl
  · show (if holds s b = true then b else _) = b
    rw [h]
    rfl
theorem wk_put {fs : Fs} {s : Sd} {base e : Int} {n : Nat} (w : Wk fs s base e n) {d : PyData} (hl : (putFd "ahead" d fs).length ≤ 10) : Wk (putFd "ahead" d fs) s base e n := by
  have n1 : ¬ ("ahead" : Str) = "period" := by decide +kernel
  have n2 : ¬ ("ahead" : Str) = "borders" := by decide +kernel
  have n3 : ¬ ("ahead" : Str) = "end" := by decide +kernel
  have n4 : ¬ ("ahead" : Str) = "turn" := by decide +kernel
  have n5 : ¬ ("ahead" : Str) = "place" := by decide +kernel
  have n6 : ¬ ("ahead" : Str) = "step" := by decide +kernel
  have n7 : ¬ ("ahead" : Str) = "_border_behind" := by decide +kernel
  obtain ⟨turn, place, ht, hp, hr⟩ := w.tp
  exact ⟨(lk_put_ne n1).trans w.per, (lk_put_ne n2).trans w.bor, (lk_put_ne n3).trans w.en, ⟨turn, place, (lk_put_ne n4).trans ht, (lk_put_ne n5).trans hp, hr⟩, (lk_put_ne n6).trans w.no1, (lk_put_ne n7).trans w.no2, hl⟩
def S_Walk_step : FSO := fun fs ds k => ds = [] ∧ ∃ (s : Sd) (b e : Int) (i : Nat), WkAt fs s b e i ∧ SdB s ∧ ∀ fs', WkAt fs' s b e (i + 1) → k (.int (wRow s b e i)) fs'
def S_Walk_init : FSO := fun fs ds k => fs = [] ∧ ∃ (s : Sd) (b e : Int), ds = [sideD s, .int b, .int e] ∧ SdB s ∧ ∀ fs', WkAt fs' s b e 0 → k .none fs'
abbrev N_Walk_step : List Str := ["self", "border"]
def p_Walk_step : PS' := (pSeq (pAsg (pFldO 0 "Walk" "ahead") (pgN 1))
      (pSeq (pSetF 0 "Walk" "ahead" (pMethO 0 "Walk" "_border_behind" 0 S_Walk__border_behind pNil))
      (pRet (pVar 1))))
abbrev N_Walk_init : List Str := ["self", "side", "begin", "end", "period", "borders", "_", "rest"]
def p_Walk_init : PS' := (pSeq (pAsg (pVar 1) (pgT [4, 5, 6]))
      (pSeq (pAsg (pIIc (fun _ j => 0 < j) (fun i j => .int (i % j)) (pVar 2) (pVar 4)) (pgN 7))
      (pSeq (pSetF 0 "Walk" "period" (pVar 4))
      (pSeq (pSetF 0 "Walk" "borders" (pVar 5))
      (pSeq (pSetF 0 "Walk" "end" (pVar 3))
      (pSeq (pSetF 0 "Walk" "turn" (pII (fun i j => .int (i - j)) (pVar 2) (pVar 7)))
      (pSeq (pSetF 0 "Walk" "place" (pCall 2 S_count_below (pCons (pVar 5) (pCons (pPlus (pVar 7) (pC (.int 1))) pNil))))
      (pSetF 0 "Walk" "ahead" (pIfE (pTst (pCall 2 S_side_holds (pCons (pVar 1) (pCons (pVar 2) pNil)))) (pVar 2) (pMethO 0 "Walk" "_border_behind" 0 S_Walk__border_behind pNil))))))))))
theorem pure_Walk_step (fs : List (Str × PyData)) (ds : List PyData) (c : PyData → List (Str × PyData) → Prop) (hl : ds.length = 0) (h : S_Walk_step fs ds c) : p_Walk_step ⟨fun ρ => asObj (Pu.cellAt ρ 0) fun m fs' => m = "Walk" ∧ c .none fs', fun d ρ => asObj (Pu.cellAt ρ 0) fun m fs' => m = "Walk" ∧ c d fs', fun _ => False, fun _ => False⟩ (.obj "Walk" fs :: startE N_Walk_step.tail ds) := by
  obtain ⟨rfl, s, b, e, i, w, hs, h⟩ := h
  refine ⟨rfl, oSome w.ah ⟨rfl, w.w.no2, rfl, rfl, rfl, s, _, e, _, w.w, hs, fun fs' w' ea _ => ⟨rfl, by have := w'.len; omega, ?_⟩⟩⟩
  refine ⟨rfl, h _ ⟨?_, ?_⟩⟩
  · have hx : wN s b (i + 1) = wN s b i + 1 := by unfold wN; omega
    rw [hx]
    exact wk_put w' (by rw [len_put (ea.trans w.ah)]; exact w'.len)
  · rw [row_next]
    exact lk_put_same
theorem pure_Walk_init (fs : List (Str × PyData)) (ds : List PyData) (c : PyData → List (Str × PyData) → Prop) (hl : ds.length = 3) (h : S_Walk_init fs ds c) : p_Walk_init ⟨fun ρ => asObj (Pu.cellAt ρ 0) fun m fs' => m = "Walk" ∧ c .none fs', fun d ρ => asObj (Pu.cellAt ρ 0) fun m fs' => m = "Walk" ∧ c d fs', fun _ => False, fun _ => False⟩ (.obj "Walk" fs :: startE N_Walk_init.tail ds) := by
  obtain ⟨rfl, s, b, e, rfl, hs, h⟩ := h
  have p1 := hs.ok.p1
  refine ⟨rfl, by show 0 < s.p; omega, ?_⟩
  refine ⟨rfl, by decide, rfl, by show 1 < 1000; decide, rfl, ?_⟩
  have l1 : ∀ {f : Str} {d : PyData} {fs : Fs} {k : Nat}, fs.length ≤ k → (putFd f d fs).length ≤ k + 1 := fun h => Nat.le_trans len_put_le (Nat.add_le_add_right h 1)
  have b1 : (putFd "period" (.int s.p) ([] : Fs)).length ≤ 1 := l1 (Nat.le_refl 0)
  have b2 := l1 (f := "borders") (d := .tuple (nums s.bs)) b1
  have b3 := l1 (f := "end") (d := .int e) b2
  have b4 := l1 (f := "turn") (d := .int (b - b % s.p)) b3
  have b5 := l1 (f := "place") (d := .int (cnt s.bs (b % s.p + 1) : Nat)) b4
  refine ⟨Nat.lt_of_le_of_lt b2 (by decide), rfl, Nat.lt_of_le_of_lt b3 (by decide), ?_⟩
  refine ⟨rfl, s.bs, 0, s.p, .inl rfl, hs.ok.asc, Nat.le_trans hs.n (by decide), rfl, Nat.lt_of_le_of_lt b4 (by decide), ?_⟩
  refine ⟨rfl, s, rfl, hs, ?_⟩
  have ne : ∀ {f g : Str}, ¬ f = g → ∀ {d : PyData} {fs : Fs}, lkf (putFd f d fs) g = lkf fs g := fun {f g} h {d fs} => lk_put_ne h
  have W : Wk (putFd "place" (.int (cnt s.bs (b % s.p + 1) : Nat)) (putFd "turn" (.int (b - b % s.p)) (putFd "end" (.int e) (putFd "borders" (.tuple (nums s.bs)) (putFd "period" (.int s.p) []))))) s (b - b % s.p) e (cnt s.bs (b % s.p + 1)) := by
    refine ⟨(ne (by decide +kernel)).trans ((ne (by decide +kernel)).trans ((ne (by decide +kernel)).trans ((ne (by decide +kernel)).trans lk_put_same))), (ne (by decide +kernel)).trans ((ne (by decide +kernel)).trans ((ne (by decide +kernel)).trans lk_put_same)), (ne (by decide +kernel)).trans ((ne (by decide +kernel)).trans lk_put_same), ⟨_, _, (ne (by decide +kernel)).trans lk_put_same, lk_put_same, fun z => ⟨?_⟩⟩, ?_, ?_, by omega⟩
    · by_cases q : cnt s.bs (b % s.p + 1) = 0
      · exact .inl ⟨by rw [q]; rfl, q, rfl⟩
      · have hle := cnt_le s.bs (b % s.p + 1)
        refine .inr ⟨by omega, ?_, ?_⟩
        · rw [Nat.mod_eq_of_lt (by omega)]
          omega
        · rw [Nat.div_eq_of_lt (by omega)]
          simp
    · exact (ne (by decide +kernel)).trans ((ne (by decide +kernel)).trans ((ne (by decide +kernel)).trans ((ne (by decide +kernel)).trans ((ne (by decide +kernel)).trans rfl))))
    · exact (ne (by decide +kernel)).trans ((ne (by decide +kernel)).trans ((ne (by decide +kernel)).trans ((ne (by decide +kernel)).trans ((ne (by decide +kernel)).trans rfl))))
  refine tf (fun q => ?_) (fun q => ?_)
  · refine ⟨rfl, Nat.lt_of_le_of_lt b5 (by decide), rfl, h _ ⟨?_, ?_⟩⟩
    · have hx : wN s b 0 = cnt s.bs (b % s.p + 1) := by unfold wN; rw [q]; rfl
      rw [hx]
      exact wk_put W (Nat.le_trans (l1 b5) (by decide))
    · rw [row_now s b e q]
      exact lk_put_same
  · refine ⟨rfl, W.no2, rfl, rfl, rfl, s, _, e, _, W, hs, fun fs' w' ea el => ⟨rfl, by have := w'.len; omega, rfl, h _ ⟨?_, ?_⟩⟩⟩
    · have hx : wN s b 0 = cnt s.bs (b % s.p + 1) + 1 := by unfold wN; rw [q]; rfl
      rw [hx]
      exact wk_put w' (Nat.le_trans (l1 (Nat.le_of_eq el)) (Nat.le_trans (Nat.add_le_add_right b5 1) (by decide)))
    · rw [row_first s b e q]
      exact lk_put_same
end Pr
namespace Pr
open PySem L2 Pu N7
/-! first differences -/
def optD : Option Int → PyData
  | none => .none
  | some m => .int m
def S_first_apart_from_runs : FS := fun ds k => match ds with
  | [d, r, .int low, .int high] => ∃ (s : Sd) (rs : Rn), d = sideD s ∧ (r = .tuple (rs.map runD) ∨ r = .list (rs.map runD)) ∧ SdB s ∧ RunsFrom low rs ∧ runsEnd low rs ≤ high ∧ rs.length ≤ 40000 ∧ ∀ o, FD (holds s) (inRuns rs) low high o → k (optD o)
  | _ => False
abbrev N_first_apart_from_runs : List Str := ["side", "runs", "low", "high", "walk", "border", "borders", "mark", "run"]
def p_first_apart_from_runs : PS' := (pSeq (pMakeO 4 "Walk" 3 S_Walk_init (pCons (pVar 0) (pCons (pVar 2) (pCons (pVar 3) pNil))))
      (pSeq (pAsg (pNew (pLc2 [8, 5] [5] (pVar 1) (pgN 8) (pVar 8) (pgN 5) (pTst (pII (fun i j => .bool (decide (i < j))) (pVar 5) (pVar 3))) (pVar 5))) (pgN 6))
      (pSeq (pFor (pLO (pNew (pLst (pStar (pVar 6) (pCons (pVar 3) pNil))))) (pgN 5) (pSeq (pAsg (pMethO 4 "Walk" "step" 0 S_Walk_step pNil) (pgN 7))
      (pIfS (pTst (pEqD true (pVar 5) (pVar 7))) (pRet (pFn fMin2 (pCons (pVar 5) (pCons (pVar 7) pNil)))) pNext)))
      (pRet (pC .none)))))
theorem flat_snoc : ∀ {rs : Rn} {r : Int × Int}, flat (rs ++ [r]) = flat rs ++ [r.1, r.2]
  | [], _ => rfl
  | (a, b) :: t, r => by
    show a :: b :: flat (t ++ [r]) = a :: b :: (flat t ++ [r.1, r.2])
    rw [flat_snoc]
theorem flat_len : ∀ (rs : Rn), (flat rs).length = 2 * rs.length
  | [] => rfl
  | (a, b) :: t => by
    show (flat t).length + 1 + 1 = 2 * (t.length + 1)
    rw [flat_len t]
    omega
theorem bRow_len (rs : Rn) (high : Int) : (bRow rs high).length ≤ 2 * rs.length := by
  have := List.length_filter_le (fun x => decide (x < high)) (flat rs)
  rw [flat_len] at this
  exact this
theorem map_at {α : Type} {f : α → PyData} {l : List α} {i : Nat} {d : PyData} (h : (l.map f)[i]? = some d) : ∃ x, l[i]? = some x ∧ d = f x := by
  rw [List.getElem?_map] at h
  cases e : l[i]? with
  | none =>
    rw [e] at h
    cases h
  | some x =>
    rw [e] at h
    exact ⟨x, rfl, (Option.some.inj h).symm⟩
theorem take_more {α : Type} {l : List α} {i : Nat} {x : α} (h : l[i]? = some x) : l.take (i + 1) = l.take i ++ [x] := by
  rw [List.take_succ, h]
  rfl
theorem yRow_at {rs : Rn} {high : Int} {i : Nat} {d : PyData} (h : (nums (bRow rs high) ++ [.int high])[i]? = some d) : d = .int (yRow rs high i) := by
  unfold yRow
  by_cases k : i < (bRow rs high).length
  · rw [List.getElem?_append_left (by rw [List.length_map]; exact k)] at h
    obtain ⟨x, hx, rfl⟩ := map_at h
    rw [List.getD_eq_getElem?_getD, hx]
    rfl
  · rw [List.getElem?_append_right (by rw [List.length_map]; omega), List.length_map] at h
    have : i - (bRow rs high).length = 0 := by
      by_cases z : i - (bRow rs high).length = 0
      · exact z
      · rw [List.getElem?_eq_none (by show 1 ≤ _; omega)] at h
        cases h
    rw [this] at h
    rw [List.getD_eq_getElem?_getD, List.getElem?_eq_none (by omega)]
    exact (Option.some.inj h).symm
theorem pure_first_apart_from_runs (ds : List PyData) (c : PyData → Prop) (hl : ds.length = 4) (h : S_first_apart_from_runs ds c) : p_first_apart_from_runs (fin c) (startE N_first_apart_from_runs ds) := by
  unfold S_first_apart_from_runs at h
  split at h
  · rename_i d r low high
    obtain ⟨s, rs, rfl, hr, hs, hf, he, hn, h⟩ := h
    have lh : low ≤ high := by
      have := runs_end (lo := low) hf (Int.le_refl _)
      omega
    have M := wRow_marks hs.ok lh
    have Y := yRow_marks hf lh
    have asr : ∀ k : List PyData → Prop, k (rs.map runD) → asS r k := fun k hk => by
      rcases hr with rfl | rfl <;> exact hk
    have blen := bRow_len rs high
    refine ⟨by decide, rfl, rfl, s, low, high, rfl, hs, fun fs w => ⟨rfl, ?_⟩⟩
    refine ⟨by simp [Pu.cellAt, startE]; exact ⟨rfl, rfl⟩, rfl, asr _ ⟨fun i acc => acc = nums (bRow (rs.take i) high), rfl, ?_, ?_⟩⟩
    · rintro i d acc hd rfl
      obtain ⟨⟨x, y⟩, hx, rfl⟩ := map_at hd
      have tk := take_more hx
      have il : i < rs.length := by
        by_cases z : i < rs.length
        · exact z
        · rw [List.getElem?_eq_none (by omega)] at hx
          cases hx
      have bl : (bRow (rs.take i) high).length ≤ 2 * i := by
        have := bRow_len (rs.take i) high
        rw [List.length_take] at this
        omega
      have e1 : bRow (rs.take (i + 1)) high = bRow (rs.take i) high ++ [x, y].filter fun z => decide (z < high) := by
        unfold bRow
        rw [tk, flat_snoc, List.filter_append]
      refine ⟨by simp [Pu.cellAt, startE, Pu.cellSet], rfl, fun j acc => acc = nums (bRow (rs.take i) high ++ ([x, y].take j).filter fun z => decide (z < high)), by simp, ?_, ?_⟩
      · rintro j e acc hj rfl
        obtain ⟨z, hz, rfl⟩ := map_at (f := PyData.int) (l := [x, y]) hj
        have tk2 := take_more hz
        have fl : (([x, y].take j).filter fun z => decide (z < high)).length ≤ 2 := by
          have := List.length_filter_le (fun z => decide (z < high)) ([x, y].take j)
          rw [List.length_take] at this
          have : ([x, y] : List Int).length = 2 := rfl
          omega
        refine ⟨rfl, ?_⟩
        show (if decide (z < high) = true then _ else _)
        refine ifd (fun q => ?_) (fun q => ?_)
        · refine ⟨rfl, by rw [List.length_map, List.length_append]; omega, ?_⟩
          show nums _ ++ [PyData.int z] = nums _
          rw [tk2, List.filter_append, List.filter_cons, decide_eq_true q]
          simp
        · show nums _ = nums _
          rw [tk2, List.filter_append, List.filter_cons, decide_eq_false q]
          simp
      · rintro acc rfl
        show nums _ = nums _
        rw [e1]
        rfl
    · rintro acc rfl
      have ef : rs.take (rs.map runD).length = rs := by rw [List.length_map, List.take_length]
      rw [ef]
      refine ⟨by show (nums (bRow rs high) ++ [PyData.int high]).length ≤ 100000; rw [List.length_append, List.length_map]; show _ + 1 ≤ _; omega, ?_⟩
      refine ⟨fun i ρ => ∃ (fs : Fs) (o5 o7 : Cell), ρ = [.d (sideD s), .d r, .d (.int low), .d (.int high), .obj "Walk" fs, o5, .d (.list (nums (bRow rs high))), o7, .no] ∧ WkAt fs s low high i ∧ ∀ j, j < i → wRow s low high j = yRow rs high j, ⟨fs, _, _, rfl, w, fun j hj => by omega⟩, ?_, ?_⟩
      · rintro i d ρ hd ⟨fs, o5, o7, rfl, w, al⟩
        have hd := yRow_at hd
        subst hd
        refine ⟨rfl, w.w.no1, rfl, rfl, rfl, s, low, high, i, w, hs, fun fs' w' => ⟨rfl, rfl, ?_⟩⟩
        show (if flipB true (PyData.eqv (.int (yRow rs high i)) (.int (wRow s low high i))) = true then _ else _)
        rw [eqv_int]
        by_cases q : yRow rs high i = wRow s low high i
        · refine ff (by rw [decide_eq_true q]; rfl) ?_
          refine ⟨fs', _, _, rfl, w', fun j hj => ?_⟩
          by_cases z : j = i
          · rw [z, q]
          · exact al j (by omega)
        · refine tt (by rw [decide_eq_false q]; rfl) ?_
          show c (.int (if wRow s low high i < yRow rs high i then wRow s low high i else yRow rs high i))
          rw [min_py, Int.min_comm]
          exact h _ (marks_apart M Y al fun z => q z.symm)
      · rintro ρ ⟨fs, o5, o7, rfl, w, al⟩
        have len : (nums (bRow rs high) ++ [PyData.int high]).length = (bRow rs high).length + 1 := by
          rw [List.length_append, List.length_map]
          rfl
        have y1 : yRow rs high (bRow rs high).length = high := by
          unfold yRow
          rw [List.getD_eq_getElem?_getD, List.getElem?_eq_none (Nat.le_refl _)]
          rfl
        have al2 : ∀ j, j < (bRow rs high).length + 1 → wRow s low high j = yRow rs high j := fun j hj => al j (by rw [← len] at hj; exact hj)
        show c .none
        exact h none (marks_alike M Y (k := (bRow rs high).length) (fun j hj => al2 j (by omega)) (by rw [al2 _ (by omega), y1]) y1)
  · exact h.elim
end Pr
namespace Pr
open PySem L2 Pu N7
/-! shapes of data; what == tells of them -/
structure Shp (k : Nat) (d : PyData) : Prop where
  nd : noD d = true
  lay : d.canLay0 = true
  dep : d.depth ≤ k
theorem shp_int (i : Int) : Shp 0 (.int i) := ⟨rfl, rfl, Nat.le_refl _⟩
theorem shp_bool (b : Bool) : Shp 0 (.bool b) := ⟨rfl, rfl, Nat.le_refl _⟩
theorem Shp.up {k l : Nat} {d : PyData} (h : Shp k d) (e : k ≤ l) : Shp l d := ⟨h.nd, h.lay, Nat.le_trans h.dep e⟩
theorem shps {k : Nat} : ∀ {l : List PyData}, (∀ x ∈ l, Shp k x) → noDs l = true ∧ PyData.canLayAll0 l = true ∧ PyData.depthAll l ≤ k
  | [], _ => ⟨rfl, rfl, Nat.zero_le _⟩
  | x :: r, h => by
    obtain ⟨a1, a2, a3⟩ := h x List.mem_cons_self
    obtain ⟨b1, b2, b3⟩ := shps fun y m => h y (List.mem_cons_of_mem _ m)
    refine ⟨?_, ?_, ?_⟩
    · show (noD x && noDs r) = true
      rw [a1, b1]; rfl
    · rw [PyData.canLayAll0.eq_2, a2, b2]; rfl
    · rw [PyData.depthAll.eq_2]
      omega
theorem shp_tup {k : Nat} {l : List PyData} (h : ∀ x ∈ l, Shp k x) : Shp (k + 1) (.tuple l) := by
  obtain ⟨a, b, c⟩ := shps h
  refine ⟨a, by rw [PyData.canLay0.eq_6]; exact b, ?_⟩
  simp only [PyData.depth]
  omega
theorem shp_list {k : Nat} {l : List PyData} (h : ∀ x ∈ l, Shp k x) : Shp (k + 1) (.list l) := by
  obtain ⟨a, b, c⟩ := shps h
  refine ⟨a, by rw [PyData.canLay0.eq_5]; exact b, ?_⟩
  simp only [PyData.depth]
  omega
theorem shq_of {k : Nat} {d : PyData} (h : Shp k d) (e : k ≤ 64) : shq d = true := by
  unfold shq SeqAt.shaped
  rw [h.nd, h.lay, decide_eq_true (Nat.le_trans h.dep e)]
  rfl
theorem shp_nums (l : List Int) : ∀ x ∈ nums l, Shp 0 x := fun x m => by
  obtain ⟨i, _, rfl⟩ := List.mem_map.mp m
  exact shp_int i
theorem shp_side (s : Sd) : Shp 2 (sideD s) := shp_tup fun x m => by
  rcases List.mem_cons.mp m with rfl | m
  · exact (shp_int _).up (by decide)
  · rcases List.mem_cons.mp m with rfl | m
    · exact shp_tup (shp_nums _)
    · rw [List.mem_singleton.mp m]
      exact (shp_bool _).up (by decide)
theorem shp_run (r : Int × Int) : Shp 1 (runD r) := shp_tup fun x m => by
  rcases List.mem_cons.mp m with rfl | m
  · exact shp_int _
  · rw [List.mem_singleton.mp m]
    exact shp_int _
theorem shp_runs (rs : Rn) : Shp 2 (runsD rs) := shp_tup fun x m => by
  obtain ⟨r, _, rfl⟩ := List.mem_map.mp m
  exact shp_run r
theorem shp_ds (D : Ds) : Shp 3 (dsD D) := shp_tup fun x m => by
  rcases List.mem_cons.mp m with rfl | m
  · exact shp_side _
  · rcases List.mem_cons.mp m with rfl | m
    · exact (shp_int _).up (by decide)
    · rcases List.mem_cons.mp m with rfl | m
      · exact shp_runs _
      · rcases List.mem_cons.mp m with rfl | m
        · exact (shp_int _).up (by decide)
        · rw [List.mem_singleton.mp m]
          exact shp_side _
theorem eqv_nums : ∀ {a b : List Int}, PyData.eqvAll (nums a) (nums b) = true ↔ a = b
  | [], [] => ⟨fun _ => rfl, fun _ => rfl⟩
  | [], _ :: _ => ⟨fun h => Bool.noConfusion (show false = true from h), fun h => by cases h⟩
  | _ :: _, [] => ⟨fun h => Bool.noConfusion (show false = true from h), fun h => by cases h⟩
  | x :: a, y :: b => by
    show (PyData.eqv (.int x) (.int y) && PyData.eqvAll (nums a) (nums b)) = true ↔ _
    rw [Bool.and_eq_true, eqv_int, decide_eq_true_iff, eqv_nums]
    constructor
    · rintro ⟨rfl, rfl⟩
      rfl
    · intro h
      injection h with h1 h2
      exact ⟨h1, h2⟩
theorem eqv_side {s t : Sd} : PyData.eqv (sideD s) (sideD t) = true ↔ s = t := by
  show (PyData.eqv (.int s.p) (.int t.p) && (PyData.eqvAll (nums s.bs) (nums t.bs) && (PyData.eqv (.bool s.f) (.bool t.f) && true))) = true ↔ _
  rw [Bool.and_eq_true, Bool.and_eq_true, Bool.and_true, eqv_int, decide_eq_true_iff, eqv_nums, eqv_bool, beq_iff_eq]
  constructor
  · rintro ⟨h1, h2, h3⟩
    cases s
    cases t
    simp only at h1 h2 h3
    subst h1 h2 h3
    rfl
  · rintro rfl
    exact ⟨rfl, rfl, rfl⟩
theorem eqv_runs : ∀ {a b : Rn}, PyData.eqvAll (a.map runD) (b.map runD) = true ↔ a = b
  | [], [] => ⟨fun _ => rfl, fun _ => rfl⟩
  | [], _ :: _ => ⟨fun h => Bool.noConfusion (show false = true from h), fun h => by cases h⟩
  | _ :: _, [] => ⟨fun h => Bool.noConfusion (show false = true from h), fun h => by cases h⟩
  | (x, y) :: a, (z, w) :: b => by
    show ((PyData.eqv (.int x) (.int z) && (PyData.eqv (.int y) (.int w) && true)) && PyData.eqvAll (a.map runD) (b.map runD)) = true ↔ _
    rw [Bool.and_eq_true, Bool.and_eq_true, Bool.and_true, eqv_int, eqv_int, decide_eq_true_iff, decide_eq_true_iff, eqv_runs]
    constructor
    · rintro ⟨⟨rfl, rfl⟩, rfl⟩
      rfl
    · intro h
      injection h with h1 h2
      injection h1 with h3 h4
      exact ⟨⟨h3, h4⟩, h2⟩
theorem eqv_ds {D E : Ds} : PyData.eqv (dsD D) (dsD E) = true ↔ D = E := by
  show (PyData.eqv (sideD D.l) (sideD E.l) && (PyData.eqv (.int D.low) (.int E.low) && (PyData.eqvAll (D.rs.map runD) (E.rs.map runD) && (PyData.eqv (.int D.high) (.int E.high) && (PyData.eqv (sideD D.r) (sideD E.r) && true))))) = true ↔ _
  rw [Bool.and_eq_true, Bool.and_eq_true, Bool.and_eq_true, Bool.and_eq_true, Bool.and_true, eqv_int, eqv_int, decide_eq_true_iff, decide_eq_true_iff, eqv_side, eqv_side, eqv_runs]
  constructor
  · rintro ⟨h1, h2, h3, h4, h5⟩
    cases D
    cases E
    simp only at h1 h2 h3 h4 h5
    subst h1 h2 h3 h4 h5
    rfl
  · rintro rfl
    exact ⟨rfl, rfl, rfl, rfl, rfl⟩
/-! first_apart -/
def S_first_apart : FS := fun ds k => match ds with
  | [d, e, .int b] => ∃ s t : Sd, d = sideD s ∧ e = sideD t ∧ SdB s ∧ SdB t ∧ ∀ o, FDI (holds s) (holds t) b o → k (optD o)
  | _ => False
abbrev N_first_apart : List Str := ["one", "two", "begin", "end", "walk", "other", "border", "mark"]
def p_first_apart : PS' := (pSeq (pIfS (pTst (pEqD false (pVar 0) (pVar 1))) (pRet (pC .none)) pNext)
      (pSeq (pAsg (pPlus (pPlus (pVar 2) (pIx (pVar 0) (pC (.int 0)))) (pIx (pVar 1) (pC (.int 0)))) (pgN 3))
      (pSeq (pMakeO 4 "Walk" 3 S_Walk_init (pCons (pVar 0) (pCons (pVar 2) (pCons (pVar 3) pNil))))
      (pSeq (pMakeO 5 "Walk" 3 S_Walk_init (pCons (pVar 1) (pCons (pVar 2) (pCons (pVar 3) pNil))))
      (pWhile (pTst (pC (.bool true))) (pSeq (pAsg (pMethO 4 "Walk" "step" 0 S_Walk_step pNil) (pgN 6))
      (pSeq (pAsg (pMethO 5 "Walk" "step" 0 S_Walk_step pNil) (pgN 7))
      (pSeq (pIfS (pTst (pEqD true (pVar 6) (pVar 7))) (pRet (pFn fMin2 (pCons (pVar 6) (pCons (pVar 7) pNil)))) pNext)
      (pIfS (pTst (pEqD false (pVar 6) (pVar 3))) (pRet (pC .none)) pNext)))))))))
theorem row_ge {h : Int → Bool} {b e : Int} {X : Nat → Int} (M : Marks h b e X) : ∀ i, (∀ j, j < i → X j ≠ e) → b + (i : Int) ≤ X i
  | 0, _ => by have := M.ge 0; omega
  | i + 1, k => by
    have := row_ge M i fun j hj => k j (by omega)
    have n := k i (by omega)
    rcases M.up i with u | ⟨u, v⟩
    · omega
    · exact absurd u n
theorem pure_first_apart (ds : List PyData) (c : PyData → Prop) (hl : ds.length = 3) (h : S_first_apart ds c) : p_first_apart (fin c) (startE N_first_apart ds) := by
  unfold S_first_apart at h
  split at h
  · rename_i d1 d2 b
    obtain ⟨s, t, rfl, rfl, hs, ht, h⟩ := h
    have p1 := hs.ok.p1
    have q1 := ht.ok.p1
    refine ⟨shq_of (shp_side s) (by decide), shq_of (shp_side t) (by decide), ?_⟩
    refine tf (fun z => ?_) (fun z => ?_)
    · have z : s = t := eqv_side.mp z
      subst z
      exact h none fun d _ => rfl
    · have be : b ≤ b + s.p + t.p := by omega
      have M := wRow_marks hs.ok be
      have N := wRow_marks ht.ok be
      refine ⟨by decide, rfl, rfl, s, b, _, rfl, hs, fun f1 w1 => ⟨rfl, by decide, rfl, rfl, t, b, _, rfl, ht, fun f2 w2 => ⟨rfl, ?_⟩⟩⟩
      refine ⟨fun m ρ => ∃ (i : Nat) (f1 f2 : Fs) (o6 o7 : Cell), ρ = [.d (sideD s), .d (sideD t), .d (.int b), .d (.int (b + s.p + t.p)), .obj "Walk" f1, .obj "Walk" f2, o6, o7] ∧ WkAt f1 s b (b + s.p + t.p) i ∧ WkAt f2 t b (b + s.p + t.p) i ∧
        (∀ j, j < i → wRow s b (b + s.p + t.p) j = wRow t b (b + s.p + t.p) j) ∧ (∀ j, j < i → wRow s b (b + s.p + t.p) j ≠ b + s.p + t.p) ∧ m = (s.p + t.p).toNat - i, ⟨_, 0, f1, f2, _, _, rfl, w1, w2, fun j hj => by omega, fun j hj => by omega, rfl⟩, ?_⟩
      rintro m ρ ⟨i, f1, f2, o6, o7, rfl, w1, w2, al, ne, rfl⟩
      refine ⟨rfl, w1.w.no1, rfl, rfl, rfl, s, b, _, i, w1, hs, fun f1' w1' => ⟨rfl, w2.w.no1, rfl, rfl, rfl, t, b, _, i, w2, ht, fun f2' w2' => ⟨rfl, rfl, ?_⟩⟩⟩
      show (if flipB true (PyData.eqv (.int (wRow s b (b + s.p + t.p) i)) (.int (wRow t b (b + s.p + t.p) i))) = true then _ else _)
      rw [eqv_int]
      by_cases q : wRow s b (b + s.p + t.p) i = wRow t b (b + s.p + t.p) i
      · refine ff (by rw [decide_eq_true q]; rfl) ?_
        refine ⟨rfl, rfl, ?_⟩
        show (if PyData.eqv (.int (wRow s b (b + s.p + t.p) i)) (.int (b + s.p + t.p)) = true then _ else _)
        rw [eqv_int]
        refine ifd (fun y => ?_) (fun y => ?_)
        · have F := marks_alike M N al y (q ▸ y)
          have all := fine_wilf p1 q1 per_holds per_holds (b := b) F
          exact h none fun d _ => all d
        · have g := row_ge M i ne
          have g2 := M.le i
          refine ⟨(s.p + t.p).toNat - (i + 1), by omega, i + 1, f1', f2', _, _, rfl, w1', w2', fun j hj => ?_, fun j hj => ?_, rfl⟩
          · by_cases x : j = i
            · rw [x, q]
            · exact al j (by omega)
          · by_cases x : j = i
            · rw [x]; exact y
            · exact ne j (by omega)
      · refine tt (by rw [decide_eq_false q]; rfl) ?_
        obtain ⟨a1, a2, a3, a4⟩ := marks_apart M N al q
        show c (.int (if wRow t b (b + s.p + t.p) i < wRow s b (b + s.p + t.p) i then wRow t b (b + s.p + t.p) i else wRow s b (b + s.p + t.p) i))
        rw [min_py]
        exact h (some _) ⟨a1, a3, a4⟩
  · exact h.elim
end Pr
namespace Pr
open PySem L2 Pu N7
def S_cut : FS := fun ds k => match ds with
  | [r, .int b, .int e] => ∃ rs : Rn, r = runsD rs ∧ rs.length ≤ 40000 ∧ k (runsD (cutL rs b e))
  | _ => False
def S_mirrored_side : FS := fun ds k => match ds with
  | [d] => ∃ s : Sd, d = sideD s ∧ SdB s ∧ ∀ t : Sd, SdB t → (∀ x, holds t x = holds s (-x)) → k (sideD t)
  | _ => False
abbrev N_cut : List Str := ["runs", "begin", "end", "cut", "one", "two"]
def p_cut : PS' := (pSeq (pAsg (pNew (pLcS [4, 5] [4, 5] (pTO (pVar 0)) (pgT [4, 5]) pYes (pTup (pCons (pFn fMax2 (pCons (pVar 4) (pCons (pVar 1) pNil))) (pCons (pFn fMin2 (pCons (pVar 5) (pCons (pVar 2) pNil))) pNil))))) (pgN 3))
      (pRet (pFn fTuple (pCons (pNew (pLcS [4, 5] [4, 5] (pLO (pVar 3)) (pgT [4, 5]) (pTst (pII (fun i j => .bool (decide (i < j))) (pVar 4) (pVar 5))) (pTup (pCons (pVar 4) (pCons (pVar 5) pNil))))) pNil))))
abbrev N_mirrored_side : List Str := ["side", "period", "borders", "_", "turned", "border"]
def p_mirrored_side : PS' := (pSeq (pAsg (pVar 0) (pgT [1, 2, 3]))
      (pSeq (pAsg (pNew (pSorted (pCons (pNew (pLcS [5] [5] (pTO (pVar 2)) (pgN 5) pYes (pIIc (fun _ j => 0 < j) (fun i j => .int (i % j)) (pII (fun i j => .int (i - j)) (pC (.int 1)) (pVar 5)) (pVar 1)))) pNil))) (pgN 4))
      (pRet (pTup (pCons (pVar 1) (pCons (pFn fTuple (pCons (pVar 4) pNil)) (pCons (pCall 2 S_side_holds (pCons (pVar 0) (pCons (pC (.int 1)) pNil))) pNil)))))))
theorem max_py (a b : Int) : (if b > a then b else a) = max a b := by
  split <;> omega
theorem lt_of_at {α : Type} {l : List α} {i : Nat} {x : α} (h : l[i]? = some x) : i < l.length := by
  by_cases z : i < l.length
  · exact z
  · rw [List.getElem?_eq_none (by omega)] at h
    cases h
theorem pure_cut (ds : List PyData) (c : PyData → Prop) (hl : ds.length = 3) (h : S_cut ds c) : p_cut (fin c) (startE N_cut ds) := by
  unfold S_cut at h
  split at h
  · rename_i r b e
    obtain ⟨rs, rfl, hn, h⟩ := h
    have no2 : ∀ o : Cell, ∀ v ∈ [4, 5], Pu.cellAt ([.d (runsD rs), .d (.int b), .d (.int e), o, .no, .no] : En) v = .no := fun o v hv => by
      rcases List.mem_cons.mp hv with rfl | hv
      · rfl
      · rw [List.mem_singleton.mp hv]; rfl
    refine ⟨no2 .no, rfl, fun i acc => acc = ((rs.take i).map fun r => (max r.1 b, min r.2 e)).map runD, rfl, ?_, ?_⟩
    · rintro i d acc hd rfl
      obtain ⟨⟨x, y⟩, hx, rfl⟩ := map_at hd
      have il := lt_of_at hx
      refine ⟨rfl, rfl, ?_⟩
      refine ⟨by show 2 ≤ 100000; decide, rfl, by rw [List.length_map, List.length_map, List.length_take]; omega, ?_⟩
      show _ ++ [PyData.tuple [.int (if b > x then b else x), .int (if e < y then e else y)]] = _
      rw [take_more hx, max_py, min_py]
      simp [runD]
    · rintro acc rfl
      rw [show rs.take (rs.map runD).length = rs by rw [List.length_map, List.take_length]]
      generalize hm : (rs.map fun r => (max r.1 b, min r.2 e)) = ms
      have ml : ms.length ≤ 40000 := by rw [← hm, List.length_map]; exact hn
      refine ⟨no2 _, rfl, fun i acc => acc = ((ms.take i).filter fun r => decide (r.1 < r.2)).map runD, rfl, ?_, ?_⟩
      · rintro i d acc hd rfl
        obtain ⟨⟨x, y⟩, hx, rfl⟩ := map_at hd
        have il := lt_of_at hx
        refine ⟨rfl, rfl, ?_⟩
        show (if decide (x < y) = true then _ else _)
        refine ifd (fun q => ?_) (fun q => ?_)
        · have fl := List.length_filter_le (fun r : Int × Int => decide (r.1 < r.2)) (ms.take i)
          rw [List.length_take] at fl
          refine ⟨by show 2 ≤ 100000; decide, rfl, by rw [List.length_map]; omega, ?_⟩
          show _ ++ [PyData.tuple [.int x, .int y]] = _
          rw [take_more hx, List.filter_append, List.filter_cons]
          simp [q, runD]
        · show _ = _
          rw [take_more hx, List.filter_append, List.filter_cons]
          simp [q]
      · rintro acc rfl
        rw [show ms.take (ms.map runD).length = ms by rw [List.length_map, List.take_length]]
        show c (.tuple _)
        rw [← hm]
        exact h
  · exact h.elim
theorem pure_mirrored_side (ds : List PyData) (c : PyData → Prop) (hl : ds.length = 1) (h : S_mirrored_side ds c) : p_mirrored_side (fin c) (startE N_mirrored_side ds) := by
  unfold S_mirrored_side at h
  split at h
  · rename_i d
    obtain ⟨s, rfl, hs, h⟩ := h
    have p1 := hs.ok.p1
    refine ⟨rfl, ?_⟩
    refine ⟨fun v hv => by rw [List.mem_singleton.mp hv]; rfl, rfl, fun i acc => acc = nums ((s.bs.take i).map fun b => (1 - b) % s.p), rfl, ?_, ?_⟩
    · rintro i d acc hd rfl
      obtain ⟨x, hx, rfl⟩ := map_at hd
      have il := lt_of_at hx
      have := hs.n
      refine ⟨rfl, by show 0 < s.p; omega, rfl, by rw [List.length_map, List.length_map, List.length_take]; omega, ?_⟩
      show _ ++ [PyData.int ((1 - x) % s.p)] = _
      rw [take_more hx]
      simp
    · rintro acc rfl
      rw [show s.bs.take (nums s.bs).length = s.bs by rw [List.length_map, List.take_length]]
      refine ⟨_, rfl, fun ns hp hpw => ?_⟩
      have M := mir_spec hs.ok hp hpw
      have nl : ns.length = s.bs.length := by rw [hp.length_eq, List.length_map]
      refine ⟨rfl, s, rfl, hs, by show 3 ≤ 100000; decide, ?_⟩
      exact h ⟨s.p, ns, holds s 1⟩ ⟨M.1, by show ns.length ≤ 40000; rw [nl]; exact hs.n⟩ M.2
  · exact h.elim
end Pr
namespace Pr
open PySem L2 Pu N7
def RepL (l : List Int) (L : Nat) : Prop := l.drop L = l.take (l.length - L)
def S_repeats : FS := fun ds k => match ds with
  | [d] => ∃ l : List Int, d = .list (nums l) ∧ 2 ≤ l.length ∧ l.length % 2 = 0 ∧ l.length ≤ 40000 ∧ ∀ L, 2 ≤ L → L % 2 = 0 → L ∣ l.length → RepL l L → (∀ K, 2 ≤ K → K < L → K % 2 = 0 → K ∣ l.length → ¬ RepL l K) → k (.int ((l.length / L : Nat) : Int))
  | _ => False
def S_least_side : FS := fun ds k => match ds with
  | [d] => ∃ s : Sd, d = sideD s ∧ SdB s ∧ ∀ t : Sd, Least t → t.bs.length ≤ 40000 → (∀ x, holds t x = holds s x) → k (sideD t)
  | _ => False
abbrev N_repeats : List Str := ["steps", "many", "length"]
def p_repeats : PS' := (pSeq (pAsg (pFn fLen (pCons (pVar 0) pNil)) (pgN 1))
      (pSeq (pRng3 (pCons (pC (.int 2)) (pCons (pVar 1) (pCons (pC (.int 2)) pNil))) (pgN 2) (pIfS (pAnd (pTst (pEqD false (pIIc (fun _ j => 0 < j) (fun i j => .int (i % j)) (pVar 1) (pVar 2)) (pC (.int 0)))) (pTst (pEqD false (pCut (pVar 0) (pPart (pVar 2)) pNoP) (pCut (pVar 0) pNoP (pPart (pII (fun i j => .int (i - j)) (pVar 1) (pVar 2))))))) (pRet (pIIc CDiv (fun i j => .int (i / j)) (pVar 1) (pVar 2))) pNext))
      (pRet (pC (.int 1)))))
abbrev N_least_side : List Str := ["side", "period", "borders", "inside", "steps", "times", "one", "two"]
def p_least_side : PS' := (pSeq (pAsg (pVar 0) (pgT [1, 2, 3]))
      (pSeq (pIfS (pNot (pTru (pVar 2))) (pRet (pTup (pCons (pC (.int 1)) (pCons (pTup pNil) (pCons (pVar 3) pNil))))) pNext)
      (pSeq (pAsg (pNew (pLcZ [6, 7] [6, 7] (pCons (pVar 2) (pCons (pCut (pVar 2) (pPart (pC (.int 1))) pNoP) pNil)) (pgT [6, 7]) pYes (pII (fun i j => .int (i - j)) (pVar 7) (pVar 6)))) (pgN 4))
      (pSeq (pAsg (pCall 1 S_repeats (pCons (pNew (pLst (pStar (pVar 4) (pCons (pII (fun i j => .int (i - j)) (pPlus (pIx (pVar 2) (pC (.int 0))) (pVar 1)) (pIx (pVar 2) (pI (fun i => .int (-i)) (pC (.int 1))))) pNil)))) pNil)) (pgN 5))
      (pRet (pTup (pCons (pIIc CDiv (fun i j => .int (i / j)) (pVar 1) (pVar 5)) (pCons (pCut (pVar 2) pNoP (pPart (pIIc CDiv (fun i j => .int (i / j)) (pFn fLen (pCons (pVar 2) pNil)) (pVar 5)))) (pCons (pVar 3) pNil)))))))))
theorem sIx_nat {n k : Nat} (h : k ≤ n) (d : Nat) : HT.sIx n d (some (k : Nat)) = k := by
  simp only [HT.sIx]
  rw [if_neg (by omega), Int.toNat_natCast]
  omega
theorem cut_drop {l : List PyData} {k : Nat} (h : k ≤ l.length) : cutP l (some (k : Nat)) none = l.drop k := by
  unfold cutP
  rw [sIx_nat h]
  exact List.take_of_length_le (by show _ ≤ l.length - k; simp)
theorem cut_take {l : List PyData} {k : Nat} (h : k ≤ l.length) : cutP l none (some (k : Nat)) = l.take k := by
  unfold cutP
  rw [sIx_nat h]
  rfl
theorem rgc2 {n : Nat} (h2 : 2 ≤ n) (he : n % 2 = 0) (hn : n ≤ 40000) : RgC 2 (n : Nat) 2 ((n - 2) / 2) := by
  have e : Builtin.Range.rangeSize 2 (n : Nat) 2 = (((n - 2) / 2 : Nat) : Int) := by
    unfold Builtin.Range.rangeSize
    rw [if_pos (by decide)]
    split <;> omega
  refine ⟨by decide, by decide, ?_, e⟩
  unfold Builtin.Range.small
  rw [e]
  unfold Builtin.Range.rangeFitsLong
  simp
  omega
theorem pure_repeats (ds : List PyData) (c : PyData → Prop) (hl : ds.length = 1) (h : S_repeats ds c) : p_repeats (fin c) (startE N_repeats ds) := by
  unfold S_repeats at h
  split at h
  · rename_i d
    obtain ⟨l, rfl, h2, he, hn, h⟩ := h
    refine ⟨l.length, by show some (nums l).length = _; rw [List.length_map], ?_⟩
    refine ⟨2, (l.length : Nat), 2, (l.length - 2) / 2, rfl, rgc2 h2 he hn, fun i ρ => ∃ o : Cell, ρ = [.d (.list (nums l)), .d (.int (l.length : Nat)), o] ∧ ∀ K, 2 ≤ K → K < 2 + 2 * i → K % 2 = 0 → K ∣ l.length → ¬ RepL l K, ⟨.no, rfl, fun K h1 h2 => by omega⟩, ?_, ?_⟩
    · rintro i ρ hi ⟨o, rfl, al⟩
      have eL : (2 : Int) + (i : Int) * 2 = ((2 + 2 * i : Nat) : Int) := by omega
      have lt : 2 + 2 * i < l.length := by omega
      have next : ∀ (nr : ¬ ((2 + 2 * i) ∣ l.length ∧ RepL l (2 + 2 * i))), ∃ o : Cell, ([.d (.list (nums l)), .d (.int (l.length : Nat)), .d (.int (2 + (i : Int) * 2))] : En) = [.d (.list (nums l)), .d (.int (l.length : Nat)), o] ∧ ∀ K, 2 ≤ K → K < 2 + 2 * (i + 1) → K % 2 = 0 → K ∣ l.length → ¬ RepL l K := fun nr => by
        refine ⟨_, rfl, fun K h1 h2 h3 h4 h5 => ?_⟩
        by_cases z : K = 2 + 2 * i
        · subst z
          exact nr ⟨h4, h5⟩
        · exact al K h1 (by omega) h3 h4 h5
      refine ⟨by omega, rfl, rfl, ?_⟩
      show (if PyData.eqv (.int (((l.length : Nat) : Int) % (2 + (i : Int) * 2))) (.int 0) = true then _ else _)
      rw [eqv_int]
      refine ifd (fun z => ?_) (fun z => ?_)
      · have dv : (2 + 2 * i) ∣ l.length := by
          rw [eL] at z
          exact Nat.dvd_of_mod_eq_zero (by omega)
        have c1 : cutP (nums l) (some (2 + (i : Int) * 2)) none = nums (l.drop (2 + 2 * i)) := by
          rw [eL, cut_drop (by rw [List.length_map]; omega)]
          exact List.map_drop.symm
        have c2 : cutP (nums l) none (some (((l.length : Nat) : Int) - (2 + (i : Int) * 2))) = nums (l.take (l.length - (2 + 2 * i))) := by
          rw [show ((l.length : Nat) : Int) - (2 + (i : Int) * 2) = ((l.length - (2 + 2 * i) : Nat) : Int) by omega, cut_take (by rw [List.length_map]; omega)]
          exact List.map_take.symm
        have sh : ∀ l : List Int, shq (.list (nums l)) = true := fun l => shq_of (shp_list (shp_nums l)) (by decide)
        refine ⟨by show shq (.list (cutP _ _ _)) = true; rw [c1]; exact sh _, by show shq (.list (cutP _ _ _)) = true; rw [c2]; exact sh _, ?_⟩
        show (if PyData.eqv (.list (cutP (nums l) (some (2 + (i : Int) * 2)) none)) (.list (cutP (nums l) none (some (((l.length : Nat) : Int) - (2 + (i : Int) * 2))))) = true then _ else _)
        rw [c1, c2]
        refine tf (fun y => ?_) (fun y => ?_)
        · have y : l.drop (2 + 2 * i) = l.take (l.length - (2 + 2 * i)) := eqv_nums.mp y
          refine ⟨⟨by omega, by omega⟩, ?_⟩
          show c (.int (((l.length : Nat) : Int) / (2 + (i : Int) * 2)))
          rw [eL, ← Int.natCast_ediv]
          exact h (2 + 2 * i) (by omega) (by omega) dv y fun K a b => al K a (by omega)
        · refine next fun nr => ?_
          have : PyData.eqvAll (nums (l.drop (2 + 2 * i))) (nums (l.take (l.length - (2 + 2 * i)))) = true := eqv_nums.mpr nr.2
          rw [show PyData.eqv (.list (nums (l.drop (2 + 2 * i)))) (.list (nums (l.take (l.length - (2 + 2 * i))))) = true from this] at y
          cases y
      · refine next fun nr => z ?_
        obtain ⟨t, ht⟩ := nr.1
        rw [eL, ht]
        rw [Int.natCast_mul, Int.mul_emod_right]
    · rintro ρ ⟨o, rfl, al⟩
      have k := h l.length h2 he ⟨1, by omega⟩ (by unfold RepL; rw [Nat.sub_self, List.drop_length, List.take_zero]) fun K a b => al K a (by omega)
      rw [Nat.div_self (by omega)] at k
      exact k
  · exact h.elim
end Pr
namespace Pr
open PySem L2 Pu N7
theorem nums_last {l : List Int} (h : 0 < l.length) : atI (nums l) (-1) = some (.int (l.getD (l.length - 1) 0)) := by
  obtain ⟨init, a, rfl⟩ : ∃ init a, l = init ++ [a] := by
    rcases List.eq_nil_or_concat l with e | ⟨i, a, e⟩
    · rw [e] at h
      exact absurd h (by simp)
    · exact ⟨i, a, by rw [e, List.concat_eq_append]⟩
  have e : nums (init ++ [a]) = nums init ++ [.int a] := List.map_append
  rw [e, atI_last]
  congr 2
  rw [List.getD_eq_getElem?_getD, List.getElem?_append_right (by simp)]
  simp
def stp (s : Sd) (n : Nat) : List Int := (List.range n).map fun i => bd s (i + 1) - bd s i
theorem stp_len (s : Sd) (n : Nat) : (stp s n).length = n := by
  unfold stp
  rw [List.length_map, List.length_range]
theorem stp_at {s : Sd} {n i : Nat} (h : i < n) : (stp s n)[i]? = some (bd s (i + 1) - bd s i) := by
  unfold stp
  rw [List.getElem?_map, List.getElem?_range h]
  rfl
theorem rep_iff {s : Sd} {L : Nat} : RepL (stp s s.bs.length) L ↔ Rep s L := by
  unfold RepL Rep
  rw [stp_len]
  constructor
  · intro h i hi
    have e : ((stp s s.bs.length).drop L)[i]? = ((stp s s.bs.length).take (s.bs.length - L))[i]? := by rw [h]
    rw [List.getElem?_drop, List.getElem?_take_of_lt (by omega), stp_at (by omega), stp_at (by omega)] at e
    have e := Option.some.inj e
    rw [show L + i = i + L by omega] at e
    exact e
  · intro h
    refine List.ext_getElem? fun i => ?_
    rw [List.getElem?_drop]
    by_cases z : i < s.bs.length - L
    · rw [List.getElem?_take_of_lt z, stp_at (by omega), stp_at (by omega), show L + i = i + L by omega, h i (by omega)]
    · rw [List.getElem?_eq_none (by rw [stp_len]; omega), List.getElem?_eq_none (by rw [List.length_take, stp_len]; omega)]
theorem pure_least_side (ds : List PyData) (c : PyData → Prop) (hl : ds.length = 1) (h : S_least_side ds c) : p_least_side (fin c) (startE N_least_side ds) := by
  unfold S_least_side at h
  split at h
  · rename_i d
    obtain ⟨s, rfl, hs, h⟩ := h
    have p1 := hs.ok.p1
    have hn := hs.n
    have hev := hs.ok.ev
    refine ⟨rfl, _, rfl, ?_⟩
    refine tf (fun z => ?_) (fun z => ?_)
    · have z : s.bs = [] := by
        have z : (!(!(nums s.bs).isEmpty)) = true := z
        cases q : s.bs with
        | nil => rfl
        | cons a r =>
          rw [q] at z
          cases z
      refine ⟨Nat.zero_le _, by show 3 ≤ 100000; decide, ?_⟩
      have L := least_nil (p := s.p) (f := s.f)
      refine h ⟨1, [], s.f⟩ L.1 (Nat.zero_le _) fun x => ?_
      rw [L.2]
      show holds ⟨s.p, [], s.f⟩ x = holds s x
      unfold holds
      rw [z]
    · have z : s.bs ≠ [] := fun q => by
        have z : (!(!(nums s.bs).isEmpty)) = false := z
        rw [q] at z
        cases z
      have hm : 0 < s.bs.length := List.length_pos_iff.mpr z
      have cd : cutP (nums s.bs) (some 1) none = nums (s.bs.drop 1) := by
        have := cut_drop (l := nums s.bs) (k := 1) (by rw [List.length_map]; omega)
        rw [show ((1 : Nat) : Int) = 1 from rfl] at this
        rw [this]
        exact List.map_drop.symm
      refine ⟨fun v hv => ?_, rfl, nums s.bs, _, rfl, fun i acc => acc = nums (stp s i), rfl, ?_, ?_⟩
      · rcases List.mem_cons.mp hv with rfl | hv
        · rfl
        · rw [List.mem_singleton.mp hv]; rfl
      · rintro i cc dd acc hc hd rfl
        rw [cd] at hd
        obtain ⟨x, hx, rfl⟩ := map_at hc
        obtain ⟨y, hy, rfl⟩ := map_at hd
        rw [List.getElem?_drop] at hy
        have l1 := lt_of_at hx
        have l2 := lt_of_at hy
        refine ⟨rfl, rfl, rfl, by rw [List.length_map, stp_len]; omega, ?_⟩
        show nums (stp s i) ++ [PyData.int (y - x)] = nums (stp s (i + 1))
        have e1 : bd s i = x := by
          rw [bd_small l1]
          rw [getD_some l1] at hx
          exact Option.some.inj hx
        have e2 : bd s (i + 1) = y := by
          rw [bd_small (by omega)]
          rw [show 1 + i = i + 1 by omega, getD_some (by omega)] at hy
          exact Option.some.inj hy
        unfold stp
        rw [List.range_succ, List.map_append]
        show _ = List.map PyData.int (_ ++ [bd s (i + 1) - bd s i])
        rw [List.map_append, e1, e2]
        rfl
      · rintro acc rfl
        have em : min (nums s.bs).length (cutP (nums s.bs) (some 1) none).length = s.bs.length - 1 := by
          rw [cd, List.length_map, List.length_map, List.length_drop]
          omega
        rw [em]
        have a0 : atI (nums s.bs) 0 = some (.int (s.bs.getD 0 0)) := nums_at hm
        refine oSome a0 (oSome (nums_last hm) ⟨?_, ?_⟩)
        · show (nums (stp s (s.bs.length - 1)) ++ [_]).length ≤ 100000
          rw [List.length_append, List.length_map, stp_len]
          show _ + 1 ≤ _
          omega
        · have el : nums (stp s (s.bs.length - 1)) ++ [PyData.int (s.bs.getD 0 0 + s.p - s.bs.getD (s.bs.length - 1) 0)] = nums (stp s s.bs.length) := by
            have e3 : s.bs.length = s.bs.length - 1 + 1 := by omega
            have e4 : bd s (s.bs.length - 1 + 1) = s.bs.getD 0 0 + s.p := by
              rw [← e3]
              have := bd_add_m hm 0
              rw [Nat.zero_add] at this
              rw [this, bd_small hm]
            have e5 : bd s (s.bs.length - 1) = s.bs.getD (s.bs.length - 1) 0 := bd_small (by omega)
            rw [← e5, ← e4]
            generalize s.bs.length - 1 = k at *
            rw [e3]
            unfold stp
            rw [List.range_succ, List.map_append]
            show _ = List.map PyData.int (_ ++ [bd s (k + 1) - bd s k])
            rw [List.map_append]
            rfl
          refine ⟨rfl, stp s s.bs.length, congrArg PyData.list el, by rw [stp_len]; omega, by rw [stp_len]; exact hev, by rw [stp_len]; exact hn, fun L h2 he hd R hmin => ?_⟩
          rw [stp_len] at hd hmin ⊢
          have S := least_spec hs.ok hm h2 he hd (rep_iff.mp R) fun K a b c d e => hmin K a b c d (rep_iff.mpr e)
          obtain ⟨t, ht⟩ := hd
          have t1 : 1 ≤ t := by
            rcases Nat.eq_zero_or_pos t with z | z
            · rw [z, Nat.mul_zero] at ht
              omega
            · exact z
          have et : s.bs.length / L = t := by rw [ht, Nat.mul_div_cancel_left _ (by omega)]
          rw [et] at S ⊢
          have tm : t ≤ s.bs.length := by
            rw [ht]
            exact Nat.le_mul_of_pos_left t (by omega)
          have Lm : L ≤ s.bs.length := by
            rw [ht]
            exact Nat.le_mul_of_pos_right L t1
          have em2 : ((s.bs.length : Nat) : Int) / (t : Nat) = (L : Nat) := by
            rw [ht, Int.natCast_mul, Int.mul_ediv_cancel _ (by omega)]
          refine ⟨⟨by omega, by omega⟩, s.bs.length, by show some (nums s.bs).length = _; rw [List.length_map], ⟨by omega, by omega⟩, by show 3 ≤ 100000; decide, ?_⟩
          show c (.tuple [.int (s.p / (t : Nat)), .tuple (cutP (nums s.bs) none (some (((s.bs.length : Nat) : Int) / (t : Nat)))), .bool s.f])
          rw [em2, cut_take (by rw [List.length_map]; exact Lm), ← List.map_take]
          exact h _ S.1 (by show (s.bs.take L).length ≤ 40000; rw [List.length_take]; omega) S.2
  · exact h.elim
end Pr
namespace Pr
open PySem L2 Pu N7
def S_right_begins : FS := fun ds k => match ds with
  | [d, r, .int b, .int hi] => ∃ (s : Sd) (rs : Rn), d = sideD s ∧ r = runsD rs ∧ SdB s ∧ RunsFrom b rs ∧ runsEnd b rs ≤ hi ∧ b < hi ∧ rs.length ≤ 40000 ∧
      ∀ e : Int, b ≤ e → e ≤ hi → (∀ d, e ≤ d → d < hi → holds s d = inRuns rs d) → (e = b ∨ holds s (e - 1) ≠ inRuns rs (e - 1)) → k (.int e)
  | _ => False
structure DsB (D : Ds) : Prop where
  ok : DsOk D
  l : D.l.bs.length ≤ 40000
  r : D.r.bs.length ≤ 40000
  n : D.rs.length ≤ 40000
def S_normal : FS := fun ds k => match ds with
  | [d] => ∃ D : Ds, d = dsD D ∧ DsB D ∧ ∀ N : Ds, Norm N → (∀ x, mem N x = mem D x) → k (dsD N)
  | _ => False
abbrev N_right_begins : List Str := ["right", "runs", "begin", "high", "turned", "last", "one", "two"]
def p_right_begins : PS' := (pSeq (pAsg (pNew (pLcS [6, 7] [6, 7] (pTO (pRevT (pVar 1))) (pgT [6, 7]) pYes (pTup (pCons (pII (fun i j => .int (i - j)) (pC (.int 1)) (pVar 7)) (pCons (pII (fun i j => .int (i - j)) (pC (.int 1)) (pVar 6)) pNil))))) (pgN 4))
      (pSeq (pAsg (pCall 4 S_first_apart_from_runs (pCons (pCall 1 S_mirrored_side (pCons (pVar 0) pNil)) (pCons (pVar 4) (pCons (pII (fun i j => .int (i - j)) (pC (.int 1)) (pVar 3)) (pCons (pII (fun i j => .int (i - j)) (pC (.int 1)) (pVar 2)) pNil))))) (pgN 5))
      (pRet (pIfE (pTst (pIsN false (pVar 5))) (pVar 2) (pII (fun i j => .int (i - j)) (pC (.int 1)) (pVar 5))))))
abbrev N_normal : List Str := ["dayset", "left", "low", "runs", "high", "right", "begin", "end"]
def p_normal : PS' := (pSeq (pAsg (pVar 0) (pgT [1, 2, 3, 4, 5]))
      (pSeq (pAsg (pCall 1 S_least_side (pCons (pVar 1) pNil)) (pgN 1))
      (pSeq (pAsg (pCall 1 S_least_side (pCons (pVar 5) pNil)) (pgN 5))
      (pSeq (pAsg (pCall 4 S_first_apart_from_runs (pCons (pVar 1) (pCons (pVar 3) (pCons (pVar 2) (pCons (pVar 4) pNil))))) (pgN 6))
      (pSeq (pIfS (pTst (pIsN false (pVar 6))) (pSeq (pAsg (pCall 3 S_first_apart (pCons (pVar 1) (pCons (pVar 5) (pCons (pVar 4) pNil)))) (pgN 6))
      (pSeq (pIfS (pTst (pIsN false (pVar 6))) (pRet (pTup (pCons (pVar 1) (pCons (pC (.int 0)) (pCons (pTup pNil) (pCons (pC (.int 0)) (pCons (pVar 1) pNil))))))) pNext)
      (pRet (pTup (pCons (pVar 1) (pCons (pVar 6) (pCons (pTup pNil) (pCons (pVar 6) (pCons (pVar 5) pNil))))))))) pNext)
      (pSeq (pAsg (pCall 4 S_right_begins (pCons (pVar 5) (pCons (pCall 3 S_cut (pCons (pVar 3) (pCons (pVar 6) (pCons (pVar 4) pNil)))) (pCons (pVar 6) (pCons (pVar 4) pNil))))) (pgN 7))
      (pRet (pTup (pCons (pVar 1) (pCons (pVar 6) (pCons (pCall 3 S_cut (pCons (pVar 3) (pCons (pVar 6) (pCons (pVar 7) pNil)))) (pCons (pVar 7) (pCons (pVar 5) pNil)))))))))))))
theorem pure_right_begins (ds : List PyData) (c : PyData → Prop) (hl : ds.length = 4) (h : S_right_begins ds c) : p_right_begins (fin c) (startE N_right_begins ds) := by
  unfold S_right_begins at h
  split at h
  · rename_i d r b hi
    obtain ⟨s, rs, rfl, rfl, hs, hf, he, bh, hn, h⟩ := h
    have T := turn_from hf he
    refine ⟨fun v hv => ?_, rfl, fun i acc => acc = (rs.reverse.take i).map fun r => runD (1 - r.2, 1 - r.1), rfl, ?_, ?_⟩
    · rcases List.mem_cons.mp hv with rfl | hv
      · rfl
      · rw [List.mem_singleton.mp hv]; rfl
    · rintro i d acc hd rfl
      rw [← List.map_reverse] at hd
      obtain ⟨⟨x, y⟩, hx, rfl⟩ := map_at hd
      have il := lt_of_at hx
      rw [List.length_reverse] at il
      refine ⟨rfl, rfl, by show 2 ≤ 100000; decide, rfl, by rw [List.length_map, List.length_take, List.length_reverse]; omega, ?_⟩
      show _ ++ [PyData.tuple [.int (1 - y), .int (1 - x)]] = _
      rw [take_more hx]
      simp [runD]
    · rintro acc rfl
      have ea : ((rs.reverse.take (rs.map runD).reverse.length).map fun r => runD (1 - r.2, 1 - r.1)) = (turnR rs).map runD := by
        rw [List.length_reverse, List.length_map, show rs.length = rs.reverse.length from List.length_reverse.symm, List.take_length, turn_eq, List.map_map]
        rfl
      rw [ea]
      refine ⟨rfl, s, rfl, hs, fun t ht hx => ⟨rfl, t, turnR rs, rfl, .inr rfl, ht, T.1, by have := T.2; omega, by rw [turn_eq, List.length_map, List.length_reverse]; exact hn, fun o F => ?_⟩⟩
      have e1 : holds t = fun x => holds s (-x) := funext hx
      have e2 : inRuns (turnR rs) = fun x => inRuns rs (-x) := funext fun x => turn_in
      rw [e1, e2] at F
      obtain ⟨a1, a2, a3, a4⟩ := rightB_spec (g := holds s) (h := inRuns rs) bh F
      have k := h _ a1 a2 a3 a4
      cases o with
      | none => exact k
      | some x => exact k
  · exact h.elim
theorem cut_len (rs : Rn) (b e : Int) : (cutL rs b e).length ≤ rs.length := by
  unfold cutL
  have := List.length_filter_le (fun r : Int × Int => decide (r.1 < r.2)) (rs.map fun r => (max r.1 b, min r.2 e))
  rw [List.length_map] at this
  exact this
set_option maxHeartbeats 4000000 in
theorem pure_normal (ds : List PyData) (c : PyData → Prop) (hl : ds.length = 1) (h : S_normal ds c) : p_normal (fin c) (startE N_normal ds) := by
  unfold S_normal at h
  split at h
  · rename_i d
    obtain ⟨D, rfl, B, h⟩ := h
    have ok := B.ok
    refine ⟨rfl, rfl, D.l, rfl, ⟨ok.l, B.l⟩, fun L hL nL eL => ⟨rfl, D.r, rfl, ⟨ok.r, B.r⟩, fun R hR nR eR => ⟨rfl, L, D.rs, rfl, .inl rfl, ⟨hL.ok, nL⟩, ok.rs, ok.hi, B.n, fun o F1 => ?_⟩⟩⟩
    cases o with
    | none =>
      refine ⟨rfl, L, R, rfl, rfl, ⟨hL.ok, nL⟩, ⟨hR.ok, nR⟩, fun o2 F2 => ?_⟩
      have S := nrm_spec (r1 := none) (r2 := o2) (e := fun _ => 0) ok hL hR eL eR F1 (fun _ => F2) (fun b z => by cases z)
      cases o2 with
      | none => exact ⟨Nat.zero_le _, by show 5 ≤ 100000; decide, h _ S.1 S.2⟩
      | some b => exact ⟨Nat.zero_le _, by show 5 ≤ 100000; decide, h _ S.1 S.2⟩
    | some b =>
      have F := F1
      obtain ⟨a1, a2, a3, a4⟩ := F
      have cf := cut_from (b := b) (e := D.high) ok.rs
      refine ⟨rfl, D.rs, rfl, B.n, rfl, R, cutL D.rs b D.high, rfl, rfl, ⟨hR.ok, nR⟩, runs_weak cf (by omega), cut_end (by omega), a2, Nat.le_trans (cut_len _ _ _) B.n, fun e e1 e2 e3 e4 => ?_⟩
      have S := nrm_spec (r1 := some b) (r2 := none) (e := fun _ => e) ok hL hR eL eR F1 (fun z => by cases z) (fun b' z => by
        cases z
        exact ⟨e1, e2, e3, e4⟩)
      exact ⟨rfl, D.rs, rfl, B.n, by show 5 ≤ 100000; decide, h _ S.1 S.2⟩
  · exact h.elim
end Pr
namespace Pr
open PySem L2 Pu N7
/-! the law's own defs -/
def S_law_in_side : FS := fun ds k => match ds with
  | [d, .int x] => ∃ s : Sd, d = sideD s ∧ SdB s ∧ k (.bool (holds s x))
  | _ => False
def S_law_in : FS := fun ds k => match ds with
  | [d, .int x] => ∃ D : Ds, d = dsD D ∧ DsB D ∧ k (.bool (mem D x))
  | _ => False
abbrev N_law_in_side : List Str := ["side", "day", "many", "border"]
def p_law_in_side : PS' := (pSeq (pAsg (pFn fLen (pCons (pNew (pLcS [3] [3] (pTO (pIx (pVar 0) (pC (.int 1)))) (pgN 3) (pTst (pII (fun i j => .bool (decide (i ≤ j))) (pVar 3) (pIIc (fun _ j => 0 < j) (fun i j => .int (i % j)) (pVar 1) (pIx (pVar 0) (pC (.int 0)))))) (pVar 3))) pNil)) (pgN 2))
      (pRet (pEqD true (pIx (pVar 0) (pC (.int 2))) (pEqD false (pIIc (fun _ j => 0 < j) (fun i j => .int (i % j)) (pVar 2) (pC (.int 2))) (pC (.int 1))))))
abbrev N_law_in : List Str := ["dayset", "day", "left", "low", "runs", "high", "right", "run"]
def p_law_in : PS' := (pSeq (pAsg (pVar 0) (pgT [2, 3, 4, 5, 6]))
      (pSeq (pIfS (pTst (pII (fun i j => .bool (decide (i < j))) (pVar 1) (pVar 3))) (pRet (pCall 2 S_law_in_side (pCons (pVar 2) (pCons (pVar 1) pNil)))) pNext)
      (pSeq (pIfS (pTst (pII (fun i j => .bool (decide (j ≤ i))) (pVar 1) (pVar 5))) (pRet (pCall 2 S_law_in_side (pCons (pVar 6) (pCons (pVar 1) pNil)))) pNext)
      (pRet (pFn fAny (pCons (pNew (pLcS [7] [7] (pTO (pVar 4)) (pgN 7) pYes (pChain (fun i j => decide (i ≤ j)) (fun i j => decide (i < j)) (pIx (pVar 7) (pC (.int 0))) (pVar 1) (pIx (pVar 7) (pC (.int 1)))))) pNil))))))
theorem cnt_le_len (r : Int) : ∀ l : List Int, (l.filter fun b => decide (b ≤ r)).length = cnt l (r + 1)
  | [] => rfl
  | b :: t => by
    have ih := cnt_le_len r t
    rw [List.filter_cons]
    unfold cnt
    by_cases z : b ≤ r
    · rw [decide_eq_true z, if_pos rfl, if_pos (by omega), List.length_cons, ih]
      omega
    · rw [decide_eq_false z, if_neg Bool.false_ne_true, if_neg (by omega), ih]
      omega
theorem holds_py (s : Sd) (x : Int) : (!(s.f == decide (((cnt s.bs (x % s.p + 1) : Nat) : Int) % 2 = 1))) = holds s x := by
  unfold holds odd
  have : decide (((cnt s.bs (x % s.p + 1) : Nat) : Int) % 2 = 1) = decide (cnt s.bs (x % s.p + 1) % 2 = 1) := by
    by_cases z : cnt s.bs (x % s.p + 1) % 2 = 1
    · rw [decide_eq_true z, decide_eq_true (by omega)]
    · rw [decide_eq_false z, decide_eq_false (by omega)]
  rw [this]
  rfl
theorem pure_law_in_side (ds : List PyData) (c : PyData → Prop) (hl : ds.length = 2) (h : S_law_in_side ds c) : p_law_in_side (fin c) (startE N_law_in_side ds) := by
  unfold S_law_in_side at h
  split at h
  · rename_i d x
    obtain ⟨s, rfl, hs, h⟩ := h
    have p1 := hs.ok.p1
    have hn := hs.n
    refine ⟨fun v hv => by rw [List.mem_singleton.mp hv]; rfl, rfl, fun i acc => acc = nums ((s.bs.take i).filter fun b => decide (b ≤ x % s.p)), rfl, ?_, ?_⟩
    · rintro i d acc hd rfl
      obtain ⟨b, hb, rfl⟩ := map_at hd
      have il := lt_of_at hb
      refine ⟨by show 0 < s.p; omega, rfl, ?_⟩
      show (if decide (b ≤ x % s.p) = true then _ else _)
      refine ifd (fun q => ?_) (fun q => ?_)
      · have fl := List.length_filter_le (fun b => decide (b ≤ x % s.p)) (s.bs.take i)
        rw [List.length_take] at fl
        refine ⟨rfl, by rw [List.length_map]; omega, ?_⟩
        show nums _ ++ [PyData.int b] = nums _
        rw [take_more hb, List.filter_append, List.filter_cons]
        simp [q]
      · show nums _ = nums _
        rw [take_more hb, List.filter_append, List.filter_cons]
        simp [q]
    · rintro acc rfl
      rw [show s.bs.take (nums s.bs).length = s.bs by rw [List.length_map, List.take_length]]
      refine ⟨_, rfl, ?_⟩
      have e : (nums (s.bs.filter fun b => decide (b ≤ x % s.p))).length = cnt s.bs (x % s.p + 1) := by rw [List.length_map, cnt_le_len]
      refine ⟨(by decide : (0 : Int) < 2), rfl, rfl, rfl, rfl, ?_⟩
      show c (.bool (!(PyData.eqv (.bool s.f) (.bool (PyData.eqv (.int (((nums (s.bs.filter fun b => decide (b ≤ x % s.p))).length : Nat) % 2)) (.int 1))))))
      rw [e, eqv_int, eqv_bool, holds_py]
      exact h
  · exact h.elim
def inRun (x : Int) (r : Int × Int) : Bool := decide (r.1 ≤ x) && decide (x < r.2)
theorem boolsOf_map' (l : List Bool) : boolsOf (l.map PyData.bool) = some l := by
  induction l with
  | nil => rfl
  | cons b l ih =>
    show (boolsOf (l.map PyData.bool)).map (b :: ·) = _
    rw [ih]
    rfl
theorem pure_law_in (ds : List PyData) (c : PyData → Prop) (hl : ds.length = 2) (h : S_law_in ds c) : p_law_in (fin c) (startE N_law_in ds) := by
  unfold S_law_in at h
  split at h
  · rename_i d x
    obtain ⟨D, rfl, B, h⟩ := h
    refine ⟨rfl, ?_⟩
    refine ifd (fun z => ?_) (fun z => ?_)
    · refine ⟨rfl, D.l, rfl, ⟨B.ok.l, B.l⟩, ?_⟩
      rw [mem_lo z] at h
      exact h
    · refine ifd (fun y => ?_) (fun y => ?_)
      · refine ⟨rfl, D.r, rfl, ⟨B.ok.r, B.r⟩, ?_⟩
        rw [mem_hi z (by omega)] at h
        exact h
      · rw [mem_mid z (by omega)] at h
        have hn := B.n
        refine ⟨fun v hv => by rw [List.mem_singleton.mp hv]; rfl, rfl, fun i acc => acc = ((D.rs.take i).map (inRun x)).map PyData.bool, rfl, ?_, ?_⟩
        · rintro i d acc hd rfl
          obtain ⟨⟨b, e⟩, hb, rfl⟩ := map_at hd
          have il := lt_of_at hb
          refine ⟨rfl, ?_⟩
          have len : (((D.rs.take i).map (inRun x)).map PyData.bool).length < 100000 := by rw [List.length_map, List.length_map, List.length_take]; omega
          show (if decide (b ≤ x) = true then _ else _)
          refine ifd (fun q => ?_) (fun q => ?_)
          · refine ⟨rfl, len, ?_⟩
            show _ ++ [PyData.bool (decide (x < e))] = _
            rw [take_more hb]
            simp [inRun, q]
          · refine ⟨rfl, len, ?_⟩
            show _ ++ [PyData.bool false] = _
            rw [take_more hb]
            simp [inRun, q]
        · rintro acc rfl
          rw [show D.rs.take (D.rs.map runD).length = D.rs by rw [List.length_map, List.take_length]]
          refine ⟨_, boolsOf_map' _, ?_⟩
          rw [List.any_map]
          exact h
  · exact h.elim
end Pr
namespace Pr
open PySem L2 Pu N7
def S_law_least : FS := fun ds k => match ds with
  | [d] => ∃ s : Sd, d = sideD s ∧ SdB s ∧ s.p ≤ 1000 ∧ ∀ t : Sd, Least t → t.p ≤ s.p → (∀ x, holds t x = holds s x) → k (sideD t)
  | _ => False
abbrev N_law_least : List Str := ["side", "period", "states", "borders", "day"]
def p_law_least : PS' := (pSeq (pRng (pCons (pC (.int 1)) (pCons (pPlus (pIx (pVar 0) (pC (.int 0))) (pC (.int 1))) pNil)) (pgN 1) (pIfS (pTst (pEqD false (pIIc (fun _ j => 0 < j) (fun i j => .int (i % j)) (pIx (pVar 0) (pC (.int 0))) (pVar 1)) (pC (.int 0)))) (pSeq (pAsg (pNew (pLcR [4] [4] (pCons (pVar 1) pNil) (pgN 4) pYes (pCall 2 S_law_in_side (pCons (pVar 0) (pCons (pVar 4) pNil))))) (pgN 2))
      (pIfS (pTst (pFn fAll (pCons (pNew (pLcR [4] [4] (pCons (pIx (pVar 0) (pC (.int 0))) pNil) (pgN 4) pYes (pEqD false (pCall 2 S_law_in_side (pCons (pVar 0) (pCons (pVar 4) pNil))) (pIx (pVar 2) (pIIc (fun _ j => 0 < j) (fun i j => .int (i % j)) (pVar 4) (pVar 1)))))) pNil))) (pSeq (pAsg (pNew (pLcR [4] [4] (pCons (pVar 1) pNil) (pgN 4) (pTst (pEqD true (pIx (pVar 2) (pVar 4)) (pIx (pVar 2) (pII (fun i j => .int (i - j)) (pVar 4) (pC (.int 1)))))) (pVar 4))) (pgN 3))
      (pRet (pTup (pCons (pVar 1) (pCons (pFn fTuple (pCons (pVar 3) pNil)) (pCons (pIx (pVar 2) (pI (fun i => .int (-i)) (pC (.int 1)))) pNil)))))) pNext)) pNext))
      (pRet (pVar 0)))
/-- the row of states -/
def sts (h : Int → Bool) (n : Nat) : List PyData := (List.range n).map fun i : Nat => PyData.bool (h (i : Nat))
theorem sts_len (h : Int → Bool) (n : Nat) : (sts h n).length = n := by
  unfold sts
  rw [List.length_map, List.length_range]
theorem sts_succ (h : Int → Bool) (n : Nat) : sts h (n + 1) = sts h n ++ [.bool (h n)] := by
  unfold sts
  rw [List.range_succ, List.map_append]
  rfl
theorem sts_at {h : Int → Bool} {n : Nat} {x : Int} (h0 : 0 ≤ x) (h1 : x < n) : atI (sts h n) x = some (.bool (h x)) := by
  obtain ⟨i, rfl⟩ : ∃ i : Nat, x = i := ⟨x.toNat, by omega⟩
  refine atI_nat ?_
  unfold sts
  rw [List.getElem?_map, List.getElem?_range (by omega)]
  rfl
theorem sts_last {h : Int → Bool} {n : Nat} (h1 : 0 < n) : atI (sts h n) (-1) = some (.bool (h ((n : Int) - 1))) := by
  obtain ⟨m, rfl⟩ : ∃ m, n = m + 1 := ⟨n - 1, by omega⟩
  rw [sts_succ, atI_last]
  congr 3
  omega
theorem chg_succ (h : Int → Bool) (n : Nat) : chg h (n + 1) = chg h n ++ (if h n != h ((n : Int) - 1) then [(n : Int)] else []) := by
  unfold chg
  rw [List.range_succ, List.map_append, List.filter_append]
  congr 1
  show List.filter _ [((n : Nat) : Int)] = _
  rw [List.filter_cons]
  rfl
theorem chg_len (h : Int → Bool) (n : Nat) : (chg h n).length ≤ n := by
  unfold chg
  have := List.length_filter_le (fun d : Int => h d != h (d - 1)) ((List.range n).map fun i : Nat => (i : Int))
  rw [List.length_map, List.length_range] at this
  exact this
theorem per_of {s : Sd} (p1 : 1 ≤ s.p) {q : Int} (q1 : 1 ≤ q) (qd : q ∣ s.p) (H : ∀ d : Nat, (d : Int) < s.p → holds s d = holds s ((d : Int) % q)) : Per (holds s) q := by
  have key : ∀ x, holds s x = holds s (x % q) := fun x => by
    have r0 := Int.emod_nonneg x (show s.p ≠ 0 by omega)
    have r1 := Int.emod_lt_of_pos x (show 0 < s.p by omega)
    have e : x = x % s.p + s.p * (x / s.p) := by
      have := Int.mul_ediv_add_emod x s.p
      omega
    have a := per_mulZ (per_holds (s := s)) (x / s.p) (x % s.p)
    rw [← e] at a
    have b := H (x % s.p).toNat (by omega)
    rw [Int.toNat_of_nonneg r0, Int.emod_emod_of_dvd x qd] at b
    rw [a, b]
  intro d
  rw [key (d + q), key d, Int.add_emod_right]
theorem pure_law_least (ds : List PyData) (c : PyData → Prop) (hl : ds.length = 1) (h : S_law_least ds c) : p_law_least (fin c) (startE N_law_least ds) := by
  unfold S_law_least at h
  split at h
  · rename_i d
    obtain ⟨s, rfl, hs, hp, h⟩ := h
    have p1 := hs.ok.p1
    refine ⟨1, s.p + 1, .inr rfl, ⟨by omega, by omega, by omega, by omega⟩, fun i ρ => ∃ o1 o2 o3 : Cell, ρ = [.d (sideD s), o1, o2, o3, .no] ∧ ∀ q : Nat, 1 ≤ q → q < 1 + i → (q : Int) ∣ s.p → ¬ Per (holds s) q, ⟨_, _, _, rfl, fun q a b => by omega⟩, ?_, ?_⟩
    · rintro i ρ hi ⟨o1, o2, o3, rfl, al⟩
      have eQ : (1 : Int) + (i : Int) = ((1 + i : Nat) : Int) := by omega
      have next : ∀ o2 o3 : Cell, ¬ (((1 + i : Nat) : Int) ∣ s.p ∧ Per (holds s) ((1 + i : Nat) : Int)) → ∃ p1 p2 p3 : Cell, ([.d (sideD s), .d (.int (1 + (i : Int))), o2, o3, .no] : En) = [.d (sideD s), p1, p2, p3, .no] ∧ ∀ q : Nat, 1 ≤ q → q < 1 + (i + 1) → (q : Int) ∣ s.p → ¬ Per (holds s) q := fun o2 o3 nr => by
        refine ⟨_, _, _, rfl, fun q a b e f => ?_⟩
        by_cases z : q = 1 + i
        · subst z
          exact nr ⟨e, f⟩
        · exact al q a (by omega) e f
      refine ⟨by omega, rfl, rfl, ?_⟩
      show (if PyData.eqv (.int (s.p % (1 + (i : Int)))) (.int 0) = true then _ else _)
      rw [eqv_int]
      refine ifd (fun z => ?_) (fun z => ?_)
      · have dv : ((1 + i : Nat) : Int) ∣ s.p := by
          rw [eQ] at z
          exact Int.dvd_of_emod_eq_zero z
        -- states
        refine ⟨fun v hv => by rw [List.mem_singleton.mp hv]; rfl, rfl, 0, 1 + (i : Int), .inl ⟨rfl, rfl⟩, ⟨by omega, by omega, by omega, by omega⟩, fun j acc => acc = sts (holds s) j, rfl, ?_, ?_⟩
        · rintro j acc hj rfl
          refine ⟨rfl, rfl, s, rfl, hs, rfl, by rw [sts_len]; omega, ?_⟩
          show _ = sts (holds s) (j + 1)
          rw [sts_succ, Int.zero_add]
        · rintro acc rfl
          have et : (1 + (i : Int) - 0).toNat = 1 + i := by omega
          rw [et]
          -- all
          refine ⟨fun v hv => by rw [List.mem_singleton.mp hv]; rfl, rfl, 0, s.p, .inl ⟨rfl, rfl⟩, ⟨by omega, by omega, by omega, by omega⟩, fun j acc => acc = ((List.range j).map fun d : Nat => holds s (d : Nat) == holds s ((d : Int) % (1 + (i : Int)))).map PyData.bool, rfl, ?_, ?_⟩
          · rintro j acc hj rfl
            refine ⟨rfl, rfl, s, rfl, hs, by omega, ?_⟩
            have r0 := Int.emod_nonneg (0 + (j : Int)) (show 1 + (i : Int) ≠ 0 by omega)
            have r1 := Int.emod_lt_of_pos (0 + (j : Int)) (show 0 < 1 + (i : Int) by omega)
            refine oSome (sts_at r0 (by omega)) ⟨rfl, rfl, rfl, by rw [List.length_map, List.length_map, List.length_range]; omega, ?_⟩
            show _ ++ [PyData.bool (PyData.eqv (.bool (holds s (0 + (j : Int)))) (.bool (holds s ((0 + (j : Int)) % (1 + (i : Int))))))] = _
            rw [eqv_bool, Int.zero_add, List.range_succ, List.map_append, List.map_append]
            rfl
          · rintro acc rfl
            refine ⟨_, boolsOf_map' _, ?_⟩
            refine tf (fun y => ?_) (fun y => ?_)
            · have H : ∀ d : Nat, (d : Int) < s.p → holds s d = holds s ((d : Int) % ((1 + i : Nat) : Int)) := fun d hd => by
                rw [List.all_map] at y
                have := List.all_eq_true.mp y d (List.mem_range.mpr (by omega))
                rw [← eQ]
                exact beq_iff_eq.mp this
              have P := per_of p1 (show 1 ≤ ((1 + i : Nat) : Int) by omega) dv H
              have S := lawLeast_spec hs.ok (show 1 ≤ 1 + i by omega) dv P fun r a b e => al r a (by omega) e
              -- borders
              refine ⟨fun v hv => by rw [List.mem_singleton.mp hv]; rfl, rfl, 0, 1 + (i : Int), .inl ⟨rfl, rfl⟩, ⟨by omega, by omega, by omega, by omega⟩, fun j acc => acc = nums (chg (holds s) j), rfl, ?_, ?_⟩
              · rintro j acc hj rfl
                have hb : atI (sts (holds s) (1 + i)) (0 + (j : Int) - 1) = some (.bool (holds s ((j : Int) - 1))) := by
                  by_cases w : j = 0
                  · subst w
                    rw [show 0 + ((0 : Nat) : Int) - 1 = -1 from rfl, sts_last (by omega)]
                    congr 2
                    rw [show ((0 : Nat) : Int) - 1 = -1 from rfl, show ((1 + i : Nat) : Int) - 1 = -1 + ((1 + i : Nat) : Int) by omega, P]
                  · rw [sts_at (by omega) (by omega), Int.zero_add]
                refine oSome (sts_at (h := holds s) (n := 1 + i) (x := 0 + (j : Int)) (by omega) (by omega)) (oSome hb ⟨rfl, rfl, rfl, ?_⟩)
                show (if (!(PyData.eqv (.bool (holds s (0 + (j : Int)))) (.bool (holds s ((j : Int) - 1))))) = true then _ else _)
                rw [eqv_bool, Int.zero_add]
                have cl := chg_len (holds s) j
                refine tf (fun w => ?_) (fun w => ?_)
                · refine ⟨rfl, by rw [List.length_map]; omega, ?_⟩
                  show nums (chg (holds s) j) ++ [PyData.int (j : Int)] = nums (chg (holds s) (j + 1))
                  rw [chg_succ, if_pos (by rw [bne]; exact w)]
                  exact (List.map_append (f := PyData.int) (l₁ := chg (holds s) j) (l₂ := [(j : Int)])).symm
                · show nums (chg (holds s) j) = nums (chg (holds s) (j + 1))
                  rw [chg_succ, if_neg (by rw [bne, w]; exact Bool.false_ne_true), List.append_nil]
              · rintro acc rfl
                rw [et]
                refine oSome (sts_last (by omega)) ⟨by show 3 ≤ 100000; decide, ?_⟩
                have k := h _ S.1 (Int.le_of_dvd (by omega) dv) S.2
                have e2 : holds s (((1 + i : Nat) : Int) - 1) = holds s (-1) := by
                  rw [show ((1 + i : Nat) : Int) - 1 = -1 + ((1 + i : Nat) : Int) by omega, P]
                show c (.tuple [.int (1 + (i : Int)), .tuple (nums (chg (holds s) (1 + i))), .bool (holds s (((1 + i : Nat) : Int) - 1))])
                rw [eQ, e2]
                exact k
            · refine next _ _ fun nr => ?_
              rw [List.all_map] at y
              have : ((List.range (s.p - 0).toNat).all (id ∘ fun d : Nat => holds s (d : Nat) == holds s ((d : Int) % (1 + (i : Int))))) = true := List.all_eq_true.mpr fun d hd => by
                show (holds s (d : Nat) == holds s ((d : Int) % (1 + (i : Int)))) = true
                have P := per_mulZ nr.2 ((d : Int) / ((1 + i : Nat) : Int)) ((d : Int) % ((1 + i : Nat) : Int))
                have e : (d : Int) % ((1 + i : Nat) : Int) + ((1 + i : Nat) : Int) * ((d : Int) / ((1 + i : Nat) : Int)) = d := by
                  have := Int.mul_ediv_add_emod (d : Int) ((1 + i : Nat) : Int)
                  omega
                rw [e] at P
                rw [eQ, P]
                exact beq_self_eq_true _
              rw [this] at y
              cases y
      · refine next _ _ fun nr => z ?_
        rw [eQ]
        exact Int.emod_eq_zero_of_dvd nr.1
    · rintro ρ ⟨o1, o2, o3, rfl, al⟩
      have := al s.p.toNat (by omega) (by omega) (by rw [Int.toNat_of_nonneg (by omega)]; exact Int.dvd_refl _)
      rw [Int.toNat_of_nonneg (by omega)] at this
      exact absurd per_holds this
  · exact h.elim
end Pr
namespace N7
/-! scanned runs; longer sides -/
theorem from_init : ∀ {rs : Rn} {lo u v : Int}, RunsFrom lo (rs ++ [(u, v)]) → RunsFrom lo rs ∧ (rs = [] → lo ≤ u) ∧ (rs ≠ [] → runsEnd lo rs + 1 ≤ u) ∧ u < v
  | [], _, _, _, ⟨h1, h2, _⟩ => ⟨trivial, fun _ => h1, fun z => absurd rfl z, h2⟩
  | (b, e) :: r, lo, u, v, ⟨h1, h2, h3⟩ => by
    obtain ⟨a1, a2, a3, a4⟩ := from_init h3
    refine ⟨⟨h1, h2, a1⟩, (fun z => nomatch z), fun _ => ?_, a4⟩
    cases r with
    | nil => exact a2 rfl
    | cons x t => exact a3 (by simp)
structure Scan (h : Int → Bool) (a : Int) (n : Nat) (rs : Rn) : Prop where
  from_ : RunsFrom a rs
  end_ : runsEnd a rs ≤ a + n
  in_ : ∀ x, inRuns rs x = (h x && (decide (a ≤ x) && decide (x < a + n)))
  len : rs.length ≤ n
theorem scan_zero (h : Int → Bool) (a : Int) : Scan h a 0 [] := ⟨trivial, by show a ≤ a + ((0 : Nat) : Int); omega, fun x => by
  have : (decide (a ≤ x) && decide (x < a + ((0 : Nat) : Int))) = false := by
    by_cases z : a ≤ x
    · rw [decide_eq_false (show ¬ x < a + ((0 : Nat) : Int) by omega), Bool.and_false]
    · rw [decide_eq_false z, Bool.false_and]
  rw [this, Bool.and_false]
  rfl, Nat.le_refl _⟩
theorem win_succ {h : Int → Bool} {a : Int} {n : Nat} {x : Int} : (h x && (decide (a ≤ x) && decide (x < a + ((n + 1 : Nat) : Int)))) = ((h x && (decide (a ≤ x) && decide (x < a + (n : Int)))) || (h x && decide (x = a + n))) := by
  by_cases z : x = a + n
  · subst z
    rw [decide_eq_true (show a + (n : Int) = a + n from rfl), decide_eq_true (show a ≤ a + (n : Int) by omega), decide_eq_true (show a + (n : Int) < a + ((n + 1 : Nat) : Int) by omega)]
    cases h (a + n) <;> simp
  · rw [decide_eq_false z]
    have e : decide (x < a + ((n + 1 : Nat) : Int)) = decide (x < a + (n : Int)) := by
      by_cases w : x < a + (n : Int)
      · rw [decide_eq_true w, decide_eq_true (by omega)]
      · rw [decide_eq_false w, decide_eq_false (by omega)]
    rw [e]
    cases h x <;> cases decide (a ≤ x) <;> cases decide (x < a + (n : Int)) <;> rfl
theorem scan_no {h : Int → Bool} {a : Int} {n : Nat} {rs : Rn} (S : Scan h a n rs) (hx : h (a + n) = false) : Scan h a (n + 1) rs := ⟨S.from_, by have := S.end_; omega, fun x => by
  rw [win_succ, ← S.in_]
  by_cases z : x = a + n
  · rw [z, hx]; simp
  · rw [decide_eq_false z]; simp, by have := S.len; omega⟩
theorem in_snoc (rs : Rn) (u v x : Int) : inRuns (rs ++ [(u, v)]) x = (inRuns rs x || (decide (u ≤ x) && decide (x < v))) := by
  unfold inRuns
  rw [List.any_append, List.any_cons, List.any_nil, Bool.or_false]
/-- a yes right behind the last run -/
theorem scan_ext {h : Int → Bool} {a : Int} {n : Nat} {rs : Rn} {u : Int} (S : Scan h a n (rs ++ [(u, a + n)])) (hx : h (a + n) = true) : Scan h a (n + 1) (rs ++ [(u, a + n + 1)]) := by
  obtain ⟨a1, a2, a3, a4⟩ := from_init S.from_
  refine ⟨from_snoc a1 a2 a3 (by omega), by rw [turn_end]; omega, fun x => ?_, by have := S.len; rw [List.length_append] at this ⊢; show _ + 1 ≤ _; have : _ + 1 ≤ n := this; omega⟩
  rw [win_succ, ← S.in_, in_snoc, in_snoc]
  by_cases z : x = a + n
  · subst z
    rw [hx, decide_eq_true (show u ≤ a + (n : Int) by omega), decide_eq_true (show a + (n : Int) < a + n + 1 by omega)]
    simp
  · have e : decide (x < a + (n : Int) + 1) = decide (x < a + (n : Int)) := by
      by_cases w : x < a + (n : Int)
      · rw [decide_eq_true w, decide_eq_true (by omega)]
      · rw [decide_eq_false w, decide_eq_false (by omega)]
    rw [e, decide_eq_false z]
    simp
/-- a yes apart from the last run -/
theorem scan_new {h : Int → Bool} {a : Int} {n : Nat} {rs : Rn} (S : Scan h a n rs) (hl : rs ≠ [] → runsEnd a rs ≠ a + n) (hx : h (a + n) = true) : Scan h a (n + 1) (rs ++ [(a + n, a + n + 1)]) := by
  refine ⟨from_snoc S.from_ (fun _ => by omega) (fun z => by have := hl z; have := S.end_; omega) (by omega), by rw [turn_end]; omega, fun x => ?_, by have := S.len; rw [List.length_append]; show _ + 1 ≤ _; omega⟩
  rw [win_succ, ← S.in_, in_snoc]
  by_cases z : x = a + n
  · subst z
    rw [hx, decide_eq_true (show a + (n : Int) ≤ a + n by omega), decide_eq_true (show a + (n : Int) < a + n + 1 by omega)]
    simp
  · rw [decide_eq_false z]
    have e : (decide (a + (n : Int) ≤ x) && decide (x < a + n + 1)) = false := by
      by_cases w : a + (n : Int) ≤ x
      · rw [decide_eq_false (show ¬ x < a + (n : Int) + 1 by omega), Bool.and_false]
      · rw [decide_eq_false w, Bool.false_and]
    rw [e]
    simp
/-! the law's normal form -/
theorem lawNorm_spec {D : Ds} (ok : DsOk D) {L R : Sd} (hL : Least L) (hR : Least R) (eL : ∀ d, holds L d = holds D.l d) (eR : ∀ d, holds R d = holds D.r d) :
    ((∀ d, D.low ≤ d → d < D.high + L.p * R.p + 1 → mem D d = holds L d) → Norm ⟨L, 0, [], 0, L⟩ ∧ ∀ d, mem ⟨L, 0, [], 0, L⟩ d = mem D d) ∧
    (∀ (b e : Int) (rs : Rn), D.low ≤ b → mem D b ≠ holds L b → (∀ d, D.low ≤ d → d < b → mem D d = holds L d) → b ≤ e → (∀ d, e ≤ d → d < max b D.high → mem D d = holds R d) → e ≤ max b D.high → (e = b ∨ mem D (e - 1) ≠ holds R (e - 1)) →
      Scan (mem D) b (e - b).toNat rs → Norm ⟨L, b, rs, e, R⟩ ∧ ∀ d, mem ⟨L, b, rs, e, R⟩ d = mem D d) := by
  have lh := ok_lh ok
  constructor
  · intro H
    have p1 := hL.ok.p1
    have q1 := hR.ok.p1
    have W : ∀ d, holds L d = holds R d := fine_wilf p1 q1 per_holds per_holds (b := D.high) fun d h1 h2 => by
      have w : L.p + R.p ≤ L.p * R.p + 1 := by
        have a : (L.p - 1) * (R.p - 1) ≥ 0 := Int.mul_nonneg (by omega) (by omega)
        rw [Int.sub_mul, Int.mul_sub, Int.one_mul, Int.mul_one] at a
        omega
      rw [← H d (by omega) (by omega), mem_hi (by omega) (by omega), eR]
    have M : ∀ d, mem ⟨L, 0, [], 0, L⟩ d = holds L d := fun d => by
      by_cases k : d < 0
      · exact mem_lo k
      · exact mem_hi (D := ⟨L, 0, [], 0, L⟩) k k
    refine ⟨⟨hL, hL, trivial, Int.le_refl _, .inl ⟨rfl, rfl, rfl, rfl⟩⟩, fun d => ?_⟩
    rw [M]
    by_cases k : d < D.low
    · rw [mem_lo k, eL]
    · by_cases k2 : d < D.high
      · rw [H d (by omega) (by have := Int.mul_nonneg (show (0 : Int) ≤ L.p by omega) (show (0 : Int) ≤ R.p by omega); omega)]
      · rw [mem_hi k k2, W, eR]
  · intro b e rs hb nb before be after emax tight S
    have M : ∀ d, mem ⟨L, b, rs, e, R⟩ d = mem D d := fun d => by
      by_cases k0 : d < b
      · rw [mem_lo (D := ⟨L, b, rs, e, R⟩) k0]
        show holds L d = _
        by_cases k : d < D.low
        · rw [mem_lo k, eL]
        · rw [before d (by omega) k0]
      · by_cases k1 : d < e
        · rw [mem_mid (D := ⟨L, b, rs, e, R⟩) k0 k1]
          show inRuns rs d = _
          rw [S.in_, decide_eq_true (show b ≤ d by omega), decide_eq_true (show d < b + ((e - b).toNat : Int) by omega)]
          simp
        · rw [mem_hi (D := ⟨L, b, rs, e, R⟩) k0 k1]
          show holds R d = _
          by_cases k2 : d < max b D.high
          · rw [after d (by omega) k2]
          · rw [mem_hi (by omega) (by omega), eR]
    refine ⟨⟨hL, hR, S.from_, by have := S.end_; show runsEnd b rs ≤ e; omega, .inr ⟨?_, ?_⟩⟩, M⟩
    · rw [M]; exact nb
    · rcases tight with z | z
      · exact .inl z
      · refine .inr ?_
        rw [M]
        exact z
end N7
namespace N7
/-! the days of a stretch that a test picks -/
def pick (P : Int → Bool) (a : Int) (n : Nat) : List Int := ((List.range n).map fun i : Nat => a + (i : Int)).filter P
theorem pick_succ (P : Int → Bool) (a : Int) (n : Nat) : pick P a (n + 1) = pick P a n ++ (if P (a + n) then [a + (n : Int)] else []) := by
  unfold pick
  rw [List.range_succ, List.map_append, List.filter_append]
  congr 1
  show List.filter P [a + (n : Int)] = _
  rw [List.filter_cons]
  rfl
theorem pick_len (P : Int → Bool) (a : Int) (n : Nat) : (pick P a n).length ≤ n := by
  unfold pick
  have := List.length_filter_le P ((List.range n).map fun i : Nat => a + (i : Int))
  rw [List.length_map, List.length_range] at this
  exact this
theorem pick_nil {P : Int → Bool} {a : Int} : ∀ {n : Nat}, pick P a n = [] → ∀ d, a ≤ d → d < a + n → P d = false
  | 0, _, d, h1, h2 => by omega
  | n + 1, h, d, h1, h2 => by
    rw [pick_succ] at h
    obtain ⟨k1, k2⟩ := List.append_eq_nil_iff.mp h
    by_cases z : d = a + n
    · subst z
      cases q : P (a + n) with
      | false => rfl
      | true =>
        rw [q] at k2
        cases k2
    · exact pick_nil k1 d h1 (by omega)
theorem pick_first {P : Int → Bool} {a : Int} : ∀ {n : Nat}, pick P a n ≠ [] → ∃ b r, pick P a n = b :: r ∧ a ≤ b ∧ b < a + n ∧ P b = true ∧ ∀ d, a ≤ d → d < b → P d = false
  | 0, h => absurd rfl h
  | n + 1, h => by
    rw [pick_succ] at h ⊢
    by_cases z : pick P a n = []
    · rw [z] at h ⊢
      have al := pick_nil z
      cases q : P (a + n) with
      | false =>
        rw [q] at h
        exact absurd rfl h
      | true =>
        exact ⟨a + n, [], rfl, by omega, by omega, q, al⟩
    · obtain ⟨b, r, e, h1, h2, h3, h4⟩ := pick_first z
      exact ⟨b, r ++ _, by rw [e]; rfl, h1, by omega, h3, h4⟩
theorem pick_last {P : Int → Bool} {a : Int} : ∀ {n : Nat}, pick P a n ≠ [] → ∃ b r, pick P a n = r ++ [b] ∧ a ≤ b ∧ b < a + n ∧ P b = true ∧ ∀ d, b < d → d < a + n → P d = false
  | 0, h => absurd rfl h
  | n + 1, h => by
    rw [pick_succ] at h ⊢
    cases q : P (a + n) with
    | true => exact ⟨a + n, pick P a n, rfl, by omega, by omega, q, fun d h1 h2 => by omega⟩
    | false =>
      rw [q] at h
      have h : pick P a n ++ [] ≠ [] := h
      rw [List.append_nil] at h
      obtain ⟨b, r, e, h1, h2, h3, h4⟩ := pick_last h
      refine ⟨b, r, by rw [if_neg Bool.false_ne_true, List.append_nil, e], h1, by omega, h3, fun d k1 k2 => ?_⟩
      by_cases z : d = a + n
      · rw [z, q]
      · exact h4 d k1 (by omega)
end N7
namespace Pr
open PySem L2 Pu N7
/-- small enough for the law's lists -/
structure DsS (D : Ds) : Prop where
  b : DsB D
  lp : D.l.p ≤ 100
  rp : D.r.p ≤ 100
  lo : -3000 ≤ D.low
  hi : D.high ≤ 3000
def S_law_normal : FS := fun ds k => match ds with
  | [d] => ∃ D : Ds, d = dsD D ∧ DsS D ∧ ∀ N : Ds, Norm N → DsB N → N.l.p ≤ 100 → N.r.p ≤ 100 → (∀ x, mem N x = mem D x) → k (dsD N)
  | _ => False
abbrev N_law_normal : List Str := ["dayset", "left", "right", "wide", "days", "day", "unlike", "low", "high", "runs"]
def p_scanN : PS' := (pIfS (pTst (pCall 2 S_law_in (pCons (pVar 0) (pCons (pVar 5) pNil)))) (pIfS (pAnd (pTst (pII (fun i j => .bool (decide (j < i))) (pLenO 9) (pC (.int 0)))) (pTst (pEqD false (pIx (pIxO 9 (pI (fun i => .int (-i)) (pC (.int 1)))) (pC (.int 1))) (pVar 5)))) (pSetI 9 (pI (fun i => .int (-i)) (pC (.int 1))) (pTup (pCons (pIx (pIxO 9 (pI (fun i => .int (-i)) (pC (.int 1)))) (pC (.int 0))) (pCons (pPlus (pVar 5) (pC (.int 1))) pNil)))) (pApp 9 (pTup (pCons (pVar 5) (pCons (pPlus (pVar 5) (pC (.int 1))) pNil))))) pNext)
theorem ixN_last (n : Nat) : ixN (n + 1) (-1) = some n := by
  simp only [ixN]
  first | rfl | (simp; omega)
theorem map_snoc (rs : Rn) (r : Int × Int) : (rs ++ [r]).map runD = rs.map runD ++ [runD r] := List.map_append
/-- one day of the scan -/
theorem scan_turn {D : Ds} (B : DsB D) {a : Int} {n : Nat} {rs : Rn} (S : Scan (mem D) a n rs) (hn : n < 90000) (c1 c2 c3 c4 c6 c7 c8 : Cell) {G : PEnds} {x : Int} (ex : x = a + n)
    (k : ∀ rs' : Rn, Scan (mem D) a (n + 1) rs' → G.nx ([.d (dsD D), c1, c2, c3, c4, .d (.int x), c6, c7, c8, .own (rs'.map runD)] : En)) :
    p_scanN G ([.d (dsD D), c1, c2, c3, c4, .d (.int x), c6, c7, c8, .own (rs.map runD)] : En) := by
  subst ex
  refine ⟨rfl, D, rfl, B, ?_⟩
  refine tf (fun hm => ?_) (fun hm => ?_)
  · -- append
    have app : (rs ≠ [] → runsEnd a rs ≠ a + n) → pApp 9 (pTup (pCons (pVar 5) (pCons (pPlus (pVar 5) (pC (.int 1))) pNil))) G ([.d (dsD D), c1, c2, c3, c4, .d (.int (a + n)), c6, c7, c8, .own (rs.map runD)] : En) := fun hl => by
      have q := k _ (scan_new S hl hm)
      rw [map_snoc] at q
      have := S.len
      exact ⟨by show 2 ≤ 100000; decide, by rw [List.length_map]; omega, q⟩
    refine ifd (fun z => ?_) (fun z => ?_)
    · have z : rs ≠ [] := fun e => by
        rw [e] at z
        exact absurd z (by show ¬ ((0 : Int) < 0); decide)
      obtain ⟨init, ⟨u, v⟩, rfl⟩ : ∃ init r, rs = init ++ [r] := by
        rcases List.eq_nil_or_concat rs with e | ⟨i, r, e⟩
        · exact absurd e z
        · exact ⟨i, r, by rw [e, List.concat_eq_append]⟩
      have la : atI ((init ++ [(u, v)]).map runD) (-1) = some (runD (u, v)) := by rw [map_snoc, atI_last]
      refine oSome la ⟨rfl, rfl, ?_⟩
      show (if PyData.eqv (.int v) (.int (a + n)) = true then _ else _)
      rw [eqv_int]
      refine ifd (fun y => ?_) (fun y => ?_)
      · subst y
        have q := k _ (scan_ext S hm)
        rw [map_snoc] at q
        refine oSome la ⟨by show 2 ≤ 100000; decide, init.length, ?_, ?_⟩
        · rw [List.length_map, List.length_append]
          exact ixN_last _
        · show G.nx ([.d (dsD D), c1, c2, c3, c4, .d (.int (a + n)), c6, c7, c8, .own (((init ++ [(u, a + (n : Int))]).map runD).set init.length (.tuple [.int u, .int (a + n + 1)]))] : En)
          rw [map_snoc, List.set_append_right _ _ (by rw [List.length_map]; exact Nat.le_refl _), List.length_map, Nat.sub_self]
          exact q
      · exact app fun _ => by rw [turn_end]; exact y
    · refine app fun e => absurd ?_ z
      rw [List.length_map]
      have := List.length_pos_iff.mpr e
      omega
  · exact k _ (scan_no S hm)
end Pr
namespace Pr
open PySem L2 Pu N7
def p_law_normal : PS' := (pSeq (pAsg (pCall 1 S_law_least (pCons (pIx (pVar 0) (pC (.int 0))) pNil)) (pgN 1))
      (pSeq (pAsg (pCall 1 S_law_least (pCons (pIx (pVar 0) (pC (.int 4))) pNil)) (pgN 2))
      (pSeq (pAsg (pIIc CMul (fun i j => .int (i * j)) (pIx (pVar 1) (pC (.int 0))) (pIx (pVar 2) (pC (.int 0)))) (pgN 3))
      (pSeq (pAsg (pNew (pLstRg (pIx (pVar 0) (pC (.int 1))) (pPlus (pPlus (pIx (pVar 0) (pC (.int 3))) (pVar 3)) (pC (.int 1))))) (pgN 4))
      (pSeq (pAsg (pNew (pLcS [5] [5] (pLO (pVar 4)) (pgN 5) (pTst (pEqD true (pCall 2 S_law_in (pCons (pVar 0) (pCons (pVar 5) pNil))) (pCall 2 S_law_in_side (pCons (pVar 1) (pCons (pVar 5) pNil))))) (pVar 5))) (pgN 6))
      (pSeq (pIfS (pTst (pEqD false (pFn fLen (pCons (pVar 6) pNil)) (pC (.int 0)))) (pRet (pTup (pCons (pVar 1) (pCons (pC (.int 0)) (pCons (pTup pNil) (pCons (pC (.int 0)) (pCons (pVar 1) pNil))))))) pNext)
      (pSeq (pAsg (pIx (pVar 6) (pC (.int 0))) (pgN 7))
      (pSeq (pAsg (pNew (pLcR [5] [5] (pCons (pVar 7) (pCons (pFn fMax2 (pCons (pVar 7) (pCons (pIx (pVar 0) (pC (.int 3))) pNil))) pNil)) (pgN 5) (pTst (pEqD true (pCall 2 S_law_in (pCons (pVar 0) (pCons (pVar 5) pNil))) (pCall 2 S_law_in_side (pCons (pVar 2) (pCons (pVar 5) pNil))))) (pVar 5))) (pgN 6))
      (pSeq (pAsg (pIfE (pTst (pII (fun i j => .bool (decide (j < i))) (pFn fLen (pCons (pVar 6) pNil)) (pC (.int 0)))) (pPlus (pIx (pVar 6) (pI (fun i => .int (-i)) (pC (.int 1)))) (pC (.int 1))) (pVar 7)) (pgN 8))
      (pSeq (pAsgO (pLst pNil) 9)
      (pSeq (pRng (pCons (pVar 7) (pCons (pVar 8) pNil)) (pgN 5) (pIfS (pTst (pCall 2 S_law_in (pCons (pVar 0) (pCons (pVar 5) pNil)))) (pIfS (pAnd (pTst (pII (fun i j => .bool (decide (j < i))) (pLenO 9) (pC (.int 0)))) (pTst (pEqD false (pIx (pIxO 9 (pI (fun i => .int (-i)) (pC (.int 1)))) (pC (.int 1))) (pVar 5)))) (pSetI 9 (pI (fun i => .int (-i)) (pC (.int 1))) (pTup (pCons (pIx (pIxO 9 (pI (fun i => .int (-i)) (pC (.int 1)))) (pC (.int 0))) (pCons (pPlus (pVar 5) (pC (.int 1))) pNil)))) (pApp 9 (pTup (pCons (pVar 5) (pCons (pPlus (pVar 5) (pC (.int 1))) pNil))))) pNext))
      (pRet (pTup (pCons (pVar 1) (pCons (pVar 7) (pCons (pTupO 9) (pCons (pVar 8) (pCons (pVar 2) pNil))))))))))))))))))
theorem shp_i (i : Int) : shq (.int i) = true := rfl
theorem pick_shape {P : Int → Bool} {a : Int} {n : Nat} {b : Int} {r : List Int} (h : pick P a n = b :: r) : atI (nums (pick P a n)) 0 = some (.int b) := by
  rw [h]
  exact atI_nat (xs := nums (b :: r)) (j := 0) (v := .int b) rfl
theorem pick_end {P : Int → Bool} {a : Int} {n : Nat} {b : Int} {r : List Int} (h : pick P a n = r ++ [b]) : atI (nums (pick P a n)) (-1) = some (.int b) := by
  rw [h]
  have e : nums (r ++ [b]) = nums r ++ [.int b] := List.map_append
  rw [e, atI_last]
theorem side_len {t : Sd} (ok : SdOk t) (h : t.p ≤ 100) : t.bs.length ≤ 40000 := by
  have : ∀ {l : List Int} {lo hi : Int}, Asc lo hi l → (l.length : Int) ≤ max 0 (hi - lo) := fun {l} => by
    induction l with
    | nil => intro lo hi _; show (0 : Int) ≤ _; omega
    | cons b r ih =>
      intro lo hi ⟨h1, h2, h3⟩
      have := ih h3
      rw [List.length_cons]
      omega
  have := this ok.asc
  have := ok.p1
  omega
set_option maxHeartbeats 4000000 in
theorem pure_law_normal (ds : List PyData) (c : PyData → Prop) (hl : ds.length = 1) (h : S_law_normal ds c) : p_law_normal (fin c) (startE N_law_normal ds) := by
  unfold S_law_normal at h
  split at h
  · rename_i d
    obtain ⟨D, rfl, Q, h⟩ := h
    have B := Q.b
    have ok := B.ok
    have q1 := Q.lp
    have q2 := Q.rp
    have q3 := Q.lo
    have q4 := Q.hi
    have lh := ok_lh ok
    refine ⟨rfl, D.l, rfl, ⟨ok.l, B.l⟩, by omega, fun L hL pL eL => ⟨rfl, D.r, rfl, ⟨ok.r, B.r⟩, by omega, fun R hR pR eR => ?_⟩⟩
    have l1 := hL.ok.p1
    have r1 := hR.ok.p1
    have nL := side_len hL.ok (by omega)
    have nR := side_len hR.ok (by omega)
    have w0 : 0 ≤ L.p * R.p := Int.mul_nonneg (by omega) (by omega)
    have w1 : L.p * R.p ≤ 10000 := by
      have : L.p * R.p ≤ 100 * R.p := Int.mul_le_mul_of_nonneg_right (by omega) (by omega)
      omega
    refine ⟨.inl ⟨by omega, by omega⟩, ⟨by omega, by omega, by omega, by omega, by omega⟩, ?_⟩
    have N := lawNorm_spec ok hL hR eL eR
    have tl : (rgD D.low (D.high + L.p * R.p + 1)).length = (D.high + L.p * R.p + 1 - D.low).toNat := by
      unfold rgD
      rw [List.length_map, List.length_range]
    -- unlike
    refine ⟨fun v hv => by rw [List.mem_singleton.mp hv]; rfl, rfl, fun i acc => acc = nums (pick (fun d => mem D d != holds L d) D.low i) ∧ i ≤ (D.high + L.p * R.p + 1 - D.low).toNat, ⟨rfl, Nat.zero_le _⟩, ?_, ?_⟩
    · rintro i d acc hd ⟨rfl, hi⟩
      have il := lt_of_at hd
      rw [tl] at il
      have ed : d = .int (D.low + (i : Int)) := by
        unfold rgD at hd
        rw [List.getElem?_map, List.getElem?_range (by omega)] at hd
        exact (Option.some.inj hd).symm
      subst ed
      have pl := pick_len (fun d => mem D d != holds L d) D.low i
      refine ⟨rfl, D, rfl, B, rfl, L, rfl, ⟨hL.ok, nL⟩, rfl, rfl, rfl, ?_⟩
      show (if (!(PyData.eqv (.bool (mem D (D.low + (i : Int)))) (.bool (holds L (D.low + (i : Int)))))) = true then _ else _)
      rw [eqv_bool]
      refine tf (fun w => ?_) (fun w => ?_)
      · refine ⟨rfl, by rw [List.length_map]; omega, ?_, by omega⟩
        rw [pick_succ, if_pos (by show (mem D (D.low + (i : Int)) != holds L (D.low + (i : Int))) = true; rw [bne]; exact w)]
        exact (List.map_append (f := PyData.int) (l₁ := pick (fun d => mem D d != holds L d) D.low i) (l₂ := [D.low + (i : Int)])).symm
      · refine ⟨?_, by omega⟩
        rw [pick_succ, if_neg (by show ¬ (mem D (D.low + (i : Int)) != holds L (D.low + (i : Int))) = true; rw [bne, w]; exact Bool.false_ne_true), List.append_nil]
    · rintro acc ⟨rfl, _⟩
      rw [tl]
      refine ⟨_, rfl, rfl, rfl, ?_⟩
      show (if PyData.eqv (.int ((nums (pick (fun d => mem D d != holds L d) D.low (D.high + L.p * R.p + 1 - D.low).toNat)).length : Nat)) (.int 0) = true then _ else _)
      rw [eqv_int, List.length_map]
      refine ifd (fun z => ?_) (fun z => ?_)
      · have z : pick (fun d => mem D d != holds L d) D.low (D.high + L.p * R.p + 1 - D.low).toNat = [] := List.eq_nil_of_length_eq_zero (by omega)
        have al := pick_nil z
        have M := N.1 fun d h1 h2 => by
          have := al d h1 (by omega)
          simpa using this
        exact ⟨Nat.zero_le _, by show 5 ≤ 100000; decide, h _ M.1 ⟨M.1.ok, nL, nL, Nat.zero_le _⟩ (by show L.p ≤ 100; omega) (by show L.p ≤ 100; omega) M.2⟩
      · have z : pick (fun d => mem D d != holds L d) D.low (D.high + L.p * R.p + 1 - D.low).toNat ≠ [] := fun e => z (by rw [e]; rfl)
        obtain ⟨b, r, eb, b1, b2, b3, b4⟩ := pick_first z
        have nb : mem D b ≠ holds L b := by simpa using b3
        have before : ∀ d, D.low ≤ d → d < b → mem D d = holds L d := fun d h1 h2 => by
          have := b4 d h1 h2
          simpa using this
        refine oSome (pick_shape eb) ?_
        -- the second unlike
        refine ⟨fun v hv => by rw [List.mem_singleton.mp hv]; rfl, rfl, b, (if D.high > b then D.high else b), .inr rfl, ⟨by omega, by omega, by split <;> omega, by split <;> omega⟩, fun i acc => acc = nums (pick (fun d => mem D d != holds R d) b i) ∧ i ≤ 20000, ⟨rfl, Nat.zero_le _⟩, ?_, ?_⟩
        · rintro i acc hi ⟨rfl, hi2⟩
          have pl := pick_len (fun d => mem D d != holds R d) b i
          refine ⟨rfl, D, rfl, B, rfl, R, rfl, ⟨hR.ok, nR⟩, rfl, rfl, rfl, ?_⟩
          show (if (!(PyData.eqv (.bool (mem D (b + (i : Int)))) (.bool (holds R (b + (i : Int)))))) = true then _ else _)
          rw [eqv_bool]
          have i3 : i + 1 ≤ 20000 := by
            have : b + (i : Int) < max b D.high := by rw [max_py] at hi; exact hi
            omega
          refine tf (fun w => ?_) (fun w => ?_)
          · refine ⟨rfl, by rw [List.length_map]; omega, ?_, i3⟩
            rw [pick_succ, if_pos (by show (mem D (b + (i : Int)) != holds R (b + (i : Int))) = true; rw [bne]; exact w)]
            exact (List.map_append (f := PyData.int) (l₁ := pick (fun d => mem D d != holds R d) b i) (l₂ := [b + (i : Int)])).symm
          · refine ⟨?_, i3⟩
            rw [pick_succ, if_neg (by show ¬ (mem D (b + (i : Int)) != holds R (b + (i : Int))) = true; rw [bne, w]; exact Bool.false_ne_true), List.append_nil]
        · rintro acc ⟨rfl, _⟩
          rw [max_py]
          -- from high on
          have rest : ∀ (e : Int) (u : Cell), b ≤ e → (∀ d, e ≤ d → d < max b D.high → mem D d = holds R d) → e ≤ max b D.high → (e = b ∨ mem D (e - 1) ≠ holds R (e - 1)) →
              (pSeq (pAsgO (pLst pNil) 9) (pSeq (pRng (pCons (pVar 7) (pCons (pVar 8) pNil)) (pgN 5) p_scanN) (pRet (pTup (pCons (pVar 1) (pCons (pVar 7) (pCons (pTupO 9) (pCons (pVar 8) (pCons (pVar 2) pNil))))))))) (fin c)
                ([.d (dsD D), .d (sideD L), .d (sideD R), .d (.int (L.p * R.p)), .d (.list (rgD D.low (D.high + L.p * R.p + 1))), .no, u, .d (.int b), .d (.int e), .no] : En) := by
            intro e u be after emax tight
            refine ⟨by decide, Nat.zero_le _, b, e, .inr rfl, ⟨by omega, by omega, by omega, by omega⟩, fun i ρ => ∃ (rs : Rn) (o : Cell), ρ = [.d (dsD D), .d (sideD L), .d (sideD R), .d (.int (L.p * R.p)), .d (.list (rgD D.low (D.high + L.p * R.p + 1))), o, u, .d (.int b), .d (.int e), .own (rs.map runD)] ∧ Scan (mem D) b i rs, ⟨[], _, rfl, scan_zero _ _⟩, ?_, ?_⟩
            · rintro i ρ hi ⟨rs, o, rfl, S⟩
              exact scan_turn B S (by omega) _ _ _ _ _ _ _ rfl fun rs' S' => ⟨rs', _, rfl, S'⟩
            · rintro ρ ⟨rs, o, rfl, S⟩
              have M := N.2 b e rs b1 nb before be after emax tight S
              have sl := S.len
              exact ⟨by show 5 ≤ 100000; decide, h _ M.1 ⟨M.1.ok, nL, nR, by show rs.length ≤ 40000; omega⟩ (by show L.p ≤ 100; omega) (by show R.p ≤ 100; omega) M.2⟩
          have hk : (max b D.high - b).toNat ≤ 20000 := by omega
          refine ⟨_, rfl, ?_⟩
          show (if decide ((0 : Int) < ((nums (pick (fun d => mem D d != holds R d) b (max b D.high - b).toNat)).length : Nat)) = true then _ else _)
          rw [List.length_map]
          refine ifd (fun y => ?_) (fun y => ?_)
          · have y : pick (fun d => mem D d != holds R d) b (max b D.high - b).toNat ≠ [] := fun e => by
              rw [e] at y
              exact absurd y (by decide)
            obtain ⟨g, r, eg, g1, g2, g3, g4⟩ := pick_last y
            refine oSome (pick_end eg) ?_
            refine rest (g + 1) _ (by omega) (fun d h1 h2 => ?_) (by omega) (.inr ?_)
            · have := g4 d (by omega) (by omega)
              simpa using this
            · rw [show g + 1 - 1 = g by omega]
              simpa using g3
          · have y : pick (fun d => mem D d != holds R d) b (max b D.high - b).toNat = [] := List.eq_nil_of_length_eq_zero (by omega)
            have al := pick_nil y
            refine rest b _ (Int.le_refl _) (fun d h1 h2 => ?_) (by omega) (.inl rfl)
            have := al d h1 (by omega)
            simpa using this
  · exact h.elim
end Pr
namespace N7
/-! a side written longer -/
def lng (s : Sd) : Nat → List Int
  | 0 => []
  | m + 1 => lng s m ++ s.bs.map fun b => (m : Int) * s.p + b
theorem asc_app : ∀ {a b : List Int} {lo mid hi : Int}, Asc lo mid a → Asc mid hi b → lo ≤ mid → mid ≤ hi → Asc lo hi (a ++ b)
  | [], [], _, _, _, _, _, _, _ => trivial
  | [], c :: t, lo, mid, hi, _, ⟨h1, h2, h3⟩, l, _ => ⟨by omega, h2, h3⟩
  | x :: r, b, lo, mid, hi, ⟨h1, h2, h3⟩, k, l, u => ⟨h1, by omega, asc_app h3 k (by omega) u⟩
theorem asc_shift {c : Int} : ∀ {l : List Int} {lo hi : Int}, Asc lo hi l → Asc (c + lo) (c + hi) (l.map fun b => c + b)
  | [], _, _, _ => trivial
  | b :: r, lo, hi, ⟨h1, h2, h3⟩ => ⟨by show c + lo ≤ c + b; omega, by show c + b < c + hi; omega, by have := asc_shift (c := c) h3; rw [show c + (b + 1) = c + b + 1 by omega] at this; exact this⟩
theorem lng_asc {s : Sd} (ok : SdOk s) : ∀ m : Nat, Asc 0 (s.p * m) (lng s m)
  | 0 => trivial
  | m + 1 => by
    have ih := lng_asc ok m
    have p1 := ok.p1
    have e : s.p * ((m + 1 : Nat) : Int) = (m : Int) * s.p + s.p := by rw [Int.natCast_add, Int.mul_add, Int.natCast_one, Int.mul_one, Int.mul_comm]
    have b := asc_shift (c := (m : Int) * s.p) ok.asc
    rw [Int.add_zero] at b
    rw [Int.mul_comm] at ih
    rw [e]
    exact asc_app ih b (Int.mul_nonneg (by omega) (by omega)) (by omega)
theorem lng_mem {s : Sd} {x : Int} : ∀ {m : Nat}, x ∈ lng s m ↔ ∃ j : Nat, j < m ∧ ∃ b ∈ s.bs, (j : Int) * s.p + b = x
  | 0 => ⟨(fun h => nomatch h), (fun ⟨j, h, _⟩ => by omega)⟩
  | m + 1 => by
    show x ∈ lng s m ++ _ ↔ _
    rw [List.mem_append, lng_mem, List.mem_map]
    constructor
    · rintro (⟨j, h1, h2⟩ | h)
      · exact ⟨j, by omega, h2⟩
      · exact ⟨m, by omega, h⟩
    · rintro ⟨j, h1, h2⟩
      by_cases z : j = m
      · subst z
        exact .inr h2
      · exact .inl ⟨j, by omega, h2⟩
theorem lng_len (s : Sd) : ∀ m : Nat, (lng s m).length = m * s.bs.length
  | 0 => by rw [Nat.zero_mul]; rfl
  | m + 1 => by
    show (lng s m ++ _).length = _
    rw [List.length_append, List.length_map, lng_len s m, Nat.add_mul, Nat.one_mul]
theorem lng_spec {s : Sd} (ok : SdOk s) {m : Nat} (m1 : 1 ≤ m) : SdOk ⟨s.p * m, lng s m, s.f⟩ ∧ ∀ d, holds ⟨s.p * m, lng s m, s.f⟩ d = holds s d := by
  have p1 := ok.p1
  have hp : s.p ≤ s.p * (m : Int) := by
    have : s.p * 1 ≤ s.p * (m : Int) := Int.mul_le_mul_of_nonneg_left (by omega) (by omega)
    omega
  have hf : s.f = holds s (-1) := by
    have := holds_pre ok (d := 0) (by omega) (by omega)
    rw [cnt_zero ok.asc (Int.le_refl _)] at this
    rw [show (-1 : Int) = 0 - 1 from rfl, this]
    cases s.f <;> rfl
  refine side_of (T := ⟨s.p * m, lng s m, s.f⟩) (h := holds s) (by show 1 ≤ s.p * (m : Int); omega) (lng_asc ok m) (per_mul per_holds m) hf fun x x0 x1 => ?_
  have x1 : x < s.p * (m : Int) := x1
  have r0 := Int.emod_nonneg x (show s.p ≠ 0 by omega)
  have r1 := Int.emod_lt_of_pos x (show 0 < s.p by omega)
  have e : x % s.p + s.p * (x / s.p) = x := by
    have := Int.mul_ediv_add_emod x s.p
    omega
  have h1 := per_mulZ (per_holds (s := s)) (x / s.p) (x % s.p)
  have h2 := per_mulZ (per_holds (s := s)) (x / s.p) (x % s.p - 1)
  rw [e] at h1
  rw [show x % s.p - 1 + s.p * (x / s.p) = x - 1 by omega] at h2
  show x ∈ lng s m ↔ _
  rw [h1, h2, ← mem_border ok r0 r1, lng_mem]
  constructor
  · rintro ⟨j, hj, b, hb, ex⟩
    have bm := asc_mem ok.asc hb
    have : x % s.p = b := by
      rw [← ex, Int.add_comm, Int.mul_comm, Int.add_mul_emod_self_left, Int.emod_eq_of_lt bm.1 bm.2]
    rw [this]
    exact hb
  · intro hb
    have q0 : 0 ≤ x / s.p := Int.ediv_nonneg x0 (by omega)
    have q1 : x / s.p < m := Int.ediv_lt_of_lt_mul (by omega) (by rw [Int.mul_comm]; exact x1)
    refine ⟨(x / s.p).toNat, by omega, x % s.p, hb, ?_⟩
    rw [Int.toNat_of_nonneg q0, Int.mul_comm]
    omega
end N7
namespace Pr
open PySem L2 Pu N7
def S_law_longer : FS := fun ds k => match ds with
  | [d, .int n] => ∃ (s : Sd) (m : Nat), d = sideD s ∧ SdB s ∧ n = (m : Nat) ∧ 1 ≤ m ∧ m ≤ 10 ∧ s.bs.length ≤ 100 ∧ s.p ≤ 100 ∧ ∀ t : Sd, SdB t → (∀ x, holds t x = holds s x) → k (sideD t)
  | _ => False
abbrev N_law_longer : List Str := ["side", "times", "borders", "turn", "border"]
def p_law_longer : PS' := (pSeq (pAsg (pNew (pLst pNil)) (pgN 2))
      (pSeq (pRng (pCons (pVar 1) pNil) (pgN 3) (pAsg (pPlus (pVar 2) (pNew (pLcS [4] [4] (pTO (pIx (pVar 0) (pC (.int 1)))) (pgN 4) pYes (pPlus (pIIc CMul (fun i j => .int (i * j)) (pVar 3) (pIx (pVar 0) (pC (.int 0)))) (pVar 4))))) (pgN 2)))
      (pRet (pTup (pCons (pIIc CMul (fun i j => .int (i * j)) (pIx (pVar 0) (pC (.int 0))) (pVar 1)) (pCons (pFn fTuple (pCons (pVar 2) pNil)) (pCons (pIx (pVar 0) (pC (.int 2))) pNil)))))))
theorem pure_law_longer (ds : List PyData) (c : PyData → Prop) (hl : ds.length = 2) (h : S_law_longer ds c) : p_law_longer (fin c) (startE N_law_longer ds) := by
  unfold S_law_longer at h
  split at h
  · rename_i d n
    obtain ⟨s, m, rfl, hs, rfl, m1, m2, hb, hp, h⟩ := h
    have p1 := hs.ok.p1
    have bl : ∀ i, i ≤ m → (lng s i).length ≤ 1000 := fun i hi => by
      rw [lng_len]
      have := Nat.mul_le_mul (show i ≤ 10 by omega) hb
      omega
    refine ⟨Nat.zero_le _, 0, (m : Nat), .inl ⟨rfl, rfl⟩, ⟨by omega, by omega, by omega, by omega⟩, fun i ρ => ∃ o : Cell, ρ = [.d (sideD s), .d (.int (m : Nat)), .d (.list (nums (lng s i))), o, .no], ⟨_, rfl⟩, ?_, ?_⟩
    · rintro i ρ hi ⟨o, rfl⟩
      refine ⟨fun v hv => by rw [List.mem_singleton.mp hv]; rfl, rfl, fun j acc => acc = nums ((s.bs.take j).map fun b => (i : Int) * s.p + b), rfl, ?_, ?_⟩
      · rintro j d acc hd rfl
        obtain ⟨b, hb2, rfl⟩ := map_at hd
        have jl := lt_of_at hb2
        refine ⟨rfl, .inl ⟨by omega, by omega⟩, rfl, by rw [List.length_map, List.length_map, List.length_take]; omega, ?_⟩
        show _ ++ [PyData.int ((0 + (i : Int)) * s.p + b)] = _
        rw [take_more hb2, Int.zero_add]
        simp
      · rintro acc rfl
        rw [show s.bs.take (nums s.bs).length = s.bs by rw [List.length_map, List.take_length]]
        have b1 := bl i (by omega)
        refine ⟨by rw [List.length_map, List.length_map, List.length_map]; omega, .d (.int (0 + (i : Int))), ?_⟩
        have e : nums (lng s i) ++ nums (s.bs.map fun b => (i : Int) * s.p + b) = nums (lng s (i + 1)) := (List.map_append (f := PyData.int) (l₁ := lng s i)).symm
        exact congrArg (fun z : List PyData => ([.d (sideD s), .d (.int (m : Nat)), .d (.list z), .d (.int (0 + (i : Int))), .no] : En)) e
    · rintro ρ ⟨o, rfl⟩
      rw [show ((m : Nat) - (0 : Int)).toNat = m by omega]
      refine ⟨.inl ⟨by omega, by omega⟩, by show 3 ≤ 100000; decide, ?_⟩
      have L := lng_spec hs.ok m1
      exact h ⟨s.p * m, lng s m, s.f⟩ ⟨L.1, by have := bl m (Nat.le_refl _); show (lng s m).length ≤ 40000; omega⟩ L.2
  · exact h.elim
end Pr
namespace Pr
open PySem L2 Pu N7
def p_scanW : PS' := (pIfS (pTst (pCall 2 S_law_in (pCons (pVar 1) (pCons (pVar 10) pNil)))) (pIfS (pAnd (pTst (pII (fun i j => .bool (decide (j < i))) (pLenO 9) (pC (.int 0)))) (pTst (pEqD false (pIx (pIxO 9 (pI (fun i => .int (-i)) (pC (.int 1)))) (pC (.int 1))) (pVar 10)))) (pSetI 9 (pI (fun i => .int (-i)) (pC (.int 1))) (pTup (pCons (pIx (pIxO 9 (pI (fun i => .int (-i)) (pC (.int 1)))) (pC (.int 0))) (pCons (pPlus (pVar 10) (pC (.int 1))) pNil)))) (pApp 9 (pTup (pCons (pVar 10) (pCons (pPlus (pVar 10) (pC (.int 1))) pNil))))) pNext)
theorem scan_turnW {D : Ds} (B : DsB D) {a : Int} {n : Nat} {rs : Rn} (S : Scan (mem D) a n rs) (hn : n < 90000) (c2 c3 c4 c5 c6 c7 c8 : Cell) {G : PEnds} {x : Int} (ex : x = a + n)
    (k : ∀ rs' : Rn, Scan (mem D) a (n + 1) rs' → G.nx ([.box, .d (dsD D), c2, c3, c4, c5, c6, c7, c8, .own (rs'.map runD), .d (.int x)] : En)) :
    p_scanW G ([.box, .d (dsD D), c2, c3, c4, c5, c6, c7, c8, .own (rs.map runD), .d (.int x)] : En) := by
  subst ex
  refine ⟨rfl, D, rfl, B, ?_⟩
  refine tf (fun hm => ?_) (fun hm => ?_)
  · have app : (rs ≠ [] → runsEnd a rs ≠ a + n) → pApp 9 (pTup (pCons (pVar 10) (pCons (pPlus (pVar 10) (pC (.int 1))) pNil))) G ([.box, .d (dsD D), c2, c3, c4, c5, c6, c7, c8, .own (rs.map runD), .d (.int (a + n))] : En) := fun hl => by
      have q := k _ (scan_new S hl hm)
      rw [map_snoc] at q
      have := S.len
      exact ⟨by show 2 ≤ 100000; decide, by rw [List.length_map]; omega, q⟩
    refine ifd (fun z => ?_) (fun z => ?_)
    · have z : rs ≠ [] := fun e => by
        rw [e] at z
        exact absurd z (by show ¬ ((0 : Int) < 0); decide)
      obtain ⟨init, ⟨u, v⟩, rfl⟩ : ∃ init r, rs = init ++ [r] := by
        rcases List.eq_nil_or_concat rs with e | ⟨i, r, e⟩
        · exact absurd e z
        · exact ⟨i, r, by rw [e, List.concat_eq_append]⟩
      have la : atI ((init ++ [(u, v)]).map runD) (-1) = some (runD (u, v)) := by rw [map_snoc, atI_last]
      refine oSome la ⟨rfl, rfl, ?_⟩
      show (if PyData.eqv (.int v) (.int (a + n)) = true then _ else _)
      rw [eqv_int]
      refine ifd (fun y => ?_) (fun y => ?_)
      · subst y
        have q := k _ (scan_ext S hm)
        rw [map_snoc] at q
        refine oSome la ⟨by show 2 ≤ 100000; decide, init.length, ?_, ?_⟩
        · rw [List.length_map, List.length_append]
          exact ixN_last _
        · show G.nx ([.box, .d (dsD D), c2, c3, c4, c5, c6, c7, c8, .own (((init ++ [(u, a + (n : Int))]).map runD).set init.length (.tuple [.int u, .int (a + n + 1)])), .d (.int (a + n))] : En)
          rw [map_snoc, List.set_append_right _ _ (by rw [List.length_map]; exact Nat.le_refl _), List.length_map, Nat.sub_self]
          exact q
      · exact app fun _ => by rw [turn_end]; exact y
    · refine app fun e => absurd ?_ z
      rw [List.length_map]
      have := List.length_pos_iff.mpr e
      omega
  · exact k _ (scan_no S hm)
def S_law_written : FS := fun ds k => match ds with
  | [d] => ∃ D : Ds, d = dsD D ∧ DsS D ∧ D.l.bs.length ≤ 100 ∧ D.r.bs.length ≤ 100 ∧ ∀ E : Ds, DsB E → (∀ x, mem E x = mem D x) → k (dsD E)
  | _ => False
abbrev N_law_written : List Str := ["box", "dayset", "left", "low", "runs", "high", "right", "more", "less", "made", "day"]
def p_law_written : PS' := (pSeq (pAsg (pVar 1) (pgT [2, 3, 4, 5, 6]))
      (pSeq (pAsg (pCallB 1 S_law_next 0 (pCons (pC (.int 9)) pNil)) (pgN 7))
      (pSeq (pAsg (pCallB 1 S_law_next 0 (pCons (pC (.int 9)) pNil)) (pgN 8))
      (pSeq (pAsgO (pLst pNil) 9)
      (pSeq (pRng (pCons (pII (fun i j => .int (i - j)) (pVar 3) (pVar 8)) (pCons (pPlus (pVar 5) (pVar 7)) pNil)) (pgN 10) (pIfS (pTst (pCall 2 S_law_in (pCons (pVar 1) (pCons (pVar 10) pNil)))) (pIfS (pAnd (pTst (pII (fun i j => .bool (decide (j < i))) (pLenO 9) (pC (.int 0)))) (pTst (pEqD false (pIx (pIxO 9 (pI (fun i => .int (-i)) (pC (.int 1)))) (pC (.int 1))) (pVar 10)))) (pSetI 9 (pI (fun i => .int (-i)) (pC (.int 1))) (pTup (pCons (pIx (pIxO 9 (pI (fun i => .int (-i)) (pC (.int 1)))) (pC (.int 0))) (pCons (pPlus (pVar 10) (pC (.int 1))) pNil)))) (pApp 9 (pTup (pCons (pVar 10) (pCons (pPlus (pVar 10) (pC (.int 1))) pNil))))) pNext))
      (pSeq (pAsg (pCall 2 S_law_longer (pCons (pVar 2) (pCons (pPlus (pC (.int 1)) (pCallB 1 S_law_next 0 (pCons (pC (.int 3)) pNil))) pNil))) (pgN 2))
      (pRet (pTup (pCons (pVar 2) (pCons (pII (fun i j => .int (i - j)) (pVar 3) (pVar 8)) (pCons (pTupO 9) (pCons (pPlus (pVar 5) (pVar 7)) (pCons (pCall 2 S_law_longer (pCons (pVar 6) (pCons (pPlus (pC (.int 1)) (pCallB 1 S_law_next 0 (pCons (pC (.int 3)) pNil))) pNil))) pNil)))))))))))))
theorem pure_law_written (ds : List PyData) (c : PyData → Prop) (hl : ds.length = 1) (h : S_law_written ds c) : p_law_written (finB c) (.box :: startE N_law_written.tail ds) := by
  unfold S_law_written at h
  split at h
  · rename_i d
    obtain ⟨D, rfl, Q, hb1, hb2, h⟩ := h
    have B := Q.b
    have q1 := Q.lp
    have q2 := Q.rp
    have q3 := Q.lo
    have q4 := Q.hi
    have lh := ok_lh B.ok
    refine ⟨rfl, rfl, rfl, rfl, by decide, fun u u0 u1 => ⟨rfl, rfl, rfl, by decide, fun v v0 v1 => ⟨by decide, Nat.zero_le _, ?_⟩⟩⟩
    refine ⟨D.low - v, D.high + u, .inr rfl, ⟨by omega, by omega, by omega, by omega⟩, fun i ρ => ∃ (rs : Rn) (o : Cell), ρ = [.box, .d (dsD D), .d (sideD D.l), .d (.int D.low), .d (runsD D.rs), .d (.int D.high), .d (sideD D.r), .d (.int u), .d (.int v), .own (rs.map runD), o] ∧ Scan (mem D) (D.low - v) i rs, ⟨[], _, rfl, scan_zero _ _⟩, ?_, ?_⟩
    · rintro i ρ hi ⟨rs, o, rfl, S⟩
      exact scan_turnW B S (by omega) _ _ _ _ _ _ _ rfl fun rs' S' => ⟨rs', _, rfl, S'⟩
    · rintro ρ ⟨rs, o, rfl, S⟩
      refine ⟨rfl, rfl, rfl, by decide, fun x x0 x1 => ⟨rfl, D.l, (1 + x).toNat, rfl, ⟨B.ok.l, B.l⟩, by omega, by omega, by omega, hb1, q1, fun t ht et => ?_⟩⟩
      refine ⟨rfl, rfl, rfl, by decide, fun y y0 y1 => ⟨rfl, D.r, (1 + y).toNat, rfl, ⟨B.ok.r, B.r⟩, by omega, by omega, by omega, hb2, q2, fun w hw ew => ⟨by show 5 ≤ 100000; decide, rfl, ?_⟩⟩⟩
      have se := S.end_
      have sl := S.len
      refine h ⟨t, D.low - v, rs, D.high + u, w⟩ ⟨⟨ht.ok, hw.ok, S.from_, by show runsEnd (D.low - v) rs ≤ D.high + u; omega⟩, ht.n, hw.n, by show rs.length ≤ 40000; omega⟩ fun z => ?_
      by_cases k0 : z < D.low - v
      · rw [mem_lo (D := ⟨t, D.low - v, rs, D.high + u, w⟩) k0, mem_lo (by omega)]
        exact et z
      · by_cases k1 : z < D.high + u
        · rw [mem_mid (D := ⟨t, D.low - v, rs, D.high + u, w⟩) k0 k1]
          show inRuns rs z = _
          rw [S.in_, decide_eq_true (show D.low - v ≤ z by omega), decide_eq_true (show z < D.low - v + ((D.high + u - (D.low - v)).toNat : Int) by omega)]
          simp
        · rw [mem_hi (D := ⟨t, D.low - v, rs, D.high + u, w⟩) k0 k1, mem_hi (by omega) (by omega)]
          exact ew z
  · exact h.elim
end Pr
namespace Pr
open PySem L2 Pu N7
def S_law_side7 : FS := fun ds k => match ds with
  | [] => ∀ s : Sd, SdOk s → s.p ≤ 100 → s.bs.length ≤ 100 → k (sideD s)
  | _ => False
def S_law_dayset7 : FS := fun ds k => match ds with
  | [] => ∀ D : Ds, DsS D → D.l.bs.length ≤ 100 → D.r.bs.length ≤ 100 → k (dsD D)
  | _ => False
def p_law_dayset7 : PS' := (pSeq (pAsg (pII (fun i j => .int (i - j)) (pCallB 1 S_law_next 0 (pCons (pC (.int 21)) pNil)) (pC (.int 10))) (pgN 1))
      (pSeq (pAsg (pVar 1) (pgN 2))
      (pSeq (pAsgO (pLst pNil) 3)
      (pSeq (pRng (pCons (pCallB 1 S_law_next 0 (pCons (pC (.int 4)) pNil)) pNil) (pgN 4) (pSeq (pAsg (pPlus (pPlus (pVar 2) (pCallB 1 S_law_next 0 (pCons (pC (.int 4)) pNil))) (pFn fInt (pCons (pII (fun i j => .bool (decide (j < i))) (pLenO 3) (pC (.int 0))) pNil))) (pgN 5))
      (pSeq (pApp 3 (pTup (pCons (pVar 5) (pCons (pPlus (pPlus (pVar 5) (pC (.int 1))) (pCallB 1 S_law_next 0 (pCons (pC (.int 4)) pNil))) pNil))))
      (pAsg (pIx (pIxO 3 (pI (fun i => .int (-i)) (pC (.int 1)))) (pC (.int 1))) (pgN 2)))))
      (pSeq (pAsg (pCallB 0 S_law_side7 0 pNil) (pgN 6))
      (pSeq (pAsg (pIfE (pTst (pEqD false (pCallB 1 S_law_next 0 (pCons (pC (.int 4)) pNil)) (pC (.int 0)))) (pVar 6) (pCallB 0 S_law_side7 0 pNil)) (pgN 7))
      (pRet (pTup (pCons (pVar 6) (pCons (pVar 1) (pCons (pTupO 3) (pCons (pPlus (pVar 2) (pCallB 1 S_law_next 0 (pCons (pC (.int 4)) pNil))) (pCons (pVar 7) pNil)))))))))))))
theorem pure_law_side7 (ds : List PyData) (c : PyData → Prop) (hl : ds.length = 0) (h : S_law_side7 ds c) : p_law_side (finB c) (.box :: startE N_law_side.tail ds) := by
  cases ds with
  | cons _ _ => cases hl
  | nil =>
    have h : ∀ s : Sd, SdOk s → s.p ≤ 100 → s.bs.length ≤ 100 → c (sideD s) := h
    -- from the period on
    have rest : ∀ p : Int, 1 ≤ p → p ≤ 100 → (pSeq (pAsg (pNew (pSortSet (pCons (pNew (pLcR [3] [3] (pCons (pCallB 1 S_law_next 0 (pCons (pC (.int 5)) pNil)) pNil) (pgN 3) pYes (pCallB 1 S_law_next 0 (pCons (pVar 1) pNil)))) pNil))) (pgN 2))
      (pSeq (pIfS (pTst (pEqD false (pIIc (fun _ j => 0 < j) (fun i j => .int (i % j)) (pFn fLen (pCons (pVar 2) pNil)) (pC (.int 2))) (pC (.int 1)))) (pAsg (pCut (pVar 2) (pPart (pC (.int 1))) pNoP) (pgN 2)) pNext)
      (pRet (pTup (pCons (pVar 1) (pCons (pFn fTuple (pCons (pVar 2) pNil)) (pCons (pEqD false (pCallB 1 S_law_next 0 (pCons (pC (.int 2)) pNil)) (pC (.int 1))) pNil))))))) (finB c) [.box, .d (.int p), .no, .no] := fun p p0 p1 => by
      refine ⟨by simp [Pu.cellAt], rfl, rfl, rfl, by decide, fun n n0 n1 => ⟨rfl, 0, n, .inl ⟨rfl, rfl⟩, ⟨by omega, by omega, by omega, by omega⟩, fun k acc => ∃ ns : List Int, acc = ns.map PyData.int ∧ ns.length = k ∧ ∀ x ∈ ns, 0 ≤ x ∧ x < p, ⟨[], rfl, rfl, fun _ z => nomatch z⟩, ?_, ?_⟩⟩
      · rintro k acc hk ⟨ns, rfl, hn, hb⟩
        refine ⟨rfl, ?_⟩
        refine ⟨rfl, rfl, rfl, by omega, fun v v0 v1 => ⟨rfl, by rw [List.length_map]; omega, ns ++ [v], by rw [List.map_append]; rfl, by simp [hn], fun x hx => ?_⟩⟩
        rcases List.mem_append.mp hx with hx | hx
        · exact hb x hx
        · rw [List.mem_singleton.mp hx]
          exact ⟨v0, v1⟩
      · rintro acc ⟨ns, rfl, hn, hb⟩
        refine ⟨ns, rfl, by omega, fun bs pw mem len => ?_⟩
        have hbs : ∀ x ∈ bs, 0 ≤ x ∧ x < p := fun x hx => hb x ((mem x).mp hx)
        -- from the even borders on
        have last : ∀ bs : List Int, bs.Pairwise (· < ·) → (∀ x ∈ bs, 0 ≤ x ∧ x < p) → bs.length ≤ 100 → bs.length % 2 = 0 → ∀ o, (pRet (pTup (pCons (pVar 1) (pCons (pFn fTuple (pCons (pVar 2) pNil)) (pCons (pEqD false (pCallB 1 S_law_next 0 (pCons (pC (.int 2)) pNil)) (pC (.int 1))) pNil))))) (finB c) [.box, .d (.int p), .d (.list (bs.map PyData.int)), o] := fun bs pw hb hl he o => by
          refine ⟨rfl, rfl, rfl, by decide, fun v v0 v1 => ⟨rfl, rfl, ?_, rfl, ?_⟩⟩
          · show 3 ≤ 100000
            decide
          · exact h ⟨p, bs, _⟩ ⟨p0, N7.asc_of pw hb, he⟩ p1 hl
        refine ⟨_, rfl, (by decide : (0 : Int) < 2), rfl, rfl, ?_⟩
        show (if PyData.eqv (.int (((bs.map PyData.int).length : Int) % 2)) (.int 1) = true then _ else _)
        rw [eqv_int, List.length_map]
        refine ifd (fun z => ?_) (fun z => ?_)
        · cases bs with
          | nil => simp at z
          | cons b bs =>
            have e : cutP ((b :: bs).map PyData.int) (some 1) none = bs.map PyData.int := by
              simp only [cutP, HT.sIx]
              simp
              exact List.take_of_length_le (by simp)
            have q := last bs (List.pairwise_cons.mp pw).2 (fun x hx => hbs x (List.mem_cons_of_mem _ hx)) (by rw [List.length_cons] at len; omega) (by rw [List.length_cons] at z; omega) .no
            rw [← e] at q
            exact q
        · exact last bs pw hbs (by omega) (by omega) _
    refine ⟨rfl, rfl, rfl, by decide, fun v v0 v1 => ?_⟩
    refine ⟨rfl, rfl, rfl, by decide, fun u u0 u1 => ⟨rfl, rfl, ?_⟩⟩
    show (if PyData.eqv (.int u) (.int 0) = true then _ else _)
    rw [eqv_int]
    refine ifd (fun z => ?_) (fun z => ?_)
    · refine ⟨?_, rfl, rfl, rfl, by decide, fun t t0 t1 => ?_⟩
      · show 3 ≤ 100000
        decide
      · have k3 : t = 0 ∨ t = 1 ∨ t = 2 := by omega
        rcases k3 with rfl | rfl | rfl
        · exact rest 11 (by decide) (by decide)
        · exact rest 30 (by decide) (by decide)
        · exact rest 97 (by decide) (by decide)
    · exact rest (1 + v) (by omega) (by omega)
theorem pure_law_dayset7 (ds : List PyData) (c : PyData → Prop) (hl : ds.length = 0) (h : S_law_dayset7 ds c) : p_law_dayset7 (finB c) (.box :: startE N_law_dayset.tail ds) := by
  cases ds with
  | cons _ _ => cases hl
  | nil =>
    have h : ∀ D : Ds, DsS D → D.l.bs.length ≤ 100 → D.r.bs.length ≤ 100 → c (dsD D) := h
    refine ⟨rfl, rfl, rfl, by decide, fun v v0 v1 => ⟨by decide, Nat.zero_le _, ?_⟩⟩
    refine ⟨rfl, rfl, rfl, by decide, fun n n0 n1 => ⟨0, n, .inl ⟨rfl, rfl⟩, ⟨by omega, by omega, by omega, by omega⟩, fun k ρ => ∃ (rs : Rn) (o1 o2 : Cell), ρ = [.box, .d (.int (v - 10)), .d (.int (runsEnd (v - 10) rs)), .own (rs.map runD), o1, o2, .no, .no] ∧ rs.length = k ∧ RunsFrom (v - 10) rs ∧ runsEnd (v - 10) rs ≤ v - 10 + 8 * (k : Int), ⟨[], _, _, rfl, rfl, trivial, by show v - 10 ≤ _; omega⟩, ?_, ?_⟩⟩
    · rintro i ρ hi ⟨rs, o1, o2, rfl, hn, hr, he⟩
      refine ⟨rfl, rfl, rfl, by decide, fun a a0 a1 => ?_⟩
      refine ⟨rfl, rfl, rfl, by decide, fun b b0 b1 => ⟨Nat.le_of_ble_eq_true rfl, by rw [List.length_map]; omega, ?_⟩⟩
      have f0 : (0 : Int) ≤ (if decide ((0 : Int) < ((rs.map runD).length : Nat)) = true then 1 else 0) := by split <;> decide
      have f2 : (if decide ((0 : Int) < ((rs.map runD).length : Nat)) = true then (1 : Int) else 0) ≤ 1 := by split <;> decide
      have f1 : rs ≠ [] → (1 : Int) ≤ (if decide ((0 : Int) < ((rs.map runD).length : Nat)) = true then 1 else 0) := fun z => by
        have : 0 < rs.length := List.length_pos_iff.mpr z
        rw [if_pos (decide_eq_true (by rw [List.length_map]; omega))]
        decide
      obtain ⟨f, ef⟩ : ∃ f : Int, f = (if decide ((0 : Int) < ((rs.map runD).length : Nat)) = true then 1 else 0) := ⟨_, rfl⟩
      rw [← ef] at f0 f1 f2
      have key := from_snoc (rs := rs) (lo := v - 10) (u := runsEnd (v - 10) rs + a + f) (v := runsEnd (v - 10) rs + a + f + 1 + b) hr (fun z => by subst z; show v - 10 ≤ v - 10 + a + f; omega) (fun z => by have := f1 z; omega) (by omega)
      have q : (fun ρ => ∃ (rs : Rn) (o1 o2 : Cell), ρ = [.box, .d (.int (v - 10)), .d (.int (runsEnd (v - 10) rs)), .own (rs.map runD), o1, o2, .no, .no] ∧ rs.length = i + 1 ∧ RunsFrom (v - 10) rs ∧ runsEnd (v - 10) rs ≤ v - 10 + 8 * ((i + 1 : Nat) : Int))
          ([.box, .d (.int (v - 10)), .d (.int (runsEnd (v - 10) rs + a + f + 1 + b)), .own (rs.map runD ++ [.tuple [.int (runsEnd (v - 10) rs + a + f), .int (runsEnd (v - 10) rs + a + f + 1 + b)]]), .d (.int (0 + (i : Int))), .d (.int (runsEnd (v - 10) rs + a + f)), .no, .no] : En) :=
        ⟨rs ++ [(runsEnd (v - 10) rs + a + f, runsEnd (v - 10) rs + a + f + 1 + b)], _, _, by rw [turn_end, map_snoc]; rfl, by rw [List.length_append, hn]; rfl, key, by rw [turn_end]; omega⟩
      refine oSome (o := atI (rs.map runD ++ [_]) (-1)) (atI_last _ _) ?_
      rw [ef] at q
      exact q
    · rintro ρ ⟨rs, o1, o2, rfl, hn, hr, he⟩
      have last : ∀ l r : Sd, SdOk l → l.p ≤ 100 → l.bs.length ≤ 100 → SdOk r → r.p ≤ 100 → r.bs.length ≤ 100 → (pRet (pTup (pCons (pVar 6) (pCons (pVar 1) (pCons (pTupO 3) (pCons (pPlus (pVar 2) (pCallB 1 S_law_next 0 (pCons (pC (.int 4)) pNil))) (pCons (pVar 7) pNil))))))) (finB c)
          ([.box, .d (.int (v - 10)), .d (.int (runsEnd (v - 10) rs)), .own (rs.map runD), o1, o2, .d (sideD l), .d (sideD r)] : En) := fun l r l1 l2 l3 r1 r2 r3 => by
        refine ⟨rfl, rfl, rfl, by decide, fun a a0 a1 => ⟨Nat.le_of_ble_eq_true rfl, rfl, ?_⟩⟩
        exact h ⟨l, v - 10, rs, runsEnd (v - 10) rs + a, r⟩ ⟨⟨⟨l1, r1, hr, by show runsEnd (v - 10) rs ≤ runsEnd (v - 10) rs + a; omega⟩, by show l.bs.length ≤ _; omega, by show r.bs.length ≤ _; omega, by show rs.length ≤ 40000; omega⟩, l2, r2, by show -3000 ≤ v - 10; omega, by show runsEnd (v - 10) rs + a ≤ 3000; omega⟩ l3 r3
      refine ⟨rfl, rfl, rfl, fun l l1 l2 l3 => ?_⟩
      refine ⟨rfl, rfl, rfl, by decide, fun a a0 a1 => ⟨rfl, rfl, ?_⟩⟩
      refine tf (fun _ => ?_) (fun _ => ?_)
      · exact last l l l1 l2 l3 l1 l2 l3
      · exact ⟨rfl, rfl, rfl, fun r r1 r2 r3 => last l r l1 l2 l3 r1 r2 r3⟩
end Pr
namespace Pr
open PySem L2 Pu N7
def dALL : Ds := ⟨⟨1, [], true⟩, 0, [], 0, ⟨1, [], true⟩⟩
def dEMPTY : Ds := ⟨⟨1, [], false⟩, 0, [], 0, ⟨1, [], false⟩⟩
def k_EMPTY : PyData := .tuple [.tuple [.int 1, .tuple [], .bool false], .int 0, .tuple [], .int 0, .tuple [.int 1, .tuple [], .bool false]]
def k_ALL : PyData := .tuple [.tuple [.int 1, .tuple [], .bool true], .int 0, .tuple [], .int 0, .tuple [.int 1, .tuple [], .bool true]]
abbrev finL : PEnds := ⟨fun _ => False, fun d _ => d = .bool true, fun _ => False, fun _ => False⟩
theorem holds_nil (p : Int) (f : Bool) (x : Int) : holds ⟨p, [], f⟩ x = f := by
  unfold holds
  show (f != odd 0) = f
  cases f <;> rfl
theorem norm_nil (f : Bool) : Norm ⟨⟨1, [], f⟩, 0, [], 0, ⟨1, [], f⟩⟩ := ⟨(least_nil (p := 1)).1, (least_nil (p := 1)).1, trivial, Int.le_refl _, .inl ⟨rfl, rfl, rfl, rfl⟩⟩
theorem mem_nil (p q : Int) (f : Bool) (lo : Int) (rs : Rn) (hi : Int) (hr : ∀ d, lo ≤ d → d < hi → inRuns rs d = f) (x : Int) : mem ⟨⟨p, [], f⟩, lo, rs, hi, ⟨q, [], f⟩⟩ x = f := by
  by_cases k : x < lo
  · rw [mem_lo (D := ⟨⟨p, [], f⟩, lo, rs, hi, ⟨q, [], f⟩⟩) k]
    exact holds_nil _ _ _
  · by_cases k2 : x < hi
    · rw [mem_mid (D := ⟨⟨p, [], f⟩, lo, rs, hi, ⟨q, [], f⟩⟩) k k2]
      exact hr x (by omega) k2
    · rw [mem_hi (D := ⟨⟨p, [], f⟩, lo, rs, hi, ⟨q, [], f⟩⟩) k k2]
      exact holds_nil _ _ _
theorem dsb_nil {p q : Int} {f : Bool} {lo hi : Int} {rs : Rn} (hp : 1 ≤ p) (hq : 1 ≤ q) (h1 : RunsFrom lo rs) (h2 : runsEnd lo rs ≤ hi) (h3 : rs.length ≤ 40000) : DsB ⟨⟨p, [], f⟩, lo, rs, hi, ⟨q, [], f⟩⟩ :=
  ⟨⟨⟨hp, trivial, rfl⟩, ⟨hq, trivial, rfl⟩, h1, h2⟩, Nat.zero_le _, Nat.zero_le _, h3⟩
theorem side_fault {t : Sd} (ok : SdOk t) (h : t.p ≤ 100) : sideOk (sideD t) = true := by
  have len : ∀ {l : List Int} {lo hi : Int}, Asc lo hi l → (l.length : Int) ≤ max 0 (hi - lo) := fun {l} => by
    induction l with
    | nil => intro lo hi _; show (0 : Int) ≤ _; omega
    | cons b r ih =>
      intro lo hi ⟨h1, h2, h3⟩
      have := ih h3
      rw [List.length_cons]
      omega
  have := len ok.asc
  have := ok.p1
  exact Pr.side_of ok.p1 h (asc_pw ok.asc) (fun x m => asc_mem ok.asc m) (by omega) ok.ev
theorem runs_fault : ∀ {rs : Rn} {lo : Int}, RunsFrom lo rs → runs1 lo (rs.map runD) = true
  | [], _, _ => rfl
  | (b, e) :: r, lo, ⟨h1, h2, h3⟩ => by
    show (decide (lo ≤ b) && decide (b < e) && runs1 (e + 1) (r.map runD)) = true
    rw [decide_eq_true h1, decide_eq_true h2, runs_fault h3]
    rfl
theorem end_fault : ∀ {rs : Rn} {lo : Int}, endOf lo (rs.map runD) = runsEnd lo rs
  | [], _ => rfl
  | (b, e) :: r, lo => end_fault (rs := r) (lo := e)
theorem no_fault {N : Ds} (ok : DsOk N) (h1 : N.l.p ≤ 100) (h2 : N.r.p ≤ 100) (h3 : N.rs.length ≤ 40000) : fault5 (sideD N.l) (.int N.low) (runsD N.rs) (.int N.high) (sideD N.r) = .none := by
  have e1 := side_fault ok.l h1
  have e2 := side_fault ok.r h2
  have e3 : runsOk N.low (runsD N.rs) = true := by
    show (decide ((N.rs.map runD).length ≤ 40000) && runs1 N.low (N.rs.map runD)) = true
    rw [List.length_map, decide_eq_true h3, runs_fault ok.rs]
    rfl
  have e4 : highBad N.low (runsD N.rs) (.int N.high) = false := by
    show decide (N.high < endOf N.low (N.rs.map runD)) = false
    rw [end_fault]
    have := ok.hi
    exact decide_eq_false (by omega)
  unfold fault5
  rw [e1, if_neg (by decide)]
  show (if runsOk N.low (runsD N.rs) = false then _ else if highBad N.low (runsD N.rs) (.int N.high) = true then _ else if sideOk (sideD N.r) = false then _ else _) = _
  rw [e2, e3, e4]
  rfl
theorem shd (D : Ds) : shq (dsD D) = true := shq_of (shp_ds D) (by decide)
theorem same_no (D : Ds) : flipB true (PyData.eqv (dsD D) (dsD D)) = false := by
  rw [eqv_ds.mpr rfl]
  rfl
end Pr
namespace N7
/-! borders between two days, and the runs between them -/
structure Brd (h : Int → Bool) (a b : Int) (l : List Int) : Prop where
  asc : Asc a b l
  mem : ∀ d, d ∈ l ↔ a ≤ d ∧ d < b ∧ h d ≠ h (d - 1)
theorem brd_one {h : Int → Bool} {a b : Int} {l l' : List Int} (B : Brd h a b l) (C : Brd h a b l') : l = l' := asc_ext B.asc C.asc fun d => by rw [B.mem, C.mem]
theorem brd_nil {h : Int → Bool} {a b : Int} (e : b ≤ a) : Brd h a b [] := ⟨trivial, fun d => ⟨fun m => by simp at m, fun ⟨h1, h2, _⟩ => by omega⟩⟩
theorem asc_wide : ∀ {l : List Int} {lo hi lo' hi' : Int}, Asc lo hi l → lo' ≤ lo → hi ≤ hi' → Asc lo' hi' l
  | [], _, _, _, _, _, _, _ => trivial
  | b :: r, _, _, _, _, ⟨h1, h2, h3⟩, k1, k2 => ⟨by omega, by omega, asc_wide h3 (Int.le_refl _) k2⟩
theorem asc_join : ∀ {a b : List Int} {lo mid hi : Int}, Asc lo mid a → Asc mid hi b → mid ≤ hi → Asc lo hi (a ++ b) ∨ (a = [] ∧ Asc mid hi b)
  | [], b, _, _, _, _, h, _ => .inr ⟨rfl, h⟩
  | x :: r, b, lo, mid, hi, ⟨h1, h2, h3⟩, h, k => by
    refine .inl ⟨h1, by omega, ?_⟩
    rcases asc_join h3 h k with z | ⟨z, y⟩
    · exact z
    · rw [z]
      exact asc_wide y (by omega) (Int.le_refl _)
theorem brd_app {h : Int → Bool} {a m b : Int} {l l' : List Int} (B : Brd h a m l) (C : Brd h m b l') (h1 : a ≤ m) (h2 : m ≤ b) : Brd h a b (l ++ l') := by
  refine ⟨?_, fun d => ?_⟩
  · rcases asc_join B.asc C.asc h2 with z | ⟨z, y⟩
    · exact z
    · rw [z]
      exact asc_wide y h1 (Int.le_refl _)
  · rw [List.mem_append, B.mem, C.mem]
    constructor
    · rintro (⟨x, y, z⟩ | ⟨x, y, z⟩)
      · exact ⟨x, by omega, z⟩
      · exact ⟨by omega, y, z⟩
    · rintro ⟨x, y, z⟩
      by_cases k : d < m
      · exact .inl ⟨x, k, z⟩
      · exact .inr ⟨by omega, y, z⟩
theorem brd_congr {h g : Int → Bool} {a b : Int} {l : List Int} (e : ∀ d, a ≤ d → d < b → (h d ≠ h (d - 1) ↔ g d ≠ g (d - 1))) (B : Brd h a b l) : Brd g a b l :=
  ⟨B.asc, fun d => by
    rw [B.mem]
    exact ⟨fun ⟨x, y, z⟩ => ⟨x, y, (e d x y).mp z⟩, fun ⟨x, y, z⟩ => ⟨x, y, (e d x y).mpr z⟩⟩⟩
theorem asc_filter2 (P : Int → Bool) : ∀ {l : List Int} {lo hi : Int}, Asc lo hi l → Asc lo hi (l.filter P)
  | [], _, _, _ => trivial
  | b :: r, lo, hi, ⟨h1, h2, h3⟩ => by
    rw [List.filter_cons]
    split
    · exact ⟨h1, h2, asc_filter2 P h3⟩
    · exact asc_wide (asc_filter2 P h3) (by omega) (Int.le_refl _)
theorem asc_bound : ∀ {l : List Int} {lo hi lo' hi' : Int}, Asc lo hi l → (∀ x ∈ l, lo' ≤ x ∧ x < hi') → Asc lo' hi' l
  | [], _, _, _, _, _, _ => trivial
  | b :: r, lo, hi, lo', hi', ⟨h1, h2, h3⟩, h => ⟨(h b List.mem_cons_self).1, (h b List.mem_cons_self).2, asc_bound h3 fun x m => ⟨by have := asc_mem h3 m; omega, (h x (List.mem_cons_of_mem _ m)).2⟩⟩
/-- those of a part -/
theorem brd_part {h : Int → Bool} {a b a' b' : Int} {l : List Int} (B : Brd h a b l) (h1 : a ≤ a') (h2 : b' ≤ b) : Brd h a' b' (l.filter fun x => decide (a' ≤ x) && decide (x < b')) := by
  refine ⟨asc_bound (asc_filter2 _ B.asc) fun x m => by simpa using (List.mem_filter.mp m).2, fun d => ?_⟩
  rw [List.mem_filter, B.mem, Bool.and_eq_true, decide_eq_true_eq, decide_eq_true_eq]
  constructor
  · rintro ⟨⟨x, y, z⟩, u, v⟩
    exact ⟨u, v, z⟩
  · rintro ⟨u, v, z⟩
    exact ⟨⟨by omega, by omega, z⟩, u, v⟩
theorem pick_mem {P : Int → Bool} {a : Int} {n : Nat} {d : Int} : d ∈ pick P a n ↔ a ≤ d ∧ d < a + n ∧ P d = true := by
  unfold pick
  rw [List.mem_filter, List.mem_map]
  constructor
  · rintro ⟨⟨i, hi, rfl⟩, h⟩
    have := List.mem_range.mp hi
    exact ⟨by omega, by omega, h⟩
  · rintro ⟨h1, h2, h3⟩
    exact ⟨⟨(d - a).toNat, List.mem_range.mpr (by omega), by omega⟩, h3⟩
theorem pick_asc (P : Int → Bool) (a : Int) : ∀ n : Nat, Asc a (a + n) (pick P a n)
  | 0 => trivial
  | n + 1 => by
    rw [pick_succ]
    have ih := pick_asc P a n
    by_cases z : P (a + n) = true
    · rw [if_pos z]
      rcases asc_join ih (show Asc (a + (n : Int)) (a + ((n + 1 : Nat) : Int)) [a + (n : Int)] from ⟨Int.le_refl _, by omega, trivial⟩) (by omega) with y | ⟨y, x⟩
      · exact y
      · rw [y]
        exact asc_wide x (by omega) (by omega)
    · rw [if_neg z, List.append_nil]
      exact asc_wide ih (Int.le_refl _) (by omega)
theorem brd_exists (h : Int → Bool) (a b : Int) : ∃ l, Brd h a b l ∧ l.length ≤ (b - a).toNat := by
  by_cases z : a ≤ b
  · refine ⟨pick (fun d => h d != h (d - 1)) a (b - a).toNat, ⟨asc_wide (pick_asc _ _ _) (Int.le_refl _) (by omega), fun d => ?_⟩, pick_len _ _ _⟩
    rw [pick_mem]
    constructor
    · rintro ⟨x, y, z⟩
      exact ⟨x, by omega, by simpa using z⟩
    · rintro ⟨x, y, z⟩
      exact ⟨x, by omega, by simpa using z⟩
  · exact ⟨[], brd_nil (by omega), Nat.zero_le _⟩
theorem asc_sub_len : ∀ {l l' : List Int} {lo hi lo' hi' : Int}, Asc lo hi l → Asc lo' hi' l' → (∀ d ∈ l, d ∈ l') → l.length ≤ l'.length
  | [], _, _, _, _, _, _, _, _ => Nat.zero_le _
  | x :: r, [], _, _, _, _, _, _, h => by have := h x List.mem_cons_self; simp at this
  | x :: r, y :: t, lo, hi, lo', hi', ⟨h1, h2, h3⟩, ⟨k1, k2, k3⟩, h => by
    by_cases e : x = y
    · subst e
      have := asc_sub_len h3 k3 fun d m => by
        have := asc_mem h3 m
        rcases List.mem_cons.mp (h d (List.mem_cons_of_mem _ m)) with z | z
        · omega
        · exact z
      rw [List.length_cons, List.length_cons]
      omega
    · have := asc_sub_len (l := x :: r) ⟨h1, h2, h3⟩ k3 fun d m => by
        rcases List.mem_cons.mp (h d m) with z | z
        · have xm : x ∈ t := (List.mem_cons.mp (h x List.mem_cons_self)).resolve_left e
          have := asc_mem k3 xm
          rcases List.mem_cons.mp m with q | q
          · omega
          · have := asc_mem h3 q
            omega
        · exact z
      rw [List.length_cons] at this ⊢
      rw [List.length_cons]
      omega
/-! the borders of a side -/
theorem bd_brd {s : Sd} (ok : SdOk s) (hm : 0 < s.bs.length) {x : Int} (x0 : 0 ≤ x) : holds s x ≠ holds s (x - 1) ↔ ∃ n, bd s n = x := by
  have st := bel_step ok hm (x - 1)
  rw [show x - 1 + 1 = x by omega] at st
  have e1 := holds_bel ok (x := x) (by omega)
  have e2 := holds_bel ok (x := x - 1) (by omega)
  constructor
  · intro ne
    have : bel s x ≠ bel s (x - 1) := fun e => ne (by rw [e1, e2, e])
    refine ⟨bel s (x - 1), ?_⟩
    have l1 := (bel_le ok hm (bel s (x - 1)) x).mpr (by omega)
    have l2 : ¬ bd s (bel s (x - 1)) ≤ x - 1 := fun z => absurd ((bel_le ok hm (bel s (x - 1)) (x - 1)).mp z) (Nat.lt_irrefl _)
    omega
  · rintro ⟨n, en⟩
    have l1 := (bel_le ok hm n x).mp (by omega)
    have l2 : ¬ n < bel s (x - 1) := fun z => by
      have := (bel_le ok hm n (x - 1)).mpr z
      omega
    have : bel s x = bel s (x - 1) + 1 := by omega
    rw [e1, e2, this, odd_succ]
    cases s.f <;> cases odd (bel s (x - 1)) <;> simp
theorem bel_pre {s : Sd} (ok : SdOk s) {r : Int} (r0 : 0 ≤ r) (r1 : r < s.p) : bel s (r - 1) = cnt s.bs r := by
  have p1 := ok.p1
  unfold bel
  by_cases z : r = 0
  · subst z
    rw [if_pos (by decide), cnt_zero ok.asc (Int.le_refl _)]
  · rw [if_neg (by omega)]
    unfold below
    rw [Int.ediv_eq_zero_of_lt (by omega) (by omega), Int.emod_eq_of_lt (by omega) (by omega), show r - 1 + 1 = r by omega]
    simp
/-- the first n borders from begin on -/
def sbs (s : Sd) (b : Int) (n : Nat) : List Int := (List.range n).map fun i => b - b % s.p + bd s (cnt s.bs (b % s.p) + i)
theorem sbs_succ (s : Sd) (b : Int) (n : Nat) : sbs s b (n + 1) = sbs s b n ++ [b - b % s.p + bd s (cnt s.bs (b % s.p) + n)] := by
  unfold sbs
  rw [List.range_succ, List.map_append]
  rfl
theorem sbs_len (s : Sd) (b : Int) (n : Nat) : (sbs s b n).length = n := by
  unfold sbs
  rw [List.length_map, List.length_range]
theorem bd_mono {s : Sd} (ok : SdOk s) (hm : 0 < s.bs.length) {n k : Nat} (l : n ≤ k) : bd s n ≤ bd s k := by
  rcases Nat.lt_or_ge n k with z | z
  · have := bd_lt ok hm z
    omega
  · have : n = k := by omega
    rw [this]
    exact Int.le_refl _
theorem base_mul (b p : Int) : b - b % p = p * (b / p) := by
  have := Int.emod_add_mul_ediv b p
  omega
theorem holds_base (s : Sd) (b x : Int) : holds s (b - b % s.p + x) = holds s x := by
  rw [base_mul]
  exact holds_period _ _
theorem sbs_first {s : Sd} (ok : SdOk s) (hm : 0 < s.bs.length) (b : Int) (i : Nat) : b ≤ b - b % s.p + bd s (cnt s.bs (b % s.p) + i) := by
  have p1 := ok.p1
  have r0 := Int.emod_nonneg b (show s.p ≠ 0 by omega)
  have r1 := Int.emod_lt_of_pos b (show 0 < s.p by omega)
  have : ¬ bd s (cnt s.bs (b % s.p) + i) ≤ b % s.p - 1 := fun z => by
    have := (bel_le ok hm _ _).mp z
    rw [bel_pre ok r0 r1] at this
    omega
  omega
theorem sbs_brd {s : Sd} (ok : SdOk s) (hm : 0 < s.bs.length) {b e : Int} {n : Nat} (h1 : ∀ i, i < n → b - b % s.p + bd s (cnt s.bs (b % s.p) + i) < e) (h2 : e ≤ b - b % s.p + bd s (cnt s.bs (b % s.p) + n)) :
    Brd (holds s) b e (sbs s b n) := by
  have p1 := ok.p1
  have r0 := Int.emod_nonneg b (show s.p ≠ 0 by omega)
  have r1 := Int.emod_lt_of_pos b (show 0 < s.p by omega)
  refine ⟨?_, fun d => ?_⟩
  · have : ∀ m, m ≤ n → Asc b (b - b % s.p + bd s (cnt s.bs (b % s.p) + m)) (sbs s b m) := by
      intro m
      induction m with
      | zero => intro _; exact trivial
      | succ m ih =>
        intro hmn
        rw [sbs_succ]
        have lt := bd_lt ok hm (show cnt s.bs (b % s.p) + m < cnt s.bs (b % s.p) + (m + 1) by omega)
        rcases asc_join (ih (by omega)) (show Asc (b - b % s.p + bd s (cnt s.bs (b % s.p) + m)) (b - b % s.p + bd s (cnt s.bs (b % s.p) + (m + 1))) [b - b % s.p + bd s (cnt s.bs (b % s.p) + m)] from ⟨Int.le_refl _, by omega, trivial⟩) (by omega) with y | ⟨y, x⟩
        · exact y
        · rw [y]
          exact asc_wide x (sbs_first ok hm b m) (Int.le_refl _)
    refine asc_bound (this n (Nat.le_refl _)) fun x m => ?_
    obtain ⟨i, hi, rfl⟩ := List.mem_map.mp m
    exact ⟨sbs_first ok hm b i, h1 i (List.mem_range.mp hi)⟩
  · have key : ∀ x, holds s (b - b % s.p + x) ≠ holds s (b - b % s.p + x - 1) ↔ holds s x ≠ holds s (x - 1) := fun x => by
      rw [show b - b % s.p + x - 1 = b - b % s.p + (x - 1) by omega, holds_base, holds_base]
    constructor
    · intro m
      obtain ⟨i, hi, rfl⟩ := List.mem_map.mp m
      have f := sbs_first ok hm b i
      refine ⟨f, h1 i (List.mem_range.mp hi), (key _).mpr ((bd_brd ok hm (by omega)).mpr ⟨_, rfl⟩)⟩
    · rintro ⟨d1, d2, d3⟩
      have ed : d = b - b % s.p + (d - (b - b % s.p)) := by omega
      rw [ed] at d3
      obtain ⟨k, ek⟩ := (bd_brd ok hm (by omega)).mp ((key _).mp d3)
      have k1 : cnt s.bs (b % s.p) ≤ k := by
        rcases Nat.lt_or_ge k (cnt s.bs (b % s.p)) with z | z
        · rw [← bel_pre ok r0 r1] at z
          have := (bel_le ok hm k _).mpr z
          omega
        · exact z
      have k2 : k - cnt s.bs (b % s.p) < n := by
        rcases Nat.lt_or_ge (k - cnt s.bs (b % s.p)) n with z | z
        · exact z
        · have := bd_mono ok hm (show cnt s.bs (b % s.p) + n ≤ k by omega)
          omega
      refine List.mem_map.mpr ⟨k - cnt s.bs (b % s.p), List.mem_range.mpr k2, ?_⟩
      rw [show cnt s.bs (b % s.p) + (k - cnt s.bs (b % s.p)) = k by omega, ek]
      omega
theorem brd_flat {s : Sd} (h : s.bs = []) (a b : Int) : Brd (holds s) a b [] := ⟨trivial, fun d => ⟨fun m => by simp at m, fun ⟨_, _, z⟩ => absurd (by unfold holds; rw [h]; rfl) z⟩⟩
end N7
namespace N7
/-! the borders of a middle -/
def midB (D : Ds) : List Int :=
  (if mem D D.low != mem D (D.low - 1) then [D.low] else []) ++ ((flat D.rs).filter fun x => decide (D.low < x) && decide (x < D.high)) ++ (if decide (D.low < D.high) && (mem D (D.high - 1) != mem D D.high) then [D.high] else [])
theorem flat_brd {rs : Rn} {lo : Int} (h : RunsFrom lo rs) (d : Int) : d ∈ flat rs ↔ inRuns rs d ≠ inRuns rs (d - 1) := by
  have A := flat_asc h (Int.le_refl _)
  rw [inRuns_odd h, inRuns_odd h, show d - 1 + 1 = d by omega, cnt_mem A d]
  by_cases m : d ∈ flat rs
  · rw [if_pos m, odd_succ]
    cases odd (cnt (flat rs) d) <;> simp [m]
  · rw [if_neg m, Nat.add_zero]
    simp [m]
theorem brd_single {h : Int → Bool} {a : Int} : Brd h a (a + 1) (if h a != h (a - 1) then [a] else []) := by
  by_cases z : h a = h (a - 1)
  · rw [if_neg (by simp [z])]
    exact ⟨trivial, fun d => ⟨fun m => by simp at m, fun ⟨x, y, w⟩ => absurd (by rw [show d = a by omega]; exact z) w⟩⟩
  · rw [if_pos (by simpa using z)]
    refine ⟨⟨Int.le_refl _, by omega, trivial⟩, fun d => ?_⟩
    rw [List.mem_singleton]
    constructor
    · rintro rfl
      exact ⟨Int.le_refl _, by omega, z⟩
    · rintro ⟨x, y, _⟩
      omega
theorem mid_brd {D : Ds} (ok : DsOk D) : Brd (mem D) D.low (D.high + 1) (midB D) := by
  have lh := ok_lh ok
  unfold midB
  have b1 : Brd (mem D) D.low (D.low + 1) (if mem D D.low != mem D (D.low - 1) then [D.low] else []) := brd_single
  by_cases z : D.low < D.high
  · have A := flat_asc ok.rs ok.hi
    have b2 : Brd (mem D) (D.low + 1) D.high ((flat D.rs).filter fun x => decide (D.low < x) && decide (x < D.high)) := by
      refine ⟨asc_bound (asc_filter2 _ A) fun x m => ?_, fun d => ?_⟩
      · have := (List.mem_filter.mp m).2
        rw [Bool.and_eq_true, decide_eq_true_eq, decide_eq_true_eq] at this
        omega
      · rw [List.mem_filter, flat_brd ok.rs, Bool.and_eq_true, decide_eq_true_eq, decide_eq_true_eq]
        constructor
        · rintro ⟨x, y, w⟩
          refine ⟨by omega, w, ?_⟩
          rw [mem_mid (by omega) w, mem_mid (by omega) (by omega)]
          exact x
        · rintro ⟨x, y, w⟩
          rw [mem_mid (by omega) y, mem_mid (by omega) (by omega)] at w
          exact ⟨w, by omega, y⟩
    have b3 : Brd (mem D) D.high (D.high + 1) (if decide (D.low < D.high) && (mem D (D.high - 1) != mem D D.high) then [D.high] else []) := by
      have q := brd_single (h := mem D) (a := D.high)
      have e : (decide (D.low < D.high) && (mem D (D.high - 1) != mem D D.high)) = (mem D D.high != mem D (D.high - 1)) := by
        rw [decide_eq_true z, Bool.true_and]
        cases mem D D.high <;> cases mem D (D.high - 1) <;> rfl
      rw [e]
      exact q
    exact brd_app (brd_app b1 b2 (by omega) (by omega)) b3 (by omega) (by omega)
  · have e : D.high = D.low := by omega
    have e2 : ((flat D.rs).filter fun x => decide (D.low < x) && decide (x < D.high)) = [] := by
      rw [List.filter_eq_nil_iff]
      intro x _
      rw [e]
      simp
      omega
    rw [e2, decide_eq_false z, Bool.false_and, if_neg Bool.false_ne_true, List.append_nil, List.append_nil, e]
    exact b1
theorem flat_length : ∀ (rs : Rn), (flat rs).length = 2 * rs.length
  | [] => rfl
  | (a, b) :: r => by
    show (flat r).length + 1 + 1 = _
    rw [flat_length r, List.length_cons]
    omega
theorem mid_len (D : Ds) : (midB D).length ≤ 2 * D.rs.length + 2 := by
  unfold midB
  rw [List.length_append, List.length_append]
  have h1 := List.length_filter_le (fun x => decide (D.low < x) && decide (x < D.high)) (flat D.rs)
  rw [flat_length] at h1
  have h2 : (if mem D D.low != mem D (D.low - 1) then [D.low] else []).length ≤ 1 := by split <;> simp
  have h3 : (if decide (D.low < D.high) && (mem D (D.high - 1) != mem D D.high) then [D.high] else []).length ≤ 1 := by split <;> simp
  omega
/-- the borders left of the middle, in it, and right of it -/
theorem brd_left {D : Ds} {a e : Int} {l : List Int} : Brd (mem D) a (min e D.low) l ↔ Brd (holds D.l) a (min e D.low) l := by
  have k : ∀ d, d < min e D.low → (mem D d ≠ mem D (d - 1) ↔ holds D.l d ≠ holds D.l (d - 1)) := fun d h => by
    rw [mem_lo (by omega), mem_lo (by omega)]
  exact ⟨brd_congr fun d _ h => k d h, brd_congr fun d _ h => (k d h).symm⟩
theorem brd_right {D : Ds} (lh : D.low ≤ D.high) {a e : Int} {l : List Int} : Brd (mem D) (max a (D.high + 1)) e l ↔ Brd (holds D.r) (max a (D.high + 1)) e l := by
  have k : ∀ d, max a (D.high + 1) ≤ d → (mem D d ≠ mem D (d - 1) ↔ holds D.r d ≠ holds D.r (d - 1)) := fun d h => by
    rw [mem_hi (by omega) (by omega), mem_hi (by omega) (by omega)]
  exact ⟨brd_congr fun d h _ => k d h, brd_congr fun d h _ => (k d h).symm⟩
/-! runs of a stretch -/
structure Win (h : Int → Bool) (a b : Int) (rs : Rn) : Prop where
  from_ : RunsFrom a rs
  end_ : runsEnd a rs ≤ b
  in_ : ∀ x, inRuns rs x = (h x && (decide (a ≤ x) && decide (x < b)))
theorem win_one {h : Int → Bool} {a b : Int} {rs rs' : Rn} (W : Win h a b rs) (W' : Win h a b rs') : rs = rs' := runs_ext W.from_ W'.from_ fun d => by rw [W.in_, W'.in_]
theorem scan_exists (h : Int → Bool) (a : Int) : ∀ n : Nat, ∃ rs, Scan h a n rs
  | 0 => ⟨[], scan_zero _ _⟩
  | n + 1 => by
    obtain ⟨rs, S⟩ := scan_exists h a n
    by_cases hx : h (a + n) = true
    · rcases List.eq_nil_or_concat rs with e | ⟨i, ⟨u, v⟩, e⟩
      · exact ⟨_, scan_new S (fun z => absurd e z) hx⟩
      · rw [List.concat_eq_append] at e
        subst e
        by_cases y : v = a + n
        · subst y
          exact ⟨_, scan_ext S hx⟩
        · exact ⟨_, scan_new S (fun _ => by rw [turn_end]; exact y) hx⟩
    · exact ⟨_, scan_no S (by simpa using hx)⟩
theorem win_exists (h : Int → Bool) {a b : Int} (l : a ≤ b) : ∃ rs, Win h a b rs ∧ rs.length ≤ (b - a).toNat := by
  obtain ⟨rs, S⟩ := scan_exists h a (b - a).toNat
  have e : a + ((b - a).toNat : Int) = b := by omega
  refine ⟨rs, ⟨S.from_, by have := S.end_; omega, fun x => ?_⟩, S.len⟩
  rw [S.in_, e]
/-! the borders of a stretch and its runs -/
theorem brd_state {h : Int → Bool} {a b : Int} {l : List Int} (B : Brd h (a + 1) b l) : ∀ n : Nat, a + (n : Int) < b → h (a + n) = (h a != odd (cnt l (a + n + 1)))
  | 0, hb => by
    have : cnt l (a + ((0 : Nat) : Int) + 1) = 0 := cnt_zero B.asc (by omega)
    rw [this, show a + ((0 : Nat) : Int) = a by omega]
    show h a = (h a != false)
    cases h a <;> rfl
  | n + 1, hb => by
    have ih := brd_state B n (by omega)
    have e : a + ((n + 1 : Nat) : Int) = a + n + 1 := by omega
    rw [e, cnt_mem B.asc]
    have m := B.mem (a + n + 1)
    rw [show a + (n : Int) + 1 - 1 = a + n by omega] at m
    by_cases z : a + (n : Int) + 1 ∈ l
    · have ne := (m.mp z).2.2
      rw [if_pos z, odd_succ]
      rw [ih] at ne
      revert ne
      cases h (a + n + 1) <;> cases h a <;> cases odd (cnt l (a + n + 1)) <;> simp
    · have eq : h (a + n + 1) = h (a + n) := by
        rcases Classical.em (h (a + n + 1) = h (a + n)) with q | q
        · exact q
        · exact absurd (m.mpr ⟨by omega, by omega, q⟩) z
      rw [if_neg z, Nat.add_zero, eq, ih]
theorem brd_last {h : Int → Bool} {a b : Int} {l : List Int} (B : Brd h (a + 1) b l) (ab : a < b) : h (b - 1) = (h a != odd l.length) := by
  have := brd_state B (b - 1 - a).toNat (by omega)
  rw [show a + ((b - 1 - a).toNat : Int) = b - 1 by omega, cnt_all B.asc (by omega)] at this
  exact this
def marksOf (h : Int → Bool) (a b : Int) (l : List Int) : List Int := (if h a then a :: l else l) ++ (if h (b - 1) then [b] else [])
theorem win_flat {h : Int → Bool} {a b : Int} {l : List Int} {rs : Rn} (ab : a < b) (B : Brd h (a + 1) b l) (W : Win h a b rs) : flat rs = marksOf h a b l := by
  have A := flat_asc W.from_ W.end_
  -- the marks ascend
  have m1 : Asc a b (if h a then a :: l else l) := by
    split
    · exact ⟨Int.le_refl _, ab, B.asc⟩
    · exact asc_wide B.asc (by omega) (Int.le_refl _)
  have m2 : Asc a (b + 1) (marksOf h a b l) := by
    unfold marksOf
    by_cases z : h (b - 1) = true
    · rw [if_pos z]
      rcases asc_join m1 (show Asc b (b + 1) [b] from ⟨Int.le_refl _, by omega, trivial⟩) (by omega) with y | ⟨y, x⟩
      · exact y
      · rw [y]
        exact asc_wide x (by omega) (Int.le_refl _)
    · rw [if_neg z, List.append_nil]
      exact asc_wide m1 (Int.le_refl _) (by omega)
  refine asc_ext A m2 fun d => ?_
  rw [flat_brd W.from_, W.in_, W.in_]
  have mem1 : d ∈ marksOf h a b l ↔ (d = a ∧ h a = true) ∨ (a + 1 ≤ d ∧ d < b ∧ h d ≠ h (d - 1)) ∨ (d = b ∧ h (b - 1) = true) := by
    unfold marksOf
    rw [List.mem_append]
    have e1 : d ∈ (if h a then a :: l else l) ↔ (d = a ∧ h a = true) ∨ (a + 1 ≤ d ∧ d < b ∧ h d ≠ h (d - 1)) := by
      split
      · rename_i z
        rw [List.mem_cons, B.mem]
        simp [z]
      · rename_i z
        rw [B.mem]
        simp [z]
    have e2 : d ∈ (if h (b - 1) then [b] else []) ↔ (d = b ∧ h (b - 1) = true) := by
      split
      · rename_i z
        rw [List.mem_singleton]
        simp [z]
      · rename_i z
        simp [z]
    rw [e1, e2, or_assoc]
  rw [mem1]
  by_cases c1 : d < a
  · have f : decide (a ≤ d) = false := decide_eq_false (by omega)
    have g : decide (a ≤ d - 1) = false := decide_eq_false (by omega)
    rw [f, g]
    simp
    omega
  · by_cases c2 : d = a
    · subst c2
      have g : decide (d ≤ d - 1) = false := decide_eq_false (by omega)
      rw [g, decide_eq_true (Int.le_refl d), decide_eq_true ab]
      simp
      omega
    · by_cases c3 : d < b
      · rw [decide_eq_true (show a ≤ d by omega), decide_eq_true c3, decide_eq_true (show a ≤ d - 1 by omega), decide_eq_true (show d - 1 < b by omega)]
        simp
        constructor
        · intro ne
          exact .inr (.inl ⟨by omega, c3, ne⟩)
        · rintro (⟨x, _⟩ | ⟨_, _, x⟩ | ⟨x, _⟩)
          · omega
          · exact x
          · omega
      · by_cases c4 : d = b
        · subst c4
          rw [decide_eq_false (Int.lt_irrefl d), decide_eq_true (show a ≤ d - 1 by omega), decide_eq_true (show d - 1 < d by omega)]
          simp
          intro x
          exact absurd x c2
        · rw [decide_eq_false (show ¬ d < b by omega), decide_eq_false (show ¬ d - 1 < b by omega)]
          simp
          omega
theorem marks_odd {h : Int → Bool} {a b : Int} {l : List Int} (B : Brd h (a + 1) b l) (ab : a < b) : odd (if h a then a :: l else l).length = h (b - 1) := by
  rw [brd_last B ab]
  split
  · rename_i z
    rw [List.length_cons, odd_succ, z]
    cases odd l.length <;> rfl
  · rename_i z
    have z : h a = false := by simpa using z
    rw [z]
    cases odd l.length <;> rfl
end N7
namespace N7
/-! steps between neighbours -/
def StpR (P : Int → Bool) (t : Int) : Prop := ∃ d, 0 < t ∧ P d = true ∧ P (d + t) = true ∧ ∀ x, d < x → x < d + t → P x = false
def gaps : Rn → List Int
  | (_, b) :: (c, d) :: r => (c - b + 1) :: gaps ((c, d) :: r)
  | _ => []
def ones (rs : Rn) : List Int := (rs.filter fun r => decide (1 < r.2 - r.1)).map fun _ => 1
def stepsR (rs : Rn) : List Int := ones rs ++ gaps rs
theorem ones_mem {u v t : Int} {r : Rn} : t ∈ ones ((u, v) :: r) ↔ (1 < v - u ∧ t = 1) ∨ t ∈ ones r := by
  unfold ones
  rw [List.filter_cons]
  by_cases z : 1 < v - u
  · rw [if_pos (decide_eq_true z), List.map_cons, List.mem_cons]
    simp [z]
  · rw [if_neg (by simpa using z)]
    simp [z]
theorem steps_cons {u v t : Int} {r : Rn} : t ∈ stepsR ((u, v) :: r) ↔ (1 < v - u ∧ t = 1) ∨ (∃ c d r', r = (c, d) :: r' ∧ t = c - v + 1) ∨ t ∈ stepsR r := by
  unfold stepsR
  rw [List.mem_append, List.mem_append, ones_mem]
  cases r with
  | nil =>
    constructor
    · rintro ((x | x) | x)
      · exact .inl x
      · exact .inr (.inr (.inl x))
      · simp [gaps] at x
    · rintro (x | ⟨c, d, r', e, _⟩ | x | x)
      · exact .inl (.inl x)
      · cases e
      · exact .inl (.inr x)
      · exact .inr x
  | cons p r' =>
    obtain ⟨c, d⟩ := p
    show _ ∨ t ∈ (c - v + 1) :: gaps ((c, d) :: r') ↔ _
    rw [List.mem_cons]
    constructor
    · rintro ((x | x) | x | x)
      · exact .inl x
      · exact .inr (.inr (.inl x))
      · exact .inr (.inl ⟨c, d, r', rfl, x⟩)
      · exact .inr (.inr (.inr x))
    · rintro (x | ⟨c', d', r'', e, x⟩ | x | x)
      · exact .inl (.inl x)
      · cases e
        exact .inr (.inl x)
      · exact .inl (.inr x)
      · exact .inr (.inr x)
theorem in_cons {u v x : Int} {r : Rn} : inRuns ((u, v) :: r) x = ((decide (u ≤ x) && decide (x < v)) || inRuns r x) := rfl
theorem steps_mem : ∀ {rs : Rn} {lo : Int}, RunsFrom lo rs → ∀ t, t ∈ stepsR rs ↔ StpR (inRuns rs) t
  | [], _, _, t => by
    constructor
    · intro m
      simp [stepsR, ones, gaps] at m
    · rintro ⟨d, _, h, _⟩
      cases h
  | (u, v) :: r, lo, ⟨h1, h2, h3⟩, t => by
    have ih := steps_mem h3 t
    have far : ∀ x, inRuns r x = true → v + 1 ≤ x := fun x hx => by
      rcases Int.lt_or_le x (v + 1) with z | z
      · rw [inRuns_lo h3 z] at hx
        cases hx
      · exact z
    rw [steps_cons, ih]
    constructor
    · rintro (⟨x, rfl⟩ | ⟨c, d, r', rfl, rfl⟩ | ⟨d, t0, x, y, w⟩)
      · refine ⟨u, by decide, ?_, ?_, fun x k1 k2 => by omega⟩
        · rw [in_cons, decide_eq_true (Int.le_refl u), decide_eq_true h2]
          rfl
        · rw [in_cons, decide_eq_true (show u ≤ u + 1 by omega), decide_eq_true (show u + 1 < v by omega)]
          rfl
      · obtain ⟨k1, k2, k3⟩ := h3
        refine ⟨v - 1, by omega, ?_, ?_, fun x l1 l2 => ?_⟩
        · rw [in_cons, decide_eq_true (show u ≤ v - 1 by omega), decide_eq_true (show v - 1 < v by omega)]
          rfl
        · rw [in_cons, in_cons, decide_eq_true (show c ≤ v - 1 + (c - v + 1) by omega), decide_eq_true (show v - 1 + (c - v + 1) < d by omega)]
          simp
        · rw [in_cons, decide_eq_false (show ¬ x < v by omega), inRuns_lo (show RunsFrom c ((c, d) :: r') from ⟨Int.le_refl _, k2, k3⟩) (by omega)]
          simp
      · have := far _ x
        refine ⟨d, t0, ?_, ?_, fun z l1 l2 => ?_⟩
        · rw [in_cons, x, Bool.or_true]
        · rw [in_cons, y, Bool.or_true]
        · rw [in_cons, w z l1 l2, decide_eq_false (show ¬ z < v by omega)]
          simp
    · rintro ⟨d, t0, x, y, w⟩
      by_cases k : u ≤ d ∧ d < v
      · by_cases l : d + 1 < v
        · have t1 : t = 1 := by
            rcases Int.lt_or_le 1 t with z | z
            · have := w (d + 1) (by omega) (by omega)
              rw [in_cons, decide_eq_true (show u ≤ d + 1 by omega), decide_eq_true l] at this
              cases this
            · omega
          exact .inl ⟨by omega, t1⟩
        · have y2 : inRuns r (d + t) = true := by
            rw [in_cons, decide_eq_false (show ¬ d + t < v by omega), Bool.and_false, Bool.false_or] at y
            exact y
          cases r with
          | nil => cases y2
          | cons p r' =>
            obtain ⟨c, e⟩ := p
            obtain ⟨k1, k2, k3⟩ := h3
            have l2 : c ≤ d + t := by
              rcases Int.lt_or_le (d + t) c with z | z
              · rw [inRuns_lo (show RunsFrom c ((c, e) :: r') from ⟨Int.le_refl _, k2, k3⟩) z] at y2
                cases y2
              · exact z
            have l3 : ¬ c < d + t := fun z => by
              have := w c (by omega) z
              rw [in_cons, in_cons, decide_eq_true (Int.le_refl c), decide_eq_true k2] at this
              simp at this
            exact .inr (.inl ⟨c, e, r', rfl, by omega⟩)
      · have x2 : inRuns r d = true := by
          rw [in_cons] at x
          have : (decide (u ≤ d) && decide (d < v)) = false := by
            rw [Bool.and_eq_false_iff, decide_eq_false_iff_not, decide_eq_false_iff_not]
            omega
          rw [this, Bool.false_or] at x
          exact x
        have := far _ x2
        have y2 : inRuns r (d + t) = true := by
          rw [in_cons, decide_eq_false (show ¬ d + t < v by omega), Bool.and_false, Bool.false_or] at y
          exact y
        refine .inr (.inr ⟨d, t0, x2, y2, fun z l1 l2 => ?_⟩)
        have := w z l1 l2
        rw [in_cons, Bool.or_eq_false_iff] at this
        exact this.2
def diffs : List Int → List Int
  | a :: b :: r => (b - a) :: diffs (b :: r)
  | _ => []
theorem diffs_mem : ∀ {l : List Int} {lo hi : Int}, Asc lo hi l → ∀ t, t ∈ diffs l ↔ StpR (fun x => decide (x ∈ l)) t
  | [], _, _, _, t => by
    constructor
    · intro m
      simp [diffs] at m
    · rintro ⟨d, _, h, _⟩
      simp at h
  | [a], _, _, _, t => by
    constructor
    · intro m
      simp [diffs] at m
    · rintro ⟨d, t0, h, k, _⟩
      simp at h k
      omega
  | a :: b :: r, lo, hi, ⟨h1, h2, h3⟩, t => by
    have ih := diffs_mem h3 t
    have far : ∀ x, x ∈ b :: r → a + 1 ≤ x := fun x m => (asc_mem h3 m).1
    have far2 : ∀ x, x ∈ b :: r → b ≤ x := fun x m => by
      obtain ⟨k1, k2, k3⟩ := h3
      rcases List.mem_cons.mp m with z | z
      · omega
      · have := asc_mem k3 z
        omega
    show t ∈ (b - a) :: diffs (b :: r) ↔ _
    rw [List.mem_cons, ih]
    have h3b := h3.1
    constructor
    · rintro (rfl | ⟨d, t0, x, y, w⟩)
      · refine ⟨a, by omega, by simp, by simp; right; left; omega, fun x k1 k2 => ?_⟩
        rw [decide_eq_false_iff_not, List.mem_cons]
        rintro (z | z)
        · omega
        · have := far2 x z
          omega
      · have x' := of_decide_eq_true x
        have y' := of_decide_eq_true y
        refine ⟨d, t0, decide_eq_true (List.mem_cons_of_mem _ x'), decide_eq_true (List.mem_cons_of_mem _ y'), fun z k1 k2 => ?_⟩
        have := of_decide_eq_false (w z k1 k2)
        rw [decide_eq_false_iff_not, List.mem_cons]
        rintro (q | q)
        · have := far d x'
          omega
        · exact this q
    · rintro ⟨d, t0, x, y, w⟩
      have x' := of_decide_eq_true x
      have y' := of_decide_eq_true y
      rcases List.mem_cons.mp x' with z | z
      · subst z
        have y2 : d + t ∈ b :: r := by
          rcases List.mem_cons.mp y' with q | q
          · omega
          · exact q
        have l1 := far2 _ y2
        have l2 : ¬ b < d + t := fun q => by
          have := of_decide_eq_false (w b (by omega) q)
          exact this (List.mem_cons_of_mem _ List.mem_cons_self)
        exact .inl (by omega)
      · have l1 := far d z
        have y2 : d + t ∈ b :: r := by
          rcases List.mem_cons.mp y' with q | q
          · omega
          · exact q
        refine .inr ⟨d, t0, decide_eq_true z, decide_eq_true y2, fun q k1 k2 => ?_⟩
        have := of_decide_eq_false (w q k1 k2)
        exact decide_eq_false fun m => this (List.mem_cons_of_mem _ m)
/-! a stretch that is long enough has all steps -/
theorem shift_l {h : Int → Bool} {X p : Int} (H : ∀ d, d < X → h d = h (d - p)) (p1 : 1 ≤ p) (y : Int) : ∀ k : Nat, y + k * p < X → h (y + k * p) = h y
  | 0, _ => by congr 1; omega
  | k + 1, l => by
    have e : ((k + 1 : Nat) : Int) * p = k * p + p := by
      rw [Int.natCast_add, Int.add_mul]
      omega
    rw [e] at l ⊢
    rw [H _ l, show y + (k * p + p) - p = y + k * p by omega]
    exact shift_l H p1 y k (by omega)
theorem shift_r {h : Int → Bool} {Y p : Int} (H : ∀ d, Y ≤ d → h d = h (d + p)) (p1 : 1 ≤ p) (y : Int) : ∀ k : Nat, Y ≤ y - k * p → h (y - k * p) = h y
  | 0, _ => by congr 1; omega
  | k + 1, l => by
    have e : ((k + 1 : Nat) : Int) * p = k * p + p := by
      rw [Int.natCast_add, Int.add_mul]
      omega
    rw [e] at l ⊢
    rw [H _ l, show y - (k * p + p) + p = y - k * p by omega]
    exact shift_r H p1 y k (by omega)
theorem all_steps {h : Int → Bool} {X Y pl pr a b : Int} (xy : X ≤ Y) (l1 : 1 ≤ pl) (r1 : 1 ≤ pr) (HL : ∀ d, d < X → h d = h (d - pl)) (HR : ∀ d, Y ≤ d → h d = h (d + pr)) (ha : a ≤ X - 2 * pl) (hb : Y + 2 * pr ≤ b) (t : Int) :
    StpR (fun x => h x && (decide (a ≤ x) && decide (x < b))) t ↔ StpR h t := by
  constructor
  · rintro ⟨d, t0, x, y, w⟩
    rw [Bool.and_eq_true, Bool.and_eq_true, decide_eq_true_eq, decide_eq_true_eq] at x y
    refine ⟨d, t0, x.1, y.1, fun z k1 k2 => ?_⟩
    have := w z k1 k2
    dsimp only at this
    rw [decide_eq_true (show a ≤ z by omega), decide_eq_true (show z < b by omega), Bool.and_true, Bool.and_true] at this
    exact this
  · rintro ⟨d, t0, x, y, w⟩
    -- it is enough to have it within
    have put : ∀ d', h d' = true → h (d' + t) = true → (∀ z, d' < z → z < d' + t → h z = false) → a ≤ d' → d' + t < b → StpR (fun x => h x && (decide (a ≤ x) && decide (x < b))) t := fun d' q1 q2 q3 q4 q5 =>
      ⟨d', t0, by dsimp only; rw [q1, decide_eq_true q4, decide_eq_true (show d' < b by omega)]; rfl, by dsimp only; rw [q2, decide_eq_true (show a ≤ d' + t by omega), decide_eq_true q5]; rfl, fun z k1 k2 => by dsimp only; rw [q3 z k1 k2]; rfl⟩
    by_cases c1 : d + t < X
    · have tp : t ≤ pl := by
        rcases Int.lt_or_le pl t with z | z
        · have e := HL (d + t) c1
          rw [y] at e
          have := w (d + t - pl) (by omega) (by omega)
          rw [← e] at this
          cases this
        · exact z
      have k0 : 0 ≤ (X - 1 - (d + t)) / pl := Int.ediv_nonneg (by omega) (by omega)
      have kq := Int.emod_add_mul_ediv (X - 1 - (d + t)) pl
      have km := Int.emod_nonneg (X - 1 - (d + t)) (show pl ≠ 0 by omega)
      have kn := Int.emod_lt_of_pos (X - 1 - (d + t)) (show 0 < pl by omega)
      obtain ⟨k, ek⟩ : ∃ k : Nat, (k : Int) = (X - 1 - (d + t)) / pl := ⟨_, Int.toNat_of_nonneg k0⟩
      rw [← ek, Int.mul_comm] at kq
      refine put (d + k * pl) ?_ ?_ (fun z z1 z2 => ?_) (by omega) (by omega)
      · rw [shift_l HL l1 d k (by omega)]
        exact x
      · have := shift_l HL l1 (d + t) k (by omega)
        rw [show d + k * pl + t = d + t + k * pl by omega, this]
        exact y
      · have := shift_l HL l1 (z - k * pl) k (by omega)
        rw [show z - k * pl + k * pl = z by omega] at this
        rw [this]
        exact w _ (by omega) (by omega)
    · by_cases c2 : Y ≤ d
      · have tp : t ≤ pr := by
          rcases Int.lt_or_le pr t with z | z
          · have e := HR d c2
            rw [x] at e
            have := w (d + pr) (by omega) (by omega)
            rw [← e] at this
            cases this
          · exact z
        have k0 : 0 ≤ (d - Y) / pr := Int.ediv_nonneg (by omega) (by omega)
        have kq := Int.emod_add_mul_ediv (d - Y) pr
        have km := Int.emod_nonneg (d - Y) (show pr ≠ 0 by omega)
        have kn := Int.emod_lt_of_pos (d - Y) (show 0 < pr by omega)
        obtain ⟨k, ek⟩ : ∃ k : Nat, (k : Int) = (d - Y) / pr := ⟨_, Int.toNat_of_nonneg k0⟩
        rw [← ek, Int.mul_comm] at kq
        refine put (d - k * pr) ?_ ?_ (fun z z1 z2 => ?_) (by omega) (by omega)
        · rw [shift_r HR r1 d k (by omega)]
          exact x
        · have := shift_r HR r1 (d + t) k (by omega)
          rw [show d - k * pr + t = d + t - k * pr by omega, this]
          exact y
        · have := shift_r HR r1 (z + k * pr) k (by omega)
          rw [show z + k * pr - k * pr = z by omega] at this
          rw [this]
          exact w _ (by omega) (by omega)
      · have q1 : X - pl ≤ d := by
          rcases Int.lt_or_le d (X - pl) with z | z
          · have e := HL (d + pl) (by omega)
            rw [show d + pl - pl = d by omega, x] at e
            have := w (d + pl) (by omega) (by omega)
            rw [e] at this
            cases this
          · exact z
        have q2 : d + t < Y + pr := by
          rcases Int.lt_or_le (d + t) (Y + pr) with z | z
          · exact z
          · have e := HR (d + t - pr) (by omega)
            rw [show d + t - pr + pr = d + t by omega, y] at e
            have := w (d + t - pr) (by omega) (by omega)
            rw [e] at this
            cases this
        exact put d x y w (by omega) (by omega)
theorem stp_congr {P Q : Int → Bool} (e : ∀ x, P x = Q x) (t : Int) : StpR P t ↔ StpR Q t := by
  rw [show P = Q from funext e]
/-! the least and the greatest of a list, if there is one -/
inductive MinOf (ns : List Int) : Option Int → Prop
  | none (h : ns = []) : MinOf ns none
  | some (m : Int) (h : m ∈ ns) (k : ∀ y ∈ ns, m ≤ y) : MinOf ns (some m)
inductive MaxOf (ns : List Int) : Option Int → Prop
  | none (h : ns = []) : MaxOf ns none
  | some (m : Int) (h : m ∈ ns) (k : ∀ y ∈ ns, y ≤ m) : MaxOf ns (some m)
theorem min_one {ns ms : List Int} (e : ∀ t, t ∈ ns ↔ t ∈ ms) {o o' : Option Int} (h : MinOf ns o) (h' : MinOf ms o') : o = o' := by
  cases h with
  | none h =>
    subst h
    cases h' with
    | none _ => rfl
    | some m hm _ => exact absurd ((e m).mpr hm) (by simp)
  | some m hm k =>
    cases h' with
    | none h =>
      subst h
      exact absurd ((e m).mp hm) (by simp)
    | some m' hm' k' =>
      have := k m' ((e m').mpr hm')
      have := k' m ((e m).mp hm)
      rw [show m = m' by omega]
theorem max_one {ns ms : List Int} (e : ∀ t, t ∈ ns ↔ t ∈ ms) {o o' : Option Int} (h : MaxOf ns o) (h' : MaxOf ms o') : o = o' := by
  cases h with
  | none h =>
    subst h
    cases h' with
    | none _ => rfl
    | some m hm _ => exact absurd ((e m).mpr hm) (by simp)
  | some m hm k =>
    cases h' with
    | none h =>
      subst h
      exact absurd ((e m).mp hm) (by simp)
    | some m' hm' k' =>
      have := k m' ((e m').mpr hm')
      have := k' m ((e m).mp hm)
      rw [show m = m' by omega]
end N7
namespace N7
/-! where the normal form of a dayset lies -/
theorem least_dvd {s t : Sd} (S : Least s) (ht : 1 ≤ t.p) (e : ∀ d, holds s d = holds t d) : s.p ∣ t.p := by
  have p1 := S.ok.p1
  have H1 : Per (holds s) ((s.p.toNat : Nat) : Int) := by
    rw [Int.toNat_of_nonneg (by omega)]
    exact per_holds
  have H2 : Per (holds s) ((t.p.toNat : Nat) : Int) := by
    rw [Int.toNat_of_nonneg (by omega)]
    intro d
    rw [e, e]
    exact per_holds d
  have G := per_gcd _ _ H1 H2
  have gp : 0 < Nat.gcd s.p.toNat t.p.toNat := Nat.gcd_pos_of_pos_left _ (by omega)
  have d1 : ((Nat.gcd s.p.toNat t.p.toNat : Nat) : Int) ∣ s.p := by
    have := Int.ofNat_dvd.mpr (Nat.gcd_dvd_left s.p.toNat t.p.toNat)
    rwa [Int.toNat_of_nonneg (by omega)] at this
  have d2 : ((Nat.gcd s.p.toNat t.p.toNat : Nat) : Int) ∣ t.p := by
    have := Int.ofNat_dvd.mpr (Nat.gcd_dvd_right s.p.toNat t.p.toNat)
    rwa [Int.toNat_of_nonneg (show 0 ≤ t.p by omega)] at this
  have := S.lp _ (by omega) d1 G
  rw [← this]
  exact d2
structure Box (D N : Ds) : Prop where
  el : ∀ d, holds N.l d = holds D.l d
  er : ∀ d, holds N.r d = holds D.r d
  dl : N.l.p ∣ D.l.p
  dr : N.r.p ∣ D.r.p
  at_ : (N.low = 0 ∧ N.high = 0 ∧ N.rs = [] ∧ N.l = N.r) ∨ (D.low ≤ N.low ∧ N.low < D.high + D.l.p + D.r.p ∧ N.low ≤ N.high ∧ N.high ≤ max N.low D.high)
theorem norm_box {D N : Ds} (ok : DsOk D) (n : Norm N) (e : ∀ d, mem N d = mem D d) : Box D N := by
  have p1 := ok.l.p1
  have p2 := ok.r.p1
  have q1 := n.l.ok.p1
  have q2 := n.r.ok.p1
  have lhD := ok_lh ok
  have lhN := ok_lh n.ok
  have el : ∀ d, holds N.l d = holds D.l d := fine_wilf q1 p1 per_holds per_holds (b := min D.low N.low - D.l.p - N.l.p) fun d h1 h2 => by
    have := e d
    rw [mem_lo (by omega), mem_lo (by omega)] at this
    exact this
  have er : ∀ d, holds N.r d = holds D.r d := fine_wilf q2 p2 per_holds per_holds (b := max D.high N.high) fun d h1 h2 => by
    have := e d
    rw [mem_hi (by omega) (by omega), mem_hi (by omega) (by omega)] at this
    exact this
  refine ⟨el, er, least_dvd n.l p1 el, least_dvd n.r p2 er, ?_⟩
  rcases n.tight with ⟨t1, t2, t3, t4⟩ | ⟨t1, t2⟩
  · exact .inl ⟨t2, t4, t3, t1⟩
  · rw [e, el] at t1
    have l1 : D.low ≤ N.low := by
      rcases Int.lt_or_le N.low D.low with z | z
      · rw [mem_lo z] at t1
        exact absurd rfl t1
      · exact z
    have l2 : N.low < D.high + D.l.p + D.r.p := by
      rcases Int.lt_or_le N.low (D.high + D.l.p + D.r.p) with z | z
      · exact z
      · have same : ∀ d, holds D.l d = holds D.r d := fine_wilf p1 p2 per_holds per_holds (b := D.high) fun d h1 h2 => by
          have := e d
          rw [mem_lo (by omega), mem_hi (by omega) (by omega), el] at this
          exact this
        rw [mem_hi (by omega) (by omega), same] at t1
        exact absurd rfl t1
    refine .inr ⟨l1, l2, lhN, ?_⟩
    rcases t2 with t2 | t2
    · omega
    · rw [e, er] at t2
      rcases Int.lt_or_le D.high N.high with z | z
      · by_cases y : N.low < N.high
        · rw [mem_hi (by omega) (by omega)] at t2
          exact absurd rfl t2
        · omega
      · omega
/-! runs of single days -/
def joinT (rs : Rn) (r : Int × Int) : Rn := match rs.getLast? with
  | some (u, v) => if v = r.1 then rs.dropLast ++ [(u, r.2)] else rs ++ [r]
  | none => rs ++ [r]
def touchR (rs : Rn) : Rn := rs.foldl joinT []
theorem joinT_nil (r : Int × Int) : joinT [] r = [r] := rfl
theorem joinT_snoc (rs : Rn) (u v : Int) (r : Int × Int) : joinT (rs ++ [(u, v)]) r = if v = r.1 then rs ++ [(u, r.2)] else rs ++ [(u, v)] ++ [r] := by
  unfold joinT
  rw [List.getLast?_concat]
  dsimp only
  split
  · rw [List.dropLast_concat]
  · rfl
theorem touch_snoc (rs : Rn) (r : Int × Int) : touchR (rs ++ [r]) = joinT (touchR rs) r := by
  unfold touchR
  rw [List.foldl_append]
  rfl
theorem joinT_len (rs : Rn) (r : Int × Int) : (joinT rs r).length ≤ rs.length + 1 := by
  rcases List.eq_nil_or_concat rs with e | ⟨i, ⟨u, v⟩, e⟩
  · subst e
    rw [joinT_nil]
    exact Nat.le_refl _
  · rw [List.concat_eq_append] at e
    subst e
    rw [joinT_snoc]
    split <;> simp
def unit (x : Int) : Int × Int := (x, x + 1)
theorem touch_spec : ∀ (l : List Int) (lo hi : Int), lo ≤ hi → Asc lo hi l → RunsFrom lo (touchR (l.map unit)) ∧ runsEnd lo (touchR (l.map unit)) ≤ hi ∧ (∀ x, inRuns (touchR (l.map unit)) x = decide (x ∈ l)) ∧ (touchR (l.map unit)).length ≤ l.length := by
  have key : ∀ (n : Nat) (l : List Int) (lo hi : Int), l.length = n → lo ≤ hi → Asc lo hi l → RunsFrom lo (touchR (l.map unit)) ∧ runsEnd lo (touchR (l.map unit)) ≤ hi ∧ (∀ x, inRuns (touchR (l.map unit)) x = decide (x ∈ l)) ∧ (touchR (l.map unit)).length ≤ l.length := by
    intro n
    induction n with
    | zero =>
      intro l lo hi hl lh A
      have : l = [] := List.eq_nil_of_length_eq_zero hl
      subst this
      exact ⟨trivial, lh, fun x => by simp [touchR, inRuns], Nat.le_refl _⟩
    | succ n ih =>
      intro l lo hi hl lh A
      rcases List.eq_nil_or_concat l with e | ⟨i, b, e⟩
      · subst e
        cases hl
      rw [List.concat_eq_append] at e
      subst e
      have hb := asc_mem A (List.mem_append_right i (List.mem_singleton.mpr rfl))
      have A' : ∀ {i : List Int} {lo : Int}, Asc lo hi (i ++ [b]) → Asc lo b i := by
        intro i
        induction i with
        | nil => intro _ _; exact trivial
        | cons y t iht =>
          intro lo ⟨h1, h2, h3⟩
          have := asc_mem h3 (List.mem_append_right t (List.mem_singleton.mpr rfl))
          exact ⟨h1, by omega, iht h3⟩
      have Ai := A' A
      have hl' : i.length = n := by
        rw [List.length_append] at hl
        simpa using hl
      obtain ⟨i1, i2, i3, i4⟩ := ih i lo b hl' hb.1 Ai
      rw [List.map_append, List.map_singleton, touch_snoc, List.length_append]
      have len := joinT_len (touchR (i.map unit)) (unit b)
      generalize hg : touchR (i.map unit) = R at *
      refine ⟨?_, ?_, ?_, by rw [List.length_singleton]; omega⟩
      · rcases List.eq_nil_or_concat R with e | ⟨R', ⟨u, v⟩, e⟩
        · subst e
          rw [joinT_nil]
          exact ⟨hb.1, by show b < b + 1; omega, trivial⟩
        · rw [List.concat_eq_append] at e
          subst e
          rw [joinT_snoc]
          obtain ⟨a1, a2, a3, a4⟩ := from_init i1
          rw [turn_end] at i2
          split
          · refine from_snoc a1 a2 a3 ?_
            show u < b + 1
            omega
          · rename_i ne
            refine from_snoc i1 (fun z => absurd z (by simp)) (fun _ => ?_) (by show b < b + 1; omega)
            rw [turn_end]
            have : v ≠ b := ne
            show v + 1 ≤ b
            omega
      · rcases List.eq_nil_or_concat R with e | ⟨R', ⟨u, v⟩, e⟩
        · subst e
          rw [joinT_nil]
          show b + 1 ≤ hi
          omega
        · rw [List.concat_eq_append] at e
          subst e
          rw [joinT_snoc]
          split
          · rw [turn_end]
            show b + 1 ≤ hi
            omega
          · rw [turn_end]
            show b + 1 ≤ hi
            omega
      · intro x
        have i3' := i3 x
        have em : decide (x ∈ i ++ [b]) = (decide (x ∈ i) || decide (x = b)) := by
          rw [← Bool.decide_or]
          congr 1
          rw [List.mem_append, List.mem_singleton]
        rw [em, ← i3']
        have eb : (decide (b ≤ x) && decide (x < b + 1)) = decide (x = b) := by
          by_cases z : x = b
          · subst z
            rw [decide_eq_true (Int.le_refl x), decide_eq_true (show x < x + 1 by omega), decide_eq_true rfl]
            rfl
          · rw [decide_eq_false z]
            rw [Bool.and_eq_false_iff, decide_eq_false_iff_not, decide_eq_false_iff_not]
            omega
        rcases List.eq_nil_or_concat R with e | ⟨R', ⟨u, v⟩, e⟩
        · subst e
          rw [joinT_nil]
          show ((decide (b ≤ x) && decide (x < b + 1)) || false) = (false || decide (x = b))
          rw [eb]
          simp
        · rw [List.concat_eq_append] at e
          subst e
          rw [joinT_snoc]
          obtain ⟨a1, a2, a3, a4⟩ := from_init i1
          rw [turn_end] at i2
          split
          · rename_i ev
            have ev : v = b := ev
            subst ev
            rw [in_snoc, in_snoc, ← eb]
            show (inRuns R' x || (decide (u ≤ x) && decide (x < v + 1))) = _
            by_cases c1 : u ≤ x
            · by_cases c2 : x < v
              · rw [decide_eq_true c1, decide_eq_true c2, decide_eq_true (show x < v + 1 by omega)]
                simp
              · rw [decide_eq_true c1, decide_eq_false c2, decide_eq_true (show v ≤ x by omega)]
                simp
            · rw [decide_eq_false c1, decide_eq_false (show ¬ v ≤ x by omega)]
              simp
          · rw [in_snoc]
            show (_ || (decide (b ≤ x) && decide (x < b + 1))) = _
            rw [eb]
  exact fun l lo hi lh A => key l.length l lo hi rfl lh A
/-- the set of some days, in its normal form -/
def sglD (l : List Int) : Ds := match (touchR (l.map unit)) with
  | [] => ⟨⟨1, [], false⟩, 0, [], 0, ⟨1, [], false⟩⟩
  | (a, b) :: r => ⟨⟨1, [], false⟩, a, (a, b) :: r, runsEnd a ((a, b) :: r), ⟨1, [], false⟩⟩
theorem holds_no (x : Int) : holds ⟨1, [], false⟩ x = false := rfl
theorem sgl_spec {l : List Int} {lo hi : Int} (lh : lo ≤ hi) (A : Asc lo hi l) : Norm (sglD l) ∧ (∀ x, mem (sglD l) x = decide (x ∈ l)) ∧ (sglD l).rs = touchR (l.map unit) := by
  obtain ⟨h1, h2, h3, h4⟩ := touch_spec l lo hi lh A
  unfold sglD
  have le0 : Least ⟨1, [], false⟩ := (least_nil (p := 1) (f := false)).1
  generalize hg : touchR (l.map unit) = R at *
  cases R with
  | nil =>
    refine ⟨⟨le0, le0, trivial, Int.le_refl _, .inl ⟨rfl, rfl, rfl, rfl⟩⟩, fun x => ?_, rfl⟩
    rw [← h3]
    show mem (⟨⟨1, [], false⟩, 0, [], 0, ⟨1, [], false⟩⟩ : Ds) x = false
    unfold mem
    split
    · rfl
    · rfl
  | cons p r =>
    obtain ⟨a, b⟩ := p
    obtain ⟨k1, k2, k3⟩ := h1
    have fr : RunsFrom a ((a, b) :: r) := ⟨Int.le_refl _, k2, k3⟩
    have he := runs_end (lo := a) fr (Int.le_refl _)
    have be : b ≤ runsEnd a ((a, b) :: r) := runs_end (rs := r) (lo := b) (lo' := b + 1) k3 (by omega)
    have mm : ∀ x, mem (⟨⟨1, [], false⟩, a, (a, b) :: r, runsEnd a ((a, b) :: r), ⟨1, [], false⟩⟩ : Ds) x = inRuns ((a, b) :: r) x := fun x => by
      by_cases c1 : x < a
      · rw [mem_lo (D := ⟨⟨1, [], false⟩, a, (a, b) :: r, runsEnd a ((a, b) :: r), ⟨1, [], false⟩⟩) c1, inRuns_lo fr c1]
        rfl
      · by_cases c2 : x < runsEnd a ((a, b) :: r)
        · exact mem_mid (D := ⟨⟨1, [], false⟩, a, (a, b) :: r, runsEnd a ((a, b) :: r), ⟨1, [], false⟩⟩) c1 c2
        · rw [mem_hi (D := ⟨⟨1, [], false⟩, a, (a, b) :: r, runsEnd a ((a, b) :: r), ⟨1, [], false⟩⟩) c1 c2, inRuns_hi fr (by omega)]
          rfl
    refine ⟨⟨le0, le0, fr, Int.le_refl _, .inr ⟨?_, .inr ?_⟩⟩, fun x => by rw [mm, h3], rfl⟩
    · show mem _ a ≠ false
      rw [mm, in_cons, decide_eq_true (Int.le_refl a), decide_eq_true k2]
      simp
    · show mem _ (runsEnd a ((a, b) :: r) - 1) ≠ false
      rw [mm]
      rcases List.eq_nil_or_concat ((a, b) :: r) with e | ⟨i, ⟨u, v⟩, e⟩
      · cases e
      · rw [List.concat_eq_append] at e
        rw [e] at fr ⊢
        obtain ⟨_, _, _, uv⟩ := from_init fr
        rw [turn_end, in_snoc, decide_eq_true (show u ≤ v - 1 by omega), decide_eq_true (show v - 1 < v by omega)]
        simp
end N7
namespace Pr
open PySem L2 Pu N7
def S_holds : FS := fun ds k => match ds with
  | [d, .int x] => ∃ D : Ds, d = dsD D ∧ DsB D ∧ k (.bool (mem D x))
  | _ => False
def S_side_borders : FS := fun ds k => match ds with
  | [d, .int a, .int b] => ∃ (s : Sd) (l : List Int), d = sideD s ∧ SdB s ∧ Brd (holds s) a b l ∧ l.length ≤ 90000 ∧ k (.list (nums l))
  | _ => False
def S_middle_borders : FS := fun ds k => match ds with
  | [d] => ∃ D : Ds, d = dsD D ∧ DsB D ∧ k (.list (nums (midB D)))
  | _ => False
def S_borders_between : FS := fun ds k => match ds with
  | [d, .int a, .int b] => ∃ (D : Ds) (l : List Int), d = dsD D ∧ DsB D ∧ Brd (mem D) a b l ∧ l.length ≤ 90000 ∧ k (.list (nums l))
  | _ => False
def S_paired : FS := fun ds k => match ds with
  | [.int a, .bool i, .list xs, .int b] => ∃ (l : List Int) (rs : Rn), xs = nums l ∧ l.length ≤ 90000 ∧ flat rs = (if i then a :: l else l) ++ (if odd (if i then a :: l else l).length then [b] else []) ∧ k (.list (rs.map runD))
  | _ => False
def S_runs_between : FS := fun ds k => match ds with
  | [d, .int a, .int b] => ∃ (D : Ds) (rs : Rn), d = dsD D ∧ DsB D ∧ Win (mem D) a b rs ∧ rs.length ≤ 40000 ∧ k (.list (rs.map runD))
  | _ => False
-- holds: ['dayset', 'day', 'left', 'low', 'runs', 'high', 'right', 'begun']
abbrev N_holds : List Str := ["dayset", "day", "left", "low", "runs", "high", "right", "begun"]
def p_holds : PS' := (pSeq (pAsg (pVar 0) (pgT [2, 3, 4, 5, 6]))
      (pSeq (pIfS (pTst (pII (fun i j => .bool (decide (i < j))) (pVar 1) (pVar 3))) (pRet (pCall 2 S_side_holds (pCons (pVar 2) (pCons (pVar 1) pNil)))) pNext)
      (pSeq (pIfS (pTst (pII (fun i j => .bool (decide (j ≤ i))) (pVar 1) (pVar 5))) (pRet (pCall 2 S_side_holds (pCons (pVar 6) (pCons (pVar 1) pNil)))) pNext)
      (pSeq (pAsg (pCall 2 S_count_below (pCons (pVar 4) (pCons (pTup (pCons (pPlus (pVar 1) (pC (.int 1))) pNil)) pNil))) (pgN 7))
      (pRet (pAndV (pII (fun i j => .bool (decide (j < i))) (pVar 7) (pC (.int 0))) (pII (fun i j => .bool (decide (i < j))) (pVar 1) (pIx (pIx (pVar 4) (pII (fun i j => .int (i - j)) (pVar 7) (pC (.int 1)))) (pC (.int 1))))))))))
-- side_borders: ['side', 'begin', 'end', 'period', 'borders', '_', 'found', 'turn', 'place']
abbrev N_side_borders : List Str := ["side", "begin", "end", "period", "borders", "_", "found", "turn", "place"]
def p_side_borders : PS' := (pSeq (pAsg (pVar 0) (pgT [3, 4, 5]))
      (pSeq (pAsgO (pLst pNil) 6)
      (pSeq (pIfS (pOr (pNot (pTru (pVar 4))) (pTst (pII (fun i j => .bool (decide (j ≤ i))) (pVar 1) (pVar 2)))) (pRetO 6) pNext)
      (pSeq (pAsg (pII (fun i j => .int (i - j)) (pVar 1) (pIIc (fun _ j => 0 < j) (fun i j => .int (i % j)) (pVar 1) (pVar 3))) (pgN 7))
      (pSeq (pAsg (pCall 2 S_count_below (pCons (pVar 4) (pCons (pIIc (fun _ j => 0 < j) (fun i j => .int (i % j)) (pVar 1) (pVar 3)) pNil))) (pgN 8))
      (pWhile (pTst (pC (.bool true))) (pSeq (pIfS (pTst (pEqD false (pVar 8) (pFn fLen (pCons (pVar 4) pNil)))) (pSeq (pAsg (pC (.int 0)) (pgN 8))
      (pAug 7 (fun i j => i + j) (pVar 3))) pNext)
      (pSeq (pIfS (pTst (pII (fun i j => .bool (decide (j ≤ i))) (pPlus (pVar 7) (pIx (pVar 4) (pVar 8))) (pVar 2))) (pRetO 6) pNext)
      (pSeq (pApp 6 (pPlus (pVar 7) (pIx (pVar 4) (pVar 8))))
      (pAug 8 (fun i j => i + j) (pC (.int 1))))))))))))
-- middle_borders: ['dayset', '_', 'low', 'runs', 'high', 'borders', 'run', 'border']
abbrev N_middle_borders : List Str := ["dayset", "_", "low", "runs", "high", "borders", "run", "border"]
def p_middle_borders : PS' := (pSeq (pAsg (pVar 0) (pgT [1, 2, 3, 4, 1]))
      (pSeq (pAsgO (pLc2 [6, 7] [7] (pVar 3) (pgN 6) (pVar 6) (pgN 7) (pTst (pChain (fun i j => decide (i < j)) (fun i j => decide (i < j)) (pVar 2) (pVar 7) (pVar 4))) (pVar 7)) 5)
      (pSeq (pIfS (pTst (pEqD true (pCall 2 S_holds (pCons (pVar 0) (pCons (pII (fun i j => .int (i - j)) (pVar 2) (pC (.int 1))) pNil))) (pCall 2 S_holds (pCons (pVar 0) (pCons (pVar 2) pNil))))) (pAsgO (pLst (pCons (pVar 2) (pStarO 5 pNil))) 5) pNext)
      (pSeq (pIfS (pAnd (pTst (pII (fun i j => .bool (decide (i < j))) (pVar 2) (pVar 4))) (pTst (pEqD true (pCall 2 S_holds (pCons (pVar 0) (pCons (pII (fun i j => .int (i - j)) (pVar 4) (pC (.int 1))) pNil))) (pCall 2 S_holds (pCons (pVar 0) (pCons (pVar 4) pNil)))))) (pApp 5 (pVar 4)) pNext)
      (pRetO 5)))))
-- borders_between: ['dayset', 'begin', 'end', 'left', 'low', '_', 'high', 'right', 'found', 'border']
abbrev N_borders_between : List Str := ["dayset", "begin", "end", "left", "low", "_", "high", "right", "found", "border"]
def p_borders_between : PS' := (pSeq (pAsg (pVar 0) (pgT [3, 4, 5, 6, 7]))
      (pSeq (pAsgO (pCallF 3 S_side_borders (pCons (pVar 3) (pCons (pVar 1) (pCons (pFn fMin2 (pCons (pVar 2) (pCons (pVar 4) pNil))) pNil)))) 8)
      (pSeq (pIfS (pAnd (pTst (pII (fun i j => .bool (decide (i ≤ j))) (pVar 1) (pVar 6))) (pTst (pII (fun i j => .bool (decide (i < j))) (pVar 4) (pVar 2)))) (pExt 8 (pNew (pLcS [9] [9] (pLO (pCall 1 S_middle_borders (pCons (pVar 0) pNil))) (pgN 9) (pTst (pChain (fun i j => decide (i ≤ j)) (fun i j => decide (i < j)) (pVar 1) (pVar 9) (pVar 2))) (pVar 9)))) pNext)
      (pSeq (pExt 8 (pNew (pCallF 3 S_side_borders (pCons (pVar 7) (pCons (pFn fMax2 (pCons (pVar 1) (pCons (pPlus (pVar 6) (pC (.int 1))) pNil))) (pCons (pVar 2) pNil))))))
      (pRetO 8)))))
-- runs_between: ['dayset', 'begin', 'end']
abbrev N_runs_between : List Str := ["dayset", "begin", "end"]
def p_runs_between : PS' := (pSeq (pIfS (pTst (pII (fun i j => .bool (decide (j ≤ i))) (pVar 1) (pVar 2))) (pRet (pNew (pLst pNil))) pNext)
      (pRet (pCall 4 S_paired (pCons (pVar 1) (pCons (pCall 2 S_holds (pCons (pVar 0) (pCons (pVar 1) pNil))) (pCons (pCall 3 S_borders_between (pCons (pVar 0) (pCons (pPlus (pVar 1) (pC (.int 1))) (pCons (pVar 2) pNil)))) (pCons (pVar 2) pNil)))))))
-- paired: ['begin', 'inside', 'borders', 'end', 'marks']
abbrev N_paired : List Str := ["begin", "inside", "borders", "end", "marks"]
def p_paired : PS' := (pSeq (pAsgO (pIfL (pTru (pVar 1)) (pLst (pCons (pVar 0) (pStar (pVar 2) pNil))) (pListOf (pVar 2))) 4)
      (pSeq (pIfS (pTst (pEqD false (pIIc (fun _ j => 0 < j) (fun i j => .int (i % j)) (pLenO 4) (pC (.int 2))) (pC (.int 1)))) (pApp 4 (pVar 3)) pNext)
      (pRet (pNew (pListZip (pCons (pNew (pPickO 4 pNoP pNoP (pPart (pC (.int 2))))) (pCons (pNew (pPickO 4 (pPart (pC (.int 1))) pNoP (pPart (pC (.int 2))))) pNil)))))))
theorem cnt_cons (b : Int) (r : List Int) (x : Int) : cnt (b :: r) x = (if b < x then 1 else 0) + cnt r x := rfl
theorem starts_in : ∀ {rs : Rn} {lo : Int}, RunsFrom lo rs → ∀ x, (inRuns rs x = true ↔ ∃ r, rs[cnt (rs.map fun r => r.1) (x + 1) - 1]? = some r ∧ 0 < cnt (rs.map fun r => r.1) (x + 1) ∧ x < r.2)
  | [], _, _, x => ⟨fun h => (by cases h), fun ⟨r, h, _⟩ => (by simp at h)⟩
  | (u, v) :: r, lo, ⟨h1, h2, h3⟩, x => by
    have ih := starts_in h3 x
    have A := starts_asc h3 (Int.le_refl _)
    rw [in_cons]
    show _ ↔ ∃ q, ((u, v) :: r)[cnt (u :: r.map fun r => r.1) (x + 1) - 1]? = some q ∧ 0 < cnt (u :: r.map fun r => r.1) (x + 1) ∧ x < q.2
    by_cases c1 : u ≤ x
    · have e : cnt (u :: r.map fun r => r.1) (x + 1) = 1 + cnt (r.map fun r => r.1) (x + 1) := by
        rw [cnt_cons, if_pos (by omega)]
      rw [e]
      by_cases c2 : cnt (r.map fun r => r.1) (x + 1) = 0
      · rw [c2]
        have no : inRuns r x = false := by
          rcases Bool.eq_false_or_eq_true (inRuns r x) with z | z
          · obtain ⟨_, _, p, _⟩ := ih.mp z
            omega
          · exact z
        rw [no, decide_eq_true c1, Bool.true_and, Bool.or_false, decide_eq_true_eq]
        exact ⟨fun h => ⟨(u, v), rfl, by decide, h⟩, fun ⟨q, h, _, k⟩ => by cases h; exact k⟩
      · have vx : v + 1 ≤ x := by
          rcases Int.lt_or_le x (v + 1) with z | z
          · exact absurd (cnt_zero A (show x + 1 ≤ v + 1 by omega)) c2
          · exact z
        rw [decide_eq_false (show ¬ x < v by omega), Bool.and_false, Bool.false_or, ih]
        have e2 : 1 + cnt (r.map fun r => r.1) (x + 1) - 1 = (cnt (r.map fun r => r.1) (x + 1) - 1) + 1 := by omega
        rw [e2, List.getElem?_cons_succ]
        exact ⟨fun ⟨q, k1, k2, k3⟩ => ⟨q, k1, by omega, k3⟩, fun ⟨q, k1, k2, k3⟩ => ⟨q, k1, by omega, k3⟩⟩
    · have e : cnt (u :: r.map fun r => r.1) (x + 1) = 0 := by
        unfold cnt
        rw [if_neg (by omega), cnt_zero A (by omega)]
      rw [e, decide_eq_false c1, Bool.false_and, Bool.false_or, inRuns_lo h3 (by omega)]
      exact ⟨fun h => (by cases h), fun ⟨_, _, h, _⟩ => (by omega)⟩
theorem pure_holds (ds : List PyData) (c : PyData → Prop) (hl : ds.length = 2) (h : S_holds ds c) : p_holds (fin c) (startE N_holds ds) := by
  unfold S_holds at h
  split at h
  · rename_i d x
    obtain ⟨D, rfl, B, h⟩ := h
    have ok := B.ok
    refine ⟨rfl, ?_⟩
    refine ifd (fun z => ?_) (fun z => ?_)
    · exact ⟨rfl, D.l, rfl, ⟨ok.l, B.l⟩, by rw [← mem_lo z]; exact h⟩
    refine ifd (fun y => ?_) (fun y => ?_)
    · exact ⟨rfl, D.r, rfl, ⟨ok.r, B.r⟩, by rw [← mem_hi z (by omega)]; exact h⟩
    have em := mem_mid z (show x < D.high by omega)
    refine ⟨by show 1 ≤ 100000; decide, rfl, D.rs, D.low, .inl rfl, ok.rs, Nat.le_trans B.n (by decide), ?_⟩
    have key := starts_in ok.rs x
    show (if decide ((0 : Int) < (cnt (D.rs.map fun r => r.1) (x + 1) : Nat)) = true then _ else _)
    refine ifd (fun w => ?_) (fun w => ?_)
    · have lt : cnt (D.rs.map fun r => r.1) (x + 1) - 1 < D.rs.length := by
        have := cnt_le (D.rs.map fun r => r.1) (x + 1)
        rw [List.length_map] at this
        omega
      have e : atI (D.rs.map runD) (((cnt (D.rs.map fun r => r.1) (x + 1) : Nat) : Int) - 1) = some (runD D.rs[cnt (D.rs.map fun r => r.1) (x + 1) - 1]) := by
        rw [show ((cnt (D.rs.map fun r => r.1) (x + 1) : Nat) : Int) - 1 = ((cnt (D.rs.map fun r => r.1) (x + 1) - 1 : Nat) : Int) by omega]
        refine atI_nat ?_
        rw [List.getElem?_map, List.getElem?_eq_getElem lt]
        rfl
      refine oSome e ?_
      show c (.bool (decide (x < (D.rs[cnt (D.rs.map fun r => r.1) (x + 1) - 1]).2)))
      have : decide (x < (D.rs[cnt (D.rs.map fun r => r.1) (x + 1) - 1]).2) = mem D x := by
        rw [em]
        rcases Bool.eq_false_or_eq_true (inRuns D.rs x) with q | q
        · obtain ⟨r, k1, k2, k3⟩ := key.mp q
          rw [List.getElem?_eq_getElem lt] at k1
          cases k1
          rw [q, decide_eq_true k3]
        · rw [q, decide_eq_false]
          intro k
          have := key.mpr ⟨_, List.getElem?_eq_getElem lt, by omega, k⟩
          rw [q] at this
          cases this
      rw [this]
      exact h
    · show c (.bool false)
      have : mem D x = false := by
        rw [em]
        rcases Bool.eq_false_or_eq_true (inRuns D.rs x) with q | q
        · obtain ⟨r, k1, k2, k3⟩ := key.mp q
          omega
        · exact q
      rw [this] at h
      exact h
  · exact h.elim
end Pr
namespace Pr
open PySem L2 Pu N7
theorem nums_snoc (l : List Int) (x : Int) : nums (l ++ [x]) = nums l ++ [.int x] := List.map_append
abbrev finF (c : PyData → Prop) : PEnds := ⟨fun _ => False, fun d _ => c d, fun _ => False, fun _ => False⟩
theorem rp_next {s : Sd} {base : Int} {n : Nat} {turn place : Int} (hm : 0 < s.bs.length) (R : Rp s base n turn place) :
    (place = (s.bs.length : Nat) → n % s.bs.length = 0 ∧ turn + s.p = base + s.p * ((n / s.bs.length : Nat) : Int)) ∧ (place ≠ (s.bs.length : Nat) → place = ((n % s.bs.length : Nat) : Int) ∧ turn = base + s.p * ((n / s.bs.length : Nat) : Int)) := by
  rcases R.rep with ⟨r1, r2, r3⟩ | ⟨r1, r2, r3⟩
  · subst r2
    refine ⟨fun z => by omega, fun z => ⟨by rw [Nat.zero_mod]; exact r1, ?_⟩⟩
    rw [Nat.zero_div, r3]
    simp
  · have em := Nat.mod_lt (n - 1) hm
    have ed := Nat.div_add_mod (n - 1) s.bs.length
    refine ⟨fun z => ?_, fun z => ?_⟩
    · obtain ⟨d1, d2⟩ := divq (n := n) (m := s.bs.length) (q := (n - 1) / s.bs.length + 1) (r := 0) (by rw [Nat.mul_add]; omega) hm
      refine ⟨d2, ?_⟩
      rw [d1, r3, Int.natCast_add, Int.mul_add]
      omega
    · obtain ⟨d1, d2⟩ := divq (n := n) (m := s.bs.length) (q := (n - 1) / s.bs.length) (r := (n - 1) % s.bs.length + 1) (by omega) (by omega)
      rw [d1, d2]
      exact ⟨r2, r3⟩
theorem pure_side_borders (ds : List PyData) (c : PyData → Prop) (hl : ds.length = 3) (h : S_side_borders ds c) : p_side_borders (finF c) (startE N_side_borders ds) := by
  unfold S_side_borders at h
  split at h
  · rename_i d b e
    obtain ⟨s, l, rfl, hs, B, hl2, h⟩ := h
    have ok := hs.ok
    have p1 := ok.p1
    refine ⟨rfl, by decide, Nat.zero_le _, ⟨_, rfl, ?_⟩⟩
    have none_ : l = [] → pRetO 6 (finF c) ([.d (sideD s), .d (.int b), .d (.int e), .d (.int s.p), .d (.tuple (nums s.bs)), .d (.bool s.f), .own [], .no, .no] : En) := fun el => by
      subst el
      exact h
    refine tf (fun z => ?_) (fun z => ?_)
    · have z : s.bs = [] := by
        cases q : s.bs with
        | nil => rfl
        | cons a r =>
          rw [q] at z
          cases z
      exact none_ (brd_one B (brd_flat z _ _))
    · have z : s.bs ≠ [] := fun q => by
        rw [q] at z
        cases z
      have hm : 0 < s.bs.length := List.length_pos_iff.mpr z
      refine ifd (fun y => none_ (brd_one B (brd_nil y))) (fun y => ?_)
      refine ⟨by show 0 < s.p; omega, ?_⟩
      refine ⟨by show 0 < s.p; omega, rfl, s.bs, 0, s.p, .inl rfl, ok.asc, Nat.le_trans hs.n (by decide), ?_⟩
      have r0 := Int.emod_nonneg b (show s.p ≠ 0 by omega)
      have kl := cnt_le s.bs (b % s.p)
      refine ⟨fun m ρ => ∃ (n : Nat) (turn place : Int), ρ = [.d (sideD s), .d (.int b), .d (.int e), .d (.int s.p), .d (.tuple (nums s.bs)), .d (.bool s.f), .own (nums (sbs s b n)), .d (.int turn), .d (.int place)] ∧ Rp s (b - b % s.p) (cnt s.bs (b % s.p) + n) turn place ∧ (∀ i, i < n → b - b % s.p + bd s (cnt s.bs (b % s.p) + i) < e) ∧ m = (e - (b - b % s.p + bd s (cnt s.bs (b % s.p) + n))).toNat, ⟨_, 0, _, _, rfl, ⟨?_⟩, fun i hi => absurd hi (Nat.not_lt_zero _), rfl⟩, ?_⟩
      · by_cases k0 : cnt s.bs (b % s.p) = 0
        · exact .inl ⟨by rw [k0]; rfl, by omega, rfl⟩
        · refine .inr ⟨by omega, ?_, ?_⟩
          · rw [Nat.add_zero, Nat.mod_eq_of_lt (by omega)]
            omega
          · rw [Nat.add_zero, Nat.div_eq_of_lt (by omega)]
            simp
      · rintro m ρ ⟨n, turn, place, rfl, R, lt, rfl⟩
        obtain ⟨rn1, rn2⟩ := rp_next hm R
        -- from the right place on
        have rest : ∀ turn2 place2 : Int, place2 = (((cnt s.bs (b % s.p) + n) % s.bs.length : Nat) : Int) → turn2 = b - b % s.p + s.p * (((cnt s.bs (b % s.p) + n) / s.bs.length : Nat) : Int) →
            (pSeq (pIfS (pTst (pII (fun i j => .bool (decide (j ≤ i))) (pPlus (pVar 7) (pIx (pVar 4) (pVar 8))) (pVar 2))) (pRetO 6) pNext)
      (pSeq (pApp 6 (pPlus (pVar 7) (pIx (pVar 4) (pVar 8))))
      (pAug 8 (fun i j => i + j) (pC (.int 1)))))
              { finF c with nx := fun ρ2 => ∃ m', m' < (e - (b - b % s.p + bd s (cnt s.bs (b % s.p) + n))).toNat ∧ ∃ (n : Nat) (turn place : Int), ρ2 = [.d (sideD s), .d (.int b), .d (.int e), .d (.int s.p), .d (.tuple (nums s.bs)), .d (.bool s.f), .own (nums (sbs s b n)), .d (.int turn), .d (.int place)] ∧ Rp s (b - b % s.p) (cnt s.bs (b % s.p) + n) turn place ∧ (∀ i, i < n → b - b % s.p + bd s (cnt s.bs (b % s.p) + i) < e) ∧ m' = (e - (b - b % s.p + bd s (cnt s.bs (b % s.p) + n))).toNat }
              ([.d (sideD s), .d (.int b), .d (.int e), .d (.int s.p), .d (.tuple (nums s.bs)), .d (.bool s.f), .own (nums (sbs s b n)), .d (.int turn2), .d (.int place2)] : En) := by
          intro turn2 place2 e1 e2
          have at_ : atI (nums s.bs) place2 = some (.int (s.bs.getD ((cnt s.bs (b % s.p) + n) % s.bs.length) 0)) := by
            rw [e1]
            exact nums_at (Nat.mod_lt _ hm)
          have ev : turn2 + s.bs.getD ((cnt s.bs (b % s.p) + n) % s.bs.length) 0 = b - b % s.p + bd s (cnt s.bs (b % s.p) + n) := by
            unfold bd
            rw [e2]
            omega
          refine oSome at_ ?_
          show (if decide (e ≤ turn2 + s.bs.getD ((cnt s.bs (b % s.p) + n) % s.bs.length) 0) = true then _ else _)
          rw [ev]
          refine ifd (fun w => ?_) (fun w => ?_)
          · have := brd_one B (sbs_brd ok hm lt w)
            subst this
            exact h
          · have lt' : ∀ i, i < n + 1 → b - b % s.p + bd s (cnt s.bs (b % s.p) + i) < e := fun i hi => by
              rcases Nat.lt_or_ge i n with q | q
              · exact lt i q
              · rw [show i = n by omega]
                omega
            have lt2 := bd_lt ok hm (show cnt s.bs (b % s.p) + n < cnt s.bs (b % s.p) + (n + 1) by omega)
            have len : n + 1 ≤ l.length := by
              have q := sbs_brd (s := s) (b := b) (e := b - b % s.p + bd s (cnt s.bs (b % s.p) + (n + 1))) (n := n + 1) ok hm (fun i hi => by
                have := bd_lt ok hm (show cnt s.bs (b % s.p) + i < cnt s.bs (b % s.p) + (n + 1) by omega)
                omega) (Int.le_refl _)
              have := asc_sub_len q.asc B.asc fun d m => by
                obtain ⟨i, hi, rfl⟩ := List.mem_map.mp m
                have k := (q.mem _).mp m
                exact (B.mem _).mpr ⟨k.1, lt' i (List.mem_range.mp hi), k.2.2⟩
              rw [sbs_len] at this
              exact this
            refine oSome at_ ⟨by rw [List.length_map, sbs_len]; omega, ?_⟩
            refine ⟨(e - (b - b % s.p + bd s (cnt s.bs (b % s.p) + (n + 1)))).toNat, by omega, n + 1, turn2, place2 + 1, ?_, ⟨.inr ⟨by omega, ?_, ?_⟩⟩, lt', rfl⟩
            · show ([.d (sideD s), .d (.int b), .d (.int e), .d (.int s.p), .d (.tuple (nums s.bs)), .d (.bool s.f), .own (nums (sbs s b n) ++ [.int (turn2 + s.bs.getD ((cnt s.bs (b % s.p) + n) % s.bs.length) 0)]), .d (.int turn2), .d (.int (place2 + 1))] : En) = _
              rw [ev, sbs_succ, nums_snoc]
            · rw [show cnt s.bs (b % s.p) + (n + 1) - 1 = cnt s.bs (b % s.p) + n by omega]
              omega
            · rw [show cnt s.bs (b % s.p) + (n + 1) - 1 = cnt s.bs (b % s.p) + n by omega]
              exact e2
        refine ⟨_, rfl, rfl, rfl, ?_⟩
        show (if PyData.eqv (.int place) (.int ((nums s.bs).length : Nat)) = true then _ else _)
        rw [eqv_int, List.length_map]
        refine ifd (fun w => ?_) (fun w => ?_)
        · obtain ⟨q1, q2⟩ := rn1 w
          exact rest (turn + s.p) 0 (by rw [q1]; rfl) q2
        · obtain ⟨q1, q2⟩ := rn2 w
          exact rest turn place q1 q2
  · exact h.elim
end Pr
namespace Pr
open PySem L2 Pu N7
theorem pure_middle_borders (ds : List PyData) (c : PyData → Prop) (hl : ds.length = 1) (h : S_middle_borders ds c) : p_middle_borders (fin c) (startE N_middle_borders ds) := by
  unfold S_middle_borders at h
  split at h
  · rename_i d
    obtain ⟨D, rfl, B, h⟩ := h
    have lh := ok_lh B.ok
    refine ⟨rfl, by decide, ?_⟩
    -- the borders within
    have blen : ∀ rs : Rn, ((flat rs).filter fun x => decide (D.low < x) && decide (x < D.high)).length ≤ 2 * rs.length := fun rs => by
      have := List.length_filter_le (fun x => decide (D.low < x) && decide (x < D.high)) (flat rs)
      rw [flat_length] at this
      exact this
    refine ⟨by simp [Pu.cellAt, startE, Pu.setAll, Pu.cellSet], rfl, fun i acc => acc = nums ((flat (D.rs.take i)).filter fun x => decide (D.low < x) && decide (x < D.high)), rfl, ?_, ?_⟩
    · rintro i d acc hd rfl
      obtain ⟨⟨x, y⟩, hx, rfl⟩ := map_at hd
      have tk := take_more hx
      have il : i < D.rs.length := lt_of_at hx
      have bl := blen (D.rs.take i)
      rw [List.length_take] at bl
      have hn := B.n
      have e1 : ((flat (D.rs.take (i + 1))).filter fun x => decide (D.low < x) && decide (x < D.high)) = ((flat (D.rs.take i)).filter fun x => decide (D.low < x) && decide (x < D.high)) ++ [x, y].filter fun z => decide (D.low < z) && decide (z < D.high) := by
        rw [tk, flat_snoc, List.filter_append]
      refine ⟨by simp [Pu.cellAt, startE, Pu.cellSet, Pu.setAll], rfl, fun j acc => acc = nums (((flat (D.rs.take i)).filter fun x => decide (D.low < x) && decide (x < D.high)) ++ ([x, y].take j).filter fun z => decide (D.low < z) && decide (z < D.high)), by simp, ?_, ?_⟩
      · rintro j e acc hj rfl
        obtain ⟨z, hz, rfl⟩ := map_at (f := PyData.int) (l := [x, y]) hj
        have tk2 := take_more hz
        have fl : (([x, y].take j).filter fun z => decide (D.low < z) && decide (z < D.high)).length ≤ 2 := by
          have := List.length_filter_le (fun z => decide (D.low < z) && decide (z < D.high)) ([x, y].take j)
          rw [List.length_take] at this
          have : ([x, y] : List Int).length = 2 := rfl
          omega
        have yes : ∀ b : Bool, (decide (D.low < z) && decide (z < D.high)) = b → (if b = true then nums (((flat (D.rs.take i)).filter fun x => decide (D.low < x) && decide (x < D.high)) ++ ([x, y].take j).filter fun z => decide (D.low < z) && decide (z < D.high)) ++ [PyData.int z] = nums (((flat (D.rs.take i)).filter fun x => decide (D.low < x) && decide (x < D.high)) ++ ([x, y].take (j + 1)).filter fun z => decide (D.low < z) && decide (z < D.high)) else
            nums (((flat (D.rs.take i)).filter fun x => decide (D.low < x) && decide (x < D.high)) ++ ([x, y].take j).filter fun z => decide (D.low < z) && decide (z < D.high)) = nums (((flat (D.rs.take i)).filter fun x => decide (D.low < x) && decide (x < D.high)) ++ ([x, y].take (j + 1)).filter fun z => decide (D.low < z) && decide (z < D.high))) := fun b hb => by
          rw [tk2, List.filter_append, List.filter_cons, hb]
          cases b with
          | true => simp
          | false => simp
        show (if decide (D.low < z) = true then _ else _)
        refine ifd (fun q => ?_) (fun q => ?_)
        · refine ⟨rfl, ?_⟩
          show (if decide (z < D.high) = true then _ else _)
          have := yes (decide (z < D.high)) (by rw [decide_eq_true q, Bool.true_and])
          refine tf (fun w => ?_) (fun w => ?_)
          · rw [if_pos w] at this
            exact ⟨rfl, by rw [List.length_map, List.length_append]; omega, this⟩
          · rw [w, if_neg Bool.false_ne_true] at this
            exact this
        · refine ⟨rfl, ?_⟩
          exact yes false (by rw [decide_eq_false q, Bool.false_and])
      · rintro acc rfl
        show nums _ = nums _
        rw [e1]
        rfl
    · rintro acc rfl
      have ef : D.rs.take (D.rs.map runD).length = D.rs := by rw [List.length_map, List.take_length]
      rw [ef]
      have hn := B.n
      have bl := blen D.rs
      -- the last one
      have last : ∀ l : List Int, l.length ≤ 80001 → l ++ (if decide (D.low < D.high) && (mem D (D.high - 1) != mem D D.high) then [D.high] else []) = midB D →
          (pSeq (pIfS (pAnd (pTst (pII (fun i j => .bool (decide (i < j))) (pVar 2) (pVar 4))) (pTst (pEqD true (pCall 2 S_holds (pCons (pVar 0) (pCons (pII (fun i j => .int (i - j)) (pVar 4) (pC (.int 1))) pNil))) (pCall 2 S_holds (pCons (pVar 0) (pCons (pVar 4) pNil)))))) (pApp 5 (pVar 4)) pNext)
      (pRetO 5)) (fin c) ([.d (dsD D), .d (sideD D.r), .d (.int D.low), .d (runsD D.rs), .d (.int D.high), .own (nums l), .no, .no] : En) := fun l ll el => by
        show (if decide (D.low < D.high) = true then _ else _)
        refine ifd (fun z => ?_) (fun z => ?_)
        · rw [decide_eq_true z, Bool.true_and] at el
          refine ⟨rfl, D, rfl, B, ?_⟩
          refine ⟨rfl, D, rfl, B, rfl, rfl, ?_⟩
          show (if (!(PyData.eqv (.bool (mem D (D.high - 1))) (.bool (mem D D.high)))) = true then _ else _)
          rw [eqv_bool]
          refine tf (fun w => ?_) (fun w => ?_)
          · rw [if_pos (by rw [bne]; exact w)] at el
            refine ⟨by rw [List.length_map]; omega, ?_⟩
            show c (.list (nums l ++ [.int D.high]))
            rw [← nums_snoc, el]
            exact h
          · rw [if_neg (by rw [bne, w]; exact Bool.false_ne_true), List.append_nil] at el
            subst el
            exact h
        · rw [decide_eq_false z, Bool.false_and, if_neg Bool.false_ne_true, List.append_nil] at el
          subst el
          exact h
      refine ⟨rfl, D, rfl, B, ?_⟩
      refine ⟨rfl, D, rfl, B, rfl, rfl, ?_⟩
      show (if (!(PyData.eqv (.bool (mem D (D.low - 1))) (.bool (mem D D.low)))) = true then _ else _)
      rw [eqv_bool]
      have sw : (mem D D.low != mem D (D.low - 1)) = !(mem D (D.low - 1) == mem D D.low) := by
        cases mem D D.low <;> cases mem D (D.low - 1) <;> rfl
      refine tf (fun w => ?_) (fun w => ?_)
      · refine ⟨by decide, ?_, ?_⟩
        · show (PyData.int D.low :: (nums _ ++ [])).length ≤ 100000
          rw [List.length_cons, List.append_nil, List.length_map]
          omega
        · have e : (PyData.int D.low :: (nums ((flat D.rs).filter fun x => decide (D.low < x) && decide (x < D.high)) ++ [])) = nums (D.low :: ((flat D.rs).filter fun x => decide (D.low < x) && decide (x < D.high))) := by
            rw [List.append_nil]
            rfl
          show (pSeq _ _) (fin c) ([.d (dsD D), .d (sideD D.r), .d (.int D.low), .d (runsD D.rs), .d (.int D.high), .own (PyData.int D.low :: (nums ((flat D.rs).filter fun x => decide (D.low < x) && decide (x < D.high)) ++ [])), .no, .no] : En)
          rw [e]
          refine last _ (by rw [List.length_cons]; omega) ?_
          unfold midB
          rw [show (if mem D D.low != mem D (D.low - 1) then [D.low] else []) = [D.low] from if_pos (by rw [sw]; exact w)]
          rfl
      · refine last _ (by omega) ?_
        unfold midB
        rw [show (if mem D D.low != mem D (D.low - 1) then [D.low] else []) = [] from if_neg (by rw [sw, w]; exact Bool.false_ne_true)]
        rfl
  · exact h.elim
end Pr
namespace Pr
open PySem L2 Pu N7
theorem part_len (P : Int → Bool) (l : List Int) : (l.filter P).length ≤ l.length := List.length_filter_le P l
/-- an ascending row's members within a chain of two bounds, picked one by one -/
theorem pick_turn (P : Int → Bool) (l : List Int) {i : Nat} {x : Int} (hx : l[i]? = some x) : (l.take (i + 1)).filter P = (l.take i).filter P ++ if P x = true then [x] else [] := by
  rw [take_more hx, List.filter_append, List.filter_cons]
  split <;> rfl
theorem pure_borders_between (ds : List PyData) (c : PyData → Prop) (hl : ds.length = 3) (h : S_borders_between ds c) : p_borders_between (fin c) (startE N_borders_between ds) := by
  unfold S_borders_between at h
  split at h
  · rename_i d a e
    obtain ⟨D, l, rfl, B, hB, hn, h⟩ := h
    have ok := B.ok
    have lh := ok_lh ok
    -- its three parts
    have b1 := brd_left.mp (brd_part hB (Int.le_refl a) (show min e D.low ≤ e by omega))
    have b3 := (brd_right lh).mp (brd_part hB (show a ≤ max a (D.high + 1) by omega) (Int.le_refl e))
    generalize h1 : (l.filter fun x => decide (a ≤ x) && decide (x < min e D.low)) = l1 at b1
    generalize h3 : (l.filter fun x => decide (max a (D.high + 1) ≤ x) && decide (x < e)) = l3 at b3
    have n1 : l1.length ≤ l.length := by rw [← h1]; exact part_len _ _
    have n3 : l3.length ≤ l.length := by rw [← h3]; exact part_len _ _
    -- what is in the middle
    have mB := mid_brd ok
    have ml := mid_len D
    have hrs := B.n
    have whole : ∀ l2 : List Int, (∀ x, x ∈ l2 ↔ a ≤ x ∧ x < e ∧ D.low ≤ x ∧ x ≤ D.high ∧ mem D x ≠ mem D (x - 1)) → Asc (max a D.low) (min e (D.high + 1)) l2 → l1 ++ l2 ++ l3 = l := fun l2 m2 A2 => by
      have c1 := brd_left.mpr b1
      have c3 := (brd_right lh).mpr b3
      refine brd_one (h := mem D) (a := a) (b := e) ⟨?_, fun x => ?_⟩ hB
      · have s1 : Asc a (max a D.low) l1 := asc_bound b1.asc fun x m => ⟨(asc_mem b1.asc m).1, by have := (asc_mem b1.asc m).2; omega⟩
        have s2 : Asc (max a D.low) (max (max a D.low) (min e (D.high + 1))) l2 := asc_wide A2 (Int.le_refl _) (by omega)
        have s3 : Asc (max (max a D.low) (min e (D.high + 1))) (max e (max (max a D.low) (min e (D.high + 1)))) l3 := asc_bound b3.asc fun x m => by
          have := asc_mem b3.asc m
          omega
        have s12 : Asc a (max (max a D.low) (min e (D.high + 1))) (l1 ++ l2) := by
          rcases asc_join s1 s2 (by omega) with y | ⟨y, z⟩
          · exact y
          · rw [y]
            exact asc_wide z (by omega) (Int.le_refl _)
        have s123 : Asc a (max e (max (max a D.low) (min e (D.high + 1)))) (l1 ++ l2 ++ l3) := by
          rcases asc_join s12 s3 (by omega) with y | ⟨y, z⟩
          · exact y
          · rw [y]
            exact asc_wide z (by omega) (Int.le_refl _)
        refine asc_bound s123 fun x m => ⟨(asc_mem s123 m).1, ?_⟩
        rcases List.mem_append.mp m with m | m
        · rcases List.mem_append.mp m with m | m
          · have := (asc_mem b1.asc m).2
            omega
          · exact ((m2 x).mp m).2.1
        · exact (asc_mem b3.asc m).2
      · rw [List.mem_append, List.mem_append, c1.mem, m2, c3.mem]
        constructor
        · rintro ((⟨x1, x2, x3⟩ | ⟨x1, x2, x3, x4, x5⟩) | ⟨x1, x2, x3⟩)
          · exact ⟨x1, by omega, x3⟩
          · exact ⟨x1, x2, x5⟩
          · exact ⟨by omega, x2, x3⟩
        · rintro ⟨x1, x2, x3⟩
          by_cases k1 : x < D.low
          · exact .inl (.inl ⟨x1, by omega, x3⟩)
          · by_cases k2 : x ≤ D.high
            · exact .inl (.inr ⟨x1, x2, by omega, k2, x3⟩)
            · exact .inr ⟨by omega, x2, x3⟩
    -- the right side, behind what is found
    have last : ∀ l2 : List Int, (∀ x, x ∈ l2 ↔ a ≤ x ∧ x < e ∧ D.low ≤ x ∧ x ≤ D.high ∧ mem D x ≠ mem D (x - 1)) → Asc (max a D.low) (min e (D.high + 1)) l2 →
        (pSeq (pExt 8 (pNew (pCallF 3 S_side_borders (pCons (pVar 7) (pCons (pFn fMax2 (pCons (pVar 1) (pCons (pPlus (pVar 6) (pC (.int 1))) pNil))) (pCons (pVar 2) pNil))))))
      (pRetO 8)) (fin c) ([.d (dsD D), .d (.int a), .d (.int e), .d (sideD D.l), .d (.int D.low), .d (runsD D.rs), .d (.int D.high), .d (sideD D.r), .own (nums (l1 ++ l2)), .no] : En) := fun l2 m2 A2 => by
      have w := whole l2 m2 A2
      have wl : (l1 ++ l2).length + l3.length = l.length := by rw [← w, List.length_append (bs := l3)]
      refine ⟨rfl, D.r, l3, rfl, ⟨ok.r, B.r⟩, ?_, by omega, ?_⟩
      · rw [max_py]
        exact b3
      · show (nums (l1 ++ l2)).length + (nums l3).length ≤ 100000 ∧ c (.list (nums (l1 ++ l2) ++ nums l3))
        rw [List.length_map, List.length_map]
        refine ⟨by omega, ?_⟩
        have e2 : nums (l1 ++ l2) ++ nums l3 = nums l := by
          rw [← w]
          exact List.map_append.symm
        rw [e2]
        exact h
    refine ⟨rfl, by decide, rfl, D.l, l1, rfl, ⟨ok.l, B.l⟩, ?_, by omega, ?_⟩
    · rw [min_py]
      exact b1
    · show (if decide (a ≤ D.high) = true then _ else _)
      refine ifd (fun z => ?_) (fun z => ?_)
      · show (if decide (D.low < e) = true then _ else _)
        refine ifd (fun y => ?_) (fun y => ?_)
        · -- the middle's own
          refine ⟨by simp [Pu.cellAt, startE, Pu.setAll, Pu.cellSet], rfl, D, rfl, B, rfl, fun i acc => acc = nums (((midB D).take i).filter fun x => decide (a ≤ x) && decide (x < e)), rfl, ?_, ?_⟩
          · rintro i d acc hd rfl
            obtain ⟨x, hx, rfl⟩ := map_at hd
            have pt := pick_turn (fun x => decide (a ≤ x) && decide (x < e)) (midB D) hx
            have pl := part_len (fun x => decide (a ≤ x) && decide (x < e)) ((midB D).take i)
            rw [List.length_take] at pl
            have yes : ∀ b : Bool, (decide (a ≤ x) && decide (x < e)) = b → (if b = true then nums (((midB D).take i).filter fun x => decide (a ≤ x) && decide (x < e)) ++ [PyData.int x] = nums (((midB D).take (i + 1)).filter fun x => decide (a ≤ x) && decide (x < e)) else nums (((midB D).take i).filter fun x => decide (a ≤ x) && decide (x < e)) = nums (((midB D).take (i + 1)).filter fun x => decide (a ≤ x) && decide (x < e))) := fun b hb => by
              rw [pt, hb]
              cases b with
              | true =>
                rw [if_pos rfl, if_pos rfl, nums_snoc]
              | false =>
                rw [if_neg Bool.false_ne_true, if_neg Bool.false_ne_true, List.append_nil]
            show (if decide (a ≤ x) = true then _ else _)
            refine ifd (fun q => ?_) (fun q => ?_)
            · refine ⟨rfl, ?_⟩
              show (if decide (x < e) = true then _ else _)
              have := yes (decide (x < e)) (by rw [decide_eq_true q, Bool.true_and])
              refine tf (fun w => ?_) (fun w => ?_)
              · rw [if_pos w] at this
                exact ⟨rfl, by rw [List.length_map]; omega, this⟩
              · rw [w, if_neg Bool.false_ne_true] at this
                exact this
            · exact ⟨rfl, yes false (by rw [decide_eq_false q, Bool.false_and])⟩
          · rintro acc rfl
            have et : (midB D).take (nums (midB D)).length = midB D := by rw [List.length_map, List.take_length]
            rw [et]
            have m2 : ∀ x, x ∈ ((midB D).filter fun x => decide (a ≤ x) && decide (x < e)) ↔ a ≤ x ∧ x < e ∧ D.low ≤ x ∧ x ≤ D.high ∧ mem D x ≠ mem D (x - 1) := fun x => by
              rw [List.mem_filter, mB.mem, Bool.and_eq_true, decide_eq_true_eq, decide_eq_true_eq]
              exact ⟨fun ⟨⟨q1, q2, q3⟩, q4, q5⟩ => ⟨q4, q5, q1, by omega, q3⟩, fun ⟨q1, q2, q3, q4, q5⟩ => ⟨⟨q3, by omega, q5⟩, q1, q2⟩⟩
            have A2 : Asc (max a D.low) (min e (D.high + 1)) ((midB D).filter fun x => decide (a ≤ x) && decide (x < e)) := asc_bound (asc_filter2 _ mB.asc) fun x m => by
              have := (m2 x).mp m
              omega
            have w := whole _ m2 A2
            have wl : l1.length + ((midB D).filter fun x => decide (a ≤ x) && decide (x < e)).length ≤ l.length := by rw [← w, List.length_append, List.length_append]; omega
            show (nums l1).length + (nums ((midB D).filter fun x => decide (a ≤ x) && decide (x < e))).length ≤ 100000 ∧ _
            rw [List.length_map, List.length_map]
            refine ⟨by omega, ?_⟩
            have k := last _ m2 A2
            have e2 : nums (l1 ++ (midB D).filter fun x => decide (a ≤ x) && decide (x < e)) = nums l1 ++ nums ((midB D).filter fun x => decide (a ≤ x) && decide (x < e)) := List.map_append
            rw [e2] at k
            exact k
        · have k := last [] (fun x => ⟨fun m => by simp at m, fun ⟨q1, q2, q3, _⟩ => by omega⟩) trivial
          rw [List.append_nil] at k
          exact k
      · have k := last [] (fun x => ⟨fun m => by simp at m, fun ⟨q1, q2, q3, q4, _⟩ => by omega⟩) trivial
        rw [List.append_nil] at k
        exact k
  · exact h.elim
/-! every second one -/
theorem evens_map {α β : Type} (f : α → β) : ∀ l : List α, evens (l.map f) = (evens l).map f
  | [] => rfl
  | [a] => rfl
  | a :: b :: r => by
    show f a :: evens (r.map f) = f a :: (evens r).map f
    rw [evens_map f r]
theorem evens_flat : ∀ rs : Rn, evens (flat rs) = rs.map fun r => r.1
  | [] => rfl
  | (a, b) :: r => by
    show a :: evens (flat r) = a :: _
    rw [evens_flat r]
theorem evens_len {α : Type} : ∀ l : List α, (evens l).length ≤ l.length
  | [] => Nat.le_refl _
  | [a] => Nat.le_refl _
  | a :: b :: r => by
    have := evens_len r
    show (evens r).length + 1 ≤ r.length + 1 + 1
    omega
theorem evens_flat2 : ∀ rs : Rn, evens ((flat rs).drop 1) = rs.map fun r => r.2
  | [] => rfl
  | (a, b) :: r => by
    have ih := evens_flat2 r
    show evens (b :: flat r) = b :: _
    cases r with
    | nil => rfl
    | cons p t =>
      obtain ⟨u, v⟩ := p
      show b :: evens (v :: flat t) = b :: _
      rw [← ih]
      rfl
theorem zip_runs : ∀ rs : Rn, ((nums (rs.map fun r => r.1)).zip (nums (rs.map fun r => r.2))).map pairD = rs.map runD
  | [] => rfl
  | (a, b) :: r => by
    show runD (a, b) :: _ = runD (a, b) :: _
    congr 1
    exact zip_runs r
theorem odd_py (n : Nat) : PyData.eqv (.int ((n : Int) % 2)) (.int 1) = odd n := by
  rw [eqv_int]
  unfold odd
  by_cases z : n % 2 = 1
  · rw [decide_eq_true z, decide_eq_true (by omega)]
  · rw [decide_eq_false z, decide_eq_false (by omega)]
theorem pure_paired (ds : List PyData) (c : PyData → Prop) (hl : ds.length = 4) (h : S_paired ds c) : p_paired (fin c) (startE N_paired ds) := by
  unfold S_paired at h
  split at h
  · rename_i a i xs b
    obtain ⟨l, rs, rfl, hn, hf, h⟩ := h
    -- behind the marks
    have rest : ∀ m : List Int, m.length ≤ 90001 → flat rs = m ++ (if odd m.length then [b] else []) →
        (pSeq (pIfS (pTst (pEqD false (pIIc (fun _ j => 0 < j) (fun i j => .int (i % j)) (pLenO 4) (pC (.int 2))) (pC (.int 1)))) (pApp 4 (pVar 3)) pNext)
      (pRet (pNew (pListZip (pCons (pNew (pPickO 4 pNoP pNoP (pPart (pC (.int 2))))) (pCons (pNew (pPickO 4 (pPart (pC (.int 1))) pNoP (pPart (pC (.int 2))))) pNil)))))) (fin c) ([.d (.int a), .d (.bool i), .d (.list (nums l)), .d (.int b), .own (nums m)] : En) := fun m ml mf => by
      have last : ∀ m : List Int, m.length ≤ 90002 → flat rs = m → (pRet (pNew (pListZip (pCons (pNew (pPickO 4 pNoP pNoP (pPart (pC (.int 2))))) (pCons (pNew (pPickO 4 (pPart (pC (.int 1))) pNoP (pPart (pC (.int 2))))) pNil))))) (fin c) ([.d (.int a), .d (.bool i), .d (.list (nums l)), .d (.int b), .own (nums m)] : En) := fun m ml mf => by
        have e1 : pickV (nums m) none none (some 2) = nums (rs.map fun r => r.1) := by
          rw [pickV_even, evens_map, ← mf, evens_flat]
        have e2 : pickV (nums m) (some 1) none (some 2) = nums (rs.map fun r => r.2) := by
          rw [pickV_odd, ← List.map_drop, evens_map, ← mf, evens_flat2]
        have n1 : rs.length ≤ 45001 := by
          have := flat_length rs
          rw [mf] at this
          omega
        refine ⟨by decide, ?_, by decide, ?_, ?_⟩
        · rw [e1, List.length_map, List.length_map]
          omega
        · rw [e2, List.length_map, List.length_map]
          omega
        · show c (.list (((pickV (nums m) none none (some 2)).zip (pickV (nums m) (some 1) none (some 2))).map pairD))
          rw [e1, e2, zip_runs]
          exact h
      refine ⟨(by decide : (0 : Int) < 2), rfl, rfl, ?_⟩
      show (if PyData.eqv (.int (((nums m).length : Int) % 2)) (.int 1) = true then _ else _)
      rw [odd_py, List.length_map]
      refine tf (fun z => ?_) (fun z => ?_)
      · rw [if_pos z] at mf
        refine ⟨by rw [List.length_map]; omega, ?_⟩
        have k := last (m ++ [b]) (by rw [List.length_append, List.length_singleton]; omega) mf
        rw [nums_snoc] at k
        exact k
      · rw [if_neg (by rw [z]; exact Bool.false_ne_true), List.append_nil] at mf
        exact last m (by omega) mf
    cases i with
    | true =>
      refine ⟨by decide, true, rfl, ?_, ?_⟩
      · show (PyData.int a :: (nums l ++ [])).length ≤ 100000
        rw [List.length_cons, List.append_nil, List.length_map]
        omega
      · have k := rest (a :: l) (by rw [List.length_cons]; omega) hf
        have e : (PyData.int a :: (nums l ++ [])) = nums (a :: l) := by
          rw [List.append_nil]
          rfl
        show (pSeq _ _) (fin c) ([.d (.int a), .d (.bool true), .d (.list (nums l)), .d (.int b), .own (PyData.int a :: (nums l ++ []))] : En)
        rw [e]
        exact k
    | false => exact ⟨by decide, false, rfl, rest l (by omega) hf⟩
  · exact h.elim
theorem pure_runs_between (ds : List PyData) (c : PyData → Prop) (hl : ds.length = 3) (h : S_runs_between ds c) : p_runs_between (fin c) (startE N_runs_between ds) := by
  unfold S_runs_between at h
  split at h
  · rename_i d a b
    obtain ⟨D, rs, rfl, B, W, hn, h⟩ := h
    show (if decide (b ≤ a) = true then _ else _)
    refine ifd (fun z => ?_) (fun z => ?_)
    · have : rs = [] := by
        cases rs with
        | nil => rfl
        | cons p r =>
          obtain ⟨u, v⟩ := p
          have h1 := W.from_
          have := W.in_ u
          rw [in_cons, decide_eq_true (Int.le_refl u), decide_eq_true h1.2.1, decide_eq_true h1.1, decide_eq_false (show ¬ u < b by have := h1.1; omega)] at this
          simp at this
      subst this
      exact ⟨Nat.zero_le _, h⟩
    · obtain ⟨l, hB, _⟩ := brd_exists (mem D) (a + 1) b
      have ab : a < b := by omega
      have f := win_flat ab hB W
      have ll : l.length ≤ 80000 := by
        have := flat_length rs
        rw [f] at this
        unfold marksOf at this
        rw [List.length_append] at this
        have : l.length ≤ (if mem D a then a :: l else l).length := by split <;> simp
        omega
      have fo : marksOf (mem D) a b l = (if mem D a then a :: l else l) ++ (if odd (if mem D a then a :: l else l).length then [b] else []) := by
        unfold marksOf
        rw [marks_odd hB ab]
      rw [fo] at f
      exact ⟨rfl, D, rfl, B, rfl, D, l, rfl, B, hB, by omega, rfl, l, rs, rfl, by omega, f, h⟩
  · exact h.elim
end Pr
namespace N7
/-! days near a set -/
def wd (h : Int → Bool) (b o : Int) (d : Int) : Bool := (List.range (b + o + 1).toNat).any fun i : Nat => h (d - o + (i : Int))
theorem wd_iff {h : Int → Bool} {b o d : Int} : wd h b o d = true ↔ ∃ x, d - o ≤ x ∧ x ≤ d + b ∧ h x = true := by
  unfold wd
  rw [List.any_eq_true]
  constructor
  · rintro ⟨i, hi, hx⟩
    have := List.mem_range.mp hi
    exact ⟨_, by omega, by omega, hx⟩
  · rintro ⟨x, h1, h2, h3⟩
    refine ⟨(x - (d - o)).toNat, List.mem_range.mpr (by omega), ?_⟩
    rw [show d - o + ((x - (d - o)).toNat : Int) = x by omega]
    exact h3
theorem wd_congr {h g : Int → Bool} {b o d : Int} (e : ∀ x, d - o ≤ x → x ≤ d + b → h x = g x) : wd h b o d = wd g b o d := by
  rw [Bool.eq_iff_iff, wd_iff, wd_iff]
  constructor
  · rintro ⟨x, h1, h2, h3⟩
    exact ⟨x, h1, h2, by rw [← e x h1 h2]; exact h3⟩
  · rintro ⟨x, h1, h2, h3⟩
    exact ⟨x, h1, h2, by rw [e x h1 h2]; exact h3⟩
theorem wd_shift {h : Int → Bool} {p : Int} (P : ∀ x, h (x + p) = h x) (b o d : Int) : wd h b o (d + p) = wd h b o d := by
  rw [Bool.eq_iff_iff, wd_iff, wd_iff]
  constructor
  · rintro ⟨x, h1, h2, h3⟩
    refine ⟨x - p, by omega, by omega, ?_⟩
    rw [← P, show x - p + p = x by omega]
    exact h3
  · rintro ⟨x, h1, h2, h3⟩
    exact ⟨x + p, by omega, by omega, by rw [P]; exact h3⟩
theorem wd_per {h : Int → Bool} {p : Int} (P : Per h p) (b o : Int) : Per (wd h b o) p := fun d => wd_shift P b o d
/-- one more stretched run -/
def mrg (b o B E : Int) (rs : Rn) (r : Int × Int) : Rn := match rs.getLast? with
  | some (u, v) => if max (r.1 - b) B ≤ v then rs.dropLast ++ [(u, max v (min (r.2 + o) E))] else if max (r.1 - b) B < min (r.2 + o) E then rs ++ [(max (r.1 - b) B, min (r.2 + o) E)] else rs
  | none => if max (r.1 - b) B < min (r.2 + o) E then rs ++ [(max (r.1 - b) B, min (r.2 + o) E)] else rs
def strR (b o B E : Int) (rs : Rn) : Rn := rs.foldl (mrg b o B E) []
theorem mrg_nil (b o B E : Int) (r : Int × Int) : mrg b o B E [] r = if max (r.1 - b) B < min (r.2 + o) E then [(max (r.1 - b) B, min (r.2 + o) E)] else [] := rfl
theorem mrg_snoc (b o B E : Int) (rs : Rn) (u v : Int) (r : Int × Int) : mrg b o B E (rs ++ [(u, v)]) r = if max (r.1 - b) B ≤ v then rs ++ [(u, max v (min (r.2 + o) E))] else if max (r.1 - b) B < min (r.2 + o) E then rs ++ [(u, v)] ++ [(max (r.1 - b) B, min (r.2 + o) E)] else rs ++ [(u, v)] := by
  unfold mrg
  rw [List.getLast?_concat]
  dsimp only
  rw [List.dropLast_concat]
theorem str_snoc (b o B E : Int) (rs : Rn) (r : Int × Int) : strR b o B E (rs ++ [r]) = mrg b o B E (strR b o B E rs) r := by
  unfold strR
  rw [List.foldl_append]
  rfl
theorem runs_first : ∀ {rs : Rn} {lo : Int}, RunsFrom lo rs → ∀ q ∈ rs, q.1 < q.2 ∧ q.2 ≤ runsEnd lo rs
  | [], _, _, q, m => by simp at m
  | (a, b) :: r, lo, ⟨h1, h2, h3⟩, q, m => by
    have ih := runs_first h3
    have e := runs_end (rs := r) (lo := b) (lo' := b + 1) h3 (by omega)
    rcases List.mem_cons.mp m with z | z
    · subst z
      exact ⟨h2, e⟩
    · refine ⟨(ih q z).1, ?_⟩
      cases r with
      | nil => simp at z
      | cons p t => exact (ih q z).2
structure StrI (b o B E : Int) (P S : Rn) : Prop where
  from_ : RunsFrom B S
  end_ : runsEnd B S ≤ E
  in_ : ∀ d, inRuns S d = true ↔ B ≤ d ∧ d < E ∧ ∃ r ∈ P, r.1 - b ≤ d ∧ d < r.2 + o
  last : ∀ S' u v, S = S' ++ [(u, v)] → ∃ r ∈ P, u = max (r.1 - b) B
  len : S.length ≤ P.length
theorem strI (b o B E : Int) (BE : B ≤ E) : ∀ (n : Nat) (P : Rn) (lo : Int), P.length = n → RunsFrom lo P → StrI b o B E P (strR b o B E P) := by
  intro n
  induction n with
  | zero =>
    intro P lo hl _
    have := List.eq_nil_of_length_eq_zero hl
    subst this
    exact ⟨trivial, BE, fun d => ⟨fun h => (by cases h), fun ⟨_, _, r, m, _⟩ => (by simp at m)⟩, fun S' u v h => absurd h (by show ¬ ([] : Rn) = _; simp), Nat.le_refl _⟩
  | succ n ih =>
    intro P lo hl hP
    rcases List.eq_nil_or_concat P with e | ⟨P', r, e⟩
    · subst e
      cases hl
    rw [List.concat_eq_append] at e
    subst e
    obtain ⟨f1, f2, f3, f4⟩ := from_init (u := r.1) (v := r.2) hP
    have hl' : P'.length = n := by
      rw [List.length_append, List.length_singleton] at hl
      omega
    have I := ih P' lo hl' f1
    rw [str_snoc]
    generalize strR b o B E P' = S at I
    -- what comes behind begins later
    have lt : ∀ q ∈ P', q.1 < r.1 := fun q m => by
      have := runs_first f1 q m
      have := f3 (fun z => by rw [z] at m; simp at m)
      omega
    have inP : ∀ d, (∃ q ∈ P' ++ [r], q.1 - b ≤ d ∧ d < q.2 + o) ↔ (∃ q ∈ P', q.1 - b ≤ d ∧ d < q.2 + o) ∨ (r.1 - b ≤ d ∧ d < r.2 + o) := fun d => by
      constructor
      · rintro ⟨q, m, h⟩
        rcases List.mem_append.mp m with m | m
        · exact .inl ⟨q, m, h⟩
        · rw [List.mem_singleton.mp m] at h
          exact .inr h
      · rintro (⟨q, m, h⟩ | h)
        · exact ⟨q, List.mem_append_left _ m, h⟩
        · exact ⟨r, List.mem_append_right _ (List.mem_singleton.mpr rfl), h⟩
    have new : ∀ d, (max (r.1 - b) B ≤ d ∧ d < min (r.2 + o) E) ↔ B ≤ d ∧ d < E ∧ r.1 - b ≤ d ∧ d < r.2 + o := fun d => by omega
    -- appended
    have app : ∀ S : Rn, StrI b o B E P' S → (S = [] → B ≤ max (r.1 - b) B) → (S ≠ [] → runsEnd B S + 1 ≤ max (r.1 - b) B) → max (r.1 - b) B < min (r.2 + o) E → StrI b o B E (P' ++ [r]) (S ++ [(max (r.1 - b) B, min (r.2 + o) E)]) := fun S I h1 h2 h3 => by
      refine ⟨from_snoc I.from_ h1 h2 h3, by rw [turn_end]; omega, fun d => ?_, fun S' u v h => ?_, by rw [List.length_append, List.length_append, List.length_singleton, List.length_singleton]; have := I.len; omega⟩
      · rw [in_snoc, Bool.or_eq_true, I.in_, Bool.and_eq_true, decide_eq_true_eq, decide_eq_true_eq, inP, new]
        constructor
        · rintro (⟨a1, a2, a3⟩ | ⟨a1, a2, a3⟩)
          · exact ⟨a1, a2, .inl a3⟩
          · exact ⟨a1, a2, .inr a3⟩
        · rintro ⟨a1, a2, a3 | a3⟩
          · exact .inl ⟨a1, a2, a3⟩
          · exact .inr ⟨a1, a2, a3⟩
      · have := List.append_inj_right' h rfl
        cases this
        exact ⟨r, List.mem_append_right _ (List.mem_singleton.mpr rfl), rfl⟩
    -- left out
    have out : ∀ S : Rn, StrI b o B E P' S → ¬ max (r.1 - b) B < min (r.2 + o) E → StrI b o B E (P' ++ [r]) S := fun S I h3 => by
      refine ⟨I.from_, I.end_, fun d => ?_, fun S' u v h => ?_, by rw [List.length_append]; have := I.len; omega⟩
      · rw [I.in_, inP]
        constructor
        · rintro ⟨a1, a2, a3⟩
          exact ⟨a1, a2, .inl a3⟩
        · rintro ⟨a1, a2, a3 | a3⟩
          · exact ⟨a1, a2, a3⟩
          · have := (new d).mpr ⟨a1, a2, a3⟩
            omega
      · obtain ⟨q, m, h⟩ := I.last S' u v h
        exact ⟨q, List.mem_append_left _ m, h⟩
    rcases List.eq_nil_or_concat S with e | ⟨S', ⟨u, v⟩, e⟩
    · subst e
      rw [mrg_nil]
      split
      · rename_i h3
        exact app [] I (fun _ => by omega) (fun z => absurd rfl z) h3
      · rename_i h3
        exact out [] I h3
    · rw [List.concat_eq_append] at e
      subst e
      rw [mrg_snoc]
      obtain ⟨a1, a2, a3, a4⟩ := from_init I.from_
      have ve : v ≤ E := by
        have := I.end_
        rw [turn_end] at this
        exact this
      obtain ⟨q, qm, qu⟩ := I.last S' u v rfl
      have ql := lt q qm
      have uf : u ≤ max (r.1 - b) B := by omega
      split
      · rename_i h1
        refine ⟨from_snoc a1 a2 a3 (by omega), by rw [turn_end]; omega, fun d => ?_, fun S'' u' v' h => ?_, by rw [List.length_append, List.length_append, List.length_singleton, List.length_singleton]; have := I.len; rw [List.length_append, List.length_singleton] at this; omega⟩
        · have Ii := I.in_ d
          rw [in_snoc, Bool.or_eq_true, Bool.and_eq_true, decide_eq_true_eq, decide_eq_true_eq] at Ii
          rw [in_snoc, Bool.or_eq_true, Bool.and_eq_true, decide_eq_true_eq, decide_eq_true_eq, inP]
          constructor
          · rintro (h | ⟨h2, h3⟩)
            · obtain ⟨x1, x2, x3⟩ := Ii.mp (.inl h)
              exact ⟨x1, x2, .inl x3⟩
            · by_cases k : d < v
              · obtain ⟨x1, x2, x3⟩ := Ii.mp (.inr ⟨h2, k⟩)
                exact ⟨x1, x2, .inl x3⟩
              · obtain ⟨x1, x2, x3⟩ := (new d).mp ⟨by omega, by omega⟩
                exact ⟨x1, x2, .inr x3⟩
          · rintro ⟨x1, x2, x3 | x3⟩
            · rcases Ii.mpr ⟨x1, x2, x3⟩ with h | ⟨h2, h3⟩
              · exact .inl h
              · exact .inr ⟨h2, by omega⟩
            · obtain ⟨y1, y2⟩ := (new d).mpr ⟨x1, x2, x3⟩
              exact .inr ⟨by omega, by omega⟩
        · have := List.append_inj_right' h rfl
          cases this
          exact ⟨q, List.mem_append_left _ qm, qu⟩
      · rename_i h1
        split
        · rename_i h3
          exact app _ I (fun z => absurd z (by simp)) (fun _ => by rw [turn_end]; omega) h3
        · rename_i h3
          exact out _ I h3
theorem str_win {h : Int → Bool} {b o B E : Int} (b0 : 0 ≤ b) (o0 : 0 ≤ o) (BE : B ≤ E) {R : Rn} (W : Win h (B - o) (E + b) R) : Win (wd h b o) B E (strR b o B E R) ∧ (strR b o B E R).length ≤ R.length := by
  have I := strI b o B E BE R.length R _ rfl W.from_
  refine ⟨⟨I.from_, I.end_, fun d => ?_⟩, I.len⟩
  rw [Bool.eq_iff_iff, I.in_, Bool.and_eq_true, Bool.and_eq_true, decide_eq_true_eq, decide_eq_true_eq, wd_iff]
  have inW : ∀ x, inRuns R x = true ↔ ∃ r ∈ R, r.1 ≤ x ∧ x < r.2 := fun x => by
    unfold inRuns
    rw [List.any_eq_true]
    constructor
    · rintro ⟨r, m, h⟩
      rw [Bool.and_eq_true, decide_eq_true_eq, decide_eq_true_eq] at h
      exact ⟨r, m, h⟩
    · rintro ⟨r, m, h1, h2⟩
      exact ⟨r, m, by rw [decide_eq_true h1, decide_eq_true h2]; rfl⟩
  constructor
  · rintro ⟨h1, h2, r, m, h3, h4⟩
    have rr := runs_first W.from_ r m
    -- a day of the run that is near enough
    have key : inRuns R (max r.1 (d - o)) = true := (inW _).mpr ⟨r, m, by omega, by omega⟩
    rw [W.in_, Bool.and_eq_true] at key
    exact ⟨⟨_, by omega, by omega, key.1⟩, h1, h2⟩
  · rintro ⟨⟨x, h1, h2, h3⟩, h4, h5⟩
    have : inRuns R x = true := by
      rw [W.in_, h3, decide_eq_true (by omega), decide_eq_true (by omega)]
      rfl
    obtain ⟨r, m, k1, k2⟩ := (inW x).mp this
    exact ⟨h4, h5, r, m, by omega, by omega⟩
/-! a side from what it holds in one period -/
theorem asc_length : ∀ {l : List Int} {lo hi : Int}, Asc lo hi l → lo ≤ hi → (l.length : Int) ≤ hi - lo
  | [], _, _, _, h => by simp; omega
  | b :: r, lo, hi, ⟨h1, h2, h3⟩, h => by
    have := asc_length h3 (by omega)
    rw [List.length_cons]
    omega
theorem per_side {h : Int → Bool} {p : Int} (p1 : 1 ≤ p) (P : Per h p) : ∃ T : Sd, SdOk T ∧ T.p = p ∧ (∀ d, holds T d = h d) ∧ (T.bs.length : Int) ≤ p ∧ Brd h 0 p T.bs ∧ T.f = h (-1) := by
  obtain ⟨l, B, hl⟩ := brd_exists h 0 p
  have k := side_of (T := ⟨p, l, h (-1)⟩) (h := h) p1 B.asc P rfl fun x x0 x1 => by
    rw [B.mem]
    exact ⟨fun z => z.2.2, fun z => ⟨x0, x1, z⟩⟩
  exact ⟨⟨p, l, h (-1)⟩, k.1, rfl, k.2, by show (l.length : Int) ≤ p; omega, B, rfl⟩
/-- the dayset of the days near one, not normal -/
theorem near_ds {D : Ds} (ok : DsOk D) {b o : Int} (b0 : 0 ≤ b) (o0 : 0 ≤ o) : ∃ E : Ds, DsOk E ∧ E.l.p = D.l.p ∧ E.r.p = D.r.p ∧ E.low = D.low - b ∧ E.high = D.high + o ∧ ∀ d, mem E d = wd (mem D) b o d := by
  have lh := ok_lh ok
  obtain ⟨L, l1, l2, l3, _⟩ := per_side ok.l.p1 (wd_per (per_holds (s := D.l)) b o)
  obtain ⟨R, r1, r2, r3, _⟩ := per_side ok.r.p1 (wd_per (per_holds (s := D.r)) b o)
  obtain ⟨rs, W, _⟩ := win_exists (wd (mem D) b o) (show D.low - b ≤ D.high + o by omega)
  have okE : DsOk ⟨L, D.low - b, rs, D.high + o, R⟩ := ⟨l1, r1, W.from_, W.end_⟩
  refine ⟨_, okE, l2, r2, rfl, rfl, fun d => ?_⟩
  by_cases c1 : d < D.low - b
  · rw [mem_lo (D := ⟨L, D.low - b, rs, D.high + o, R⟩) c1]
    show holds L d = _
    rw [l3]
    exact wd_congr fun x h1 h2 => (mem_lo (by omega)).symm
  · by_cases c2 : d < D.high + o
    · rw [mem_mid (D := ⟨L, D.low - b, rs, D.high + o, R⟩) c1 c2]
      show inRuns rs d = _
      rw [W.in_, decide_eq_true (by omega), decide_eq_true c2]
      simp
    · rw [mem_hi (D := ⟨L, D.low - b, rs, D.high + o, R⟩) c1 c2]
      show holds R d = _
      rw [r3]
      exact wd_congr fun x h1 h2 => (mem_hi (by omega) (by omega)).symm
theorem runs_length : ∀ {rs : Rn} {lo hi : Int}, RunsFrom lo rs → runsEnd lo rs ≤ hi → lo ≤ hi → (rs.length : Int) ≤ hi - lo
  | [], _, _, _, _, h => by simp; omega
  | (a, b) :: r, lo, hi, ⟨h1, h2, h3⟩, k, h => by
    have k : runsEnd b r ≤ hi := k
    have e := runs_end (rs := r) (lo := b) (lo' := b + 1) h3 (by omega)
    cases r with
    | nil =>
      rw [List.length_singleton]
      omega
    | cons p t =>
      have := runs_length (lo := b + 1) h3 k (by
        obtain ⟨u, v⟩ := p
        obtain ⟨q1, q2, q3⟩ := h3
        have := runs_end (rs := t) (lo := v) (lo' := v + 1) q3 (by omega)
        have k : runsEnd v t ≤ hi := k
        omega)
      rw [List.length_cons]
      omega
end N7
namespace N7
/-! counting: a function that grows by one over each day that is in -/
def b2i (b : Bool) : Int := if b then 1 else 0
theorem b2i_0 (b : Bool) : 0 ≤ b2i b := by cases b <;> decide
theorem b2i_1 (b : Bool) : b2i b ≤ 1 := by cases b <;> decide
def Prim (h : Int → Bool) (G : Int → Int) : Prop := ∀ x, G (x + 1) = G x + b2i (h x)
theorem prim_add {h : Int → Bool} {G F : Int → Int} (P : Prim h G) (Q : Prim h F) : ∀ (n : Nat) (x : Int), G (x + n) - G x = F (x + n) - F x
  | 0, x => by simp
  | n + 1, x => by
    have ih := prim_add P Q n x
    have e : x + ((n + 1 : Nat) : Int) = x + n + 1 := by omega
    rw [e, P, Q]
    omega
theorem prim_diff {h : Int → Bool} {G F : Int → Int} (P : Prim h G) (Q : Prim h F) (x y : Int) : G y - G x = F y - F x := by
  by_cases c : x ≤ y
  · have := prim_add P Q (y - x).toNat x
    rw [show x + ((y - x).toNat : Int) = y by omega] at this
    exact this
  · have := prim_add P Q (x - y).toNat y
    rw [show y + ((x - y).toNat : Int) = x by omega] at this
    omega
theorem prim_grow {h : Int → Bool} {G : Int → Int} (P : Prim h G) : ∀ (n : Nat) (x : Int), G x ≤ G (x + n) ∧ G (x + n) ≤ G x + n
  | 0, x => by simp
  | n + 1, x => by
    have ih := prim_grow P n x
    have e : x + ((n + 1 : Nat) : Int) = x + n + 1 := by omega
    have := b2i_0 (h (x + n))
    have := b2i_1 (h (x + n))
    rw [e, P]
    omega
theorem prim_mono {h : Int → Bool} {G : Int → Int} (P : Prim h G) {x y : Int} (l : x ≤ y) : G x ≤ G y ∧ G y ≤ G x + (y - x) := by
  have := prim_grow P (y - x).toNat x
  rw [show x + ((y - x).toNat : Int) = y by omega] at this
  omega
theorem prim_lt {h : Int → Bool} {G : Int → Int} (P : Prim h G) {x y : Int} (hx : h x = true) (l : x < y) : G x < G y := by
  have e := P x
  rw [hx] at e
  have := (prim_mono P (show x + 1 ≤ y by omega)).1
  have : b2i true = 1 := rfl
  omega
theorem prim_flat {h : Int → Bool} {G : Int → Int} (P : Prim h G) : ∀ (n : Nat) (x : Int), (∀ d, x ≤ d → d < x + n → h d = false) → G (x + n) = G x
  | 0, x, _ => by simp
  | n + 1, x, H => by
    have ih := prim_flat P n x fun d h1 h2 => H d h1 (by omega)
    have e : x + ((n + 1 : Nat) : Int) = x + n + 1 := by omega
    rw [e, P, H (x + n) (by omega) (by omega), ih]
    show G x + 0 = G x
    omega
/-! runs -/
def tot : Rn → Int
  | [] => 0
  | (b, e) :: r => (e - b) + tot r
def rcnt : Rn → Int → Int
  | [], _ => 0
  | (b, e) :: r, m => (if m ≤ b then 0 else min m e - b) + rcnt r m
def sumsOf : Int → Rn → List Int
  | _, [] => []
  | k, (b, e) :: r => k :: sumsOf (k + (e - b)) r
theorem tot_app : ∀ (A B : Rn), tot (A ++ B) = tot A + tot B
  | [], B => by simp [tot]
  | (b, e) :: A, B => by
    show (e - b) + tot (A ++ B) = (e - b) + tot A + tot B
    rw [tot_app A B]
    omega
theorem rcnt_app (m : Int) : ∀ (A B : Rn), rcnt (A ++ B) m = rcnt A m + rcnt B m
  | [], B => by simp [rcnt]
  | (b, e) :: A, B => by
    show (if m ≤ b then 0 else min m e - b) + rcnt (A ++ B) m = (if m ≤ b then 0 else min m e - b) + rcnt A m + rcnt B m
    rw [rcnt_app m A B]
    omega
theorem sums_len : ∀ (rs : Rn) (k : Int), (sumsOf k rs).length = rs.length
  | [], _ => rfl
  | (b, e) :: r, k => congrArg (· + 1) (sums_len r _)
theorem sums_at : ∀ (A C : Rn) (q : Int × Int) (k : Int), (sumsOf k (A ++ q :: C))[A.length]? = some (k + tot A)
  | [], C, (b, e), k => by simp [sumsOf, tot]
  | (b, e) :: A, C, q, k => by
    show (sumsOf (k + (e - b)) (A ++ q :: C))[A.length]? = some (k + ((e - b) + tot A))
    rw [sums_at A C q]
    congr 1
    omega
theorem rcnt_all {m : Int} : ∀ {rs : Rn} {lo : Int}, RunsFrom lo rs → runsEnd lo rs ≤ m → rcnt rs m = tot rs
  | [], _, _, _ => rfl
  | (b, e) :: r, lo, ⟨h1, h2, h3⟩, hm => by
    have hm : runsEnd e r ≤ m := hm
    have l := runs_end (lo := e) h3 (by omega)
    have ih : rcnt r m = tot r := by
      cases r with
      | nil => rfl
      | cons q t => exact rcnt_all h3 hm
    show (if m ≤ b then 0 else min m e - b) + rcnt r m = (e - b) + tot r
    rw [ih, if_neg (by omega), Int.min_eq_right (by omega)]
theorem rcnt_no {m : Int} : ∀ {rs : Rn} {lo : Int}, RunsFrom lo rs → m ≤ lo → rcnt rs m = 0
  | [], _, _, _ => rfl
  | (b, e) :: r, lo, ⟨h1, h2, h3⟩, hm => by
    show (if m ≤ b then 0 else min m e - b) + rcnt r m = 0
    rw [rcnt_no h3 (by omega), if_pos (by omega)]
    rfl
theorem tot_0 : ∀ {rs : Rn} {lo : Int}, RunsFrom lo rs → 0 ≤ tot rs
  | [], _, _ => Int.le_refl _
  | (b, e) :: r, lo, ⟨h1, h2, h3⟩ => by
    have := tot_0 h3
    show 0 ≤ (e - b) + tot r
    omega
theorem rcnt_prim : ∀ {rs : Rn} {lo : Int}, RunsFrom lo rs → Prim (inRuns rs) (rcnt rs)
  | [], _, _ => fun x => by show (0 : Int) = 0 + b2i false; decide
  | (b, e) :: r, lo, ⟨h1, h2, h3⟩ => fun x => by
    have ih := rcnt_prim h3 x
    show (if x + 1 ≤ b then 0 else min (x + 1) e - b) + rcnt r (x + 1) = (if x ≤ b then 0 else min x e - b) + rcnt r x + b2i ((decide (b ≤ x) && decide (x < e)) || inRuns r x)
    rw [ih]
    by_cases c1 : x < b
    · rw [if_pos (by omega), if_pos (by omega), decide_eq_false (show ¬ b ≤ x by omega)]
      simp
    · by_cases c2 : x < e
      · have n := inRuns_lo h3 (show x < e + 1 by omega)
        rw [n, if_neg (by omega), decide_eq_true (show b ≤ x by omega), decide_eq_true c2]
        have t : b2i (true && true || false) = 1 := rfl
        have f : b2i false = 0 := rfl
        rw [t, f, Int.min_eq_left (show x + 1 ≤ e by omega)]
        by_cases c3 : x ≤ b
        · rw [if_pos c3]; omega
        · rw [if_neg c3, Int.min_eq_left (show x ≤ e by omega)]; omega
      · rw [if_neg (by omega), if_neg (by omega), decide_eq_false c2, Bool.and_false, Bool.false_or, Int.min_eq_right (show e ≤ x + 1 by omega), Int.min_eq_right (show e ≤ x by omega)]
        omega
theorem split_at {rs : Rn} {i : Nat} (h : i < rs.length) : ∃ A q C, rs = A ++ q :: C ∧ A.length = i := by
  refine ⟨rs.take i, rs[i], rs.drop (i + 1), ?_, by rw [List.length_take]; omega⟩
  rw [← List.drop_eq_getElem_cons h, List.take_append_drop]
/-- what begins from m on, counts nothing -/
theorem rcnt_later {m : Int} : ∀ {rs : Rn}, (∀ r ∈ rs, m ≤ r.1) → rcnt rs m = 0
  | [], _ => rfl
  | (b, e) :: r, H => by
    show (if m ≤ b then 0 else min m e - b) + rcnt r m = 0
    rw [rcnt_later fun q hq => H q (List.mem_cons_of_mem _ hq), if_pos (H (b, e) List.mem_cons_self)]
    rfl
/-- what ends ahead of m, counts whole -/
theorem rcnt_earlier {m : Int} : ∀ {rs : Rn}, (∀ r ∈ rs, r.1 < r.2 ∧ r.2 ≤ m) → rcnt rs m = tot rs
  | [], _ => rfl
  | (b, e) :: r, H => by
    have h : b < e ∧ e ≤ m := H (b, e) List.mem_cons_self
    show (if m ≤ b then 0 else min m e - b) + rcnt r m = (e - b) + tot r
    rw [rcnt_earlier fun q hq => H q (List.mem_cons_of_mem _ hq), if_neg (by omega), Int.min_eq_right h.2]
theorem runs_parts : ∀ {A C : Rn} {b e lo : Int}, RunsFrom lo (A ++ (b, e) :: C) → (∀ r ∈ A, r.1 < r.2 ∧ r.2 < b) ∧ b < e ∧ RunsFrom (e + 1) C ∧ lo ≤ b
  | [], C, b, e, lo, ⟨h1, h2, h3⟩ => ⟨(fun _ z => nomatch z), h2, h3, h1⟩
  | (u, v) :: A, C, b, e, lo, ⟨h1, h2, h3⟩ => by
    obtain ⟨a1, a2, a3, a4⟩ := runs_parts (A := A) h3
    refine ⟨fun r hr => ?_, a2, a3, by omega⟩
    rcases List.mem_cons.mp hr with rfl | hr
    · exact ⟨h2, by show v < b; omega⟩
    · exact a1 r hr
theorem runs_low : ∀ {C : Rn} {lo : Int}, RunsFrom lo C → ∀ r ∈ C, lo ≤ r.1
  | [], _, _, _, z => nomatch z
  | (b, e) :: C, lo, ⟨h1, h2, h3⟩, r, hr => by
    rcases List.mem_cons.mp hr with rfl | hr
    · exact h1
    · have := runs_low h3 r hr
      omega
theorem rcnt_part {A C : Rn} {b e lo x : Int} (h : RunsFrom lo (A ++ (b, e) :: C)) (h1 : b ≤ x) (h2 : ∀ r ∈ C, x ≤ r.1) : rcnt (A ++ (b, e) :: C) x = tot A + (min x e - b) := by
  obtain ⟨a1, a2, a3, a4⟩ := runs_parts h
  rw [rcnt_app, rcnt_earlier fun r hr => ⟨(a1 r hr).1, by have := (a1 r hr).2; omega⟩]
  show tot A + ((if x ≤ b then 0 else min x e - b) + rcnt C x) = _
  rw [rcnt_later h2]
  by_cases c : x ≤ b
  · rw [if_pos c, Int.min_eq_left (by omega)]
    omega
  · rw [if_neg c]
    omega
/-! a side's tally -/
def sF (s : Sd) (R : Rn) (m : Int) : Int := (m / s.p) * tot R + rcnt R (m % s.p)
theorem win_tot {s : Sd} (ok : SdOk s) {R : Rn} (W : Win (holds s) 0 s.p R) : rcnt R s.p = tot R ∧ rcnt R 0 = 0 ∧ 0 ≤ tot R ∧ tot R ≤ s.p := by
  have p1 := ok.p1
  have e1 : rcnt R s.p = tot R := rcnt_all W.from_ W.end_
  have e2 : rcnt R 0 = 0 := rcnt_no W.from_ (Int.le_refl _)
  have := (prim_mono (rcnt_prim W.from_) (show 0 ≤ s.p by omega))
  exact ⟨e1, e2, tot_0 W.from_, by omega⟩
theorem sF_prim {s : Sd} (ok : SdOk s) {R : Rn} (W : Win (holds s) 0 s.p R) : Prim (holds s) (sF s R) := fun x => by
  have p1 := ok.p1
  obtain ⟨e1, e2, _, _⟩ := win_tot ok W
  have m0 := Int.emod_nonneg x (show s.p ≠ 0 by omega)
  have m1 := Int.emod_lt_of_pos x (show 0 < s.p by omega)
  have ed := Int.mul_ediv_add_emod x s.p
  have hx : holds s x = holds s (x % s.p) := by
    have := holds_period (s := s) (x / s.p) (x % s.p)
    rw [ed] at this
    exact this
  have hr : inRuns R (x % s.p) = holds s (x % s.p) := by
    rw [W.in_, decide_eq_true m0, decide_eq_true m1]
    simp
  have P := rcnt_prim W.from_ (x % s.p)
  unfold sF
  by_cases c : x % s.p + 1 < s.p
  · have d1 : (x + 1) / s.p = x / s.p := by
      rw [show x + 1 = (x % s.p + 1) + s.p * (x / s.p) by omega, Int.add_mul_ediv_left _ _ (by omega), Int.ediv_eq_zero_of_lt (by omega) c]
      omega
    have d2 : (x + 1) % s.p = x % s.p + 1 := by
      rw [show x + 1 = (x % s.p + 1) + s.p * (x / s.p) by omega, Int.add_mul_emod_self_left, Int.emod_eq_of_lt (by omega) c]
    rw [d1, d2, P, hr, hx]
    omega
  · have c : x % s.p + 1 = s.p := by omega
    have d1 : (x + 1) / s.p = x / s.p + 1 := by
      rw [show x + 1 = s.p * (x / s.p + 1) by rw [Int.mul_add]; omega, Int.mul_ediv_cancel_left _ (by omega)]
    have d2 : (x + 1) % s.p = 0 := by
      rw [show x + 1 = s.p * (x / s.p + 1) by rw [Int.mul_add]; omega, Int.mul_emod_right]
    rw [d1, d2, e2, Int.add_mul]
    rw [c, e1, hr] at P
    rw [hx]
    omega
/-! the tally of a set -/
def tG (D : Ds) (L R : Rn) (m : Int) : Int := if m ≤ D.low then sF D.l L m - sF D.l L D.low else if m ≤ D.high then rcnt D.rs m else tot D.rs + sF D.r R m - sF D.r R D.high
theorem tG_l {D : Ds} {L R : Rn} {x : Int} (h : x ≤ D.low) : tG D L R x = sF D.l L x - sF D.l L D.low := if_pos h
theorem tG_m {D : Ds} (ok : DsOk D) {L R : Rn} {x : Int} (h1 : D.low ≤ x) (h2 : x ≤ D.high) : tG D L R x = rcnt D.rs x := by
  unfold tG
  by_cases c : x ≤ D.low
  · have e : x = D.low := by omega
    rw [if_pos c, e, rcnt_no ok.rs (Int.le_refl _)]
    omega
  · rw [if_neg c, if_pos h2]
theorem tG_r {D : Ds} (ok : DsOk D) {L R : Rn} {x : Int} (h : D.high ≤ x) : tG D L R x = tot D.rs + sF D.r R x - sF D.r R D.high := by
  by_cases c : x = D.high
  · subst c
    rw [tG_m ok (ok_lh ok) (Int.le_refl _), rcnt_all ok.rs ok.hi]
    omega
  · have := ok_lh ok
    unfold tG
    rw [if_neg (by omega), if_neg (by omega)]
theorem tG_prim {D : Ds} (ok : DsOk D) {L R : Rn} (WL : Win (holds D.l) 0 D.l.p L) (WR : Win (holds D.r) 0 D.r.p R) : Prim (mem D) (tG D L R) := fun x => by
  by_cases c1 : x < D.low
  · rw [tG_l (by omega), tG_l (by omega), sF_prim ok.l WL x, mem_lo c1]
    omega
  · by_cases c2 : x < D.high
    · rw [tG_m ok (by omega) (by omega), tG_m ok (by omega) (by omega), rcnt_prim ok.rs x, mem_mid c1 c2]
    · rw [tG_r ok (by omega), tG_r ok (by omega), sF_prim ok.r WR x, mem_hi c1 c2]
      omega
end N7
namespace Pu
open PySem L2
section
variable {K : PySem.W.Frag}
/-- bool(xs) of a list of the def's own -/
def rBoolL (K : PySem.W.Frag) : List V → Hp → VK → Prop := fun xs H Q => ∃ (a : Addr) (zs : List V), xs = [.ref a] ∧ SqL K H a zs ∧ Q (.bl (!zs.isEmpty)) H
theorem c_boolL {X : Cx} : CallR X (.type "bool") (rBoolL X.K) := call_boolL
def pBoolO (i : Nat) : PE' := fun ρ R => asOwn (cellAt ρ i) fun ds => R (.bool (!ds.isEmpty)) ρ
theorem sim_boolO {i : Nat} : Sim K (tCB (rBoolL K) (tCons (tVar i) tNil)) (pBoolO i) := fun B Z A H0 M σ H ρ R E h Q q => by
  obtain ⟨ds, hc, h⟩ := asOwn_of h
  obtain ⟨l, vs, e, m, hl, r⟩ := own_at E hc
  refine ⟨.ref l, e, l, vs, rfl, .of hl, ?_⟩
  have : (!vs.isEmpty) = !ds.isEmpty := by cases r <;> rfl
  rw [this]
  exact q _ _ ρ H h E (.bl _)
/-- xs[a:b] of a list of the def's own, as a new list -/
def pCutL (i : Nat) (pl ph : PO') : PA' := fun ρ R => asOwn (cellAt ρ i) fun _ => pl ρ fun l ρ1 => ph ρ1 fun h ρ2 => asOwn (cellAt ρ2 i) fun ds => R (cutP ds l h) ρ2
theorem sim_cutL {i : Nat} {tl th : TO} {pl ph : PO'} (sl : SimO K tl pl) (sh : SimO K th ph) : SimL K (tSl (rCut K) (tVar i) tl th) (pCutL i pl ph) := fun B Z A H0 M σ H ρ R E h Q q => by
  obtain ⟨ds, hc, h⟩ := asOwn_of h
  obtain ⟨l, vs, e, m, hl, r⟩ := own_at E hc
  refine ⟨.ref l, e, sl B Z A H0 M σ H ρ _ E h _ fun lo ρ1 H1 h1 E1 => sh B Z _ H0 M σ H1 ρ1 _ E1.anchor h1 _ fun hi ρ2 H2 h2 E2 => ?_⟩
  obtain ⟨ds2, hc2, h3⟩ := asOwn_of h2
  obtain ⟨l2, vs2, e2, m2, hl2, r2⟩ := own_at E2 hc2
  rw [m] at m2
  cases m2
  have E4 := E2.weak E1.anch
  exact .inl ⟨l, vs2, rfl, .of hl2, fun p hp => q p _ _ ρ2 H2 h3 E4 hp (cut_dq r2 lo hi)⟩
/-- xs.pop() -/
def pPop (i : Nat) : PS' := fun G ρ => asOwn (cellAt ρ i) fun ds => ds ≠ [] ∧ G.nx (cellSet ρ i (.own ds.dropLast))
theorem dqs_init {H : Hp} : ∀ {vs : List V} {ds : List PyData}, Dqs K H vs ds → Dqs K H vs.dropLast ds.dropLast
  | _, _, .nil => .nil
  | _, _, .cons h .nil => .nil
  | _, _, .cons h (.cons h2 r) => .cons h (dqs_init (.cons h2 r))
theorem s_pop {i : Nat} : SimS K (tDrop (tBM0 K "list" rPop (tVar i))) (pPop i) := fun B Z A H0 M σ H ρ D G E h C => by
  obtain ⟨ds, hc, hne, h⟩ := asOwn_of h
  obtain ⟨l, vs, e, m, hl, r⟩ := own_at E hc
  have hv : vs ≠ [] := fun z => hne (by subst z; exact nil_of r)
  obtain ⟨i0, y, ey⟩ : ∃ i0 y, vs = i0 ++ [y] := by
    rcases List.eq_nil_or_concat vs with z | ⟨a, b, z⟩
    · exact absurd z hv
    · exact ⟨a, b, by rw [z, List.concat_eq_append]⟩
  refine ⟨.ref l, e, .inl ⟨rfl, vs, .of hl⟩, l, vs, y, rfl, rfl, hl, ?_, ?_⟩
  · rw [ey]
    simp
  · exact C.nx M σ _ _ (E.putO (by rw [e]; rfl) m (dqs_init r) (by rw [hc]; intro z; cases z)) h
end
end Pu
namespace Pu
open PySem L2
/-! a dict of the def's own that it lends -/
abbrev FSD := List (Int × PyData) → List PyData → (PyData → List (Int × PyData) → Prop) → Prop
def DctAt (K : PySem.W.Frag) (Z : Addr → Prop) (H : Hp) (b : Addr) (kvs : List (Int × PyData)) : Prop := ∃ ws, H b = some (.dK ws) ∧ Kvs K (veil Z H) ws kvs
def pExp (pe : PE') : PS' := fun G ρ => pe ρ fun _ ρ1 => G.nx ρ1
def pCallD (n : Nat) (S : FSD) (i : Nat) (pa : PA') : PE' := fun ρ R => asDct (cellAt ρ i) fun _ => pa ρ fun ds ρ1 => asDct (cellAt ρ1 i) fun kvs => ds.length = n ∧ S kvs ds fun d kvs' => R d (cellSet ρ1 i (.dct kvs'))
def spD (K : PySem.W.Frag) (n : Nat) (S : FSD) : Sp := fun vs H Q _ => ∃ (b : Addr) (us : List V), vs = .ref b :: us ∧ us.length = n ∧ ∃ (Z : Addr → Prop) (ds : List PyData) (kvs : List (Int × PyData)) (k : PyData → List (Int × PyData) → Prop), ¬ Z b ∧ (∀ a, Z a → H a ≠ none) ∧
  DctAt K (plus Z b) H b kvs ∧ Dqs K (veil (plus Z b) H) us ds ∧ S kvs ds k ∧ ∀ d kvs' v H', k d kvs' → (∀ a o, a ≠ b → H a = some o → H' a = some o) → DctAt K (plus Z b) H' b kvs' → Dq K (veil (plus Z b) H') v d → Q v H'
section
variable {K : PySem.W.Frag}
theorem s_exp {te : TE} {pe : PE'} (se : Sim K te pe) : SimS K (tDrop te) (pExp pe) := fun B Z A H0 M σ H ρ D G E h C =>
  se B Z A H0 M σ H ρ _ E h _ fun v d ρ1 H1 h1 E1 d1 => C.nx M σ _ _ E1 h1
section
variable {B Z : Addr → Prop} {A H0 H H' : Hp} {M : Nat → Option Addr} {σ : St} {ρ : En}
theorem EnvR.dctCh (E : EnvR K B Z A H0 M σ H ρ) {i : Nat} {b : Addr} {fs fs' : List (Int × PyData)} (m : M i = some b) (hc : cellAt ρ i = .dct fs) (g : ∀ a o, a ≠ b → H a = some o → H' a = some o) (hb : DctAt K (hid Z M) H' b fs') :
    EnvR K B Z A H0 M σ H' (cellSet ρ i (.dct fs')) := by
  have nb : H' b ≠ none := by
    obtain ⟨ws, h, _⟩ := hb
    rw [h]
    intro z; cases z
  have nn : ∀ a, H a ≠ none → H' a ≠ none := fun a h => by
    by_cases e : a = b
    · rw [e]; exact nb
    · cases q : H a with
      | none => exact absurd q h
      | some o =>
        rw [g a o e q]
        intro z; cases z
  have gv : Grow (veil (hid Z M) H) (veil (hid Z M) H') := fun a o h => by
    obtain ⟨h1, h2⟩ := veil_off h
    exact veil_on h1 (g a o (fun e => h1 (.inr ⟨i, by rw [e]; exact m⟩)) h2)
  obtain ⟨l, ws, e1, m1, _⟩ := dct_at E hc
  rw [m] at m1
  cases m1
  rw [cellSet_eq]
  refine ⟨by rw [List.length_set]; exact E.len, E.inj, fun j u k => nn u (E.live j u k), E.off, fun a z => nn a (E.zl a z), fun a o nB h => ?_, E.own, E.m0, E.anch.trans gv, fun j c h => ?_⟩
  · refine g a o (fun e => ?_) (E.ext a o nB h)
    rcases E.own i b m with x | x
    · exact nB (by rw [e]; exact x)
    · rw [e, x] at h
      cases h
  · rcases set_at h with ⟨rfl, hk, rfl⟩ | ⟨ne, h⟩
    · obtain ⟨ws', c2, c3⟩ := hb
      exact ⟨b, ws', by rw [e1]; rfl, m, c2, c3⟩
    · exact (E.cell j c h).grow gv fun u mu o ho => g u o (fun z => ne (E.inj i j b m (by rw [← z]; exact mu))) ho
end
theorem sim_callD {n i : Nat} {S : FSD} {EX : XK} {ta : TA} {pa : PA'} (sa : SimA K ta pa) : Sim K (tCall (spD K n S) [] EX (tCons (tVar i) ta)) (pCallD n S i pa) := fun B Z A H0 M σ H ρ R EE h Q q => by
  obtain ⟨kvs1, ec1, h1⟩ := asDct_of h
  obtain ⟨l, ws, e, hM, hl, r⟩ := dct_at EE ec1
  refine ⟨.ref l, e, sa B Z A H0 M σ H ρ _ EE h1 _ fun vs ds ρ1 H1 h2 E1 d1 => ?_⟩
  obtain ⟨kvs2, ec2, hlen, h3⟩ := asDct_of h2
  obtain ⟨l2, ws2, e2, m2, hl2, r2⟩ := dct_at E1 ec2
  rw [hM] at m2
  cases m2
  rw [List.append_nil]
  refine ⟨l, vs, rfl, by rw [dqs_len d1]; exact hlen, fun a => hid Z M a ∧ a ≠ l, ds, kvs2, _, fun z => z.2 rfl, ?_, by rw [hid_plus hM]; exact ⟨ws2, hl2, r2⟩, by rw [hid_plus hM]; exact d1, h3, fun d fs' v H' k g hb dv => ?_⟩
  · rintro a ⟨z | ⟨j, mj⟩, _⟩
    · exact E1.zl a z
    · exact E1.live j a mj
  · rw [hid_plus hM] at hb dv
    exact q v d _ H' k (E1.dctCh hM ec2 g hb) dv
def pSortKO (i : Nat) : PA' := fun ρ R => asDct (cellAt ρ i) fun kvs => kvs.length ≤ 100000 ∧ ∀ ms : List Int, ms.Perm (kvs.map (·.1)) → ms.Pairwise (· ≤ ·) → R (ms.map PyData.int) ρ
theorem kvs_keys {H : Hp} : ∀ {ws : List (Key × V)} {kvs : List (Int × PyData)}, Kvs K H ws kvs → ws.map (·.1) = (kvs.map (·.1)).map Sum.inl
  | _, _, .nil => rfl
  | _, _, .cons _ r => by rw [List.map_cons, List.map_cons, List.map_cons, kvs_keys r]
theorem sim_sortKO {i : Nat} : SimL K (tCB rSortDI (tCons (tVar i) tNil)) (pSortKO i) := fun B Z A H0 M σ H ρ R E h Q q => by
  obtain ⟨kvs, hc, hl, h2⟩ := asDct_of h
  obtain ⟨l, ws, e, m, hw, r⟩ := dct_at E hc
  exact ⟨.ref l, e, l, ws, kvs.map (·.1), rfl, .inl hw, kvs_keys r, sz5 (by rw [List.length_map]; exact hl), fun ms p pm pw hp => q p _ _ ρ H (h2 ms pm pw) E hp dqs_ints⟩
end
section
variable {P : Program} {w : World} {K : PySem.W.Frag} {mg : Str → Option Value} {base : Heap}
/-- a def to which a dict is lent: it stands in place 0 -/
theorem ok_D {x qual : Str} {st : Stmt} {f : Addr} {fd : FuncData} {N ps : List Str} {k n : Nat} {S : FSD} (F : Fun K x qual st f fd) (Sc : FnScope N ps (defScope st)) (hn : ps.length = n + 1)
    (hb : Body P w K mg base N qual st f k fun p => ∀ fs ds c, ds.length = n → S fs ds c → p ⟨fun ρ => asDct (cellAt ρ 0) fun fs' => c .none fs', fun d ρ => asDct (cellAt ρ 0) fun fs' => c d fs', fun _ => False, fun _ => False⟩ (.dct fs :: startE N.tail ds)) : FnOk P w K mg base CX0 (k + 1) f fd ps (spD K n S) := by
  refine F.ok Sc (fun vs H Q E h => ?_) (fun cdv A outer s H vs Q E hr h => ?_)
  · obtain ⟨b, us, rfl, hl, _⟩ := h
    rw [List.length_cons, hl, hn]
  obtain ⟨b, us, rfl, hl, Z, ds, fs, c, nz, hz, ob, r, hS, q⟩ := h
  obtain ⟨t, p, ht, hs, hp⟩ := hb cdv A outer s H E hr
  have hnl : ps.length ≤ N.length := by
    have := congrArg List.length Sc.pre
    rw [List.length_take] at this
    omega
  have dl := dqs_len r
  have nb : H b ≠ none := by
    obtain ⟨ws, h, _⟩ := ob
    rw [h]
    intro z; cases z
  have s0 : L2.start N (.ref b :: us) = some (.ref b) :: L2.start N.tail us := by
    unfold L2.start
    rw [List.map_cons, List.length_cons, List.length_tail, List.cons_append]
    congr 3
    omega
  have fin : ∀ M σ H' ρ, EnvR K (fun a => a = b) Z (fun _ => none) H M σ H' ρ → ∀ v d, (asDct (cellAt ρ 0) fun fs' => c d fs') → Dq K (veil (plus Z b) H') v d → Q v H' := fun M σ H' ρ E' v d hc dv => by
    obtain ⟨fs', ec, k⟩ := asDct_of hc
    obtain ⟨b', ws, e1, m1, hh, rr⟩ := dct_at E' ec
    have m := E'.m0 b rfl
    rw [m] at m1
    cases m1
    refine q d fs' v H' k (fun a o ne e => E'.ext a o ne e) ⟨ws, hh, kvs_grow (veil_less ?_) rr⟩ dv
    rintro a (z | e)
    · exact .inl z
    · exact .inr ⟨0, by rw [e]; exact m⟩
  refine ⟨t, ht, hs (fun a => a = b) Z (fun _ => none) H (fun i => if i = 0 then some b else none) _ H (.dct fs :: startE N.tail ds) _ _ ?_ (hp fs ds c (by omega) hS) ?_⟩
  · rw [s0]
    refine ⟨?_, fun i j l h1 h2 => ?_, fun i l h => ?_, fun i l h => ?_, hz, fun _ _ _ h => h, fun i l h => ?_, fun b' e => (by rw [e]; rfl), fun _ _ z => (nomatch z), fun i cc hc => ?_⟩
    · rw [List.length_cons, List.length_cons, start_len (by rw [List.length_tail]; omega), startE_len (by rw [List.length_tail]; omega)]
    · by_cases ei : i = 0
      · by_cases ej : j = 0
        · rw [ei, ej]
        · rw [if_neg ej] at h2; cases h2
      · rw [if_neg ei] at h1; cases h1
    · by_cases ei : i = 0
      · rw [if_pos ei] at h; cases h; exact nb
      · rw [if_neg ei] at h; cases h
    · by_cases ei : i = 0
      · rw [if_pos ei] at h; cases h; exact nz
      · rw [if_neg ei] at h; cases h
    · by_cases ei : i = 0
      · rw [if_pos ei] at h; cases h; exact .inl rfl
      · rw [if_neg ei] at h; cases h
    · cases i with
      | zero =>
        have e : cc = .dct fs := (Option.some.inj hc).symm
        rw [e]
        obtain ⟨ws, c2, c3⟩ := ob
        exact ⟨b, ws, rfl, rfl, c2, by rw [one_hid]; exact c3⟩
      | succ i =>
        rw [List.getElem?_cons_succ] at hc ⊢
        rcases start_cell r hc with rfl | ⟨v, d, rfl, e, dv⟩
        · trivial
        · refine ⟨v, e, ?_⟩
          rw [one_hid]
          exact dv
  · exact ⟨fun M σ H' ρ E' k => fin M σ H' ρ E' .non .none k .non, fun _ _ _ _ _ z => z.elim, fun _ _ _ _ _ z => z.elim, fun M σ H' ρ v d E' k dv => fin M σ H' ρ E' v d k dv⟩
end
end Pu
namespace Pu
open PySem L2
/-! [e for a in range(lo, hi, c) for b in t] -/
def pLc2R (vs vs1 : List Nat) (pa : PA') (pg : PG') (pl1 : PE') (pg1 : PG') (pt1 : PT') (pe : PE') : PA' := fun ρ R => (∀ v ∈ vs, cellAt ρ v = .no) ∧ pa ρ fun x ρ1 => ρ1 = ρ ∧ ∃ (lo hi c : Int) (n : Nat), x = [.int lo, .int hi, .int c] ∧ RgC lo hi c n ∧ ∃ I : Nat → List PyData → Prop, I 0 [] ∧
  (∀ (i : Nat) acc, i < n → I i acc → pg (.int (lo + (i : Int) * c)) ρ fun ρ2 => (∀ v ∈ vs1, cellAt ρ2 v = .no) ∧ pl1 ρ2 fun y ρ3 => ρ3 = ρ2 ∧ asT y fun es => ∃ J : Nat → List PyData → Prop, J 0 acc ∧
    (∀ j e acc, es[j]? = some e → J j acc → pg1 e ρ2 fun ρ4 => pt1 ρ4 fun b ρ5 => ρ5 = ρ4 ∧ if b = true then pe ρ4 fun z ρ6 => ρ6 = ρ4 ∧ acc.length < 100000 ∧ J (j + 1) (acc ++ [z]) else J (j + 1) acc) ∧ ∀ acc, J es.length acc → I (i + 1) acc) ∧ ∀ acc, I n acc → R acc ρ
section
variable {K : PySem.W.Frag}
theorem sim_lc2R {ta : TA} {tl1 : TE} {g g1 : TG} {tt1 : TT} {te : TE} {vs vs1 : List Nat} {pa : PA'} {pl1 : PE'} {pg pg1 : PG'} {pt1 : PT'} {pe : PE'} (hin : ∀ v ∈ vs1, v ∈ vs) (sa : SimA K ta pa) (sg : SimGV K vs g pg) (sl1 : Sim K tl1 pl1) (sg1 : SimGV K vs1 g1 pg1) (st : SimT K tt1 pt1) (se : Sim K te pe) :
    SimL K (tLc2 (iRng3 ta) g tYes (iTup K tl1) g1 tt1 te vs vs1) (pLc2R vs vs1 pa pg pl1 pg1 pt1 pe) := fun B Z A H0 M σ H ρ R E ⟨hv, h⟩ Q q =>
  sa B Z A H0 M σ H ρ _ E h _ fun us x ρ1 H1 ⟨e1, lo, hi, c, n, hx, hb, I, i0, is, ie⟩ E1 d1 => by
    subst e1
    subst hx
    have e : us = [.int lo, .int hi, .int c] := dqs_of_ints (ns := [lo, hi, c]) d1
    subst e
    refine ⟨lo, hi, c, n, rfl, hb, fun D hD => ?_⟩
    obtain ⟨h0, nB, nZ⟩ := lc_start E1 hD
    refine walkW (n := n) (fun i H' => ∃ va acc, EnvR K B (plus Z D) (veil (hid Z M) H1) H0 M (wipe σ vs) H' ρ1 ∧ H' D = some (.lst va) ∧ Dqs K (veil (hid (plus Z D) M) H') va acc ∧ I i acc) ⟨[], [], E1.enter hv hD, upd_same, .nil, i0⟩
      (fun H' ⟨va, acc, E', hd', ra, hI⟩ => ⟨Nat.le_refl _, ?_⟩) (fun i H' hi ⟨va, acc, E', hd', ra, hI⟩ => ?_)
    · have z := q D va acc ρ1 (wiped H' D) (ie acc hI) (E'.leave E1.anch h0 nZ) wiped_at (dps_grow veil_in _ _ ra)
      rw [wiped_upd hd'] at z
      exact z
    · refine ⟨hi, fun x H2 hy => ?_⟩
      obtain ⟨rfl, rfl⟩ := hy
      exact lc2_turn hin sg sl1 sg1 st se E' hv hd' h0 nB (.int _) ra (is i acc hi hI) fun H2 va' acc' E2 h2 r2 y2 => ⟨va', acc', E2, h2, r2, y2⟩
/-- abs -/
def fAbs : FS := fun ds k => match ds with
  | [.int i] => k (.int (if i < 0 then -i else i))
  | _ => False
theorem fAbs_of {ds : List PyData} {k : PyData → Prop} (h : fAbs ds k) : ∃ i, ds = [.int i] ∧ k (.int (if i < 0 then -i else i)) := by
  unfold fAbs at h
  split at h
  · exact ⟨_, rfl, h⟩
  · exact h.elim
theorem sim_abs {ta : TA} {pa : PA'} (sa : SimA K ta pa) : Sim K (tCB (fun xs H Q => ∃ i, xs = [V.int i] ∧ Q (V.int (if i < 0 then -i else i)) H) ta) (pFn fAbs pa) := fun B Z A H0 M σ H ρ R E h Q q =>
  sa B Z A H0 M σ H ρ _ E h _ fun vs ds ρ1 H1 h1 E1 d1 => by
    obtain ⟨i, rfl, h2⟩ := fAbs_of h1
    have e : vs = [.int i] := dqs_of_ints (ns := [i]) d1
    exact ⟨i, e, q _ _ _ _ h2 E1 (.int _)⟩
/-- repr of a list or tuple without dicts -/
def rRepr (K : PySem.W.Frag) : List V → Hp → VK → Prop := fun xs H Q => ∃ (a : Addr) (d : PyData), xs = [.ref a] ∧ Dp K H (.ref a) d ∧ d.showable = true ∧ d.hasDict = false ∧ d.depth < 60 ∧ d.shown.length ≤ sizeLine ∧ Q (.str d.shown) H
/-- repr wants to know that no repr is under way (guards): what stands around a def does not tell it in this layer -/
theorem c_repr {X : Cx} (hu : X.A.units + 64 < cLine) (hg : X.A.guards = some []) : CallR X (.builtin "repr") (rRepr X.K) := by
  intro pins s σ H xs us Q I r h
  obtain ⟨a, d, ez, hd, sh, nd, dp, ln, h⟩ := h
  subst ez
  obtain ⟨u, eu, rx⟩ := vals1 r
  subst eu
  have rx2 : RelV (.ref a) u := rx
  obtain ⟨as, hr⟩ := L2.Dp.reads I d (.ref a) u hd rx2
  cases rx
  exact repr_of_reads' hr sh (fun z => by rw [nd] at z; cases z) hg (by omega) (fun _ _ h => h) (fun h' u tk g => ⟨.str d.shown, H, I.kept g, ⟨u, rfl⟩, h⟩) ln
def isSq : PyData → Bool
  | .list _ => true
  | .tuple _ => true
  | _ => false
def fRepr : FS := fun ds k => match ds with
  | [d] => isSq d = true ∧ noD d = true ∧ d.showable = true ∧ d.hasDict = false ∧ d.depth < 60 ∧ d.shown.length ≤ sizeLine ∧ k (.str d.shown)
  | _ => False
theorem sim_repr {ta : TA} {pa : PA'} (sa : SimA K ta pa) : Sim K (tCB (rRepr K) ta) (pFn fRepr pa) := fun B Z A H0 M σ H ρ R E h Q q =>
  sa B Z A H0 M σ H ρ _ E h _ fun vs ds ρ1 H1 h1 E1 d1 => by
    cases d1 with
    | nil => exact h1.elim
    | cons d2 d3 =>
      cases d3 with
      | cons _ _ => exact h1.elim
      | nil =>
        obtain ⟨e, n, sh, nd, dp, ln, k⟩ := h1
        have d4 := dp_grow (veil_grow _ _) _ _ d2
        have hd := dq_dp _ _ n d4
        cases d2 with
        | lst _ _ => exact ⟨_, _, rfl, hd, sh, nd, dp, ln, q _ _ ρ1 H1 k E1 (.str _)⟩
        | tup _ _ => exact ⟨_, _, rfl, hd, sh, nd, dp, ln, q _ _ ρ1 H1 k E1 (.str _)⟩
        | _ => cases e
end
end Pu
/-! zip of a tuple and a list -/
namespace ZM
open PySem PySem.W PySem.Calls PyProof.Rows PyProof.V PySem.Spec ZL
section
variable {prog : Program} {w : World} {A : Around} {E : Value → Shared → Prop} {s : Shared}
theorem zm_next_item {z TI TO i1 i2 l1 l2 : Addr} {k1 k2 : Nat} {xs ys : Array Value} {x y a b : Value} {Q : Value → Shared → Prop} (D : ZipApart z TI TO i1 i2 l1 l2)
    (hz : IsZip s.heap z TI TO .none) (hTI : IsPair s.heap TI (.ref i1) (.ref i2)) (hTO : IsPair s.heap TO a b)
    (h1 : s.heap.IsTupleIter i1 l1 k1) (h2 : s.heap.IsListIter i2 l2 k2) (hl1 : s.heap.IsTuple l1 xs) (hl2 : s.heap.IsList l2 ys) (hx : xs[k1]? = some x) (hy : ys[k2]? = some y)
    (hQ : ∀ h', IsZip h' z TI TO (rawInt ↑s.heap.objs.size) → IsPair h' TO x y → h'.IsTupleIter i1 l1 (k1 + 1) → h'.IsListIter i2 l2 (k2 + 1) → IsPair h' s.heap.objs.size x y → h'.objs.size = s.heap.objs.size + 1 →
      (∀ c o, c ≠ z → c ≠ TO → c ≠ i1 → c ≠ i2 → s.heap.get? c = some o → h'.get? c = some o) → Q (.ref s.heap.objs.size) { s with heap := h' }) :
    wpAny (model prog w) A (Builtin.«zip.__next__» ⟨[.ref z], []⟩) (fun fin s' => ∃ v, fin = .done (.ret v) ∧ Q v s') E s := by
  show wpAny _ _ (field (.ref z) 2 >>= _) _ _ _
  refine wpAny_bind (wpAny_field hz rfl (x := .bool false) rfl ?_)
  show wpAny _ _ (field (.ref z) 3 >>= _) _ _ _
  refine wpAny_bind (wpAny_field hz rfl (x := .ref TI) rfl ?_)
  refine wpAny_bind (wpAny_seqItems hTI rfl ?_)
  show wpAny _ _ (Builtin.SmallTypes.ownedTupleIsFree (.ref z) >>= _) _ _ _
  refine wpAny_bind ?_
  unfold Builtin.SmallTypes.ownedTupleIsFree
  refine wpAny_bind (wpAny_field hz rfl (x := .none) rfl ?_)
  refine wpAny_pure ?_
  simp only [if_true]
  refine wpAny_bind (wpAny_rule ?_)
  refine wpAny_bind (wpAny_field hz rfl (x := .ref TO) rfl ?_)
  show wpAny _ _ (setField (.ref z) 0 .ellipsis >>= _) _ _ _
  refine wpAny_bind (wpAny_setField_rec hz (by simp) fun h₁ hz₁ hs₁ => ?_)
  refine wpAny_bind ?_
  show wpAny _ _ (forIn [(Value.ref i1, 0), (Value.ref i2, 1)] _ _) _ _ _
  simp only [List.forIn_cons, List.forIn_nil]
  have hTO₁ : IsPair h₁ TO a b := hs₁.extBut _ _ D.TOz hTO
  refine wpAny_bind (wpAny_bind (wpAny_onRaise ?_))
  show wpAny _ _ (Builtin.SmallTypes.nextOf (.ref i1) >>= _) _ _ _
  refine wpAny_bind (RZ.nextOf_tuple_item (h1.extBut hs₁.extBut D.i1z) (hl1.extBut hs₁.extBut D.l1z) hx fun h₂ h1₂ hs₂ => wpAny_pure ?_)
  dsimp only
  have hTO₂ : IsPair h₂ TO a b := hs₂.extBut _ _ D.TOi1 hTO₁
  refine wpAny_bind (wpAny_seqItems hTO₂ rfl ?_)
  dsimp only
  refine wpAny_bind (wpAny_updateSeq_pair hTO₂ fun h₃ hTO₃ hs₃ => ?_)
  refine wpAny_bind (wpAny_letGo ?_)
  refine wpAny_pure ?_
  dsimp only
  have hTO₃' : IsPair h₃ TO x b := hTO₃
  have h2₃ : h₃.IsListIter i2 l2 k2 := ((h2.extBut hs₁.extBut D.i2z).extBut hs₂.extBut D.i12.symm).extBut hs₃.extBut D.TOi2.symm
  have hl2₃ : h₃.IsList l2 ys := ((hl2.extBut hs₁.extBut D.l2z).extBut hs₂.extBut D.l2i1).extBut hs₃.extBut D.l2TO
  refine wpAny_bind (wpAny_bind (wpAny_onRaise ?_))
  show wpAny _ _ (Builtin.SmallTypes.nextOf (.ref i2) >>= _) _ _ _
  refine wpAny_bind (wpAny_nextOf_list_item h2₃ hl2₃ hy fun h₄ h2₄ hs₄ => wpAny_pure ?_)
  dsimp only
  have hTO₄ : IsPair h₄ TO x b := hs₄.extBut _ _ D.TOi2 hTO₃'
  refine wpAny_bind (wpAny_seqItems hTO₄ rfl ?_)
  dsimp only
  refine wpAny_bind (wpAny_updateSeq_pair hTO₄ fun h₅ hTO₅ hs₅ => ?_)
  refine wpAny_bind (wpAny_letGo ?_)
  refine wpAny_pure ?_
  dsimp only
  have hTO₅' : IsPair h₅ TO x y := hTO₅
  refine wpAny_pure ?_
  dsimp only
  refine wpAny_bind (wpAny_seqItems hTO₅' rfl ?_)
  dsimp only
  refine wpAny_bind (wpAny_newTuple ?_ (by show 2 ≤ sizeLine; decide))
  have hsz : h₅.objs.size = s.heap.objs.size := by rw [hs₅.1, hs₄.1, hs₃.1, hs₂.1, hs₁.1]
  have up : ∀ c o, c ≠ z → c ≠ TO → c ≠ i1 → c ≠ i2 → s.heap.get? c = some o → h₅.get? c = some o := fun c o c1 c2 c3 c4 e =>
    hs₅.extBut _ _ c2 (hs₄.extBut _ _ c4 (hs₃.extBut _ _ c2 (hs₂.extBut _ _ c3 (hs₁.extBut _ _ c1 e))))
  have hz₅ : h₅.get? z = some { cls := .type "zip", data := .fields #[.ellipsis, .bool false, .bool false, .ref TI, .ref TO] } :=
    hs₅.extBut _ _ D.TOz.symm (hs₄.extBut _ _ D.i2z.symm (hs₃.extBut _ _ D.TOz.symm (hs₂.extBut _ _ D.i1z.symm hz₁)))
  dsimp only
  show wpAny _ _ ((setField (.ref z) 0 (rawInt ↑h₅.objs.size) >>= fun _ => setField (.ref z) 1 (.bool false)) >>= fun _ => ret (.ref h₅.objs.size)) _ _ _
  refine wpAny_bind (wpAny_bind (wpAny_setField_rec (Heap.get?_push_of_some _ hz₅) (by simp) fun h₇ hz₇ hs₇ => ?_))
  refine wpAny_setField_rec hz₇ (by simp) fun h₈ hz₈ hs₈ => ?_
  refine wpAny_pure ⟨_, rfl, ?_⟩
  have hz₈' : IsZip h₈ z TI TO (rawInt ↑h₅.objs.size) := hz₈
  rw [hsz] at hz₈' ⊢
  have nz : s.heap.objs.size ≠ z := Nat.ne_of_gt (Heap.lt_size hz)
  have hP : IsPair (h₅.push { cls := .type "tuple", data := .seq #[x, y] }) s.heap.objs.size x y := by
    show (h₅.push _).get? s.heap.objs.size = _
    rw [← hsz]
    exact Heap.get?_push_size _ rfl
  refine hQ h₈ hz₈' (hs₈.extBut _ _ D.TOz (hs₇.extBut _ _ D.TOz (Heap.get?_push_of_some _ hTO₅')))
    ((((((h1₂.extBut hs₃.extBut D.TOi1.symm).extBut hs₄.extBut D.i12).extBut hs₅.extBut D.TOi1.symm).at fun o e => Heap.get?_push_of_some _ e).extBut hs₇.extBut D.i1z).extBut hs₈.extBut D.i1z)
    ((((h2₄.extBut hs₅.extBut D.TOi2.symm).at fun o e => Heap.get?_push_of_some _ e).extBut hs₇.extBut D.i2z).extBut hs₈.extBut D.i2z)
    (hs₈.extBut _ _ nz (hs₇.extBut _ _ nz hP)) (by rw [hs₈.1, hs₇.1]; show (h₅.push _).objs.size = _; rw [Heap.size_push, hsz])
    fun c o c1 c2 c3 c4 e => hs₈.extBut _ _ c1 (hs₇.extBut _ _ c1 (Heap.get?_push_of_some _ (up c o c1 c2 c3 c4 e)))
theorem zm_stop {z TI TO e : Addr} {f0 : Value} {h h' : Heap} (hz : h.get? z = some { cls := .type "zip", data := .fields #[f0, .bool false, .bool false, .ref TI, .ref TO] })
    (he : ∃ o, h.get? e = some o ∧ o.cls = .type "StopIteration") (hs : Heap.SameBut z h h') : ∃ o, h'.get? e = some o ∧ o.cls = .type "StopIteration" := by
  obtain ⟨o, ho, hc⟩ := he
  have ne : e ≠ z := fun q => by
    rw [q, hz] at ho
    cases ho
    injection hc with q
    exact absurd q (by decide)
  exact ⟨o, hs.extBut _ _ ne ho, hc⟩
theorem zm_next_end {z TI TO i1 i2 l1 l2 : Addr} {k1 k2 : Nat} {xs ys : Array Value} {a b : Value} {Q : Fin → Shared → Prop} (hh : A.handled = none) (D : ZipApart z TI TO i1 i2 l1 l2)
    (hz : IsZip s.heap z TI TO .none) (hTI : IsPair s.heap TI (.ref i1) (.ref i2)) (hTO : IsPair s.heap TO a b)
    (h1 : s.heap.IsTupleIter i1 l1 k1) (h2 : s.heap.IsListIter i2 l2 k2) (hl1 : s.heap.IsTuple l1 xs) (hl2 : s.heap.IsList l2 ys) (hend : xs[k1]? = none ∨ ys[k2]? = none)
    (hE : ∀ h' e, (∀ c o, c ≠ z → c ≠ TO → c ≠ i1 → c ≠ i2 → s.heap.get? c = some o → h'.get? c = some o) → (∃ o, h'.get? e = some o ∧ o.cls = .type "StopIteration") → E (.ref e) { s with heap := h' }) :
    wpAny (model prog w) A (Builtin.«zip.__next__» ⟨[.ref z], []⟩) Q E s := by
  show wpAny _ _ (field (.ref z) 2 >>= _) _ _ _
  refine wpAny_bind (wpAny_field hz rfl (x := .bool false) rfl ?_)
  show wpAny _ _ (field (.ref z) 3 >>= _) _ _ _
  refine wpAny_bind (wpAny_field hz rfl (x := .ref TI) rfl ?_)
  refine wpAny_bind (wpAny_seqItems hTI rfl ?_)
  show wpAny _ _ (Builtin.SmallTypes.ownedTupleIsFree (.ref z) >>= _) _ _ _
  refine wpAny_bind ?_
  unfold Builtin.SmallTypes.ownedTupleIsFree
  refine wpAny_bind (wpAny_field hz rfl (x := .none) rfl ?_)
  refine wpAny_pure ?_
  simp only [if_true]
  refine wpAny_bind (wpAny_rule ?_)
  refine wpAny_bind (wpAny_field hz rfl (x := .ref TO) rfl ?_)
  show wpAny _ _ (setField (.ref z) 0 .ellipsis >>= _) _ _ _
  refine wpAny_bind (wpAny_setField_rec hz (by simp) fun h₁ hz₁ hs₁ => ?_)
  refine wpAny_bind ?_
  show wpAny _ _ (forIn [(Value.ref i1, 0), (Value.ref i2, 1)] _ _) _ _ _
  simp only [List.forIn_cons, List.forIn_nil]
  have hTO₁ : IsPair h₁ TO a b := hs₁.extBut _ _ D.TOz hTO
  have hz₁' : h₁.get? z = some { cls := .type "zip", data := .fields #[.ellipsis, .bool false, .bool false, .ref TI, .ref TO] } := hz₁
  refine wpAny_bind (wpAny_bind (wpAny_onRaise ?_))
  show wpAny _ _ (Builtin.SmallTypes.nextOf (.ref i1) >>= _) _ _ _
  cases hx : xs[k1]? with
  | none =>
    refine wpAny_bind (RZ.nextOf_tuple_end hh (h1.extBut hs₁.extBut D.i1z) (hl1.extBut hs₁.extBut D.l1z) hx fun h₂ e hs₂ he => ?_)
    have hz₂ := hs₂ _ _ D.i1z.symm hz₁'
    exact wpAny_setField_rec hz₂ (by simp) fun h₃ hz₃ hs₃ => hE h₃ e (fun c o c1 c2 c3 c4 x => hs₃.extBut _ _ c1 (hs₂ _ _ c3 (hs₁.extBut _ _ c1 x))) (zm_stop hz₂ he hs₃)
  | some x =>
    have hy : ys[k2]? = none := by rcases hend with h | h; rw [hx] at h; cases h; exact h
    refine wpAny_bind (RZ.nextOf_tuple_item (h1.extBut hs₁.extBut D.i1z) (hl1.extBut hs₁.extBut D.l1z) hx fun h₂ h1₂ hs₂ => wpAny_pure ?_)
    dsimp only
    have hTO₂ : IsPair h₂ TO a b := hs₂.extBut _ _ D.TOi1 hTO₁
    have hz₂ := hs₂.extBut _ _ D.i1z.symm hz₁'
    refine wpAny_bind (wpAny_seqItems hTO₂ rfl ?_)
    dsimp only
    refine wpAny_bind (wpAny_updateSeq_pair hTO₂ fun h₃ hTO₃ hs₃ => ?_)
    refine wpAny_bind (wpAny_letGo ?_)
    refine wpAny_pure ?_
    dsimp only
    have hz₃ := hs₃.extBut _ _ D.TOz.symm hz₂
    have h2₃ : h₃.IsListIter i2 l2 k2 := ((h2.extBut hs₁.extBut D.i2z).extBut hs₂.extBut D.i12.symm).extBut hs₃.extBut D.TOi2.symm
    have hl2₃ : h₃.IsList l2 ys := ((hl2.extBut hs₁.extBut D.l2z).extBut hs₂.extBut D.l2i1).extBut hs₃.extBut D.l2TO
    refine wpAny_bind (wpAny_bind (wpAny_onRaise ?_))
    show wpAny _ _ (Builtin.SmallTypes.nextOf (.ref i2) >>= _) _ _ _
    refine wpAny_bind (wpAny_nextOf_list_end hh h2₃ hl2₃ hy fun h₄ e hs₄ he => ?_)
    have hz₄ := hs₄ _ _ D.i2z.symm hz₃
    exact wpAny_setField_rec hz₄ (by simp) fun h₅ hz₅ hs₅ => hE h₅ e (fun c o c1 c2 c3 c4 x => hs₅.extBut _ _ c1 (hs₄ _ _ c4 (hs₃.extBut _ _ c2 (hs₂.extBut _ _ c3 (hs₁.extBut _ _ c1 x))))) (zm_stop hz₄ he hs₅)
theorem pyNext_zm_item {z TI TO i1 i2 l1 l2 : Addr} {k1 k2 : Nat} {xs ys : Array Value} {x y a b : Value} {Q : Option Value → Shared → Prop} (D : ZipApart z TI TO i1 i2 l1 l2)
    (hz : IsZip s.heap z TI TO .none) (hTI : IsPair s.heap TI (.ref i1) (.ref i2)) (hTO : IsPair s.heap TO a b)
    (h1 : s.heap.IsTupleIter i1 l1 k1) (h2 : s.heap.IsListIter i2 l2 k2) (hl1 : s.heap.IsTuple l1 xs) (hl2 : s.heap.IsList l2 ys) (hx : xs[k1]? = some x) (hy : ys[k2]? = some y)
    (hQ : ∀ h', IsZip h' z TI TO (rawInt ↑s.heap.objs.size) → IsPair h' TO x y → h'.IsTupleIter i1 l1 (k1 + 1) → h'.IsListIter i2 l2 (k2 + 1) → IsPair h' s.heap.objs.size x y → h'.objs.size = s.heap.objs.size + 1 →
      (∀ c o, c ≠ z → c ≠ TO → c ≠ i1 → c ≠ i2 → s.heap.get? c = some o → h'.get? c = some o) → Q (some (.ref s.heap.objs.size)) { s with heap := h' }) :
    wpAny (model prog w) A (pyNext (.ref z)) Q E s := by
  have hTy : s.TypeIs (.ref z) "zip" := ⟨_, hz, rfl⟩
  unfold pyNext
  exact wpAny_bind (wpAny_attempt (wpAny_callSpecial?_slot (name := Str.ofString "__next__") hTy F.slot_zip_next
    (wpAny_call_entry F.slot_zip_next hTy F.entry_zip_next
      (zm_next_item D hz hTI hTO h1 h2 hl1 hl2 hx hy fun h' a1 a2 a3 a4 a5 a6 a7 => wpAny_pure (hQ h' a1 a2 a3 a4 a5 a6 a7)) (F.args_zip_next_1 _))))
theorem pyNext_zm_end {z TI TO i1 i2 l1 l2 : Addr} {k1 k2 : Nat} {xs ys : Array Value} {a b : Value} {Q : Option Value → Shared → Prop} (hh : A.handled = none) (D : ZipApart z TI TO i1 i2 l1 l2)
    (hz : IsZip s.heap z TI TO .none) (hTI : IsPair s.heap TI (.ref i1) (.ref i2)) (hTO : IsPair s.heap TO a b)
    (h1 : s.heap.IsTupleIter i1 l1 k1) (h2 : s.heap.IsListIter i2 l2 k2) (hl1 : s.heap.IsTuple l1 xs) (hl2 : s.heap.IsList l2 ys) (hend : xs[k1]? = none ∨ ys[k2]? = none)
    (hQ : ∀ h', (∀ c o, c ≠ z → c ≠ TO → c ≠ i1 → c ≠ i2 → s.heap.get? c = some o → h'.get? c = some o) → Q none { s with heap := h' }) :
    wpAny (model prog w) A (pyNext (.ref z)) Q E s := by
  have hTy : s.TypeIs (.ref z) "zip" := ⟨_, hz, rfl⟩
  unfold pyNext
  refine wpAny_bind (wpAny_attempt (wpAny_callSpecial?_slot (name := Str.ofString "__next__") hTy F.slot_zip_next
    (wpAny_call_entry F.slot_zip_next hTy F.entry_zip_next (zm_next_end hh D hz hTI hTO h1 h2 hl1 hl2 hend fun h' e hk he => ?_) (F.args_zip_next_1 _))))
  obtain ⟨o, ho, hc⟩ := he
  refine wpAny_bind (wpAny_isInstance (T := "StopIteration") (b := true) ⟨o, ho, hc⟩ isSubtype_stop ?_)
  exact wpAny_pure (hQ _ hk)
theorem newClass_zip (a b : Value) : Builtin.SmallTypes.newClass "zip" { pos := [Value.type "zip", a, b] } = pure (Value.type "zip", [a, b]) := by
  unfold Builtin.SmallTypes.newClass
  have h1 : isType (Value.type "zip") = pure true := by rfl
  simp only [h1, F.called_zip.sub, pure_bind]
  rfl
abbrev zipM1 (h : Heap) (l1 : Addr) : Heap := h.push { cls := .type "tuple_iterator", data := .fields #[.ref l1, .int 0 0] }
abbrev zipM2 (h : Heap) (l1 l2 : Addr) : Heap := (zipM1 h l1).push { cls := .type "list_iterator", data := .fields #[.ref l2, .int 0 0] }
abbrev zipM3 (h : Heap) (l1 l2 : Addr) : Heap := (zipM2 h l1 l2).push { cls := .type "tuple", data := .seq #[.ref h.objs.size, .ref (zipM1 h l1).objs.size] }
abbrev zipM4 (h : Heap) (l1 l2 : Addr) : Heap := (zipM3 h l1 l2).push { cls := .type "tuple", data := .seq #[.none, .none] }
abbrev zipM5 (h : Heap) (l1 l2 : Addr) : Heap := (zipM4 h l1 l2).push { cls := .type "zip", data := .fields #[.none, .bool false, .bool false, .ref (zipM2 h l1 l2).objs.size, .ref (zipM3 h l1 l2).objs.size] }
theorem meets_zipM_new (l1 l2 : Addr) (xs ys : Array Value) : Meets (Builtin.«zip.__new__» { pos := [.type "zip", .ref l1, .ref l2] }) fun _ R s =>
    s.heap.IsTuple l1 xs ∧ s.heap.IsList l2 ys ∧ R (Except.ok (Flow.ret (.ref (zipM4 s.heap l1 l2).objs.size))) { s with heap := zipM5 s.heap l1 l2 } := by
  intro prog w A R s ⟨h1, h2, hR⟩
  unfold Builtin.«zip.__new__»
  rw [newClass_zip]
  simp only [pure_bind]
  show wpAny _ _ (Builtin.SmallTypes.iterAll [.ref l1, .ref l2] >>= _) _ _ _
  refine wpAny_bind ?_
  unfold Builtin.SmallTypes.iterAll
  simp only [List.forIn_cons, List.forIn_nil]
  refine wpAny_bind (wpAny_bind (wpAny_bind (wpAny_holding (wpAny_pyIter_tuple h1 ?_))))
  refine wpAny_pure ?_
  dsimp only
  refine wpAny_bind (wpAny_bind (wpAny_holding (wpAny_pyIter_list (h2.push _) ?_)))
  refine wpAny_pure ?_
  dsimp only
  refine wpAny_pure ?_
  refine wpAny_pure ?_
  refine wpAny_bind (wpAny_newTuple ?_ (by show 2 ≤ sizeLine; decide))
  refine wpAny_bind (wpAny_newTuple ?_ (by show 2 ≤ sizeLine; decide))
  show wpAny _ _ (newObj (.type "zip") (.fields #[.none, .bool false, .bool false, .ref (zipM2 s.heap l1 l2).objs.size, .ref (zipM3 s.heap l1 l2).objs.size]) >>= _) _ _ _
  refine wpAny_bind (wpAny_newObj_type ?_ (by show 5 ≤ sizeLine + 2; decide))
  exact wpAny_pure hR
theorem call_zipM {l1 l2 : Addr} {xs ys : Array Value} {Q : Value → Shared → Prop} (h1 : s.heap.IsTuple l1 xs) (h2 : s.heap.IsList l2 ys)
    (hQ : ∀ h', IsZip h' (s.heap.objs.size + 4) (s.heap.objs.size + 2) (s.heap.objs.size + 3) .none → IsPair h' (s.heap.objs.size + 2) (.ref s.heap.objs.size) (.ref (s.heap.objs.size + 1)) → IsPair h' (s.heap.objs.size + 3) .none .none →
      h'.IsTupleIter s.heap.objs.size l1 0 → h'.IsListIter (s.heap.objs.size + 1) l2 0 → h'.objs.size = s.heap.objs.size + 5 → (∀ c o, s.heap.get? c = some o → h'.get? c = some o) → Q (.ref (s.heap.objs.size + 4)) { s with heap := h' }) :
    wpAny (model prog w) A (call (.type "zip") [.ref l1, .ref l2]) Q E s := by
  have z1 : (zipM1 s.heap l1).objs.size = s.heap.objs.size + 1 := Heap.size_push ..
  have z2 : (zipM2 s.heap l1 l2).objs.size = s.heap.objs.size + 2 := by rw [Heap.size_push, z1]
  have z3 : (zipM3 s.heap l1 l2).objs.size = s.heap.objs.size + 3 := by rw [Heap.size_push, z2]
  have z4 : (zipM4 s.heap l1 l2).objs.size = s.heap.objs.size + 4 := by rw [Heap.size_push, z3]
  have z5 : (zipM5 s.heap l1 l2).objs.size = s.heap.objs.size + 5 := by rw [Heap.size_push, z4]
  have g1 : (zipM5 s.heap l1 l2).get? s.heap.objs.size = some { cls := .type "tuple_iterator", data := .fields #[.ref l1, .int 0 0] } :=
    Heap.get?_push_of_some _ (Heap.get?_push_of_some _ (Heap.get?_push_of_some _ (Heap.get?_push_of_some _ (Heap.get?_push_size _ rfl))))
  have g2 : (zipM5 s.heap l1 l2).get? (s.heap.objs.size + 1) = some { cls := .type "list_iterator", data := .fields #[.ref l2, .int 0 0] } := by
    rw [← z1]
    exact Heap.get?_push_of_some _ (Heap.get?_push_of_some _ (Heap.get?_push_of_some _ (Heap.get?_push_size _ rfl)))
  have g3 : IsPair (zipM5 s.heap l1 l2) (s.heap.objs.size + 2) (.ref s.heap.objs.size) (.ref (s.heap.objs.size + 1)) := by
    have q : (zipM5 s.heap l1 l2).get? (zipM2 s.heap l1 l2).objs.size = some { cls := .type "tuple", data := .seq #[.ref s.heap.objs.size, .ref (zipM1 s.heap l1).objs.size] } :=
      Heap.get?_push_of_some _ (Heap.get?_push_of_some _ (Heap.get?_push_size _ rfl))
    rw [z2, z1] at q
    exact q
  have g4 : IsPair (zipM5 s.heap l1 l2) (s.heap.objs.size + 3) .none .none := by
    rw [← z3]
    exact Heap.get?_push_of_some _ (Heap.get?_push_size _ rfl)
  have g5 : IsZip (zipM5 s.heap l1 l2) (s.heap.objs.size + 4) (s.heap.objs.size + 2) (s.heap.objs.size + 3) .none := by
    have q : (zipM5 s.heap l1 l2).get? (zipM4 s.heap l1 l2).objs.size = some { cls := .type "zip", data := .fields #[.none, .bool false, .bool false, .ref (zipM2 s.heap l1 l2).objs.size, .ref (zipM3 s.heap l1 l2).objs.size] } :=
      Heap.get?_push_size _ rfl
    rw [z4, z2, z3] at q
    exact q
  refine callType_new F.called_zip (by decide) (F.typeCall_zip_2 _ _) ?ck (fun obj => F.args_object_init_3 _ _ _) F.entry_zip_new (meets_zipM_new l1 l2 xs ys) ⟨h1, h2, ?_⟩
  case ck => exact F.newCall_zip_2 _ _
  rw [z4]
  exact ⟨⟨_, g5, rfl⟩, hQ _ g5 g3 g4 ⟨_, g1, rfl, rfl⟩ ⟨_, g2, rfl, rfl⟩ z5 fun c o e => Heap.get?_push_of_some _ (Heap.get?_push_of_some _ (Heap.get?_push_of_some _ (Heap.get?_push_of_some _ (Heap.get?_push_of_some _ e))))⟩
end
end ZM
namespace ZM
open PySem PySem.W PySem.Calls PyProof.Rows PyProof.V PySem.Spec ZL L2
def ItzM (K : PySem.W.Frag) (a b : Addr) : It where
  go := fun i H => ∃ xs ys x y, SqT K H a xs ∧ SqL K H b ys ∧ xs[i]? = some x ∧ ys[i]? = some y
  yld := fun i H v H' => ∃ T x y, v = V.ref T ∧ H T = none ∧ H' = upd H T (HO.tup [x, y]) ∧ (∀ xs : List V, SqT K H a xs → xs[i]? = some x) ∧ ∀ ys : List V, SqL K H b ys → ys[i]? = some y
  stop := fun i H => ∃ xs ys, SqT K H a xs ∧ SqL K H b ys ∧ (xs.length ≤ i ∨ ys.length ≤ i)
section
variable {P : Program} {w : World} {K : PySem.W.Frag}
theorem turn_zipM {elts : List Expr} {kk : Nat} {tpos : Pos} {a b z TI TO i1 i2 : Addr} (D : ZipApart z TI TO i1 i2 a b) : Turn P w K (Expr.Tuple elts kk tpos) (ItzM K a b) [z, TI, TO, i1, i2] z fun i h =>
    IsZip h z TI TO .none ∧ IsPair h TI (.ref i1) (.ref i2) ∧ (∃ x y, IsPair h TO x y) ∧ h.IsTupleIter i1 a i ∧ h.IsListIter i2 b i where
  mem := by simp
  obj := fun i h ⟨hz, hTI, ⟨x, y, hTO⟩, ⟨o1, e1, _, d1⟩, ⟨o2, e2, _, d2⟩⟩ c hc => by
    simp only [List.mem_cons, List.mem_nil_iff, or_false] at hc
    rcases hc with rfl | rfl | rfl | rfl | rfl
    · exact ⟨_, hz, fun v q => by cases q⟩
    · exact ⟨_, hTI, fun v q => by cases q⟩
    · exact ⟨_, hTO, fun v q => by cases q⟩
    · exact ⟨_, e1, fun v q => by rw [d1] at q; cases q⟩
    · exact ⟨_, e2, fun v q => by rw [d2] at q; cases q⟩
  keep := fun i h h' ⟨hz, hTI, ⟨x, y, hTO⟩, ⟨o1, e1, c1, d1⟩, ⟨o2, e2, c2, d2⟩⟩ k =>
    ⟨k _ (by simp) _ hz, k _ (by simp) _ hTI, ⟨x, y, k _ (by simp) _ hTO⟩, ⟨o1, k _ (by simp) _ e1, c1, d1⟩, ⟨o2, k _ (by simp) _ e2, c2, d2⟩⟩
  item := fun X hp hw hK hc i pins s σ H E I hfp ⟨hz, hTI, ⟨x0, y0, hTO⟩, h1, h2⟩ ⟨xs, ys, x, y, hx, hy, gx, gy⟩ => by
    subst hp
    subst hw
    subst hK
    obtain ⟨its, rv, ht, _⟩ := I.tuple hx
    obtain ⟨its2, rv2, pl, _⟩ := I.list hy
    obtain ⟨u, gu, ru⟩ := rv.get gx
    obtain ⟨t, gt, rt⟩ := rv2.get gy
    refine pyNext_zm_item D hz hTI hTO h1 h2 ht pl.isList (x := u) (y := t) (by simpa using gu) (by simpa using gt) fun h' a1 a2 a3 a4 a5 a6 a7 => ⟨_, rfl, ?_⟩
    refine wpAny_letOwnedTupleGo_zip a1 fun h'' b1 b2 => ?_
    have lz : z < s.heap.objs.size := Heap.lt_size hz
    have lTI : TI < s.heap.objs.size := Heap.lt_size hTI
    have lTO : TO < s.heap.objs.size := Heap.lt_size hTO
    have l1 : i1 < s.heap.objs.size := let ⟨_, e, _⟩ := h1; Heap.lt_size e
    have l2 : i2 < s.heap.objs.size := let ⟨_, e, _⟩ := h2; Heap.lt_size e
    have nT : H s.heap.objs.size = none := I.hok.fresh (Nat.le_refl _)
    have pT : IsPair h'' s.heap.objs.size u t := b2.extBut _ _ (Nat.ne_of_gt lz) a5
    refine ⟨.ref s.heap.objs.size, upd H s.heap.objs.size (.tup [x, y]), ?_, rfl, ⟨_, x, y, rfl, nT, rfl, fun xs' h => ?_, fun ys' h => ?_⟩, ⟨b1, ?_, ⟨u, t, b2.extBut _ _ D.TOz a2⟩, a3.extBut b2.extBut D.i1z, a4.extBut b2.extBut D.i2z⟩, fun c hc => ?_⟩
    · show L2.Inv _ _ _ _ { s with heap := h'' }
      refine L2.Inv.turnedNew (s := s) (ch := [z, TO, i1, i2]) I (fun c o nc e => ?_) (fun c hc => hfp c ?_) (Nat.le_refl _) ⟨by show 2 ≤ sizeLine; decide, [u, t], .cons ru (.cons rt .nil), ⟨_, pT, rfl, _, rfl⟩⟩
      · simp only [List.mem_cons, List.mem_nil_iff, or_false, not_or] at nc
        exact b2.extBut _ _ nc.1 (a7 c o nc.1 nc.2.1 nc.2.2.1 nc.2.2.2 e)
      · simp only [List.mem_cons, List.mem_nil_iff, or_false] at hc ⊢
        rcases hc with q | q | q | q
        · exact .inl q
        · exact .inr (.inr (.inl q))
        · exact .inr (.inr (.inr (.inl q)))
        · exact .inr (.inr (.inr (.inr q)))
    · rw [I.tuple_inj h hx]; exact gx
    · rw [I.list_inj h hy]; exact gy
    · exact b2.extBut _ _ D.TIz (a7 _ _ D.TIz D.TITO D.TIi1 D.TIi2 hTI)
    · have lc : c < s.heap.objs.size := by
        simp only [List.mem_cons, List.mem_nil_iff, or_false] at hc
        rcases hc with rfl | rfl | rfl | rfl | rfl <;> assumption
      rw [upd_ne (Nat.ne_of_lt lc)]
      exact (hfp c hc).1
  done := fun X hp hw hK hc i pins s σ H E I hfp ⟨hz, hTI, ⟨x0, y0, hTO⟩, h1, h2⟩ ⟨xs, ys, hx, hy, he⟩ => by
    subst hp
    subst hw
    subst hK
    obtain ⟨its, rv, ht, _⟩ := I.tuple hx
    obtain ⟨its2, rv2, pl, _⟩ := I.list hy
    have e1 := Vals.length rv
    have e2 := Vals.length rv2
    refine pyNext_zm_end (I.ok.hd hc) D hz hTI hTO h1 h2 ht pl.isList ?_ fun h' k => ⟨rfl, ?_⟩
    · rcases he with q | q
      · exact .inl (by rw [Array.getElem?_eq_none_iff, List.size_toArray]; omega)
      · exact .inr (by rw [Array.getElem?_eq_none_iff, List.size_toArray]; omega)
    · refine L2.Inv.turnedL (ch := [z, TO, i1, i2]) I (fun c o nc e => ?_) (fun c hc => hfp c ?_)
      · simp only [List.mem_cons, List.mem_nil_iff, or_false, not_or] at nc
        exact k c o nc.1 nc.2.1 nc.2.2.1 nc.2.2.2 e
      · simp only [List.mem_cons, List.mem_nil_iff, or_false] at hc ⊢
        rcases hc with q | q | q | q
        · exact .inl q
        · exact .inr (.inr (.inl q))
        · exact .inr (.inr (.inr (.inl q)))
        · exact .inr (.inr (.inr (.inr q)))
  self := fun A i s Q E ⟨hz, _⟩ q => by
    exact wpAny_pyIter_zip hz q
end
def iZipM (K : PySem.W.Frag) (ta : TA) : TI := fun σ H R => ta σ H fun vs H1 => ∃ a b xs ys, vs = [V.ref a, V.ref b] ∧ SqT K H1 a xs ∧ SqL K H1 b ys ∧ R (ItzM K a b) H1
section
variable {X : Cx}
theorem pi_zipM {e e2 : Expr} {ta : TA} {p pos tpos : Pos} {elts : List Expr} {kk : Nat} (hg : Gl X "zip") (hm : X.mg "zip" = none) (ha : PA X [e, e2] ta)
    (hs : starEach [e, e2] X.env = (false, eval e X.env) :: starEach [e2] X.env := by rfl) (hpl : (backTo pos (starEach [e2] X.env)).any (·.1) = false := by rfl) :
    PI X (.Tuple elts kk tpos) (.Call (.Name "zip" p) [e, e2] [] pos) (iZipM X.K ta) := by
  refine ⟨fun pins s σ H R I h => ?_⟩
  refine Call_ (ld_blt I hg hm PyProof.Rows.boot_zip (PyProof.Rows.callWith_type1 (thn (ha.run pos pins s σ H _ I h) fun us s1 ⟨vs, H1, I1, r1, q1⟩ => ?_) hs hpl))
  obtain ⟨a, b, xs, ys, ex, hqx, hqy, q⟩ := q1
  subst ex
  cases r1 with
  | cons r rr =>
    cases rr with
    | cons r' rr =>
      cases rr
      cases r
      cases r'
      obtain ⟨its, rv, ht, _⟩ := I1.tuple hqx
      obtain ⟨its2, rv2, pl, _⟩ := I1.list hqy
      have la : a < s1.heap.objs.size := let ⟨_, e, _⟩ := ht; Heap.lt_size e
      refine call_zipM ht pl.isList fun h' hz hTI hTO h1 h2 hsz hk => ?_
      have fr : ∀ c, s1.heap.objs.size ≤ c → FpOk X pins H1 c := fun c hc => I1.fpOk hc (I1.hok.fresh hc)
      refine wpAny_pyIter_zip hz ⟨_, [s1.heap.objs.size + 4, s1.heap.objs.size + 2, s1.heap.objs.size + 3, s1.heap.objs.size, s1.heap.objs.size + 1], _, ItzM X.K a b, H1, rfl, I1.kept hk,
        turn_zipM (PySem.W.ktu_apart s1.heap.objs.size a b la pl.lt), ⟨hz, hTI, ⟨_, _, hTO⟩, h1, h2⟩, fun c hc => fr c ?_, q⟩
      simp only [List.mem_cons, List.mem_nil_iff, or_false] at hc
      rcases hc with rfl | rfl | rfl | rfl | rfl <;> omega
end
end ZM
namespace Pu
open PySem L2
section
variable {K : PySem.W.Frag}
/-- [e for a, b in zip(x, y)] of a tuple and a list -/
def pLcZM (vs is : List Nat) (pa : PA') (pg : PG') (pt : PT') (pe : PE') : PA' := fun ρ R => (∀ v ∈ vs, cellAt ρ v = .no) ∧ pa ρ fun x ρ1 => ρ1 = ρ ∧ ∃ xs ys : List PyData, x = [.tuple xs, .list ys] ∧ ∃ I : Nat → List PyData → Prop, I 0 [] ∧
  (∀ i c d acc, xs[i]? = some c → ys[i]? = some d → I i acc → pg (.tuple [c, d]) ρ fun ρ2 => pt ρ2 fun b ρ3 => ρ3 = ρ2 ∧ if b = true then pe ρ2 fun y ρ4 => ρ4 = ρ2 ∧ acc.length < 100000 ∧ I (i + 1) (acc ++ [y]) else I (i + 1) acc) ∧ ∀ acc, I (min xs.length ys.length) acc → R acc ρ
theorem sim_lcZM {ta : TA} {g : TG} {tt : TT} {te : TE} {vs is : List Nat} {pa : PA'} {pg : PG'} {pt : PT'} {pe : PE'} (sa : SimA K ta pa) (sg : SimGV K vs g pg) (st : SimT K tt pt) (se : Sim K te pe) :
    SimL K (tLc (ZM.iZipM K ta) g tt te vs) (pLcZM vs is pa pg pt pe) := fun B Z A H0 M σ H ρ R E ⟨hv, h⟩ Q q =>
  sa B Z A H0 M σ H ρ _ E h _ fun us x ρ1 H1 ⟨e1, xs, ys, hx, I, i0, is, ie⟩ E1 d1 => by
    subst e1
    subst hx
    obtain ⟨u, w, rfl, du, dw⟩ := pair_of d1
    cases du with
    | @tup a us _ hs r =>
      cases dw with
      | @lst b ws _ hs2 r2 =>
        have l1 := dqs_len r
        have l2 := dqs_len r2
        refine ⟨a, b, us, ws, rfl, grow_t (veil_grow _ _) hs, .of (veil_grow _ _ _ _ hs2), fun D hD => ?_⟩
        obtain ⟨h0, nB, nZ⟩ := lc_start E1 hD
        refine walkW (n := min us.length ws.length) (fun i H' => ∃ va acc, EnvR K B (plus Z D) (veil (hid Z M) H1) H0 M (wipe σ vs) H' ρ1 ∧ H' D = some (.lst va) ∧ Dqs K (veil (hid (plus Z D) M) H') va acc ∧ I i acc) ⟨[], [], E1.enter hv hD, upd_same, .nil, i0⟩
          (fun H' ⟨va, acc, E', hd', ra, hI⟩ => ⟨⟨us, ws, grow_t (veil_grow _ _) (grow_t E'.anch hs), .of (veil_grow _ _ _ _ (E'.anch _ _ hs2)), by omega⟩, ?_⟩) (fun i H' hi ⟨va, acc, E', hd', ra, hI⟩ => ?_)
        · have z := q D va acc ρ1 (wiped H' D) (ie acc (by rw [← l1, ← l2]; exact hI)) (E'.leave E1.anch h0 nZ) wiped_at (dps_grow veil_in _ _ ra)
          rw [wiped_upd hd'] at z
          exact z
        · have s1 := grow_t (veil_grow _ _) (grow_t E'.anch hs)
          have s2 : SqL K H' b ws := .of (veil_grow _ _ _ _ (E'.anch _ _ hs2))
          have g1 : us[i]? = some us[i] := List.getElem?_eq_getElem (by omega)
          have g2 : ws[i]? = some ws[i] := List.getElem?_eq_getElem (by omega)
          refine ⟨⟨us, ws, _, _, s1, s2, g1, g2⟩, fun x H2 hy => ?_⟩
          obtain ⟨T, y1, y2, rfl, hT, rfl, k1, k2⟩ := hy
          have e1 := k1 us s1
          have e2 := k2 ws s2
          obtain ⟨c, hc, dc⟩ := dqs_got r e1
          obtain ⟨d, hd, dd⟩ := dqs_got r2 e2
          have nT : D ≠ T := fun e => by rw [← e, hd'] at hT; cases hT
          have gT := grow_new (o := HO.tup [y1, y2]) hT
          have E3 := E'.grown gT
          refine lc_turn sg st se E3 hv ((upd_ne nT).trans hd') h0 nB (.new (E'.veiled hT) hT (.cons (dp_grow E'.anch _ _ dc) (.cons (dp_grow E'.anch _ _ dd) .nil))) (dps_grow (grow_veil gT) _ _ ra) wipe_wipe (is i c d acc hc hd hI) fun H2 va' acc' E2 h2 r2 y2 => ⟨va', acc', E2, h2, r2, y2⟩
/-- a target in a target: (..), i -/
def pgP (pg : PG') (i : Nat) : PG' := fun d ρ R => asT d fun ds => ∃ c e, ds = [c, e] ∧ pg c ρ fun ρ1 => R (cellSet ρ1 i (.d e))
theorem gv_pair {vs : List Nat} {g : TG} {pg : PG'} {i : Nat} (sg : SimGV K vs g pg) (h : i ∈ vs) : SimGV K vs (gTup K 2 (gCons g (gCons (gName i) gNil))) (pgP pg i) := fun B Z A H0 M σ H ρ v d R E hd hh Q q => by
  obtain ⟨ds, rfl, c, e, rfl, hp⟩ := asT_of hh
  cases hd with
  | tup ht r =>
    obtain ⟨u, w, rfl, du, dw⟩ := pair_of r
    refine ⟨_, _, rfl, grow_t (veil_grow _ _) ht, rfl, u, [w], rfl, ?_⟩
    refine sg B Z _ H0 M σ H ρ u c _ E.anchor du hp _ fun σ' ρ' hR E' w1 l1 o1 => ⟨w, [], rfl, rfl, ?_⟩
    have E2 := (E'.weak E.anch)
    exact q _ _ hR (E2.setD dw) ((wipe_set h).trans w1) (cellSet_len.trans l1) fun j hj => (cellSet_ne fun e => hj (by rw [← e]; exact h)).trans (o1 j hj)
end
end Pu
namespace Pu
open PySem L2
section
variable {K : PySem.W.Frag}
/-- a list of the def's own, compared with a value -/
def pEqO (neg : Bool) (i : Nat) (pb : PE') : PE' := fun ρ R => asOwn (cellAt ρ i) fun _ => pb ρ fun y ρ1 => asOwn (cellAt ρ1 i) fun xs => shq (.list xs) = true ∧ shq y = true ∧ R (.bool (flipB neg (PyData.eqv (.list xs) y))) ρ1
theorem own_dp {B Z : Addr → Prop} {A H0 H : Hp} {M : Nat → Option Addr} {σ : St} {ρ : En} (E : EnvR K B Z A H0 M σ H ρ) {l : Addr} {vs : List V} {xs : List PyData} (hl : H l = some (.lst vs)) (r : Dqs K (veil (hid Z M) H) vs xs) (h : shq (.list xs) = true) : Dp K H (.ref l) (.list xs) :=
  .lst (.of hl) (dqs_dps _ _ (shq_of h).1 (dps_grow (veil_grow _ _) _ _ r))
theorem sim_eqO {i : Nat} {tb : TE} {pb : PE'} (sb : Sim K tb pb) : Sim K (tOp (rEqD K) (tVar i) tb) (pEqO false i pb) := fun B Z A H0 M σ H ρ R E h Q q => by
  obtain ⟨ds, hc, h⟩ := asOwn_of h
  obtain ⟨l, vs, e, m, hl, r⟩ := own_at E hc
  refine ⟨.ref l, e, sb B Z A H0 M σ H ρ _ E h _ fun w y ρ1 H1 h1 E1 d1 => ?_⟩
  obtain ⟨xs, hc1, s1, s2, h2⟩ := asOwn_of h1
  obtain ⟨l1, vs1, e1, m1, hl1, r1⟩ := own_at E1 hc1
  rw [m] at m1
  cases m1
  exact ⟨.list xs, y, own_dp E1 hl1 r1 s1, veil_dp (shq_of s2).1 d1, (shq_of s1).2, (shq_of s2).2, q _ _ _ _ h2 E1 (.bl _)⟩
/-- xs + e of a list of the def's own: a new list -/
def pCatO (i : Nat) (pb : PE') : PA' := fun ρ R => asOwn (cellAt ρ i) fun _ => pb ρ fun y ρ1 => asL y fun es => asOwn (cellAt ρ1 i) fun xs => (xs ++ es).length ≤ 100000 ∧ R (xs ++ es) ρ1
theorem sim_catO {i : Nat} {tb : TE} {pb : PE'} (sb : Sim K tb pb) : SimL K (tOp rCat (tVar i) tb) (pCatO i pb) := fun B Z A H0 M σ H ρ R E h Q q => by
  obtain ⟨ds, hc, h⟩ := asOwn_of h
  obtain ⟨l, vs, e, m, hl, r⟩ := own_at E hc
  refine ⟨.ref l, e, sb B Z A H0 M σ H ρ _ E h _ fun w y ρ1 H1 h1 E1 d1 => ?_⟩
  obtain ⟨es, rfl, h2⟩ := asL_of h1
  obtain ⟨xs, hc1, hz, h3⟩ := asOwn_of h2
  obtain ⟨l1, vs1, e1, m1, hl1, r1⟩ := own_at E1 hc1
  rw [m] at m1
  cases m1
  cases d1 with
  | @lst b us _ hs r2 =>
    have hz2 : vs1.length + us.length ≤ 100000 := by rw [dqs_len r1, dqs_len r2, ← List.length_append]; exact hz
    exact ⟨l, b, vs1, us, rfl, rfl, hl1, veil_grow _ _ _ _ hs, sz5 hz2, fun p hp => q p _ _ ρ1 H1 h3 E1 hp (dqs_app r1 r2)⟩
end
end Pu
namespace Pu
open PySem L2
/-! a < b < c < d -/
def tChain3 (r1 r2 r3 : R2) (ta tb tc td : TE) : TE := fun σ H Q => ta σ H fun x H1 => tb σ H1 fun y H2 => r1 x y H2 fun z H3 => ∃ k, z = V.bl k ∧ if k = true then tc σ H3 fun w H4 => r2 y w H4 fun z2 H5 => ∃ k2, z2 = V.bl k2 ∧ if k2 = true then td σ H5 fun u H6 => r3 w u H6 Q else Q (.bl false) H5 else Q (.bl false) H3
section
variable {X : Cx}
theorem pe_chain3 {a b c d : Expr} {ta tb tc td : TE} {pos : Pos} {op1 op2 op3 : CmpOp} {r1 r2 r3 : R2} (o1 : OpR X (compareOp op1) r1) (o2 : OpR X (compareOp op2) r2) (o3 : OpR X (compareOp op3) r3)
    (ha : PE X a ta) (hb : PE X b tb) (hc : PE X c tc) (hd : PE X d td) (hl : lastMarks [op1, op2, op3] [b, c, d] = false := by rfl) : PE X (.Compare a [op1, op2, op3] [b, c, d] pos) (tChain3 r1 r2 r3 ta tb tc td) := by
  refine ⟨fun pins s σ H Q I h => PyProof.Rows.Compare_chain (thn (ha.run pins s σ H _ I h) fun v s1 ⟨x, H1, I1, e1, q1⟩ => ?_) hl⟩
  rw [compareChain.eq_def]
  dsimp only
  refine wpAny_bind (wpAny_holding (thn (hb.run pins s1 σ H1 _ I1 q1) fun u s2 ⟨y, H2, I2, e2, q2⟩ => ?_))
  refine wpAny_bind (wpAny_standAt ?_)
  refine wpAny_bind (wpAny_holding (thn (o1 pins s2 σ H2 x y v u _ I2 e1 e2 q2) fun t s3 ⟨z, H3, I3, e3, k, ez, q3⟩ => ?_))
  subst ez
  cases (show t = Value.bool k from e3)
  refine wpAny_bind (wpAny_release ?_)
  refine wpAny_bind (wpAny_holding (wpAny_truthy_bool ?_))
  cases k with
  | false => exact wpAny_pure ⟨.bl false, H3, I3, rfl, q3⟩
  | true =>
    have q3 := q3
    rw [if_pos rfl] at q3 ⊢
    rw [compareChain.eq_def]
    dsimp only
    refine wpAny_bind (wpAny_holding (thn (hc.run pins s3 σ H3 _ I3 q3) fun u2 s4 ⟨y2, H4, I4, e4, q4⟩ => ?_))
    refine wpAny_bind (wpAny_standAt ?_)
    refine wpAny_bind (wpAny_holding (thn (o2 pins s4 σ H4 y y2 u u2 _ I4 e2 e4 q4) fun t2 s5 ⟨z2, H5, I5, e5, k2, ez2, q5⟩ => ?_))
    subst ez2
    cases (show t2 = Value.bool k2 from e5)
    refine wpAny_bind (wpAny_release ?_)
    refine wpAny_bind (wpAny_holding (wpAny_truthy_bool ?_))
    cases k2 with
    | false => exact wpAny_pure ⟨.bl false, H5, I5, rfl, q5⟩
    | true =>
      have q5 := q5
      rw [if_pos rfl] at q5 ⊢
      rw [compareChain.eq_def]
      refine wpAny_bind (wpAny_holding (thn (hd.run pins s5 σ H5 _ I5 q5) fun u3 s6 ⟨y3, H6, I6, e6, q6⟩ => ?_))
      refine wpAny_bind (wpAny_standAt ?_)
      exact wpAny_operateT (o3 pins s6 σ H6 y2 y3 u2 u3 _ I6 e4 e6 q6)
end
section
variable {K : PySem.W.Frag}
def pChain3 (f g h : Int → Int → Bool) (pa pb pc pd : PE') : PE' := fun ρ R => pa ρ fun x ρ1 => pb ρ1 fun y ρ2 => asI x fun i => asI y fun j => if f i j = true then pc ρ2 fun z ρ3 => asI z fun k => if g j k = true then pd ρ3 fun u ρ4 => asI u fun l => R (.bool (h k l)) ρ4 else R (.bool false) ρ3 else R (.bool false) ρ2
theorem sim_chain3 {f g h : Int → Int → Bool} {ta tb tc td : TE} {pa pb pc pd : PE'} (sa : Sim K ta pa) (sb : Sim K tb pb) (sc : Sim K tc pc) (sd : Sim K td pd) :
    Sim K (tChain3 (rI0 fun i j => .bl (f i j)) (rI0 fun i j => .bl (g i j)) (rI0 fun i j => .bl (h i j)) ta tb tc td) (pChain3 f g h pa pb pc pd) := fun B Z A H0 M σ H ρ R E hh Q q =>
  two sa sb E hh fun v w x y ρ2 H2 h2 E2 d1 d2 => by
    obtain ⟨i, rfl, h3⟩ := asI_of h2
    obtain ⟨j, rfl, h4⟩ := asI_of h3
    clear h2 h3
    have h2 := h4
    rw [of_int d1, of_int d2]
    refine ⟨i, j, rfl, rfl, f i j, rfl, ?_⟩
    cases hf : f i j with
    | true =>
      rw [if_pos hf] at h2
      rw [if_pos rfl]
      refine sc B Z A H0 M σ H2 ρ2 _ E2 h2 _ fun v3 z ρ3 H3 h3 E3 d3 => ?_
      obtain ⟨k, rfl, h5⟩ := asI_of h3
      clear h3
      have h3 := h5
      clear h5
      rw [of_int d3]
      refine ⟨j, k, rfl, rfl, g j k, rfl, ?_⟩
      cases hg : g j k with
      | true =>
        rw [if_pos hg] at h3
        rw [if_pos rfl]
        refine sd B Z A H0 M σ H3 ρ3 _ E3 h3 _ fun v4 u ρ4 H4 h4 E4 d4 => ?_
        obtain ⟨l, rfl, h4⟩ := asI_of h4
        rw [of_int d4]
        exact ⟨k, l, rfl, rfl, q _ _ _ _ h4 E4 (.bl _)⟩
      | false =>
        rw [hg, if_neg Bool.false_ne_true] at h3
        rw [if_neg Bool.false_ne_true]
        exact q _ _ _ _ h3 E3 (.bl _)
    | false =>
      rw [hf, if_neg Bool.false_ne_true] at h2
      rw [if_neg Bool.false_ne_true]
      exact q _ _ _ _ h2 E2 (.bl _)
end
end Pu
namespace Pu
open PySem L2
/-- list(range(n)) -/
def pLstRg1 (pb : PE') : PA' := fun ρ R => pb ρ fun y ρ2 => asI y fun b => RgOk 0 b ∧ R (rgD 0 b) ρ2
theorem sim_lstRg1 {K : PySem.W.Frag} {tb : TE} {pb : PE'} (sb : Sim K tb pb) : SimL K (tLstRg (tRg1 tb)) (pLstRg1 pb) := fun B Z A H0 M σ H ρ R E h Q q =>
  sb B Z A H0 M σ H ρ _ E h _ fun w y ρ2 H2 h2 E2 d2 => by
    obtain ⟨b, rfl, h4, h5⟩ := asI_of h2
    exact ⟨b, of_int d2, h4, fun p hp => q p _ _ _ _ h5 E2 hp dqs_rg⟩
end Pu
namespace Pu
open PySem L2
section
variable {X : Cx}
theorem pt_chain3 {a b c d : Expr} {ta tb tc td : TE} {pos : Pos} {op1 op2 op3 : CmpOp} {r1 r2 r3 : R2} (o1 : OpR X (compareOp op1) r1) (o2 : OpR X (compareOp op2) r2) (o3 : OpR X (compareOp op3) r3)
    (ha : PE X a ta) (hb : PE X b tb) (hc : PE X c tc) (hd : PE X d td) (hl : lastMarks [op1, op2, op3] [b, c, d] = false := by rfl) : PT X (.Compare a [op1, op2, op3] [b, c, d] pos) (tTest (tChain3 r1 r2 r3 ta tb tc td)) := by
  refine ⟨fun pins s σ H Q I h => PyProof.Rows.isTrue_chain (thn (ha.run pins s σ H _ I h) fun v s1 ⟨x, H1, I1, e1, q1⟩ => ?_) hl⟩
  rw [testChain.eq_def]
  dsimp only
  refine wpAny_bind (wpAny_holding (thn (hb.run pins s1 σ H1 _ I1 q1) fun u s2 ⟨y, H2, I2, e2, q2⟩ => ?_))
  refine wpAny_bind (wpAny_standAt ?_)
  refine wpAny_bind (wpAny_holding (thn (o1 pins s2 σ H2 x y v u _ I2 e1 e2 q2) fun t s3 ⟨z, H3, I3, e3, k, ez, q3⟩ => ?_))
  subst ez
  cases (show t = Value.bool k from e3)
  refine wpAny_bind (wpAny_release ?_)
  refine wpAny_bind (wpAny_holding (wpAny_truthy_bool ?_))
  cases k with
  | false =>
    obtain ⟨k', e', q'⟩ := q3
    cases e'
    exact wpAny_pure ⟨H3, I3, q'⟩
  | true =>
    have q3 := q3
    rw [if_pos rfl] at q3 ⊢
    rw [testChain.eq_def]
    dsimp only
    refine wpAny_bind (wpAny_holding (thn (hc.run pins s3 σ H3 _ I3 q3) fun u2 s4 ⟨y2, H4, I4, e4, q4⟩ => ?_))
    refine wpAny_bind (wpAny_standAt ?_)
    refine wpAny_bind (wpAny_holding (thn (o2 pins s4 σ H4 y y2 u u2 _ I4 e2 e4 q4) fun t2 s5 ⟨z2, H5, I5, e5, k2, ez2, q5⟩ => ?_))
    subst ez2
    cases (show t2 = Value.bool k2 from e5)
    refine wpAny_bind (wpAny_release ?_)
    refine wpAny_bind (wpAny_holding (wpAny_truthy_bool ?_))
    cases k2 with
    | false =>
      obtain ⟨k', e', q'⟩ := q5
      cases e'
      exact wpAny_pure ⟨H5, I5, q'⟩
    | true =>
      have q5 := q5
      rw [if_pos rfl] at q5 ⊢
      rw [testChain.eq_def]
      refine wpAny_bind (wpAny_holding (thn (hd.run pins s5 σ H5 _ I5 q5) fun u3 s6 ⟨y3, H6, I6, e6, q6⟩ => ?_))
      refine wpAny_bind (wpAny_standAt ?_)
      refine wpAny_bind (wpAny_operateT (thn (o3 pins s6 σ H6 y2 y3 u2 u3 _ I6 e4 e6 q6) fun t3 s7 ⟨z3, H7, I7, e7, k3, ez3, q7⟩ => ?_))
      subst ez3
      cases (show t3 = Value.bool k3 from e7)
      exact wpAny_holding (wpAny_truthy_bool ⟨H7, I7, q7⟩)
end
end Pu
namespace Pu
open PySem L2
/-! places forgotten (a comprehension's name that a loop of the def has used) -/
def forgetC : En → List Nat → En
  | ρ, [] => ρ
  | ρ, i :: is => forgetC (cellSet ρ i .no) is
def pFgt (is : List Nat) (p : PS') : PS' := fun G ρ => p G (forgetC ρ is)
section
variable {K : PySem.W.Frag}
theorem env_no {B Z : Addr → Prop} {A H0 H : Hp} {M : Nat → Option Addr} {σ : St} {ρ : En} (E : EnvR K B Z A H0 M σ H ρ) (i : Nat) : EnvR K B Z A H0 M σ H (cellSet ρ i .no) := by
  rw [cellSet_eq]
  refine { E with len := by rw [List.length_set]; exact E.len, cell := fun j c h => ?_ }
  rw [List.getElem?_set] at h
  by_cases e : i = j
  · rw [if_pos e] at h
    by_cases l : i < ρ.length
    · rw [if_pos l] at h
      cases h
      trivial
    · rw [if_neg l] at h
      cases h
  · rw [if_neg e] at h
    exact E.cell j c h
theorem env_forget {B Z : Addr → Prop} {A H0 H : Hp} {M : Nat → Option Addr} {σ : St} : ∀ (is : List Nat) {ρ : En}, EnvR K B Z A H0 M σ H ρ → EnvR K B Z A H0 M σ H (forgetC ρ is)
  | [], _, E => E
  | i :: is, _, E => env_forget is (env_no E i)
theorem s_fgt {is : List Nat} {ts : TS} {p : PS'} (s : SimS K ts p) : SimS K ts (pFgt is p) := fun B Z A H0 M σ H ρ D G E h C =>
  s B Z A H0 M σ H _ D G (env_forget is E) h C
theorem s2_fgt {Hx : Hp} {C : Addr} {X : XK} {is : List Nat} {ts : TS} {p : PS'} (s : SimS2 K Hx C X ts p) : SimS2 K Hx C X ts (pFgt is p) := fun Z A M σ H ρ D G E h a b c =>
  s Z A M σ H _ D G (env_forget is E) h a b c
theorem sF_fgt {is : List Nat} {ts : TS} {p : PS'} (s : SimSF K ts p) : SimSF K ts (pFgt is p) := fun Z A H0 M σ H ρ D G E h C =>
  s Z A H0 M σ H _ D G (env_forget is E) h C
end
end Pu
namespace Pu
open PySem PySem.Spec PyProof.Rows L2
/-! set(t), t a tuple of ints; sorted of it; set of what stands either way -/
section
variable {P : Program} {w : World} {A : Around} {E : Value → Shared → Prop} {s : Shared}
set_option maxHeartbeats 3200000 in
theorem call_set_tup {l : Addr} {xs : Array Value} (ns : List Int) {Q : Value → Shared → Prop} (hA : A.handled = none) (hl : s.heap.IsTuple l xs) (hi : IntsAre xs.toList ns) (room : ns.length + 1 < scanBound)
    (h : ∀ (g : Heap) (tk c : Nat), SetR w g s.heap.objs.size (fun j => decide (j ∈ ns)) c → c ≤ ns.length → (∀ b o, s.heap.get? b = some o → g.get? b = some o) → Q (.ref s.heap.objs.size) { s with heap := g, toks := tk }) :
    wpAny (model P w) A (call (.type "set") [.ref l]) Q E s := by
  have hz : xs.size = ns.length := by simpa using IntsAre.length hi
  obtain ⟨_, _, m1⟩ := F.called_set.mro
  have m2 := F.called_set.made
  have m3 := F.called_set.sub
  have m4 := F.called_set.notType
  have m5 := F.called_set.canCreate
  have m6 := F.typeCall_set_1 (.ref l)
  refine wpAny_call <| codeAny_of_tree ?_
  show wpAny _ _ (callAny (.type "set") _) _ _ _
  refine wpAny_pure ⟨Code.quiet_builtin _ (by decide +kernel), codeAny_builtin F.entry_type_call ?_⟩
  rw [Around.under_plain (weight_type_call_type "set" [.ref l] []) rfl]
  repeat any_goals first | assumption | wp_step
  refine codeAny_mono (code_set_led1 (.ref l) (E := E)
    (Q₁ := fun r t => r = .ref s.heap.objs.size ∧ t = { s with heap := s.heap.push (bare w) }) ⟨rfl, rfl⟩) fun r t ht => ?_
  cases r with
  | error _ => exact ht
  | ok fl =>
    cases fl with
    | ret _ =>
      obtain ⟨rfl, rfl⟩ := ht
      have at0 : (s.heap.push (bare w)).get? s.heap.objs.size = some (bare w) := Heap.get?_push_size _ rfl
      have ty0 : Shared.TypeIs { s with heap := s.heap.push (bare w) } (.ref s.heap.objs.size) "set" := ⟨_, at0, rfl⟩
      have i1 := F.called_set.init.lookup
      have i2 := F.called_set.init.bind (.ref s.heap.objs.size)
      repeat any_goals first | assumption | wp_step
      refine codeAny_mono (codeAny_call_builtin (R := wants (Laid w s.heap.objs.size ns s) E) F.called_set.init.plain F.entry_set_init (check_set_init_1 ty0 ?_)) fun r2 t2 ht2 => ?_
      · have l1 : (s.heap.push (bare w)).IsTuple l xs := hl.push _
        obtain ⟨⟨k1, k2, k3, k4⟩, ho, kc, n, kd⟩ := hl
        obtain rfl : k1 = .type "tuple" := kc
        obtain rfl : k3 = .seq xs n := kd
        have ho1 : (s.heap.push (bare w)).get? l = some { cls := .type "tuple", dict := k2, data := .seq xs n, slots := k4 } := Heap.get?_push_of_some _ ho
        have q1 := F.sub_tuple_set
        have q2 := F.sub_tuple_frozenset
        have q3 : (Value.type "tuple" == Value.type "dict") = false := by decide
        unfold Builtin.«set.__init__» noKeywords Builtin.Frozenset.updateFrom
        generalize hIt : pyIter = IT
        wp_walk
        subst hIt
        refine wpAny_pyIter_tuple l1 (wpAny_bind (wpAny_runValue ?_))
        have l0 : l < s.heap.objs.size := Heap.lt_size ho
        have hA3 : A.in1.in1.in1.handled = none := by simp [hA]
        have z1 : (s.heap.push (bare w)).objs.size = s.heap.objs.size + 1 := Heap.size_push ..
        have neI : l ≠ (s.heap.push (bare w)).objs.size := Nat.ne_of_lt (z1 ▸ Nat.lt_succ_of_lt l0)
        have off : s.heap.objs.size ∉ [(s.heap.push (bare w)).objs.size, l] := by
          intro m
          rcases List.mem_cons.mp m with e | m
          · exact Nat.ne_of_lt (z1 ▸ Nat.lt_succ_self _) e
          · exact Nat.ne_of_gt l0 (List.mem_singleton.mp m)
        refine set_update_ints (Walks.tuple hA3 _ l neI xs).toS s.heap.objs.size off ns hz room (in_lst hi) (xs.size - 0) 0 _ (by omega) (Nat.zero_le _) ⟨⟨_, Heap.get?_push_size _ rfl, rfl, rfl⟩, l1.push _⟩ ?begin ?finish
        case begin => exact ⟨0, Nat.le_refl 0, setR_new_at (Heap.get?_push_of_some _ at0)⟩
        case finish =>
          rintro ⟨g, gs, dr, tk, os⟩ c mv hc hS
          obtain rfl : gs = s.gens := mv.gens
          obtain rfl : dr = s.drawn := mv.drawn
          obtain rfl : os = s.os := mv.os
          show wpAny _ _ _ _ _ _
          refine wpAny_pure ?_
          show wpAny _ _ (ret Value.none) _ _ _
          refine wpAny_pure ⟨rfl, g, tk, c, rfl, hS, hz ▸ hc, fun b o e => ?_⟩
          have b0 : b < s.heap.objs.size := Heap.lt_size e
          refine mv.heap b o (fun m => ?_) (Heap.get?_push_of_some _ (Heap.get?_push_of_some _ e))
          rcases List.mem_cons.mp m with e | m
          · exact Nat.ne_of_lt b0 e
          · exact Nat.ne_of_lt (z1 ▸ Nat.lt_succ_of_lt b0) (List.mem_singleton.mp m)
      · cases r2 with
        | error _ => exact ht2
        | ok fl2 =>
          cases fl2 with
          | ret _ =>
            obtain ⟨rfl, g, tk, c, rfl, hS, hc, hk⟩ := ht2
            repeat any_goals first | assumption | wp_step
            exact h g tk c hS hc hk
          | _ => exact ht2.elim
    | _ => exact ht.elim
end
/-- set(t) -/
def rSetT (K : PySem.W.Frag) (w : World) : List V → Hp → VK → Prop := fun vs H Q => ∃ (p : Addr) (ns : List Int), vs = [.ref p] ∧ SqT K H p (ns.map V.int) ∧ ns.length + 1 < scanBound ∧
  ∀ (a : Addr) (c : Nat), c ≤ ns.length → H a = none → Q (.ref a) (upd H a (SetO w a (fun j => decide (j ∈ ns)) c))
theorem c_setT {X : Cx} (hc : X.calm = true) : CallR X (.type "set") (rSetT X.K X.w) := by
  intro pins s σ H vs us Q I r h
  obtain ⟨p, ns, rfl, hp, hl, q⟩ := h
  rw [Vals.ref1 r]
  obtain ⟨its, rv, pl, _⟩ := I.tuple hp
  refine call_set_tup ns (I.ok.hd hc) pl (ints_of_vals rv) hl fun g tk c R1 hcn k => ?_
  exact ⟨.ref _, _, I.laid (t' := tk) k (Nat.le_refl _) (setO_new R1), rfl, q _ c hcn (I.hok.fresh (Nat.le_refl _))⟩
/-- set(x), x a list or a tuple of ints -/
def rSetA (K : PySem.W.Frag) (w : World) : List V → Hp → VK → Prop := fun vs H Q => rSetL K w vs H Q ∨ rSetT K w vs H Q
theorem c_setA {X : Cx} (hc : X.calm = true) : CallR X (.type "set") (rSetA X.K X.w) := by
  intro pins s σ H vs us Q I r h
  rcases h with h | h
  · exact c_setL hc _ _ _ _ _ _ _ I r h
  · exact c_setT hc _ _ _ _ _ _ _ I r h
def pSortSetA (pa : PA') : PA' := fun ρ R => pa ρ fun ds ρ1 => ∃ ns : List Int, (ds = [.list (ns.map PyData.int)] ∨ ds = [.tuple (ns.map PyData.int)]) ∧ ns.length < 60 ∧
    ∀ ns' : List Int, ns'.Pairwise (· < ·) → (∀ k, k ∈ ns' ↔ k ∈ ns) → ns'.length ≤ ns.length → R (ns'.map PyData.int) ρ1
section
variable {K : PySem.W.Frag}
theorem sim_sortSetA {w : World} {ta : TA} {pa : PA'} (sa : SimA K ta pa) : SimL K (tCB (rSortedSet w) (tCons (tCB (rSetA K w) ta) tNil)) (pSortSetA pa) := fun B Z A H0 M σ H ρ R E h Q q =>
  sa B Z A H0 M σ H ρ _ E h _ fun vs ds ρ1 H1 ⟨ns, e, hl, h2⟩ E1 d1 => by
    rcases e with rfl | rfl
    · obtain ⟨v, rfl, dv⟩ := one_of d1
      cases dv with
      | lst hl0 r =>
        have e := dqs_of_ints r
        subst e
        refine .inl ⟨_, ns, rfl, .of (veil_grow _ _ _ _ hl0), hl, fun a c hc ha => ⟨a, _, c, rfl, upd_same, by omega, fun ns' p pw mem len hp => ?_⟩⟩
        exact q p _ _ ρ1 _ (h2 ns' pw (fun k => (mem k).trans decide_eq_true_iff) (by omega)) (E1.grown (grow_new ha)) hp dqs_ints
    · obtain ⟨v, rfl, dv⟩ := one_of d1
      cases dv with
      | tup hl0 r =>
        have e := dqs_of_ints r
        subst e
        refine .inr ⟨_, ns, rfl, grow_t (veil_grow _ _) hl0, by unfold scanBound; omega, fun a c hc ha => ⟨a, _, c, rfl, upd_same, by omega, fun ns' p pw mem len hp => ?_⟩⟩
        exact q p _ _ ρ1 _ (h2 ns' pw (fun k => (mem k).trans decide_eq_true_iff) (by omega)) (E1.grown (grow_new ha)) hp dqs_ints
end
end Pu
namespace Pu
open PySem L2
/-! objects that are not changed any more, as data: made, their fields read, their methods called -/
def asOb : PyData → (Str → List PyData → Prop) → Prop
  | .dict [(.list [], .tuple (.str nm :: fs))], k => k nm fs
  | _, _ => False
def lookD (f : Str) : List PyData → Option PyData
  | .tuple [.str g, d] :: r => if f == g then some d else lookD f r
  | _ => none
theorem lookD_fs {f : Str} : ∀ {fs : List (Str × PyData)}, lookD f (fs.map fdD) = fs.lookup f
  | [] => rfl
  | (g, d) :: r => by
    show (if f == g then some d else lookD f (r.map fdD)) = List.lookup f ((g, d) :: r)
    unfold List.lookup
    cases h : f == g with
    | true => rfl
    | false => exact lookD_fs
def pFldD (pa : PE') (nm f : Str) : PE' := fun ρ R => pa ρ fun x ρ1 => asOb x fun n fs => n = nm ∧ asO (lookD f fs) fun d => R d ρ1
/-- C(..), an object that is not changed from then on -/
def pMakeD (nm : Str) (n : Nat) (S : FSO) (pa : PA') : PE' := fun ρ R => pa ρ fun ds ρ1 => ds.length = n ∧ S [] ds fun d fs => d = .none ∧ R (obD nm fs) ρ1
def pMethD (pr : PE') (nm m : Str) (n : Nat) (S : FS) (pa : PA') : PE' := fun ρ R => pr ρ fun x ρ1 => asOb x fun n1 fs1 => n1 = nm ∧ lookD m fs1 = none ∧ pa ρ1 fun ds ρ2 => ds.length = n ∧ S (x :: ds) fun d => R d ρ2
section
variable {K : PySem.W.Frag}
theorem asOb_of {x : PyData} {k : Str → List PyData → Prop} (h : asOb x k) : ∃ nm fs, x = .dict [(.list [], .tuple (.str nm :: fs))] ∧ k nm fs := by
  unfold asOb at h
  split at h
  · exact ⟨_, _, rfl, h⟩
  · exact h.elim
theorem dks_head {H : Hp} {ws : List (Key × V)} {kvs : List (PyData × PyData)} (h : Dks K H ws kvs) : ∀ x d r, kvs = (x, d) :: r → ∃ k : Key, x = keyD k := by
  cases h with
  | nil => intro x d r e; cases e
  | cons h r => intro x d r e; cases e; exact ⟨_, rfl⟩
theorem ob_inv {H : Hp} {v : V} {nm : Str} {gs : List PyData} (h : Dq K H v (.dict [(.list [], .tuple (.str nm :: gs))])) : ∃ a C dx ws fs, v = .ref a ∧ gs = fs.map fdD ∧ ClsNm K nm C ∧ H a = some (.ins C dx ws) ∧ Fds K H ws fs := by
  cases h with
  | dct hl r =>
    obtain ⟨k, e⟩ := dks_head r _ _ _ rfl
    cases k <;> cases e
  | ob hc hl r => exact ⟨_, _, _, _, _, rfl, rfl, hc, hl, r⟩
theorem sim_fldD {te : TE} {pa : PE'} {nm f : Str} (hc : ∀ C, ClsNm K nm C → Cls K C ∧ NoAttr K C f) (sa : Sim K te pa) : Sim K (tFld K te f) (pFldD pa nm f) := fun B Z A H0 M σ H ρ R E h Q q =>
  sa B Z A H0 M σ H ρ _ E h _ fun v x ρ1 H1 h1 E1 d1 => by
    obtain ⟨n, gs, rfl, rfl, h2⟩ := asOb_of h1
    obtain ⟨a, C, dx, ws, fs, rfl, rfl, c, hl, r⟩ := ob_inv d1
    obtain ⟨d, hd, h3⟩ := asO_of h2
    rw [lookD_fs] at hd
    obtain ⟨u, hu, du⟩ := fds_get r hd
    exact ⟨a, C, dx, ws, u, rfl, veil_grow _ _ _ _ hl, (hc C c).1, (hc C c).2, hu, q u d ρ1 H1 h3 E1 du⟩
theorem sim_makeD {n : Nat} {nm : Str} {C0 : Addr} {S : FSO} {EX : XK} {ta : TA} {pa : PA'} (hn : ClsNm K nm C0) (sa : SimA K ta pa) : Sim K (tMake C0 (spO K nm n S) [] EX ta) (pMakeD nm n S pa) := fun B Z A H0 M σ H ρ R E h Q q =>
  sa B Z A H0 M σ H ρ _ E h _ fun vs ds ρ1 H1 h1 E1 d1 x dx hx hdx ne => by
    rw [List.append_nil]
    have ng : Grow H1 (upd (upd H1 dx (.own x)) x (.ins C0 dx [])) := (grow_new hdx).trans (grow_new (by rw [upd_ne (Ne.symm ne)]; exact hx))
    have nh : ¬ hid Z M x := E1.veiled hx
    have live : ∀ a, hid Z M a → (upd (upd H1 dx (.own x)) x (.ins C0 dx [])) a ≠ none := fun a z => by
      have : H1 a ≠ none := z.elim (fun z => E1.zl a z) fun ⟨j, m⟩ => E1.live j a m
      cases q : H1 a with
      | none => exact absurd q this
      | some o =>
        rw [ng a o q]
        intro z; cases z
    have gv : Grow (veil (hid Z M) H1) (veil (plus (hid Z M) x) (upd (upd H1 dx (.own x)) x (.ins C0 dx []))) := fun a o h => by
      obtain ⟨h1, h2⟩ := veil_off h
      refine veil_on (fun z => z.elim h1 fun e => ?_) (ng a o h2)
      rw [e, hx] at h2
      cases h2
    refine ⟨x, vs, rfl, by rw [dqs_len d1]; exact h1.1, hid Z M, ds, [], _, nh, live, ⟨C0, dx, [], hn, upd_same, .nil⟩, dps_grow gv _ _ d1, h1.2, fun d fs' v H' k g hb dv => ?_⟩
    have g1 : Grow H1 H' := fun a o h => g a o (fun e => by rw [e, hx] at h; cases h) (ng a o h)
    obtain ⟨k1, k2⟩ := k
    subst k1
    cases dv
    obtain ⟨C, dx', ws, c1, c2, c3⟩ := hb
    exact ⟨rfl, q _ _ ρ1 H' k2 (E1.grown g1) (.ob c1 (veil_on nh c2) (fds_grow (veil_less fun a z => .inl z) c3))⟩
theorem sim_methD {n : Nat} {nm m : Str} {C0 : Addr} {S : FS} {EX : XK} {tr : TE} {pr : PE'} {ta : TA} {pa : PA'} (hn : ClsNm K nm C0) (sr : Sim K tr pr) (sa : SimA K ta pa) : Sim K (tMeth C0 m (spP K (n + 1) S) [] EX tr ta) (pMethD pr nm m n S pa) := fun B Z A H0 M σ H ρ R EE h Q q =>
  sr B Z A H0 M σ H ρ _ EE h _ fun v x ρ1 H1 h1 E1 d1 => by
    obtain ⟨n1, gs, rfl, rfl, hm, h2⟩ := asOb_of h1
    obtain ⟨a, C, dx, ws, fs, rfl, rfl, c, hl, r⟩ := ob_inv d1
    cases cls_one c hn
    rw [lookD_fs] at hm
    refine ⟨a, dx, ws, rfl, veil_grow _ _ _ _ hl, fds_none r hm, sa B Z _ H0 M σ H1 ρ1 _ E1.anchor h2 _ fun vs ds ρ2 H2 h3 E2 d2 => ?_⟩
    rw [List.append_nil]
    have d1' := dp_grow E2.anch _ _ d1
    refine ⟨by rw [List.length_cons, dqs_len d2, h3.1], hid Z M, _ :: ds, _, fun a z => z.elim (fun z => E2.zl a z) fun ⟨j, m⟩ => E2.live j a m, .cons d1' d2, h3.2, fun d v H' k g dv => ?_⟩
    exact q v d ρ2 H' k ((E2.weak E1.anch).grown g) dv
end
end Pu
namespace Pu
open PySem L2
/-! a field as one of several targets -/
def gFld (K : PySem.W.Frag) (to : TE) (f : Str) : TG := fun v σ H Q => to σ H fun x H1 => ∃ a C dx fs, x = .ref a ∧ H1 a = some (.ins C dx fs) ∧ Cls K C ∧ NoAttr K C f ∧ fs.length < 1000 ∧ Q σ (upd H1 a (.ins C dx (putF f v fs)))
theorem pg_fld {X : Cx} {o : Expr} {to : TE} {f : Str} {pos : Pos} (ho : PE X o to) : PG X (.Attribute o f pos) (gFld X.K to f) := by
  refine ⟨fun pins s σ H v u Q I r h => ?_⟩
  rw [assign_Attribute]
  refine wpAny_bind (wpAny_holding (thn (ho.run pins s σ H _ I h) fun ov s1 ⟨x, H1, I1, rx, a, C, dx, fs, ex, ea, c, n, l, q⟩ => ?_))
  subst ex
  obtain rfl : ov = Value.ref a := rx
  refine wpAny_bind (wpAny_standAt (wpAny_bind (wpAny_holding (setattr_ok I1 ea c n l r fun s3 I3 => ?_))))
  exact wpAny_release ⟨σ, _, I3, q⟩
abbrev PGs' := List PyData → En → (En → Prop) → Prop
def SimH (K : PySem.W.Frag) (g : TG) (pg : PG') : Prop := ∀ B Z A H0 M σ H ρ v d R, EnvR K B Z A H0 M σ H ρ → Dq K (veil (hid Z M) H) v d → pg d ρ R →
  ∀ Q : St → Hp → Prop, (∀ σ' ρ' H', R ρ' → EnvR K B Z A H0 M σ' H' ρ' → Grow (veil (hid Z M) H) (veil (hid Z M) H') → Q σ' H') → g v σ H Q
def SimHs (K : PySem.W.Frag) (g : TGs) (pg : PGs') : Prop := ∀ B Z A H0 M σ H ρ vs ds R, EnvR K B Z A H0 M σ H ρ → Dqs K (veil (hid Z M) H) vs ds → pg ds ρ R →
  ∀ Q : St → Hp → Prop, (∀ σ' ρ' H', R ρ' → EnvR K B Z A H0 M σ' H' ρ' → Grow (veil (hid Z M) H) (veil (hid Z M) H') → Q σ' H') → g vs σ H Q
def pgsN : PGs' := fun ds ρ R => ds = [] ∧ R ρ
def pgsC (pg : PG') (pr : PGs') : PGs' := fun ds ρ R => match ds with
  | d :: r => pg d ρ fun ρ1 => pr r ρ1 R
  | [] => False
def pgTH (n : Nat) (pr : PGs') : PG' := fun d ρ R => asT d fun ds => ds.length = n ∧ pr ds ρ R
def pgF (i : Nat) (nm f : Str) : PG' := fun d ρ R => asObj (cellAt ρ i) fun n fs => n = nm ∧ fs.length < 1000 ∧ R (cellSet ρ i (.obj nm (putFd f d fs)))
section
variable {K : PySem.W.Frag}
theorem gh_name {i : Nat} : SimH K (gName i) (pgN i) := fun B Z A H0 M σ H ρ v d R E hd h Q q => q _ _ H h (E.setD hd) (Grow.refl _)
theorem gh_fld {i : Nat} {nm f : Str} (hc : ∀ C, ClsNm K nm C → Cls K C ∧ NoAttr K C f) : SimH K (gFld K (tVar i) f) (pgF i nm f) := fun B Z A H0 M σ H ρ v d R E hd h Q q => by
  obtain ⟨n, fs, ec, rfl, hz, h2⟩ := asObj_of h
  obtain ⟨l, Cc, dx, ws, e, m, c, hl, r⟩ := obj_at E ec
  refine ⟨.ref l, e, l, Cc, dx, ws, rfl, hl, (hc Cc c).1, (hc Cc c).2, by rw [fds_len r]; exact hz, ?_⟩
  have gv : Grow (veil (hid Z M) H) (veil (hid Z M) (upd H l (.ins Cc dx (putF f v ws)))) := fun a o h => by
    obtain ⟨h1, h2⟩ := veil_off h
    exact veil_on h1 ((upd_ne fun e => h1 (.inr ⟨i, by rw [e]; exact m⟩)).trans h2)
  exact q _ _ _ h2 (E.objCh m ec (fun a o ne h => (upd_ne ne).trans h) ⟨Cc, dx, _, c, upd_same, fds_put (dp_grow gv _ _ hd) (fds_grow gv r)⟩) gv
theorem ghs_nil : SimHs K gNil pgsN := fun B Z A H0 M σ H ρ vs ds R E r h Q q => by
  obtain ⟨rfl, h⟩ := h
  cases r
  exact ⟨rfl, q _ _ _ h E (Grow.refl _)⟩
theorem ghs_cons {g : TG} {u : TGs} {pg : PG'} {pr : PGs'} (sg : SimH K g pg) (su : SimHs K u pr) : SimHs K (gCons g u) (pgsC pg pr) := fun B Z A H0 M σ H ρ vs ds R E r h Q q => by
  cases r with
  | nil => exact h.elim
  | cons hd r =>
    refine ⟨_, _, rfl, sg B Z A H0 M σ H ρ _ _ _ E hd h _ fun σ1 ρ1 H1 h1 E1 g1 => ?_⟩
    exact su B Z A H0 M σ1 H1 ρ1 _ _ _ E1 (dps_grow g1 _ _ r) h1 _ fun σ2 ρ2 H2 h2 E2 g2 => q _ _ _ h2 E2 (g1.trans g2)
theorem gh_tup {n : Nat} {u : TGs} {pr : PGs'} (su : SimHs K u pr) : SimH K (gTup K n u) (pgTH n pr) := fun B Z A H0 M σ H ρ v d R E hd h Q q => by
  obtain ⟨ds, rfl, hl, h⟩ := asT_of h
  cases hd with
  | tup ht r => exact ⟨_, _, rfl, grow_t (veil_grow _ _) ht, by rw [dqs_len r, hl], su B Z A H0 M σ H ρ _ ds _ E r h Q q⟩
theorem s_asgH {te : TE} {pa : PE'} {g : TG} {pg : PG'} (sa : Sim K te pa) (sg : SimH K g pg) : SimS K (tAsg te g) (pAsg pa pg) := fun B Z A H0 M σ H ρ D G E h C =>
  sa B Z A H0 M σ H ρ _ E h _ fun v d ρ1 H1 h1 E1 d1 => sg B Z A H0 M σ H1 ρ1 v d _ E1 d1 h1 _ fun σ' ρ' H' hR E' _ => C.nx M σ' H' ρ' E' hR
end
end Pu
namespace Pr
open PySem L2 Pu N7
/-! marks in twos, out of a tuple -/
def S_pairedT : FS := fun ds k => match ds with
  | [.int a, .bool i, .tuple xs, .int b] => ∃ (l : List Int) (rs : Rn), xs = nums l ∧ l.length ≤ 90000 ∧ flat rs = (if i then a :: l else l) ++ (if odd (if i then a :: l else l).length then [b] else []) ∧ k (.list (rs.map runD))
  | _ => False
theorem pure_pairedT (ds : List PyData) (c : PyData → Prop) (hl : ds.length = 4) (h : S_pairedT ds c) : p_paired (fin c) (startE N_paired ds) := by
  unfold S_pairedT at h
  split at h
  · rename_i a i xs b
    obtain ⟨l, rs, rfl, hn, hf, h⟩ := h
    -- behind the marks
    have rest : ∀ m : List Int, m.length ≤ 90001 → flat rs = m ++ (if odd m.length then [b] else []) →
        (pSeq (pIfS (pTst (pEqD false (pIIc (fun _ j => 0 < j) (fun i j => .int (i % j)) (pLenO 4) (pC (.int 2))) (pC (.int 1)))) (pApp 4 (pVar 3)) pNext)
      (pRet (pNew (pListZip (pCons (pNew (pPickO 4 pNoP pNoP (pPart (pC (.int 2))))) (pCons (pNew (pPickO 4 (pPart (pC (.int 1))) pNoP (pPart (pC (.int 2))))) pNil)))))) (fin c) ([.d (.int a), .d (.bool i), .d (.tuple (nums l)), .d (.int b), .own (nums m)] : En) := fun m ml mf => by
      have last : ∀ m : List Int, m.length ≤ 90002 → flat rs = m → (pRet (pNew (pListZip (pCons (pNew (pPickO 4 pNoP pNoP (pPart (pC (.int 2))))) (pCons (pNew (pPickO 4 (pPart (pC (.int 1))) pNoP (pPart (pC (.int 2))))) pNil))))) (fin c) ([.d (.int a), .d (.bool i), .d (.tuple (nums l)), .d (.int b), .own (nums m)] : En) := fun m ml mf => by
        have e1 : pickV (nums m) none none (some 2) = nums (rs.map fun r => r.1) := by
          rw [pickV_even, evens_map, ← mf, evens_flat]
        have e2 : pickV (nums m) (some 1) none (some 2) = nums (rs.map fun r => r.2) := by
          rw [pickV_odd, ← List.map_drop, evens_map, ← mf, evens_flat2]
        have n1 : rs.length ≤ 45001 := by
          have := flat_length rs
          rw [mf] at this
          omega
        refine ⟨by decide, ?_, by decide, ?_, ?_⟩
        · rw [e1, List.length_map, List.length_map]
          omega
        · rw [e2, List.length_map, List.length_map]
          omega
        · show c (.list (((pickV (nums m) none none (some 2)).zip (pickV (nums m) (some 1) none (some 2))).map pairD))
          rw [e1, e2, zip_runs]
          exact h
      refine ⟨(by decide : (0 : Int) < 2), rfl, rfl, ?_⟩
      show (if PyData.eqv (.int (((nums m).length : Int) % 2)) (.int 1) = true then _ else _)
      rw [odd_py, List.length_map]
      refine tf (fun z => ?_) (fun z => ?_)
      · rw [if_pos z] at mf
        refine ⟨by rw [List.length_map]; omega, ?_⟩
        have k := last (m ++ [b]) (by rw [List.length_append, List.length_singleton]; omega) mf
        rw [nums_snoc] at k
        exact k
      · rw [if_neg (by rw [z]; exact Bool.false_ne_true), List.append_nil] at mf
        exact last m (by omega) mf
    cases i with
    | true =>
      refine ⟨by decide, true, rfl, ?_, ?_⟩
      · show (PyData.int a :: (nums l ++ [])).length ≤ 100000
        rw [List.length_cons, List.append_nil, List.length_map]
        omega
      · have k := rest (a :: l) (by rw [List.length_cons]; omega) hf
        have e : (PyData.int a :: (nums l ++ [])) = nums (a :: l) := by
          rw [List.append_nil]
          rfl
        show (pSeq _ _) (fin c) ([.d (.int a), .d (.bool true), .d (.tuple (nums l)), .d (.int b), .own (PyData.int a :: (nums l ++ []))] : En)
        rw [e]
        exact k
    | false => exact ⟨by decide, false, rfl, rest l (by omega) hf⟩
  · exact h.elim

/-! tallies, as data -/
def rowD (rs : Rn) : PyData := obD "Row" [("starts", .list (nums (rs.map fun r => r.1))), ("sums", .list (nums (sumsOf 0 rs))), ("many", .int (tot rs))]
def sideT (s : Sd) (R : Rn) : PyData := obD "SideTally" [("period", .int s.p), ("row", rowD R), ("many", .int (tot R))]
def talD (D : Ds) (L R : Rn) : PyData := obD "Tally" [("low", .int D.low), ("high", .int D.high), ("left", sideT D.l L), ("row", rowD D.rs), ("right", sideT D.r R)]
structure RowOk (rs : Rn) : Prop where
  from_ : ∃ lo, RunsFrom lo rs
  few : rs.length ≤ 45000
structure SdT (s : Sd) (R : Rn) : Prop where
  b : SdB s
  p : s.p ≤ 90000
  w : Win (holds s) 0 s.p R
  few : R.length ≤ 45000
structure DsT (D : Ds) (L R : Rn) : Prop where
  b : DsB D
  l : SdT D.l L
  r : SdT D.r R
def S_Row_init : FSO := fun fs ds k => match fs, ds with
  | [], [r] => ∃ rs : Rn, (r = runsD rs ∨ r = .list (rs.map runD)) ∧ RowOk rs ∧ k .none [("starts", .list (nums (rs.map fun r => r.1))), ("sums", .list (nums (sumsOf 0 rs))), ("many", .int (tot rs))]
  | _, _ => False
def S_Row_below : FS := fun ds k => match ds with
  | [d, .int m] => ∃ rs : Rn, d = rowD rs ∧ RowOk rs ∧ k (.int (rcnt rs m))
  | _ => False
def S_Row_at : FS := fun ds k => match ds with
  | [d, .int i] => ∃ rs : Rn, d = rowD rs ∧ RowOk rs ∧ 0 ≤ i ∧ i < tot rs ∧ ∀ x, inRuns rs x = true → rcnt rs x = i → k (.int x)
  | _ => False
def S_SideTally_init : FSO := fun fs ds k => match fs, ds with
  | [], [d] => ∃ (s : Sd) (R : Rn), d = sideD s ∧ SdT s R ∧ k .none [("period", .int s.p), ("row", rowD R), ("many", .int (tot R))]
  | _, _ => False
def S_SideTally_below : FS := fun ds k => match ds with
  | [d, .int m] => ∃ (s : Sd) (R : Rn), d = sideT s R ∧ SdT s R ∧ k (.int (sF s R m))
  | _ => False
def S_SideTally_at : FS := fun ds k => match ds with
  | [d, .int i] => ∃ (s : Sd) (R : Rn), d = sideT s R ∧ SdT s R ∧ 0 < tot R ∧ ∀ x, holds s x = true → sF s R x = i → k (.int x)
  | _ => False
def S_Tally_init : FSO := fun fs ds k => match fs, ds with
  | [], [d] => ∃ (D : Ds) (L R : Rn), d = dsD D ∧ DsT D L R ∧ k .none [("low", .int D.low), ("high", .int D.high), ("left", sideT D.l L), ("row", rowD D.rs), ("right", sideT D.r R)]
  | _, _ => False
def S_Tally_below : FS := fun ds k => match ds with
  | [d, .int m] => ∃ (D : Ds) (L R : Rn), d = talD D L R ∧ DsT D L R ∧ k (.int (tG D L R m))
  | _ => False
/-- the day with that number, or none -/
def NthR (D : Ds) (L R : Rn) (i : Int) (k : PyData → Prop) : Prop := (∀ x, mem D x = true → tG D L R x = i → k (.int x)) ∧ (tot R = 0 → tot D.rs ≤ i → k .none)
def S_Tally_at : FS := fun ds k => match ds with
  | [d, .int i] => ∃ (D : Ds) (L R : Rn), d = talD D L R ∧ DsT D L R ∧ (i < 0 → 0 < tot L) ∧ NthR D L R i k
  | _ => False
def S_count_in : FS := fun ds k => match ds with
  | [d, .int a, .int b] => ∃ (D : Ds) (L R : Rn), d = dsD D ∧ DsT D L R ∧ k (.int (if b ≤ a then 0 else tG D L R b - tG D L R a))
  | _ => False
def S_nth_from : FS := fun ds k => match ds with
  | [d, .int a, .int n] => ∃ (D : Ds) (L R : Rn), d = dsD D ∧ DsT D L R ∧ 1 ≤ n ∧ NthR D L R (tG D L R a + n - 1) k
  | _ => False
def optI (o : Option Int) : PyData := match o with
  | some x => .int x
  | none => .none
/-- the first day from a on that is in -/
def NxtOf (h : Int → Bool) (a : Int) : Option Int → Prop
  | some x => a ≤ x ∧ h x = true ∧ ∀ d, a ≤ d → d < x → h d = false
  | none => ∀ d, a ≤ d → h d = false
/-- the last day up to a that is in -/
def LstOf (h : Int → Bool) (a : Int) : Option Int → Prop
  | some x => x ≤ a ∧ h x = true ∧ ∀ d, x < d → d ≤ a → h d = false
  | none => ∀ d, d ≤ a → h d = false
def S_next_in_side : FS := fun ds k => match ds with
  | [d, .int a] => ∃ s : Sd, d = sideD s ∧ SdB s ∧ ∀ o, NxtOf (holds s) a o → k (optI o)
  | _ => False
def S_last_in_side : FS := fun ds k => match ds with
  | [d, .int a] => ∃ s : Sd, d = sideD s ∧ SdB s ∧ ∀ o, LstOf (holds s) a o → k (optI o)
  | _ => False
def S_next_in : FS := fun ds k => match ds with
  | [d, .int a] => ∃ D : Ds, d = dsD D ∧ DsB D ∧ ∀ o, NxtOf (mem D) a o → k (optI o)
  | _ => False
def S_last_in : FS := fun ds k => match ds with
  | [d, .int a] => ∃ D : Ds, d = dsD D ∧ DsB D ∧ ∀ o, LstOf (mem D) a o → k (optI o)
  | _ => False
end Pr
namespace Pr
open PySem L2 Pu N7
theorem le_k {n : Nat} (h : Nat.ble n 100000 = true := by rfl) : n ≤ 100000 := Nat.le_of_ble_eq_true h
def S_paired10 : FS := fun ds k => S_paired ds k ∨ S_pairedT ds k
theorem pure_paired10 (ds : List PyData) (c : PyData → Prop) (hl : ds.length = 4) (h : S_paired10 ds c) : p_paired (fin c) (startE N_paired ds) := by
  rcases h with h | h
  · exact pure_paired ds c hl h
  · exact pure_pairedT ds c hl h
theorem atI_zero (x : PyData) (l : List PyData) : atI (x :: l) 0 = some x := by
  unfold atI
  rw [List.length_cons]
  unfold ixN
  simp
theorem atI_natD {l : List PyData} {i : Nat} {d : PyData} (h : l[i]? = some d) : atI l ((i : Nat) : Int) = some d := by
  have il : i < l.length := (List.getElem?_eq_some_iff.mp h).1
  unfold atI ixN
  rw [if_pos (by omega), if_pos (by omega)]
  exact h
theorem dropAt {α : Type} {l : List α} {i : Nat} {x : α} (h : l[i]? = some x) : l.drop i = x :: l.drop (i + 1) := by
  obtain ⟨hi, e⟩ := List.getElem?_eq_some_iff.mp h
  rw [List.drop_eq_getElem_cons hi, e]
theorem nums_ix {l : List Int} {i : Nat} {x : Int} (h : l[i]? = some x) : atI (nums l) ((i : Nat) : Int) = some (.int x) := by
  have il := (List.getElem?_eq_some_iff.mp h).1
  rw [nums_at il]
  congr 2
  rw [List.getD_eq_getElem?_getD, h]
  rfl
theorem starts_at (A C : Rn) (q : Int × Int) : ((A ++ q :: C).map fun r => r.1)[A.length]? = some q.1 := by
  rw [List.map_append, List.getElem?_append_right (by rw [List.length_map]; exact Nat.le_refl _), List.length_map, Nat.sub_self]
  rfl
/-- the runs that begin ahead of m -/
theorem starts_cnt {rs : Rn} {lo : Int} (h : RunsFrom lo rs) (m : Int) : (∃ A b e C, rs = A ++ (b, e) :: C ∧ cnt (rs.map fun r => r.1) m = A.length + 1 ∧ b < m ∧ ∀ r ∈ C, m ≤ r.1) ∨ (cnt (rs.map fun r => r.1) m = 0 ∧ ∀ r ∈ rs, m ≤ r.1) := by
  have A0 := starts_asc (hi := runsEnd lo rs) h (Int.le_refl _)
  have cg := fun {i : Nat} {b : Int} (e : (rs.map fun r => r.1)[i]? = some b) => cnt_get A0 m e
  have cl := cnt_le (rs.map fun r => r.1) m
  rw [List.length_map] at cl
  by_cases z : cnt (rs.map fun r => r.1) m = 0
  · refine .inr ⟨z, fun r hr => ?_⟩
    obtain ⟨i, hi⟩ := List.mem_iff_getElem?.mp hr
    have := cg (i := i) (b := r.1) (by rw [List.getElem?_map, hi]; rfl)
    rw [z] at this
    omega
  · obtain ⟨A, ⟨b, e⟩, C, hrs, hA⟩ := split_at (rs := rs) (i := cnt (rs.map fun r => r.1) m - 1) (by omega)
    refine .inl ⟨A, b, e, C, hrs, by omega, ?_, fun r hr => ?_⟩
    · have := cg (i := A.length) (b := b) (by rw [hrs, starts_at])
      exact this.mpr (by omega)
    · obtain ⟨j, hj⟩ := List.mem_iff_getElem?.mp hr
      have := cg (i := A.length + 1 + j) (b := r.1) (by
        rw [hrs, List.getElem?_map, show A ++ (b, e) :: C = (A ++ [(b, e)]) ++ C by simp, List.getElem?_append_right (by simp), show A.length + 1 + j - (A ++ [(b, e)]).length = j by simp, hj]
        rfl)
      omega
abbrev N_Row_below : List Str := ["self", "mark", "place", "behind"]
def p_Row_below : PS' := (pSeq (pAsg (pCall 2 S_count_below (pCons (pFldD (pVar 0) "Row" "starts") (pCons (pVar 1) pNil))) (pgN 2))
      (pSeq (pIfS (pTst (pEqD false (pVar 2) (pC (.int 0)))) (pRet (pC (.int 0))) pNext)
      (pSeq (pAsg (pIfE (pTst (pII (fun i j => .bool (decide (i < j))) (pVar 2) (pFn fLen (pCons (pFldD (pVar 0) "Row" "sums") pNil)))) (pIx (pFldD (pVar 0) "Row" "sums") (pVar 2)) (pFldD (pVar 0) "Row" "many")) (pgN 3))
      (pRet (pFn fMin2 (pCons (pVar 3) (pCons (pII (fun i j => .int (i - j)) (pPlus (pIx (pFldD (pVar 0) "Row" "sums") (pII (fun i j => .int (i - j)) (pVar 2) (pC (.int 1)))) (pVar 1)) (pIx (pFldD (pVar 0) "Row" "starts") (pII (fun i j => .int (i - j)) (pVar 2) (pC (.int 1))))) pNil)))))))
theorem pure_Row_below (ds : List PyData) (c : PyData → Prop) (hl : ds.length = 2) (h : S_Row_below ds c) : p_Row_below (fin c) (startE N_Row_below ds) := by
  unfold S_Row_below at h
  split at h
  · rename_i d m
    obtain ⟨rs, rfl, ⟨⟨lo, hr⟩, hn⟩, h⟩ := h
    refine ⟨rfl, rfl, rs.map fun r => r.1, lo, runsEnd lo rs, .inr rfl, starts_asc hr (Int.le_refl _), by rw [List.length_map]; omega, ?_⟩
    refine ⟨rfl, rfl, ?_⟩
    show (if PyData.eqv (.int (cnt (rs.map fun r => r.1) m : Nat)) (.int 0) = true then _ else _)
    rw [eqv_int]
    rcases starts_cnt hr m with ⟨A, b, e, C, hrs, hc, hb, hC⟩ | ⟨z, hall⟩
    · rw [hc]
      refine ff (decide_eq_false (by omega)) ?_
      subst hrs
      obtain ⟨a1, a2, a3, a4⟩ := runs_parts hr
      have val : rcnt (A ++ (b, e) :: C) m = tot A + (min m e - b) := rcnt_part hr (by omega) hC
      rw [val] at h
      have s1 := sums_at A C (b, e) 0
      -- what stands behind
      have key : ∀ v : Int, v = tot A + (e - b) → (pRet (pFn fMin2 (pCons (pVar 3) (pCons (pII (fun i j => .int (i - j)) (pPlus (pIx (pFldD (pVar 0) "Row" "sums") (pII (fun i j => .int (i - j)) (pVar 2) (pC (.int 1)))) (pVar 1)) (pIx (pFldD (pVar 0) "Row" "starts") (pII (fun i j => .int (i - j)) (pVar 2) (pC (.int 1))))) pNil)))) (fin c)
          ([.d (rowD (A ++ (b, e) :: C)), .d (.int m), .d (.int ((A.length + 1 : Nat) : Int)), .d (.int v)] : En) := fun v ev => by
        refine ⟨rfl, ?_⟩
        have ei : (((A.length + 1 : Nat) : Int) - 1) = ((A.length : Nat) : Int) := by omega
        refine oSome (o := atI (nums (sumsOf 0 (A ++ (b, e) :: C))) (((A.length + 1 : Nat) : Int) - 1)) (by rw [ei]; exact nums_ix s1) ?_
        refine ⟨rfl, ?_⟩
        refine oSome (o := atI (nums ((A ++ (b, e) :: C).map fun r => r.1)) (((A.length + 1 : Nat) : Int) - 1)) (by rw [ei]; exact nums_ix (starts_at A C (b, e))) ?_
        show c (.int (if 0 + tot A + m - b < v then 0 + tot A + m - b else v))
        have ev2 : (if 0 + tot A + m - b < v then 0 + tot A + m - b else v) = tot A + (min m e - b) := by
          rw [ev]
          by_cases q : m < e
          · rw [if_pos (by omega), Int.min_eq_left (by omega)]; omega
          · rw [if_neg (by omega), Int.min_eq_right (by omega)]
        rw [ev2]
        exact h
      refine ⟨rfl, _, rfl, ?_⟩
      show (if decide (((A.length + 1 : Nat) : Int) < (((nums (sumsOf 0 (A ++ (b, e) :: C))).length : Nat) : Int)) = true then _ else _)
      rw [List.length_map, sums_len, List.length_append, List.length_cons]
      cases C with
      | nil =>
        refine ff (decide_eq_false (by rw [List.length_nil]; omega)) ⟨rfl, ?_⟩
        exact key (tot (A ++ [(b, e)])) (by rw [tot_app]; show tot A + ((e - b) + 0) = _; omega)
      | cons q C =>
        refine tt (decide_eq_true (by rw [List.length_cons]; omega)) ⟨rfl, ?_⟩
        have s2 := sums_at (A ++ [(b, e)]) C q 0
        rw [List.length_append, List.append_assoc] at s2
        refine oSome (o := atI (nums (sumsOf 0 (A ++ (b, e) :: q :: C))) ((A.length + 1 : Nat) : Int)) (nums_ix s2) ?_
        exact key (0 + tot (A ++ [(b, e)])) (by rw [tot_app]; show 0 + (tot A + ((e - b) + 0)) = _; omega)
    · rw [z]
      refine tt (decide_eq_true rfl) ?_
      rw [rcnt_later hall] at h
      exact h
  · exact h.elim
theorem sums_asc : ∀ {rs : Rn} {lo k : Int}, RunsFrom lo rs → N7.Asc k (k + tot rs + 1) (sumsOf k rs)
  | [], _, _, _ => trivial
  | (b, e) :: r, lo, k, ⟨h1, h2, h3⟩ => by
    have ih := sums_asc (k := k + (e - b)) h3
    have t0 := tot_0 h3
    refine ⟨Int.le_refl _, by show k < k + ((e - b) + tot r) + 1; omega, ?_⟩
    have e1 : k + tot ((b, e) :: r) + 1 = k + (e - b) + tot r + 1 := by show k + ((e - b) + tot r) + 1 = _; omega
    rw [e1]
    cases r with
    | nil => trivial
    | cons q r =>
      obtain ⟨u, v⟩ := q
      obtain ⟨i1, i2, i3⟩ := ih
      exact ⟨by omega, i2, i3⟩
abbrev N_Row_at : List Str := ["self", "index", "place"]
def p_Row_at : PS' := (pSeq (pAsg (pII (fun i j => .int (i - j)) (pCall 2 S_count_below (pCons (pFldD (pVar 0) "Row" "sums") (pCons (pPlus (pVar 1) (pC (.int 1))) pNil))) (pC (.int 1))) (pgN 2))
      (pRet (pII (fun i j => .int (i - j)) (pPlus (pIx (pFldD (pVar 0) "Row" "starts") (pVar 2)) (pVar 1)) (pIx (pFldD (pVar 0) "Row" "sums") (pVar 2)))))
theorem pure_Row_at (ds : List PyData) (c : PyData → Prop) (hl : ds.length = 2) (h : S_Row_at ds c) : p_Row_at (fin c) (startE N_Row_at ds) := by
  unfold S_Row_at at h
  split at h
  · rename_i d i
    obtain ⟨rs, rfl, ⟨⟨lo, hr⟩, hn⟩, i0, i1, h⟩ := h
    have sa := sums_asc (k := 0) hr
    refine ⟨rfl, rfl, sumsOf 0 rs, _, _, .inr rfl, sa, by rw [sums_len]; omega, ?_⟩
    have cl := cnt_le (sumsOf 0 rs) (i + 1)
    rw [sums_len] at cl
    have rne : 0 < rs.length := by
      cases rs with
      | nil => exact absurd i1 (by show ¬ i < 0; omega)
      | cons _ _ => exact Nat.succ_pos _
    have cg := fun {n : Nat} {b : Int} (e : (sumsOf 0 rs)[n]? = some b) => cnt_get sa (i + 1) e
    have c1 : 0 < cnt (sumsOf 0 rs) (i + 1) := by
      obtain ⟨A, q, C, hrs, hA⟩ := split_at rne
      have s := sums_at A C q 0
      rw [← hrs, hA] at s
      have z : A = [] := List.length_eq_zero_iff.mp hA
      have := (cg s).mp (by rw [z]; show 0 + 0 < i + 1; omega)
      omega
    obtain ⟨A, ⟨b, e⟩, C, hrs, hA⟩ := split_at (rs := rs) (i := cnt (sumsOf 0 rs) (i + 1) - 1) (by omega)
    have ei : ((cnt (sumsOf 0 rs) (i + 1) : Nat) : Int) - 1 = ((A.length : Nat) : Int) := by omega
    have s1 := sums_at A C (b, e) 0
    rw [← hrs] at s1
    have l1 : 0 + tot A < i + 1 := (cg s1).mpr (by omega)
    obtain ⟨a1, a2, a3, a4⟩ := runs_parts (by rw [← hrs]; exact hr)
    have l2 : i < tot A + (e - b) := by
      cases C with
      | nil =>
        rw [hrs, tot_app] at i1
        have : tot [(b, e)] = (e - b) + 0 := rfl
        omega
      | cons q C =>
        have s2 := sums_at (A ++ [(b, e)]) C q 0
        rw [List.append_assoc] at s2
        have s2 : (sumsOf 0 rs)[(A ++ [(b, e)]).length]? = some (0 + tot (A ++ [(b, e)])) := by rw [hrs]; exact s2
        have := mt (cg s2).mp (by rw [List.length_append, List.length_singleton]; omega)
        rw [tot_app] at this
        have t : tot [(b, e)] = (e - b) + 0 := rfl
        omega
    have k := h (b + i - tot A) (by
      rw [hrs, inRuns, List.any_append, Bool.or_eq_true]
      refine .inr ?_
      show ((decide (b ≤ b + i - tot A) && decide (b + i - tot A < e)) || _) = true
      rw [decide_eq_true (by omega), decide_eq_true (by omega)]
      rfl) (by
      rw [hrs, rcnt_part (lo := lo) (by rw [← hrs]; exact hr) (by omega) fun r hr' => by have := runs_low a3 r hr'; omega, Int.min_eq_left (by omega)]
      omega)
    show (pRet (pII (fun i j => .int (i - j)) (pPlus (pIx (pFldD (pVar 0) "Row" "starts") (pVar 2)) (pVar 1)) (pIx (pFldD (pVar 0) "Row" "sums") (pVar 2)))) (fin c) ([.d (rowD rs), .d (.int i), .d (.int (((cnt (sumsOf 0 rs) (i + 1) : Nat) : Int) - 1))] : En)
    rw [ei]
    refine ⟨rfl, ?_⟩
    refine oSome (o := atI (nums (rs.map fun r => r.1)) ((A.length : Nat) : Int)) (by rw [hrs]; exact nums_ix (starts_at A C (b, e))) ?_
    refine ⟨rfl, ?_⟩
    refine oSome (o := atI (nums (sumsOf 0 rs)) ((A.length : Nat) : Int)) (nums_ix s1) ?_
    show c (.int (b + i - (0 + tot A)))
    rw [show b + i - (0 + tot A) = b + i - tot A by omega]
    exact k
  · exact h.elim
end Pr
namespace Pr
open PySem L2 Pu N7
abbrev N_SideTally_init : List Str := ["self", "side", "period", "borders", "inside"]
def p_SideTally_init : PS' := (pSeq (pAsg (pVar 1) (pgT [2, 3, 4]))
      (pSeq (pSetF 0 "SideTally" "period" (pVar 2))
      (pSeq (pIfS (pAnd (pTru (pVar 3)) (pTst (pEqD false (pIx (pVar 3) (pC (.int 0))) (pC (.int 0))))) (pSetF 0 "SideTally" "row" (pMakeD "Row" 1 S_Row_init (pCons (pCall 4 S_paired10 (pCons (pC (.int 0)) (pCons (pNotV (pVar 4)) (pCons (pCut (pVar 3) (pPart (pC (.int 1))) pNoP) (pCons (pVar 2) pNil))))) pNil))) (pSetF 0 "SideTally" "row" (pMakeD "Row" 1 S_Row_init (pCons (pCall 4 S_paired10 (pCons (pC (.int 0)) (pCons (pVar 4) (pCons (pVar 3) (pCons (pVar 2) pNil))))) pNil))))
      (pSetF 0 "SideTally" "many" (pFldD (pFldO 0 "SideTally" "row") "Row" "many")))))

theorem lt_k {n : Nat} (h : Nat.ble (n + 1) 1000 = true := by rfl) : n < 1000 := Nat.le_of_ble_eq_true h
theorem pure_SideTally_init (fs : List (Str × PyData)) (ds : List PyData) (c : PyData → List (Str × PyData) → Prop) (hl : ds.length = 1) (h : S_SideTally_init fs ds c) : p_SideTally_init ⟨fun ρ => asObj (Pu.cellAt ρ 0) fun m fs' => m = "SideTally" ∧ c .none fs', fun d ρ => asObj (Pu.cellAt ρ 0) fun m fs' => m = "SideTally" ∧ c d fs', fun _ => False, fun _ => False⟩ (.obj "SideTally" fs :: startE N_SideTally_init.tail ds) := by
  unfold S_SideTally_init at h
  split at h
  · rename_i d
    obtain ⟨s, R, rfl, T, h⟩ := h
    have ok := T.b.ok
    have p1 := ok.p1
    have hn := T.b.n
    have rok : RowOk R := ⟨⟨0, T.w.from_⟩, T.few⟩
    refine ⟨rfl, rfl, lt_k, ?_⟩
    -- the row is made
    have last : ∀ (l : List Int) (i : Bool) (x : PyData), (x = .list (nums l) ∨ x = .tuple (nums l)) → l.length ≤ 40000 → Brd (holds s) (0 + 1) s.p l → i = holds s 0 →
        S_paired10 [.int 0, .bool i, x, .int s.p] (fun d => d = .list (R.map runD)) := fun l i x hx hl2 B ei => by
      have f := win_flat (show (0 : Int) < s.p by omega) B T.w
      have fo : flat R = (if i then 0 :: l else l) ++ (if odd (if i then 0 :: l else l).length then [s.p] else []) := by
        rw [f, ei]
        unfold marksOf
        rw [marks_odd B (by omega)]
      rcases hx with rfl | rfl
      · exact .inl ⟨l, R, rfl, by omega, fo, rfl⟩
      · exact .inr ⟨l, R, rfl, by omega, fo, rfl⟩
    have up : ∀ {ds : List PyData} {k k2 : PyData → Prop}, S_paired10 ds k → (∀ d, k d → k2 d) → S_paired10 ds k2 := fun {ds k k2} hs hk => by
      rcases hs with hs | hs
      · unfold S_paired at hs
        split at hs
        · obtain ⟨l, rs, e, a, b, c⟩ := hs
          exact .inl ⟨l, rs, e, a, b, hk _ c⟩
        · exact hs.elim
      · unfold S_pairedT at hs
        split at hs
        · obtain ⟨l, rs, e, a, b, c⟩ := hs
          exact .inr ⟨l, rs, e, a, b, hk _ c⟩
        · exact hs.elim
    have bm := fun {d : Int} (h0 : 0 ≤ d) (h1 : d < s.p) => mem_border ok h0 h1
    have pre : holds s (0 - 1) = s.f := by
      rw [holds_pre ok (Int.le_refl _) (by omega), cnt_zero ok.asc (Int.le_refl _)]
      cases s.f <;> rfl
    show (∃ b, truD (.tuple (nums s.bs)) = some b ∧ _)
    refine ⟨_, rfl, ?_⟩
    obtain ⟨bs, hbs⟩ : ∃ bs, s.bs = bs := ⟨_, rfl⟩
    have B0 : (0 ∈ s.bs) ∨ ¬ (0 ∈ s.bs) := Classical.em _
    -- no border at day 0
    have plain : ¬ (0 ∈ s.bs) → S_paired10 [.int 0, .bool s.f, .tuple (nums s.bs), .int s.p] (fun d => d = .list (R.map runD)) := fun n0 => by
      refine last s.bs s.f _ (.inr rfl) hn ⟨?_, fun d => ?_⟩ ?_
      · exact asc_bound ok.asc fun x m => ⟨by have := (N7.asc_mem ok.asc m).1; have : x ≠ 0 := fun z => n0 (by rw [← z]; exact m); omega, (N7.asc_mem ok.asc m).2⟩
      · constructor
        · intro m
          have a := N7.asc_mem ok.asc m
          have : d ≠ 0 := fun z => n0 (by rw [← z]; exact m)
          exact ⟨by omega, a.2, (bm a.1 a.2).mp m⟩
        · rintro ⟨h1, h2, h3⟩
          exact (bm (by omega) h2).mpr h3
      · have := mt (bm (Int.le_refl 0) (by omega)).mpr n0
        rw [pre] at this
        simpa using (Eq.symm (Classical.not_not.mp this))
    cases bs with
    | nil =>
      rw [hbs] at plain
      rw [hbs]
      refine ⟨rfl, up (plain (fun z => nomatch z)) fun d e => ?_⟩
      subst e
      exact ⟨rfl, R, .inr rfl, rok, rfl, rfl, lt_k, rfl, rfl, rfl, lt_k, rfl, h⟩
    | cons b t =>
      have mb : ∀ x, x ∈ s.bs ↔ x = b ∨ x ∈ t := fun x => by rw [hbs, List.mem_cons]
      have A0 : N7.Asc 0 s.p (b :: t) := by rw [← hbs]; exact ok.asc
      rw [hbs]
      refine oSome (atI_zero _ _) ⟨rfl, rfl, ?_⟩
      show (if PyData.eqv (.int b) (.int 0) = true then _ else _)
      rw [eqv_int]
      refine ifd (fun z => ?_) (fun z => ?_)
      · subst z
        have hh : (!s.f) = holds s 0 := by
          have := (bm (Int.le_refl 0) (by omega)).mp ((mb 0).mpr (.inl rfl))
          rw [pre] at this
          cases h1 : holds s 0 <;> cases h2 : s.f <;> simp_all
        have ct : cutP (nums (0 :: t)) (some 1) none = nums t := by
          rw [show (1 : Int) = ((1 : Nat) : Int) from rfl, Pr.cut_drop (by rw [List.length_map, List.length_cons]; omega)]
          rfl
        have B : Brd (holds s) (0 + 1) s.p t := ⟨A0.2.2, fun d => by
          constructor
          · intro m
            have a := N7.asc_mem A0.2.2 m
            exact ⟨a.1, a.2, (bm (by omega) a.2).mp ((mb d).mpr (.inr m))⟩
          · rintro ⟨h1, h2, h3⟩
            rcases (mb d).mp ((bm (by omega) h2).mpr h3) with z | z
            · omega
            · exact z⟩
        have k := last t (!s.f) (.tuple (nums t)) (.inr rfl) (by rw [hbs, List.length_cons] at hn; omega) B hh
        rw [← ct] at k
        refine ⟨rfl, up k fun d e => ?_⟩
        subst e
        exact ⟨rfl, R, .inr rfl, rok, rfl, rfl, lt_k, rfl, rfl, rfl, lt_k, rfl, h⟩
      · have n0 : ¬ (0 ∈ s.bs) := fun m => by
          rcases (mb 0).mp m with y | y
          · exact z y.symm
          · have := N7.asc_mem A0.2.2 y
            have := A0.1
            omega
        have k := plain n0
        rw [hbs] at k
        refine ⟨rfl, up k fun d e => ?_⟩
        subst e
        exact ⟨rfl, R, .inr rfl, rok, rfl, rfl, lt_k, rfl, rfl, rfl, lt_k, rfl, h⟩
  · exact h.elim
abbrev N_SideTally_below : List Str := ["self", "mark", "turns", "rest"]
def p_SideTally_below : PS' := (pSeq (pAsg (pFn fDivmod (pCons (pVar 1) (pCons (pFldD (pVar 0) "SideTally" "period") pNil))) (pgT [2, 3]))
      (pRet (pPlus (pIIc CMul (fun i j => .int (i * j)) (pVar 2) (pFldD (pVar 0) "SideTally" "many")) (pMethD (pFldD (pVar 0) "SideTally" "row") "Row" "below" 1 S_Row_below (pCons (pVar 3) pNil)))))

theorem cmul_r {i j : Int} (h0 : 0 ≤ j) (h1 : j ≤ 1000000) : CMul i j := .inr ⟨by omega, by omega⟩
theorem pure_SideTally_below (ds : List PyData) (c : PyData → Prop) (hl : ds.length = 2) (h : S_SideTally_below ds c) : p_SideTally_below (fin c) (startE N_SideTally_below ds) := by
  unfold S_SideTally_below at h
  split at h
  · rename_i d m
    obtain ⟨s, R, rfl, T, h⟩ := h
    have p1 := T.b.ok.p1
    have pp := T.p
    obtain ⟨_, _, t0, t1⟩ := win_tot T.b.ok T.w
    refine ⟨rfl, ⟨by show 0 < s.p; omega, by show s.p < _; omega⟩, rfl, rfl, cmul_r (by omega) (by omega), rfl, rfl, rfl, rfl, R, rfl, ⟨⟨0, T.w.from_⟩, T.few⟩, h⟩
  · exact h.elim
abbrev N_SideTally_at : List Str := ["self", "index", "turns", "rest"]
def p_SideTally_at : PS' := (pSeq (pAsg (pFn fDivmod (pCons (pVar 1) (pCons (pFldD (pVar 0) "SideTally" "many") pNil))) (pgT [2, 3]))
      (pRet (pPlus (pIIc CMul (fun i j => .int (i * j)) (pVar 2) (pFldD (pVar 0) "SideTally" "period")) (pMethD (pFldD (pVar 0) "SideTally" "row") "Row" "at" 1 S_Row_at (pCons (pVar 3) pNil)))))

theorem pure_SideTally_at (ds : List PyData) (c : PyData → Prop) (hl : ds.length = 2) (h : S_SideTally_at ds c) : p_SideTally_at (fin c) (startE N_SideTally_at ds) := by
  unfold S_SideTally_at at h
  split at h
  · rename_i d i
    obtain ⟨s, R, rfl, T, t0, h⟩ := h
    have p1 := T.b.ok.p1
    have pp := T.p
    obtain ⟨_, _, _, t1⟩ := win_tot T.b.ok T.w
    have m0 := Int.emod_nonneg i (show tot R ≠ 0 by omega)
    have m1 := Int.emod_lt_of_pos i t0
    have ed := Int.mul_ediv_add_emod i (tot R)
    refine ⟨rfl, ⟨t0, by show tot R < _; omega⟩, rfl, rfl, cmul_r (by omega) (by show s.p ≤ 1000000; omega), rfl, rfl, rfl, rfl, R, rfl, ⟨⟨0, T.w.from_⟩, T.few⟩, m0, m1, fun x hx hc => ?_⟩
    have hx2 := hx
    rw [T.w.in_, Bool.and_eq_true, Bool.and_eq_true, decide_eq_true_iff, decide_eq_true_iff] at hx2
    obtain ⟨x1, x2, x3⟩ := hx2
    have e0 : i / tot R * s.p + x = s.p * (i / tot R) + x := by rw [Int.mul_comm]
    refine h (i / tot R * s.p + x) ?_ ?_
    · rw [e0, holds_period]
      exact x1
    · unfold sF
      have d1 : (i / tot R * s.p + x) / s.p = i / tot R := by
        rw [e0, Int.add_comm, Int.add_mul_ediv_left _ _ (by omega), Int.ediv_eq_zero_of_lt x2 x3]
        omega
      have d2 : (i / tot R * s.p + x) % s.p = x := by
        rw [e0, Int.add_comm, Int.add_mul_emod_self_left, Int.emod_eq_of_lt x2 x3]
      rw [d1, d2, hc, Int.mul_comm]
      exact ed
  · exact h.elim
abbrev N_Tally_init : List Str := ["self", "dayset", "left", "runs", "right"]
def p_Tally_init : PS' := (pSeq (pAsg (pVar 1) (pgTH 5 (pgsC (pgN 2) (pgsC (pgF 0 "Tally" "low") (pgsC (pgN 3) (pgsC (pgF 0 "Tally" "high") (pgsC (pgN 4) pgsN)))))))
      (pSeq (pSetF 0 "Tally" "left" (pMakeD "SideTally" 1 S_SideTally_init (pCons (pVar 2) pNil)))
      (pSeq (pSetF 0 "Tally" "row" (pMakeD "Row" 1 S_Row_init (pCons (pVar 3) pNil)))
      (pSetF 0 "Tally" "right" (pMakeD "SideTally" 1 S_SideTally_init (pCons (pVar 4) pNil))))))

theorem pure_Tally_init (fs : List (Str × PyData)) (ds : List PyData) (c : PyData → List (Str × PyData) → Prop) (hl : ds.length = 1) (h : S_Tally_init fs ds c) : p_Tally_init ⟨fun ρ => asObj (Pu.cellAt ρ 0) fun m fs' => m = "Tally" ∧ c .none fs', fun d ρ => asObj (Pu.cellAt ρ 0) fun m fs' => m = "Tally" ∧ c d fs', fun _ => False, fun _ => False⟩ (.obj "Tally" fs :: startE N_Tally_init.tail ds) := by
  unfold S_Tally_init at h
  split at h
  · rename_i d
    obtain ⟨D, L, R, rfl, T, h⟩ := h
    refine ⟨rfl, rfl, lt_k, rfl, lt_k, rfl, ?_⟩
    refine ⟨rfl, D.l, L, rfl, T.l, rfl, rfl, lt_k, ?_⟩
    refine ⟨rfl, D.rs, .inl rfl, ⟨⟨D.low, T.b.ok.rs⟩, by have := T.b.n; omega⟩, rfl, rfl, lt_k, ?_⟩
    exact ⟨rfl, D.r, R, rfl, T.r, rfl, rfl, lt_k, rfl, h⟩
  · exact h.elim
abbrev N_Tally_below : List Str := ["self", "mark"]
def p_Tally_below : PS' := (pSeq (pIfS (pTst (pII (fun i j => .bool (decide (i ≤ j))) (pVar 1) (pFldD (pVar 0) "Tally" "low"))) (pRet (pII (fun i j => .int (i - j)) (pMethD (pFldD (pVar 0) "Tally" "left") "SideTally" "below" 1 S_SideTally_below (pCons (pVar 1) pNil)) (pMethD (pFldD (pVar 0) "Tally" "left") "SideTally" "below" 1 S_SideTally_below (pCons (pFldD (pVar 0) "Tally" "low") pNil)))) pNext)
      (pSeq (pIfS (pTst (pII (fun i j => .bool (decide (i ≤ j))) (pVar 1) (pFldD (pVar 0) "Tally" "high"))) (pRet (pMethD (pFldD (pVar 0) "Tally" "row") "Row" "below" 1 S_Row_below (pCons (pVar 1) pNil))) pNext)
      (pRet (pII (fun i j => .int (i - j)) (pPlus (pFldD (pFldD (pVar 0) "Tally" "row") "Row" "many") (pMethD (pFldD (pVar 0) "Tally" "right") "SideTally" "below" 1 S_SideTally_below (pCons (pVar 1) pNil))) (pMethD (pFldD (pVar 0) "Tally" "right") "SideTally" "below" 1 S_SideTally_below (pCons (pFldD (pVar 0) "Tally" "high") pNil))))))

theorem pure_Tally_below (ds : List PyData) (c : PyData → Prop) (hl : ds.length = 2) (h : S_Tally_below ds c) : p_Tally_below (fin c) (startE N_Tally_below ds) := by
  unfold S_Tally_below at h
  split at h
  · rename_i d m
    obtain ⟨D, L, R, rfl, T, h⟩ := h
    unfold tG at h
    refine ⟨rfl, ?_⟩
    show (if decide (m ≤ D.low) = true then _ else _)
    refine ifd (fun z => ?_) (fun z => ?_)
    · rw [if_pos z] at h
      exact ⟨rfl, rfl, rfl, rfl, D.l, L, rfl, T.l, rfl, rfl, rfl, rfl, rfl, D.l, L, rfl, T.l, h⟩
    · rw [if_neg z] at h
      refine ⟨rfl, ?_⟩
      show (if decide (m ≤ D.high) = true then _ else _)
      refine ifd (fun y => ?_) (fun y => ?_)
      · rw [if_pos y] at h
        exact ⟨rfl, rfl, rfl, rfl, D.rs, rfl, ⟨⟨D.low, T.b.ok.rs⟩, by have := T.b.n; omega⟩, h⟩
      · rw [if_neg y] at h
        exact ⟨rfl, rfl, rfl, rfl, rfl, rfl, D.r, R, rfl, T.r, rfl, rfl, rfl, rfl, rfl, D.r, R, rfl, T.r, h⟩
  · exact h.elim
abbrev N_Tally_at : List Str := ["self", "index"]
def p_Tally_at : PS' := (pSeq (pIfS (pTst (pII (fun i j => .bool (decide (i < j))) (pVar 1) (pC (.int 0)))) (pRet (pMethD (pFldD (pVar 0) "Tally" "left") "SideTally" "at" 1 S_SideTally_at (pCons (pPlus (pMethD (pFldD (pVar 0) "Tally" "left") "SideTally" "below" 1 S_SideTally_below (pCons (pFldD (pVar 0) "Tally" "low") pNil)) (pVar 1)) pNil))) pNext)
      (pSeq (pIfS (pTst (pII (fun i j => .bool (decide (i < j))) (pVar 1) (pFldD (pFldD (pVar 0) "Tally" "row") "Row" "many"))) (pRet (pMethD (pFldD (pVar 0) "Tally" "row") "Row" "at" 1 S_Row_at (pCons (pVar 1) pNil))) pNext)
      (pSeq (pIfS (pTst (pEqD false (pFldD (pFldD (pVar 0) "Tally" "right") "SideTally" "many") (pC (.int 0)))) (pRet (pC .none)) pNext)
      (pRet (pMethD (pFldD (pVar 0) "Tally" "right") "SideTally" "at" 1 S_SideTally_at (pCons (pII (fun i j => .int (i - j)) (pPlus (pMethD (pFldD (pVar 0) "Tally" "right") "SideTally" "below" 1 S_SideTally_below (pCons (pFldD (pVar 0) "Tally" "high") pNil)) (pVar 1)) (pFldD (pFldD (pVar 0) "Tally" "row") "Row" "many")) pNil))))))

theorem pure_Tally_at (ds : List PyData) (c : PyData → Prop) (hl : ds.length = 2) (h : S_Tally_at ds c) : p_Tally_at (fin c) (startE N_Tally_at ds) := by
  unfold S_Tally_at at h
  split at h
  · rename_i d i
    obtain ⟨D, L, R, rfl, T, hi, h1, h2⟩ := h
    have ok := T.b.ok
    have lh := ok_lh ok
    have PL := sF_prim ok.l T.l.w
    have PR := sF_prim ok.r T.r.w
    have t0 := tot_0 ok.rs
    obtain ⟨_, _, tr0, _⟩ := win_tot ok.r T.r.w
    show (if decide (i < 0) = true then _ else _)
    refine ifd (fun z => ?_) (fun z => ?_)
    · refine ⟨rfl, rfl, rfl, rfl, rfl, rfl, rfl, rfl, D.l, L, rfl, T.l, rfl, D.l, L, rfl, T.l, hi z, fun x hx hc => ?_⟩
      have xl : x < D.low := by
        by_cases y : x < D.low
        · exact y
        · have := (prim_mono PL (show D.low ≤ x by omega)).1
          omega
      refine h1 x (by rw [mem_lo xl]; exact hx) ?_
      rw [tG_l (by omega)]
      omega
    · refine ⟨rfl, rfl, ?_⟩
      show (if decide (i < tot D.rs) = true then _ else _)
      refine ifd (fun y => ?_) (fun y => ?_)
      · refine ⟨rfl, rfl, rfl, rfl, D.rs, rfl, ⟨⟨D.low, ok.rs⟩, by have := T.b.n; omega⟩, by omega, y, fun x hx hc => ?_⟩
        have x1 : ¬ x < D.low := fun w => by rw [inRuns_lo ok.rs w] at hx; cases hx
        have x2 : x < D.high := by
          by_cases w : x < D.high
          · exact w
          · have := ok.hi
            rw [inRuns_hi ok.rs (by omega)] at hx
            cases hx
        refine h1 x (by rw [mem_mid x1 x2]; exact hx) ?_
        rw [tG_m ok (by omega) (by omega)]
        exact hc
      · refine ⟨rfl, rfl, rfl, rfl, ?_⟩
        show (if PyData.eqv (.int (tot R)) (.int 0) = true then _ else _)
        rw [eqv_int]
        refine ifd (fun w => h2 w (by omega)) (fun w => ?_)
        refine ⟨rfl, rfl, rfl, rfl, rfl, rfl, rfl, rfl, D.r, R, rfl, T.r, rfl, rfl, rfl, D.r, R, rfl, T.r, by omega, fun x hx hc => ?_⟩
        have x1 : ¬ x < D.high := fun v => by
          have := prim_lt PR hx (y := D.high) (by omega)
          omega
        refine h1 x (by rw [mem_hi (by omega) x1]; exact hx) ?_
        rw [tG_r ok (by omega)]
        omega
  · exact h.elim
abbrev N_count_in : List Str := ["dayset", "first", "end", "tally"]
def p_count_in : PS' := (pSeq (pIfS (pTst (pII (fun i j => .bool (decide (i ≤ j))) (pVar 2) (pVar 1))) (pRet (pC (.int 0))) pNext)
      (pSeq (pAsg (pMakeD "Tally" 1 S_Tally_init (pCons (pVar 0) pNil)) (pgN 3))
      (pRet (pII (fun i j => .int (i - j)) (pMethD (pVar 3) "Tally" "below" 1 S_Tally_below (pCons (pVar 2) pNil)) (pMethD (pVar 3) "Tally" "below" 1 S_Tally_below (pCons (pVar 1) pNil))))))

theorem pure_count_in (ds : List PyData) (c : PyData → Prop) (hl : ds.length = 3) (h : S_count_in ds c) : p_count_in (fin c) (startE N_count_in ds) := by
  unfold S_count_in at h
  split at h
  · rename_i d a b
    obtain ⟨D, L, R, rfl, T, h⟩ := h
    show (if decide (b ≤ a) = true then _ else _)
    refine ifd (fun z => ?_) (fun z => ?_)
    · rw [if_pos z] at h
      exact h
    · rw [if_neg z] at h
      exact ⟨rfl, D, L, R, rfl, T, rfl, rfl, rfl, rfl, D, L, R, rfl, T, rfl, rfl, rfl, D, L, R, rfl, T, h⟩
  · exact h.elim
abbrev N_nth_from : List Str := ["dayset", "day", "number", "tally"]
def p_nth_from : PS' := (pSeq (pAsg (pMakeD "Tally" 1 S_Tally_init (pCons (pVar 0) pNil)) (pgN 3))
      (pRet (pMethD (pVar 3) "Tally" "at" 1 S_Tally_at (pCons (pII (fun i j => .int (i - j)) (pPlus (pMethD (pVar 3) "Tally" "below" 1 S_Tally_below (pCons (pVar 1) pNil)) (pVar 2)) (pC (.int 1))) pNil))))

theorem pure_nth_from (ds : List PyData) (c : PyData → Prop) (hl : ds.length = 3) (h : S_nth_from ds c) : p_nth_from (fin c) (startE N_nth_from ds) := by
  unfold S_nth_from at h
  split at h
  · rename_i d a n
    obtain ⟨D, L, R, rfl, T, n1, h⟩ := h
    refine ⟨rfl, D, L, R, rfl, T, rfl, rfl, rfl, rfl, rfl, rfl, D, L, R, rfl, T, rfl, D, L, R, rfl, T, fun z => ?_, h⟩
    have ok := T.b.ok
    obtain ⟨e1, e2, tl0, tl1⟩ := win_tot ok.l T.l.w
    by_cases y : 0 < tot L
    · exact y
    · exfalso
      have y : tot L = 0 := by omega
      -- nothing ahead
      have g : 0 ≤ tG D L R a := by
        by_cases w : a ≤ D.low
        · rw [tG_l w]
          have zero : ∀ m, sF D.l L m = 0 := fun m => by
            unfold sF
            have m0 := Int.emod_nonneg m (show D.l.p ≠ 0 by have := ok.l.p1; omega)
            have m1 := Int.emod_lt_of_pos m (show 0 < D.l.p by have := ok.l.p1; omega)
            have q1 := (prim_mono (rcnt_prim T.l.w.from_) m0).1
            have q2 := (prim_mono (rcnt_prim T.l.w.from_) (Int.le_of_lt m1)).1
            rw [y, Int.mul_zero]
            omega
          rw [zero, zero]
          decide
        · have P := tG_prim ok T.l.w T.r.w
          have := (prim_mono P (show D.low ≤ a by omega)).1
          have z2 : tG D L R D.low = 0 := by rw [tG_l (Int.le_refl _)]; omega
          omega
      omega
  · exact h.elim
end Pr
namespace N7
theorem below_rest {s : Sd} {r : Int} (r0 : 0 ≤ r) (r1 : r < s.p) : below s r = cnt s.bs (r + 1) := by
  unfold below
  rw [Int.ediv_eq_zero_of_lt r0 r1, Int.emod_eq_of_lt r0 r1]
  simp
theorem next_side {s : Sd} (ok : SdOk s) (hm : 0 < s.bs.length) {z D0 : Int} {n : Nat} (h0 : 0 ≤ D0) (hn : below s D0 = n) (hf : holds s (s.p * z + D0) = false) :
    D0 ≤ bd s n ∧ holds s (s.p * z + bd s n) = true ∧ ∀ d, D0 ≤ d → d < bd s n → holds s (s.p * z + d) = false := by
  rw [holds_below ok, hn] at hf
  have b1 : ¬ bd s n ≤ D0 := fun c => by have := (bd_le ok hm n h0).mp c; omega
  have b0 : 0 ≤ bd s n := by omega
  refine ⟨by omega, ?_, fun d d1 d2 => ?_⟩
  · have e : below s (bd s n) = n + 1 := by
      have u1 := (bd_le ok hm n b0).mp (Int.le_refl _)
      have u2 : ¬ n + 1 < below s (bd s n) := fun c => by
        have := (bd_le ok hm (n + 1) b0).mpr c
        have := bd_lt ok hm (show n < n + 1 by omega)
        omega
      omega
    rw [holds_below ok, e, odd_succ]
    cases h1 : s.f <;> cases h2 : odd n <;> simp_all
  · have e : below s d = n := by
      have u1 : ¬ n < below s d := fun c => by have := (bd_le ok hm n (by omega)).mpr c; omega
      cases n with
      | zero => omega
      | succ k =>
        have u2 := (bd_le ok hm k h0).mpr (by omega)
        have u3 := (bd_le ok hm k (show 0 ≤ d by omega)).mp (by omega)
        omega
    rw [holds_below ok, e]
    exact hf
theorem last_side {s : Sd} (ok : SdOk s) (hm : 0 < s.bs.length) {z D0 : Int} {n : Nat} (h0 : 0 ≤ D0) (hn : below s D0 = n + 1) (hf : holds s (s.p * z + D0) = false) :
    bd s n ≤ D0 ∧ holds s (s.p * z + (bd s n - 1)) = true ∧ ∀ d, bd s n ≤ d → d ≤ D0 → holds s (s.p * z + d) = false := by
  rw [holds_below ok, hn] at hf
  have b1 := (bd_le ok hm n h0).mpr (by omega)
  have b0 : 0 ≤ bd s n := by
    have : bd s 0 ≤ bd s n := by
      cases n with
      | zero => exact Int.le_refl _
      | succ k => exact Int.le_of_lt (bd_lt ok hm (Nat.succ_pos k))
    have z0 : bd s 0 = s.bs.getD 0 0 := bd_small hm
    have := asc_mem ok.asc (List.mem_of_getElem? (getD_some hm))
    omega
  refine ⟨b1, ?_, fun d d1 d2 => ?_⟩
  · have e : bel s (bd s n - 1) = n := by
      have u1 : ¬ n < bel s (bd s n - 1) := fun c => by have := (bel_le ok hm n _).mpr c; omega
      cases n with
      | zero => omega
      | succ k =>
        have := bd_lt ok hm (show k < k + 1 by omega)
        have := (bel_le ok hm k (bd s (k + 1) - 1)).mp (by omega)
        omega
    rw [holds_period, holds_bel ok (by omega), e]
    rw [odd_succ] at hf
    cases h1 : s.f <;> cases h2 : odd n <;> simp_all
  · have e : below s d = n + 1 := by
      have u2 := (bd_le ok hm n (show 0 ≤ d by omega)).mp d1
      have u1 : ¬ n + 1 < below s d := fun c => by
        have := (bd_le ok hm (n + 1) (show 0 ≤ d by omega)).mpr c
        have := (bd_le ok hm (n + 1) h0).mp (by omega)
        omega
      omega
    rw [holds_below ok, e]
    exact hf
theorem later_runs {m : Int} {A C : Rn} {lo : Int} (hA : ∀ r ∈ A, r.2 ≤ m) (hC : RunsFrom lo C) (hm : ∀ r ∈ C, m ≤ r.1) : (C = [] → ∀ d, m ≤ d → inRuns (A ++ C) d = false) ∧ ∀ b e C', C = (b, e) :: C' → inRuns (A ++ C) b = true ∧ ∀ d, m ≤ d → d < b → inRuns (A ++ C) d = false := by
  have noA : ∀ d, m ≤ d → inRuns A d = false := fun d hd => by
    unfold inRuns
    rw [List.any_eq_false]
    intro r hr hh
    have := hA r hr
    rw [Bool.and_eq_true, decide_eq_true_iff, decide_eq_true_iff] at hh
    omega
  have app : ∀ d, inRuns (A ++ C) d = (inRuns A d || inRuns C d) := fun d => List.any_append
  refine ⟨fun z d hd => ?_, fun b e C' z => ?_⟩
  · rw [app, noA d hd, z]
    rfl
  · subst z
    obtain ⟨h1, h2, h3⟩ := hC
    have := hm (b, e) List.mem_cons_self
    refine ⟨?_, fun d h4 h5 => ?_⟩
    · rw [app, in_cons, decide_eq_true (Int.le_refl b), decide_eq_true h2]
      simp
    · rw [app, noA d h4, in_cons, decide_eq_false (show ¬ b ≤ d by omega), inRuns_lo h3 (by omega)]
      rfl
end N7
namespace Pr
open PySem L2 Pu N7
theorem nxt_one {h : Int → Bool} {a b : Int} {o : Option Int} (ab : a ≤ b) (H : ∀ d, a ≤ d → d < b → h d = false) (N : NxtOf h b o) : NxtOf h a o := by
  cases o with
  | none =>
    intro d hd
    by_cases c : d < b
    · exact H d hd c
    · exact N d (by omega)
  | some x =>
    refine ⟨by have := N.1; omega, N.2.1, fun d h1 h2 => ?_⟩
    by_cases c : d < b
    · exact H d h1 c
    · exact N.2.2 d (by omega) h2
theorem nxt_congr {h g : Int → Bool} {a : Int} {o : Option Int} (e : ∀ d, a ≤ d → h d = g d) (N : NxtOf h a o) : NxtOf g a o := by
  cases o with
  | none => exact fun d hd => by rw [← e d hd]; exact N d hd
  | some x => exact ⟨N.1, by rw [← e x N.1]; exact N.2.1, fun d h1 h2 => by rw [← e d h1]; exact N.2.2 d h1 h2⟩
theorem lst_one {h : Int → Bool} {a b : Int} {o : Option Int} (ab : b ≤ a) (H : ∀ d, b < d → d ≤ a → h d = false) (N : LstOf h b o) : LstOf h a o := by
  cases o with
  | none =>
    intro d hd
    by_cases c : b < d
    · exact H d c hd
    · exact N d (by omega)
  | some x =>
    refine ⟨by have := N.1; omega, N.2.1, fun d h1 h2 => ?_⟩
    by_cases c : b < d
    · exact H d c h2
    · exact N.2.2 d h1 (by omega)
theorem lst_congr {h g : Int → Bool} {a : Int} {o : Option Int} (e : ∀ d, d ≤ a → h d = g d) (N : LstOf h a o) : LstOf g a o := by
  cases o with
  | none => exact fun d hd => by rw [← e d hd]; exact N d hd
  | some x => exact ⟨N.1, by rw [← e x N.1]; exact N.2.1, fun d h1 h2 => by rw [← e d h2]; exact N.2.2 d h1 h2⟩
theorem flat_side {s : Sd} (h : s.bs = []) (x y : Int) : holds s x = holds s y := by
  unfold holds
  rw [h]
  rfl
abbrev N_next_in_side : List Str := ["side", "day", "period", "borders", "_", "rest", "place"]
def p_next_in_side : PS' := (pSeq (pIfS (pTst (pCall 2 S_side_holds (pCons (pVar 0) (pCons (pVar 1) pNil)))) (pRet (pVar 1)) pNext)
      (pSeq (pAsg (pVar 0) (pgT [2, 3, 4]))
      (pSeq (pIfS (pNot (pTru (pVar 3))) (pRet (pC .none)) pNext)
      (pSeq (pAsg (pIIc (fun _ j => 0 < j) (fun i j => .int (i % j)) (pVar 1) (pVar 2)) (pgN 5))
      (pSeq (pAsg (pCall 2 S_count_below (pCons (pVar 3) (pCons (pPlus (pVar 5) (pC (.int 1))) pNil))) (pgN 6))
      (pSeq (pIfS (pTst (pII (fun i j => .bool (decide (i < j))) (pVar 6) (pFn fLen (pCons (pVar 3) pNil)))) (pRet (pPlus (pII (fun i j => .int (i - j)) (pVar 1) (pVar 5)) (pIx (pVar 3) (pVar 6)))) pNext)
      (pRet (pPlus (pPlus (pII (fun i j => .int (i - j)) (pVar 1) (pVar 5)) (pVar 2)) (pIx (pVar 3) (pC (.int 0)))))))))))

theorem pure_next_in_side (ds : List PyData) (c : PyData → Prop) (hl : ds.length = 2) (h : S_next_in_side ds c) : p_next_in_side (fin c) (startE N_next_in_side ds) := by
  unfold S_next_in_side at h
  split at h
  · rename_i d a
    obtain ⟨s, rfl, B, h⟩ := h
    have ok := B.ok
    have p1 := ok.p1
    have m0 := Int.emod_nonneg a (show s.p ≠ 0 by omega)
    have m1 := Int.emod_lt_of_pos a (show 0 < s.p by omega)
    have ed := Int.mul_ediv_add_emod a s.p
    refine ⟨rfl, s, rfl, B, ?_⟩
    refine tf (fun z => ?_) (fun z => ?_)
    · exact h (some a) ⟨Int.le_refl _, z, fun d h1 h2 => by omega⟩
    refine ⟨rfl, _, rfl, ?_⟩
    obtain ⟨bs, hbs⟩ : ∃ bs, s.bs = bs := ⟨_, rfl⟩
    cases bs with
    | nil =>
      refine tt (by rw [hbs]; rfl) ?_
      exact h none fun d _ => by rw [flat_side hbs d a]; exact z
    | cons b t =>
      refine ff (by rw [hbs]; rfl) ?_
      have hm : 0 < s.bs.length := by rw [hbs]; exact Nat.succ_pos _
      have hz : holds s (s.p * (a / s.p) + a % s.p) = false := by rw [ed]; exact z
      have N := next_side ok hm m0 (below_rest m0 m1) hz
      have key : ∀ x : Int, x = a - a % s.p + bd s (cnt s.bs (a % s.p + 1)) → c (.int x) := fun x ex => by
        have e : a - a % s.p = s.p * (a / s.p) := by omega
        refine h (some x) ⟨by omega, by rw [ex, e]; exact N.2.1, fun d h1 h2 => ?_⟩
        have := N.2.2 (d - (a - a % s.p)) (by omega) (by omega)
        rw [← e] at this
        rw [← this]
        congr 1
        omega
      refine ⟨by show 0 < s.p; omega, rfl, s.bs, 0, s.p, .inl rfl, ok.asc, by have := B.n; omega, ?_⟩
      refine ⟨_, rfl, ?_⟩
      show (if decide (((cnt s.bs (a % s.p + 1) : Nat) : Int) < (((nums s.bs).length : Nat) : Int)) = true then _ else _)
      rw [List.length_map]
      refine ifd (fun y => ?_) (fun y => ?_)
      · have y : cnt s.bs (a % s.p + 1) < s.bs.length := by omega
        refine oSome (nums_at y) ?_
        exact key _ (by rw [bd_small y])
      · have y : cnt s.bs (a % s.p + 1) = s.bs.length := by have := cnt_le s.bs (a % s.p + 1); omega
        have b0 : atI (nums s.bs) 0 = some (.int b) := by rw [hbs]; exact atI_zero _ _
        refine oSome b0 ?_
        refine key _ ?_
        have e1 : bd s s.bs.length = bd s 0 + s.p := by
          have := bd_add_m hm 0
          rw [Nat.zero_add] at this
          exact this
        have e2 : bd s 0 = b := by rw [bd_small hm, hbs]; rfl
        rw [y, e1, e2]
        omega
  · exact h.elim
abbrev N_last_in_side : List Str := ["side", "day", "period", "borders", "_", "rest", "place"]
def p_last_in_side : PS' := (pSeq (pIfS (pTst (pCall 2 S_side_holds (pCons (pVar 0) (pCons (pVar 1) pNil)))) (pRet (pVar 1)) pNext)
      (pSeq (pAsg (pVar 0) (pgT [2, 3, 4]))
      (pSeq (pIfS (pNot (pTru (pVar 3))) (pRet (pC .none)) pNext)
      (pSeq (pAsg (pIIc (fun _ j => 0 < j) (fun i j => .int (i % j)) (pVar 1) (pVar 2)) (pgN 5))
      (pSeq (pAsg (pCall 2 S_count_below (pCons (pVar 3) (pCons (pPlus (pVar 5) (pC (.int 1))) pNil))) (pgN 6))
      (pSeq (pIfS (pTst (pII (fun i j => .bool (decide (j < i))) (pVar 6) (pC (.int 0)))) (pRet (pII (fun i j => .int (i - j)) (pPlus (pII (fun i j => .int (i - j)) (pVar 1) (pVar 5)) (pIx (pVar 3) (pII (fun i j => .int (i - j)) (pVar 6) (pC (.int 1))))) (pC (.int 1)))) pNext)
      (pRet (pII (fun i j => .int (i - j)) (pPlus (pII (fun i j => .int (i - j)) (pII (fun i j => .int (i - j)) (pVar 1) (pVar 5)) (pVar 2)) (pIx (pVar 3) (pI (fun i => .int (-i)) (pC (.int 1))))) (pC (.int 1))))))))))

theorem pure_last_in_side (ds : List PyData) (c : PyData → Prop) (hl : ds.length = 2) (h : S_last_in_side ds c) : p_last_in_side (fin c) (startE N_last_in_side ds) := by
  unfold S_last_in_side at h
  split at h
  · rename_i d a
    obtain ⟨s, rfl, B, h⟩ := h
    have ok := B.ok
    have p1 := ok.p1
    have m0 := Int.emod_nonneg a (show s.p ≠ 0 by omega)
    have m1 := Int.emod_lt_of_pos a (show 0 < s.p by omega)
    have ed := Int.mul_ediv_add_emod a s.p
    refine ⟨rfl, s, rfl, B, ?_⟩
    refine tf (fun z => ?_) (fun z => ?_)
    · exact h (some a) ⟨Int.le_refl _, z, fun d h1 h2 => by omega⟩
    refine ⟨rfl, _, rfl, ?_⟩
    obtain ⟨bs, hbs⟩ : ∃ bs, s.bs = bs := ⟨_, rfl⟩
    cases bs with
    | nil =>
      refine tt (by rw [hbs]; rfl) ?_
      exact h none fun d _ => by rw [flat_side hbs d a]; exact z
    | cons b t =>
      refine ff (by rw [hbs]; rfl) ?_
      have hm : 0 < s.bs.length := by rw [hbs]; exact Nat.succ_pos _
      have key : ∀ (y D0 : Int) (n : Nat) (x : Int), s.p * y + D0 = a → 0 ≤ D0 → below s D0 = n + 1 → x = s.p * y + bd s n - 1 → c (.int x) := fun y D0 n x e1 e2 e3 ex => by
        have L := last_side ok hm (z := y) e2 e3 (by rw [e1]; exact z)
        refine h (some x) ⟨by have := L.1; omega, by rw [ex, show s.p * y + bd s n - 1 = s.p * y + (bd s n - 1) by omega]; exact L.2.1, fun d h1 h2 => ?_⟩
        have := L.2.2 (d - s.p * y) (by omega) (by omega)
        rw [show s.p * y + (d - s.p * y) = d by omega] at this
        exact this
      refine ⟨by show 0 < s.p; omega, rfl, s.bs, 0, s.p, .inl rfl, ok.asc, by have := B.n; omega, ?_⟩
      show (if decide ((0 : Int) < ((cnt s.bs (a % s.p + 1) : Nat) : Int)) = true then _ else _)
      have cl := cnt_le s.bs (a % s.p + 1)
      refine ifd (fun y => ?_) (fun y => ?_)
      · obtain ⟨n, hn⟩ : ∃ n, cnt s.bs (a % s.p + 1) = n + 1 := ⟨cnt s.bs (a % s.p + 1) - 1, by omega⟩
        have ei : ((cnt s.bs (a % s.p + 1) : Nat) : Int) - 1 = ((n : Nat) : Int) := by omega
        refine oSome (o := atI (nums s.bs) (((cnt s.bs (a % s.p + 1) : Nat) : Int) - 1)) (by rw [ei]; exact nums_at (show n < s.bs.length by omega)) ?_
        exact key (a / s.p) (a % s.p) n _ ed m0 (by rw [below_rest m0 m1, hn]) (by rw [bd_small (show n < s.bs.length by omega)]; omega)
      · have y : cnt s.bs (a % s.p + 1) = 0 := by omega
        have le : atI (nums s.bs) (-1) = some (.int (s.bs.getD (s.bs.length - 1) 0)) := by
          have hl2 : s.bs = s.bs.dropLast ++ [s.bs.getD (s.bs.length - 1) 0] := by
            have e := List.dropLast_concat_getLast (l := s.bs) (by rw [hbs]; exact List.cons_ne_nil _ _)
            rw [List.getLast_eq_getElem] at e
            rw [List.getD_eq_getElem?_getD, List.getElem?_eq_getElem (by omega)]
            exact e.symm
          have : nums s.bs = nums s.bs.dropLast ++ [.int (s.bs.getD (s.bs.length - 1) 0)] := by
            conv => lhs; rw [hl2]
            exact List.map_append
          rw [this]
          exact atI_last _ _
        refine oSome (o := atI (nums s.bs) (-1)) le ?_
        have eb : below s (a % s.p + s.p) = (s.bs.length - 1) + 1 := by
          unfold below
          rw [Int.add_ediv_of_dvd_right (Int.dvd_refl _), Int.ediv_eq_zero_of_lt m0 m1, Int.ediv_self (by omega), Int.add_emod_right, Int.emod_emod_of_dvd _ (Int.dvd_refl _), y]
          show s.bs.length * 1 + 0 = _
          omega
        exact key (a / s.p - 1) (a % s.p + s.p) (s.bs.length - 1) _ (by rw [Int.mul_sub]; omega) (by omega) eb (by
          rw [bd_small (show s.bs.length - 1 < s.bs.length by omega), Int.mul_sub]
          omega)
  · exact h.elim
abbrev N_next_in : List Str := ["dayset", "day", "left", "low", "runs", "high", "right", "found", "begin", "place"]
def p_next3 : PS' := (pSeq (pIfS (pTst (pII (fun i j => .bool (decide (i < j))) (pVar 8) (pVar 5))) (pSeq (pAsg (pCall 2 S_count_below (pCons (pVar 4) (pCons (pTup (pCons (pVar 8) pNil)) pNil))) (pgN 9))
      (pSeq (pIfS (pAnd (pTst (pII (fun i j => .bool (decide (j < i))) (pVar 9) (pC (.int 0)))) (pTst (pII (fun i j => .bool (decide (i < j))) (pVar 8) (pIx (pIx (pVar 4) (pII (fun i j => .int (i - j)) (pVar 9) (pC (.int 1)))) (pC (.int 1)))))) (pRet (pVar 8)) pNext)
      (pIfS (pTst (pII (fun i j => .bool (decide (i < j))) (pVar 9) (pFn fLen (pCons (pVar 4) pNil)))) (pRet (pIx (pIx (pVar 4) (pVar 9)) (pC (.int 0)))) pNext))) pNext)
      (pRet (pCall 2 S_next_in_side (pCons (pVar 6) (pCons (pFn fMax2 (pCons (pVar 1) (pCons (pVar 5) pNil))) pNil)))))
def p_next2 : PS' := (pSeq (pAsg (pFn fMax2 (pCons (pVar 1) (pCons (pVar 3) pNil))) (pgN 8)) p_next3)
def p_next_in : PS' := (pSeq (pAsg (pVar 0) (pgT [2, 3, 4, 5, 6]))
      (pSeq (pIfS (pTst (pII (fun i j => .bool (decide (i < j))) (pVar 1) (pVar 3))) (pSeq (pAsg (pCall 2 S_next_in_side (pCons (pVar 2) (pCons (pVar 1) pNil))) (pgN 7))
      (pIfS (pAnd (pTst (pIsN true (pVar 7))) (pTst (pII (fun i j => .bool (decide (i < j))) (pVar 7) (pVar 3)))) (pRet (pVar 7)) pNext)) pNext)
      p_next2))
theorem next2 {D : Ds} (B : DsB D) {a : Int} {c : PyData → Prop} (h : ∀ o, NxtOf (mem D) a o → c (optI o)) (H : ∀ d, a ≤ d → d < D.low → mem D d = false) (c7 : Cell) :
    p_next2 (fin c) ([.d (dsD D), .d (.int a), .d (sideD D.l), .d (.int D.low), .d (runsD D.rs), .d (.int D.high), .d (sideD D.r), c7, .no, .no] : En) := by
  have ok := B.ok
  have lh := ok_lh ok
  have few := B.n
  -- the right side
  have right : ∀ (c8 c9 : Cell), (∀ d, a ≤ d → d < D.high → mem D d = false) → (pRet (pCall 2 S_next_in_side (pCons (pVar 6) (pCons (pFn fMax2 (pCons (pVar 1) (pCons (pVar 5) pNil))) pNil)))) (fin c)
      ([.d (dsD D), .d (.int a), .d (sideD D.l), .d (.int D.low), .d (runsD D.rs), .d (.int D.high), .d (sideD D.r), c7, c8, c9] : En) := fun c8 c9 H2 => by
    refine ⟨rfl, D.r, rfl, ⟨ok.r, B.r⟩, fun o No => h o ?_⟩
    rw [max_py] at No
    refine nxt_one (b := max a D.high) (by omega) (fun d h1 h2 => H2 d h1 (by omega)) (nxt_congr (fun d hd => ?_) No)
    rw [mem_hi (by omega) (by omega)]
  show p_next3 (fin c) ([.d (dsD D), .d (.int a), .d (sideD D.l), .d (.int D.low), .d (runsD D.rs), .d (.int D.high), .d (sideD D.r), c7, .d (.int (if D.low > a then D.low else a)), .no] : En)
  rw [max_py]
  obtain ⟨b, hb⟩ : ∃ b, b = max a D.low := ⟨_, rfl⟩
  rw [← hb]
  have H3 : ∀ d, a ≤ d → d < b → mem D d = false := fun d h1 h2 => H d h1 (by omega)
  show (if decide (b < D.high) = true then _ else _)
  refine ifd (fun z => ?_) (fun z => right _ _ fun d h1 h2 => by
    by_cases y : d < D.low
    · exact H d h1 y
    · omega)
  refine ⟨le_k, rfl, D.rs, D.low, .inl rfl, ok.rs, by omega, ?_⟩
  -- behind the runs that have begun
  have on : ∀ (A C : Rn) (lo : Int), D.rs = A ++ C → (∀ r ∈ A, r.2 ≤ b) → RunsFrom lo C → (∀ r ∈ C, b ≤ r.1) → (pSeq (pIfS (pTst (pII (fun i j => .bool (decide (i < j))) (pVar 9) (pFn fLen (pCons (pVar 4) pNil)))) (pRet (pIx (pIx (pVar 4) (pVar 9)) (pC (.int 0)))) pNext)
      (pRet (pCall 2 S_next_in_side (pCons (pVar 6) (pCons (pFn fMax2 (pCons (pVar 1) (pCons (pVar 5) pNil))) pNil))))) (fin c)
      ([.d (dsD D), .d (.int a), .d (sideD D.l), .d (.int D.low), .d (runsD D.rs), .d (.int D.high), .d (sideD D.r), c7, .d (.int b), .d (.int ((A.length : Nat) : Int))] : En) := fun A C lo e hA hC hm => by
    obtain ⟨q1, q2⟩ := later_runs hA hC hm
    rw [← e] at q1 q2
    refine ⟨_, rfl, ?_⟩
    show (if decide (((A.length : Nat) : Int) < (((D.rs.map runD).length : Nat) : Int)) = true then _ else _)
    rw [List.length_map]
    cases C with
    | nil =>
      refine ff (decide_eq_false (by rw [e, List.append_nil]; omega)) ?_
      exact right _ _ fun d h1 h2 => by
        by_cases y : d < b
        · exact H3 d h1 y
        · rw [mem_mid (by omega) h2]
          exact q1 rfl d (by omega)
    | cons q C' =>
      obtain ⟨u, v⟩ := q
      obtain ⟨w1, w2⟩ := q2 u v C' rfl
      refine tt (decide_eq_true (by rw [e, List.length_append, List.length_cons]; omega)) ?_
      have at1 : atI (D.rs.map runD) ((A.length : Nat) : Int) = some (runD (u, v)) := by
        refine atI_natD ?_
        rw [List.getElem?_map, e, List.getElem?_append_right (Nat.le_refl _), Nat.sub_self]
        rfl
      refine oSome at1 ?_
      have hu : u < D.high := by
        by_cases y : u < D.high
        · exact y
        · have := ok.hi
          rw [inRuns_hi ok.rs (by omega)] at w1
          cases w1
      have bu := hm (u, v) List.mem_cons_self
      have bu : b ≤ u := bu
      exact h (some u) ⟨by omega, by rw [mem_mid (by omega) hu]; exact w1, fun d h1 h2 => by
        by_cases y : d < b
        · exact H3 d h1 y
        · rw [mem_mid (by omega) (by omega)]
          exact w2 d (by omega) h2⟩
  rcases starts_cnt ok.rs b with ⟨A, u, v, C, hrs, hc, hu, hC⟩ | ⟨z0, hall⟩
  · rw [hc]
    obtain ⟨a1, a2, a3, a4⟩ := runs_parts (by rw [← hrs]; exact ok.rs)
    refine tt (b := decide ((0 : Int) < ((A.length + 1 : Nat) : Int))) (decide_eq_true (by omega)) ?_
    have ei : (((A.length + 1 : Nat) : Int) - 1) = ((A.length : Nat) : Int) := by omega
    have at1 : atI (D.rs.map runD) (((A.length + 1 : Nat) : Int) - 1) = some (runD (u, v)) := by
      rw [ei]
      refine atI_natD ?_
      rw [List.getElem?_map, hrs, List.getElem?_append_right (Nat.le_refl _), Nat.sub_self]
      rfl
    refine oSome at1 ?_
    show (if decide (b < v) = true then _ else _)
    refine ifd (fun y => ?_) (fun y => ?_)
    · refine h (some b) ⟨by omega, ?_, H3⟩
      rw [mem_mid (by omega) z, hrs, inRuns, List.any_append, Bool.or_eq_true]
      refine .inr ?_
      show ((decide (u ≤ b) && decide (b < v)) || _) = true
      rw [decide_eq_true (by omega), decide_eq_true y]
      rfl
    · have k := on (A ++ [(u, v)]) C (v + 1) (by rw [hrs]; simp) (fun r hr => by
        rcases List.mem_append.mp hr with hr | hr
        · have := (a1 r hr).2; omega
        · rw [List.mem_singleton.mp hr]; show v ≤ b; omega) a3 hC
      rw [List.length_append, List.length_singleton] at k
      exact k
  · rw [z0]
    exact on [] D.rs D.low rfl (fun _ y => nomatch y) ok.rs hall
theorem pure_next_in (ds : List PyData) (c : PyData → Prop) (hl : ds.length = 2) (h : S_next_in ds c) : p_next_in (fin c) (startE N_next_in ds) := by
  unfold S_next_in at h
  split at h
  · rename_i d a
    obtain ⟨D, rfl, B, h⟩ := h
    refine ⟨rfl, ?_⟩
    show (if decide (a < D.low) = true then _ else _)
    refine ifd (fun z => ?_) (fun z => next2 B h (fun d h1 h2 => by omega) _)
    refine ⟨rfl, D.l, rfl, ⟨B.ok.l, B.l⟩, fun o No => ?_⟩
    cases o with
    | none => exact next2 B h (fun d h1 h2 => by rw [mem_lo h2]; exact No d h1) _
    | some x =>
      show (if decide (x < D.low) = true then _ else _)
      refine ifd (fun y => ?_) (fun y => next2 B h (fun d h1 h2 => by rw [mem_lo h2]; exact No.2.2 d h1 (by omega)) _)
      exact h (some x) ⟨No.1, by rw [mem_lo y]; exact No.2.1, fun d h1 h2 => by rw [mem_lo (by omega)]; exact No.2.2 d h1 h2⟩
  · exact h.elim
abbrev N_last_in : List Str := ["dayset", "day", "left", "low", "runs", "high", "right", "found", "last", "place"]
def p_last3 : PS' := (pSeq (pIfS (pTst (pII (fun i j => .bool (decide (j ≤ i))) (pVar 8) (pVar 3))) (pSeq (pAsg (pCall 2 S_count_below (pCons (pVar 4) (pCons (pTup (pCons (pPlus (pVar 8) (pC (.int 1))) pNil)) pNil))) (pgN 9))
      (pIfS (pTst (pII (fun i j => .bool (decide (j < i))) (pVar 9) (pC (.int 0)))) (pRet (pFn fMin2 (pCons (pVar 8) (pCons (pII (fun i j => .int (i - j)) (pIx (pIx (pVar 4) (pII (fun i j => .int (i - j)) (pVar 9) (pC (.int 1)))) (pC (.int 1))) (pC (.int 1))) pNil)))) pNext)) pNext)
      (pRet (pCall 2 S_last_in_side (pCons (pVar 2) (pCons (pFn fMin2 (pCons (pVar 1) (pCons (pII (fun i j => .int (i - j)) (pVar 3) (pC (.int 1))) pNil))) pNil)))))
def p_last2 : PS' := (pSeq (pAsg (pFn fMin2 (pCons (pVar 1) (pCons (pII (fun i j => .int (i - j)) (pVar 5) (pC (.int 1))) pNil))) (pgN 8)) p_last3)
def p_last_in : PS' := (pSeq (pAsg (pVar 0) (pgT [2, 3, 4, 5, 6]))
      (pSeq (pIfS (pTst (pII (fun i j => .bool (decide (j ≤ i))) (pVar 1) (pVar 5))) (pSeq (pAsg (pCall 2 S_last_in_side (pCons (pVar 6) (pCons (pVar 1) pNil))) (pgN 7))
      (pIfS (pAnd (pTst (pIsN true (pVar 7))) (pTst (pII (fun i j => .bool (decide (j ≤ i))) (pVar 7) (pVar 5)))) (pRet (pVar 7)) pNext)) pNext)
      p_last2))
theorem last2 {D : Ds} (B : DsB D) {a : Int} {c : PyData → Prop} (h : ∀ o, LstOf (mem D) a o → c (optI o)) (H : ∀ d, d ≤ a → D.high ≤ d → mem D d = false) (c7 : Cell) :
    p_last2 (fin c) ([.d (dsD D), .d (.int a), .d (sideD D.l), .d (.int D.low), .d (runsD D.rs), .d (.int D.high), .d (sideD D.r), c7, .no, .no] : En) := by
  have ok := B.ok
  have lh := ok_lh ok
  have few := B.n
  have left : ∀ (c8 c9 : Cell), (∀ d, d ≤ a → D.low ≤ d → mem D d = false) → (pRet (pCall 2 S_last_in_side (pCons (pVar 2) (pCons (pFn fMin2 (pCons (pVar 1) (pCons (pII (fun i j => .int (i - j)) (pVar 3) (pC (.int 1))) pNil))) pNil)))) (fin c)
      ([.d (dsD D), .d (.int a), .d (sideD D.l), .d (.int D.low), .d (runsD D.rs), .d (.int D.high), .d (sideD D.r), c7, c8, c9] : En) := fun c8 c9 H2 => by
    refine ⟨rfl, D.l, rfl, ⟨ok.l, B.l⟩, fun o No => h o ?_⟩
    rw [min_py] at No
    refine lst_one (b := min a (D.low - 1)) (by omega) (fun d h1 h2 => H2 d h2 (by omega)) (lst_congr (fun d hd => ?_) No)
    rw [mem_lo (by omega)]
  show p_last3 (fin c) ([.d (dsD D), .d (.int a), .d (sideD D.l), .d (.int D.low), .d (runsD D.rs), .d (.int D.high), .d (sideD D.r), c7, .d (.int (if D.high - 1 < a then D.high - 1 else a)), .no] : En)
  rw [min_py]
  obtain ⟨b, hb⟩ : ∃ b, b = min a (D.high - 1) := ⟨_, rfl⟩
  rw [← hb]
  have H3 : ∀ d, b < d → d ≤ a → mem D d = false := fun d h1 h2 => H d h2 (by omega)
  show (if decide (D.low ≤ b) = true then _ else _)
  refine ifd (fun z => ?_) (fun z => left _ _ fun d h1 h2 => H3 d (by omega) h1)
  refine ⟨le_k, rfl, D.rs, D.low, .inl rfl, ok.rs, by omega, ?_⟩
  rcases starts_cnt ok.rs (b + 1) with ⟨A, u, v, C, hrs, hc, hu, hC⟩ | ⟨z0, hall⟩
  · rw [hc]
    obtain ⟨a1, a2, a3, a4⟩ := runs_parts (by rw [← hrs]; exact ok.rs)
    refine tt (b := decide ((0 : Int) < ((A.length + 1 : Nat) : Int))) (decide_eq_true (by omega)) ?_
    have ei : (((A.length + 1 : Nat) : Int) - 1) = ((A.length : Nat) : Int) := by omega
    have at1 : atI (D.rs.map runD) (((A.length + 1 : Nat) : Int) - 1) = some (runD (u, v)) := by
      rw [ei]
      refine atI_natD ?_
      rw [List.getElem?_map, hrs, List.getElem?_append_right (Nat.le_refl _), Nat.sub_self]
      rfl
    refine oSome at1 ?_
    show c (.int (if v - 1 < b then v - 1 else b))
    rw [min_py]
    have inr : ∀ x, u ≤ x → x < v → inRuns D.rs x = true := fun x h1 h2 => by
      rw [hrs, inRuns, List.any_append, Bool.or_eq_true]
      refine .inr ?_
      show ((decide (u ≤ x) && decide (x < v)) || _) = true
      rw [decide_eq_true h1, decide_eq_true h2]
      rfl
    have lowu : D.low ≤ u := a4
    refine h (some (min b (v - 1))) ⟨by omega, by rw [mem_mid (by omega) (by omega)]; exact inr _ (by omega) (by omega), fun d h1 h2 => ?_⟩
    by_cases y : b < d
    · exact H3 d y h2
    · rw [mem_mid (by omega) (by omega), hrs]
      have : inRuns ((A ++ [(u, v)]) ++ C) d = false := by
        obtain ⟨q1, q2⟩ := later_runs (m := v) (A := A ++ [(u, v)]) (C := C) (fun r hr => by
          rcases List.mem_append.mp hr with hr | hr
          · have := (a1 r hr).2; omega
          · rw [List.mem_singleton.mp hr]; exact Int.le_refl _) a3 (fun r hr => by have := runs_low a3 r hr; omega)
        cases C with
        | nil => exact q1 rfl d (by omega)
        | cons q C' =>
          obtain ⟨s, t⟩ := q
          have := hC (s, t) List.mem_cons_self
          have : b + 1 ≤ s := this
          exact (q2 s t C' rfl).2 d (by omega) (by omega)
      rw [show A ++ (u, v) :: C = (A ++ [(u, v)]) ++ C by simp]
      exact this
  · rw [z0]
    exact left _ _ fun d h1 h2 => by
      by_cases y : b < d
      · exact H3 d y h1
      · rw [mem_mid (by omega) (by omega)]
        obtain ⟨q1, q2⟩ := later_runs (m := D.low) (A := []) (C := D.rs) (fun _ w => nomatch w) ok.rs (fun r hr => runs_low ok.rs r hr)
        obtain ⟨rs, hrs⟩ : ∃ rs, D.rs = rs := ⟨_, rfl⟩
        cases rs with
        | nil => exact q1 hrs d h2
        | cons q C' =>
          obtain ⟨s, t⟩ := q
          have := hall (s, t) (by rw [hrs]; exact List.mem_cons_self)
          have : b + 1 ≤ s := this
          exact (q2 s t C' hrs).2 d h2 (by omega)
theorem pure_last_in (ds : List PyData) (c : PyData → Prop) (hl : ds.length = 2) (h : S_last_in ds c) : p_last_in (fin c) (startE N_last_in ds) := by
  unfold S_last_in at h
  split at h
  · rename_i d a
    obtain ⟨D, rfl, B, h⟩ := h
    have lh := ok_lh B.ok
    refine ⟨rfl, ?_⟩
    show (if decide (D.high ≤ a) = true then _ else _)
    refine ifd (fun z => ?_) (fun z => last2 B h (fun d h1 h2 => by omega) _)
    refine ⟨rfl, D.r, rfl, ⟨B.ok.r, B.r⟩, fun o No => ?_⟩
    cases o with
    | none => exact last2 B h (fun d h1 h2 => by rw [mem_hi (by omega) (by omega)]; exact No d h1) _
    | some x =>
      show (if decide (D.high ≤ x) = true then _ else _)
      refine ifd (fun y => ?_) (fun y => last2 B h (fun d h1 h2 => by rw [mem_hi (by omega) (by omega)]; exact No.2.2 d (by omega) h1) _)
      exact h (some x) ⟨No.1, by rw [mem_hi (by omega) (by omega)]; exact No.2.1, fun d h1 h2 => by rw [mem_hi (by omega) (by omega)]; exact No.2.2 d h1 h2⟩
  · exact h.elim
end Pr
namespace Pr
open PySem L2 Pu N7
def S_law_dayset10 : FS := fun ds k => match ds with
  | [] => ∀ D : Ds, DsS D → D.l.bs.length ≤ 100 → D.r.bs.length ≤ 100 → -60 ≤ D.low → D.high ≤ 60 → k (dsD D)
  | _ => False
theorem pure_law_dayset10 (ds : List PyData) (c : PyData → Prop) (hl : ds.length = 0) (h : S_law_dayset10 ds c) : p_law_dayset7 (finB c) (.box :: startE N_law_dayset.tail ds) := by
  cases ds with
  | cons _ _ => cases hl
  | nil =>
    have h : ∀ D : Ds, DsS D → D.l.bs.length ≤ 100 → D.r.bs.length ≤ 100 → -60 ≤ D.low → D.high ≤ 60 → c (dsD D) := h
    refine ⟨rfl, rfl, rfl, by decide, fun v v0 v1 => ⟨by decide, Nat.zero_le _, ?_⟩⟩
    refine ⟨rfl, rfl, rfl, by decide, fun n n0 n1 => ⟨0, n, .inl ⟨rfl, rfl⟩, ⟨by omega, by omega, by omega, by omega⟩, fun k ρ => ∃ (rs : Rn) (o1 o2 : Cell), ρ = [.box, .d (.int (v - 10)), .d (.int (runsEnd (v - 10) rs)), .own (rs.map runD), o1, o2, .no, .no] ∧ rs.length = k ∧ RunsFrom (v - 10) rs ∧ runsEnd (v - 10) rs ≤ v - 10 + 8 * (k : Int), ⟨[], _, _, rfl, rfl, trivial, by show v - 10 ≤ _; omega⟩, ?_, ?_⟩⟩
    · rintro i ρ hi ⟨rs, o1, o2, rfl, hn, hr, he⟩
      refine ⟨rfl, rfl, rfl, by decide, fun a a0 a1 => ?_⟩
      refine ⟨rfl, rfl, rfl, by decide, fun b b0 b1 => ⟨Nat.le_of_ble_eq_true rfl, by rw [List.length_map]; omega, ?_⟩⟩
      have f0 : (0 : Int) ≤ (if decide ((0 : Int) < ((rs.map runD).length : Nat)) = true then 1 else 0) := by split <;> decide
      have f2 : (if decide ((0 : Int) < ((rs.map runD).length : Nat)) = true then (1 : Int) else 0) ≤ 1 := by split <;> decide
      have f1 : rs ≠ [] → (1 : Int) ≤ (if decide ((0 : Int) < ((rs.map runD).length : Nat)) = true then 1 else 0) := fun z => by
        have : 0 < rs.length := List.length_pos_iff.mpr z
        rw [if_pos (decide_eq_true (by rw [List.length_map]; omega))]
        decide
      obtain ⟨f, ef⟩ : ∃ f : Int, f = (if decide ((0 : Int) < ((rs.map runD).length : Nat)) = true then 1 else 0) := ⟨_, rfl⟩
      rw [← ef] at f0 f1 f2
      have key := from_snoc (rs := rs) (lo := v - 10) (u := runsEnd (v - 10) rs + a + f) (v := runsEnd (v - 10) rs + a + f + 1 + b) hr (fun z => by subst z; show v - 10 ≤ v - 10 + a + f; omega) (fun z => by have := f1 z; omega) (by omega)
      have q : (fun ρ => ∃ (rs : Rn) (o1 o2 : Cell), ρ = [.box, .d (.int (v - 10)), .d (.int (runsEnd (v - 10) rs)), .own (rs.map runD), o1, o2, .no, .no] ∧ rs.length = i + 1 ∧ RunsFrom (v - 10) rs ∧ runsEnd (v - 10) rs ≤ v - 10 + 8 * ((i + 1 : Nat) : Int))
          ([.box, .d (.int (v - 10)), .d (.int (runsEnd (v - 10) rs + a + f + 1 + b)), .own (rs.map runD ++ [.tuple [.int (runsEnd (v - 10) rs + a + f), .int (runsEnd (v - 10) rs + a + f + 1 + b)]]), .d (.int (0 + (i : Int))), .d (.int (runsEnd (v - 10) rs + a + f)), .no, .no] : En) :=
        ⟨rs ++ [(runsEnd (v - 10) rs + a + f, runsEnd (v - 10) rs + a + f + 1 + b)], _, _, by rw [turn_end, map_snoc]; rfl, by rw [List.length_append, hn]; rfl, key, by rw [turn_end]; omega⟩
      refine oSome (o := atI (rs.map runD ++ [_]) (-1)) (atI_last _ _) ?_
      rw [ef] at q
      exact q
    · rintro ρ ⟨rs, o1, o2, rfl, hn, hr, he⟩
      have last : ∀ l r : Sd, SdOk l → l.p ≤ 100 → l.bs.length ≤ 100 → SdOk r → r.p ≤ 100 → r.bs.length ≤ 100 → (pRet (pTup (pCons (pVar 6) (pCons (pVar 1) (pCons (pTupO 3) (pCons (pPlus (pVar 2) (pCallB 1 S_law_next 0 (pCons (pC (.int 4)) pNil))) (pCons (pVar 7) pNil))))))) (finB c)
          ([.box, .d (.int (v - 10)), .d (.int (runsEnd (v - 10) rs)), .own (rs.map runD), o1, o2, .d (sideD l), .d (sideD r)] : En) := fun l r l1 l2 l3 r1 r2 r3 => by
        refine ⟨rfl, rfl, rfl, by decide, fun a a0 a1 => ⟨Nat.le_of_ble_eq_true rfl, rfl, ?_⟩⟩
        exact h ⟨l, v - 10, rs, runsEnd (v - 10) rs + a, r⟩ ⟨⟨⟨l1, r1, hr, by show runsEnd (v - 10) rs ≤ runsEnd (v - 10) rs + a; omega⟩, by show l.bs.length ≤ _; omega, by show r.bs.length ≤ _; omega, by show rs.length ≤ 40000; omega⟩, l2, r2, by show -3000 ≤ v - 10; omega, by show runsEnd (v - 10) rs + a ≤ 3000; omega⟩ l3 r3 (by show -60 ≤ v - 10; omega) (by show runsEnd (v - 10) rs + a ≤ 60; omega)
      refine ⟨rfl, rfl, rfl, fun l l1 l2 l3 => ?_⟩
      refine ⟨rfl, rfl, rfl, by decide, fun a a0 a1 => ⟨rfl, rfl, ?_⟩⟩
      refine tf (fun _ => ?_) (fun _ => ?_)
      · exact last l l l1 l2 l3 l1 l2 l3
      · exact ⟨rfl, rfl, rfl, fun r r1 r2 r3 => last l r l1 l2 l3 r1 r2 r3⟩

/-! the law's own counting -/
theorem sF_turns {s : Sd} (ok : SdOk s) (R : Rn) (x t : Int) : sF s R (x + t * s.p) = sF s R x + t * tot R := by
  have p1 := ok.p1
  unfold sF
  rw [Int.add_mul_ediv_right _ _ (by omega), Int.add_mul_emod_self_right, Int.add_mul]
  omega
theorem sF_p {s : Sd} (ok : SdOk s) {R : Rn} (W : Win (holds s) 0 s.p R) : sF s R s.p - sF s R 0 = tot R := by
  have := sF_turns ok R 0 1
  rw [Int.zero_add, Int.one_mul, Int.one_mul] at this
  omega
def cntV (D : Ds) (L R : Rn) (a b : Int) : Int := if b ≤ a then 0 else tG D L R b - tG D L R a
def S_law_count : FS := fun ds k => match ds with
  | [d, .int a, .int b] => ∃ (D : Ds) (L R : Rn), d = dsD D ∧ DsT D L R ∧ k (.int (cntV D L R a b))
  | _ => False
abbrev N_law_count : List Str := ["dayset", "first", "end", "total", "at", "side", "stop", "turns", "day"]
def p_countT : PS' := (pIfS (pAnd (pTst (pIsN true (pVar 5))) (pTst (pII (fun i j => .bool (decide (j ≤ i))) (pII (fun i j => .int (i - j)) (pVar 6) (pVar 4)) (pIx (pVar 5) (pC (.int 0)))))) (pSeq (pAsg (pIIc CDiv (fun i j => .int (i / j)) (pII (fun i j => .int (i - j)) (pVar 6) (pVar 4)) (pIx (pVar 5) (pC (.int 0)))) (pgN 7))
      (pSeq (pAsg (pPlus (pVar 3) (pIIc CMul (fun i j => .int (i * j)) (pVar 7) (pFn fLen (pCons (pNew (pLcR [8] [8] (pCons (pIx (pVar 5) (pC (.int 0))) pNil) (pgN 8) (pTst (pCall 2 S_law_in_side (pCons (pVar 5) (pCons (pVar 8) pNil)))) (pVar 8))) pNil)))) (pgN 3))
      (pAsg (pPlus (pVar 4) (pIIc CMul (fun i j => .int (i * j)) (pVar 7) (pIx (pVar 5) (pC (.int 0))))) (pgN 4)))) (pSeq (pAsg (pPlus (pVar 3) (pFn fInt (pCons (pCall 2 S_law_in (pCons (pVar 0) (pCons (pVar 4) pNil))) pNil))) (pgN 3))
      (pAsg (pPlus (pVar 4) (pC (.int 1))) (pgN 4))))
def p_law_count : PS' := (pSeq (pAsg (pC (.int 0)) (pgN 3))
      (pSeq (pAsg (pVar 1) (pgN 4))
      (pSeq (pWhile (pTst (pII (fun i j => .bool (decide (i < j))) (pVar 4) (pVar 2))) (pSeq (pAsg (pC .none) (pgN 5))
      (pSeq (pAsg (pVar 2) (pgN 6))
      (pSeq (pIfS (pTst (pII (fun i j => .bool (decide (j ≤ i))) (pVar 4) (pIx (pVar 0) (pC (.int 3))))) (pAsg (pIx (pVar 0) (pC (.int 4))) (pgN 5)) (pIfS (pTst (pII (fun i j => .bool (decide (i < j))) (pVar 4) (pIx (pVar 0) (pC (.int 1))))) (pSeq (pAsg (pIx (pVar 0) (pC (.int 0))) (pgN 5))
      (pAsg (pFn fMin2 (pCons (pVar 2) (pCons (pIx (pVar 0) (pC (.int 1))) pNil))) (pgN 6))) pNext))
      p_countT))))
      (pRet (pVar 3)))))
theorem pure_law_count (ds : List PyData) (c : PyData → Prop) (hl : ds.length = 3) (h : S_law_count ds c) : p_law_count (fin c) (startE N_law_count ds) := by
  unfold S_law_count at h
  split at h
  · rename_i d a b
    obtain ⟨D, L, R, rfl, T, h⟩ := h
    have ok := T.b.ok
    have lh := ok_lh ok
    have P := tG_prim ok T.l.w T.r.w
    refine ⟨fun m ρ => ∃ (at_ : Int) (c5 c6 c7 : Cell), ρ = ([.d (dsD D), .d (.int a), .d (.int b), .d (.int (tG D L R at_ - tG D L R a)), .d (.int at_), c5, c6, c7, .no] : En) ∧ a ≤ at_ ∧ (at_ ≤ b ∨ at_ = a) ∧ m = (b - at_).toNat,
      ⟨_, a, _, _, _, by rw [Int.sub_self]; rfl, Int.le_refl _, .inr rfl, rfl⟩, ?_⟩
    rintro m ρ ⟨at_, c5, c6, c7, rfl, h1, h2, rfl⟩
    show (if decide (at_ < b) = true then _ else _)
    refine ifd (fun z => ?_) (fun z => ?_)
    · -- the end of a turn
      have nx : ∀ (at2 : Int) (c5 c6 c7 : Cell), at_ < at2 → at2 ≤ b → ∃ m', m' < (b - at_).toNat ∧ ∃ (at_ : Int) (c5' c6' c7' : Cell), ([.d (dsD D), .d (.int a), .d (.int b), .d (.int (tG D L R at2 - tG D L R a)), .d (.int at2), c5, c6, c7, .no] : En) = ([.d (dsD D), .d (.int a), .d (.int b), .d (.int (tG D L R at_ - tG D L R a)), .d (.int at_), c5', c6', c7', .no] : En) ∧ a ≤ at_ ∧ (at_ ≤ b ∨ at_ = a) ∧ m' = (b - at_).toNat :=
        fun at2 c5 c6 c7 l1 l2 => ⟨(b - at2).toNat, by omega, at2, c5, c6, c7, rfl, by omega, .inl l2, rfl⟩
      have one : ∀ (c5 c6 : Cell) (G : PEnds), (∀ at2 c5 c6 c7, at_ < at2 → at2 ≤ b → G.nx ([.d (dsD D), .d (.int a), .d (.int b), .d (.int (tG D L R at2 - tG D L R a)), .d (.int at2), c5, c6, c7, .no] : En)) →
          (pSeq (pAsg (pPlus (pVar 3) (pFn fInt (pCons (pCall 2 S_law_in (pCons (pVar 0) (pCons (pVar 4) pNil))) pNil))) (pgN 3)) (pAsg (pPlus (pVar 4) (pC (.int 1))) (pgN 4))) G ([.d (dsD D), .d (.int a), .d (.int b), .d (.int (tG D L R at_ - tG D L R a)), .d (.int at_), c5, c6, c7, .no] : En) := fun c5 c6 G hG => by
        refine ⟨rfl, D, rfl, T.b, ?_⟩
        have e : tG D L R at_ - tG D L R a + (if mem D at_ = true then 1 else 0) = tG D L R (at_ + 1) - tG D L R a := by
          rw [P at_]
          show _ + b2i (mem D at_) = _
          omega
        show G.nx ([.d (dsD D), .d (.int a), .d (.int b), .d (.int (tG D L R at_ - tG D L R a + (if mem D at_ = true then 1 else 0))), .d (.int (at_ + 1)), c5, c6, c7, .no] : En)
        rw [e]
        exact hG (at_ + 1) _ _ _ (by omega) (by omega)
      have side : ∀ (s : Sd) (W : Rn) (stop : Int) (G : PEnds), SdT s W → stop ≤ b → (∀ x y, at_ ≤ x → x ≤ stop → at_ ≤ y → y ≤ stop → tG D L R x - tG D L R y = sF s W x - sF s W y) → (∀ at2 c5 c6 c7, at_ < at2 → at2 ≤ b → G.nx ([.d (dsD D), .d (.int a), .d (.int b), .d (.int (tG D L R at2 - tG D L R a)), .d (.int at2), c5, c6, c7, .no] : En)) →
          p_countT G ([.d (dsD D), .d (.int a), .d (.int b), .d (.int (tG D L R at_ - tG D L R a)), .d (.int at_), .d (sideD s), .d (.int stop), c7, .no] : En) := fun s W stop G ts l1 dif hG => by
        have p1 := ts.b.ok.p1
        have pp := ts.p
        obtain ⟨_, _, t0, t1⟩ := win_tot ts.b.ok ts.w
        show (if decide (s.p ≤ stop - at_) = true then _ else _)
        refine ifd (fun y => ?_) (fun y => one _ _ G hG)
        refine ⟨⟨by omega, by show s.p < _; omega⟩, ?_⟩
        have PS := sF_prim ts.b.ok ts.w
        refine ⟨fun v hv => by rw [List.mem_singleton.mp hv]; rfl, rfl, 0, s.p, .inl ⟨rfl, rfl⟩, ⟨by decide, by decide, by omega, by omega⟩, fun i acc => ∃ l : List Int, acc = nums l ∧ (l.length : Int) = sF s W i - sF s W 0, ⟨[], rfl, by show (0 : Int) = sF s W 0 - sF s W 0; omega⟩, ?_, ?_⟩
        · rintro i acc hi ⟨l, rfl, hl⟩
          have g := (prim_mono PS (show (0 : Int) ≤ (i : Nat) by omega))
          have e : sF s W ((i + 1 : Nat) : Int) = sF s W (i : Nat) + b2i (holds s (i : Nat)) := PS (i : Nat)
          refine ⟨rfl, s, rfl, ts.b, ?_⟩
          rw [Int.zero_add]
          refine ⟨rfl, ?_⟩
          show (if holds s ((i : Nat) : Int) = true then _ else _)
          refine tf (fun q => ?_) (fun q => ?_)
          · refine ⟨rfl, by rw [List.length_map]; omega, l ++ [((i : Nat) : Int)], (nums_snoc _ _).symm, ?_⟩
            rw [List.length_append, List.length_singleton, e, q]
            have : b2i true = 1 := rfl
            omega
          · refine ⟨l, rfl, ?_⟩
            rw [e, q]
            have : b2i false = 0 := rfl
            omega
        · rintro acc ⟨l, rfl, hl⟩
          have hl : (l.length : Int) = tot W := by
            rw [hl, show (((s.p - 0).toNat : Nat) : Int) = s.p by omega]
            exact sF_p ts.b.ok ts.w
          have q1 : 1 ≤ (stop - at_) / s.p := by
            have := Int.le_ediv_of_mul_le (a := 1) (b := stop - at_) (c := s.p) (by omega) (by omega)
            exact this
          have q2 : (stop - at_) / s.p * s.p ≤ stop - at_ := Int.ediv_mul_le _ (by omega)
          have q3 : s.p ≤ (stop - at_) / s.p * s.p := by
            have := Int.mul_le_mul_of_nonneg_right q1 (show 0 ≤ s.p by omega)
            omega
          refine ⟨_, rfl, cmul_r (by rw [List.length_map]; omega) (by rw [List.length_map]; omega), ?_⟩
          refine ⟨cmul_r (by show 0 ≤ s.p; omega) (by show s.p ≤ 1000000; omega), ?_⟩
          have e : tG D L R at_ - tG D L R a + (stop - at_) / s.p * (((nums l).length : Nat) : Int) = tG D L R (at_ + (stop - at_) / s.p * s.p) - tG D L R a := by
            rw [List.length_map, hl]
            have := dif (at_ + (stop - at_) / s.p * s.p) at_ (by omega) (by omega) (by omega) (by omega)
            rw [sF_turns ts.b.ok] at this
            omega
          show G.nx ([.d (dsD D), .d (.int a), .d (.int b), .d (.int (tG D L R at_ - tG D L R a + (stop - at_) / s.p * (((nums l).length : Nat) : Int))), .d (.int (at_ + (stop - at_) / s.p * s.p)), .d (sideD s), .d (.int stop), .d (.int ((stop - at_) / s.p)), .no] : En)
          rw [e]
          exact hG _ _ _ _ (by omega) (by omega)
      show (if decide (D.high ≤ at_) = true then _ else _)
      refine ifd (fun y => ?_) (fun y => ?_)
      · exact side D.r R b _ T.r (Int.le_refl _) (fun x y hx _ hy _ => by rw [tG_r ok (by omega), tG_r ok (by omega)]; omega) nx
      · show (if decide (at_ < D.low) = true then _ else _)
        refine ifd (fun w => ?_) (fun w => one _ _ _ nx)
        show p_countT _ ([.d (dsD D), .d (.int a), .d (.int b), .d (.int (tG D L R at_ - tG D L R a)), .d (.int at_), .d (sideD D.l), .d (.int (if D.low < b then D.low else b)), c7, .no] : En)
        rw [min_py]
        exact side D.l L (min b D.low) _ T.l (by omega) (fun x y _ hx _ hy => by rw [tG_l (by omega), tG_l (by omega)]; omega) nx
    · show c (.int (tG D L R at_ - tG D L R a))
      unfold cntV at h
      by_cases y : b ≤ a
      · rw [if_pos y] at h
        have e : at_ = a := by omega
        rw [e, Int.sub_self]
        exact h
      · rw [if_neg y] at h
        have e : at_ = b := by omega
        rw [e]
        exact h
  · exact h.elim
/-! its seeking -/
def SeekN (h : Int → Bool) (a s : Int) : Option Int → Prop
  | some x => ∃ i : Nat, i < 200 ∧ x = a + s * i ∧ h x = true ∧ ∀ j : Nat, j < i → h (a + s * j) = false
  | none => ∀ j : Nat, j < 200 → h (a + s * j) = false
def S_law_seek : FS := fun ds k => match ds with
  | [d, .int a, .int s] => ∃ D : Ds, d = dsD D ∧ DsB D ∧ ∀ o, SeekN (mem D) a s o → k (optI o)
  | _ => False
abbrev N_law_seek : List Str := ["dayset", "day", "step", "at", "k"]
def p_law_seek : PS' := (pSeq (pAsg (pVar 1) (pgN 3))
      (pSeq (pRng (pCons (pC (.int 200)) pNil) (pgN 4) (pSeq (pIfS (pTst (pCall 2 S_law_in (pCons (pVar 0) (pCons (pVar 3) pNil)))) (pRet (pVar 3)) pNext)
      (pAsg (pPlus (pVar 3) (pVar 2)) (pgN 3))))
      (pRet (pC .none))))
theorem pure_law_seek (ds : List PyData) (c : PyData → Prop) (hl : ds.length = 3) (h : S_law_seek ds c) : p_law_seek (fin c) (startE N_law_seek ds) := by
  unfold S_law_seek at h
  split at h
  · rename_i d a s
    obtain ⟨D, rfl, B, h⟩ := h
    refine ⟨0, 200, .inl ⟨rfl, rfl⟩, ⟨by decide, by decide, by decide, by decide⟩, fun i ρ => ∃ c4 : Cell, ρ = ([.d (dsD D), .d (.int a), .d (.int s), .d (.int (a + s * i)), c4] : En) ∧ ∀ j : Nat, j < i → mem D (a + s * j) = false, ⟨_, by rw [show a + s * ((0 : Nat) : Int) = a by simp]; rfl, fun j z => by omega⟩, ?_, ?_⟩
    · rintro i ρ hi ⟨c4, rfl, H⟩
      refine ⟨rfl, D, rfl, B, ?_⟩
      refine tf (fun z => ?_) (fun z => ?_)
      · exact h (some (a + s * i)) ⟨i, by omega, rfl, z, H⟩
      · refine ⟨_, by rw [show a + s * ((i + 1 : Nat) : Int) = a + s * (i : Int) + s by push_cast; rw [Int.mul_add]; omega]; rfl, fun j hj => ?_⟩
        by_cases e : j = i
        · rw [e]; exact z
        · exact H j (by omega)
    · rintro ρ ⟨c4, rfl, H⟩
      exact h none H
  · exact h.elim
theorem seek_up {h : Int → Bool} {a : Int} {o o' : Option Int} (N : NxtOf h a o) (b : ∀ x, o = some x → x < a + 200) (S : SeekN h a 1 o') : o = o' := by
  cases o with
  | none =>
    cases o' with
    | none => rfl
    | some y =>
      obtain ⟨i, _, e, hy, _⟩ := S
      rw [N y (by omega)] at hy
      cases hy
  | some x =>
    have bx := b x rfl
    obtain ⟨n1, n2, n3⟩ := N
    cases o' with
    | none =>
      have := S (x - a).toNat (by omega)
      rw [show a + 1 * ((x - a).toNat : Int) = x by omega, n2] at this
      cases this
    | some y =>
      obtain ⟨i, _, e, hy, hj⟩ := S
      congr 1
      rcases Int.lt_trichotomy x y with z | z | z
      · have := hj (x - a).toNat (by omega)
        rw [show a + 1 * ((x - a).toNat : Int) = x by omega, n2] at this
        cases this
      · exact z
      · rw [n3 y (by omega) z] at hy
        cases hy
theorem seek_down {h : Int → Bool} {a : Int} {o o' : Option Int} (N : LstOf h a o) (b : ∀ x, o = some x → a - 200 < x) (S : SeekN h a (-1) o') : o = o' := by
  cases o with
  | none =>
    cases o' with
    | none => rfl
    | some y =>
      obtain ⟨i, _, e, hy, _⟩ := S
      rw [N y (by omega)] at hy
      cases hy
  | some x =>
    have bx := b x rfl
    obtain ⟨n1, n2, n3⟩ := N
    cases o' with
    | none =>
      have := S (a - x).toNat (by omega)
      rw [show a + -1 * ((a - x).toNat : Int) = x by omega, n2] at this
      cases this
    | some y =>
      obtain ⟨i, _, e, hy, hj⟩ := S
      congr 1
      rcases Int.lt_trichotomy x y with z | z | z
      · rw [n3 y z (by omega)] at hy
        cases hy
      · exact z
      · have := hj (a - x).toNat (by omega)
        rw [show a + -1 * ((a - x).toNat : Int) = x by omega, n2] at this
        cases this
/-- the next day is near -/
theorem nxt_near {D : Ds} (ok : DsOk D) {a x : Int} (N : NxtOf (mem D) a (some x)) : x < max a D.high + D.r.p := by
  have lh := ok_lh ok
  have p1 := ok.r.p1
  obtain ⟨n1, n2, n3⟩ := N
  by_cases c : x < max a D.high + D.r.p
  · exact c
  · exfalso
    have z := n3 (x - D.r.p) (by omega) (by omega)
    rw [mem_hi (by omega) (by omega)] at z n2
    have := per_holds (s := D.r) (x - D.r.p)
    rw [show x - D.r.p + D.r.p = x by omega, n2, z] at this
    cases this
theorem lst_near {D : Ds} (ok : DsOk D) {a x : Int} (N : LstOf (mem D) a (some x)) : min a (D.low - 1) - D.l.p < x := by
  have p1 := ok.l.p1
  obtain ⟨n1, n2, n3⟩ := N
  by_cases c : min a (D.low - 1) - D.l.p < x
  · exact c
  · exfalso
    have z := n3 (x + D.l.p) (by omega) (by omega)
    rw [mem_lo (by omega)] at z n2
    have := per_holds (s := D.l) x
    rw [n2, z] at this
    cases this
theorem nxt_uniq {h : Int → Bool} {a : Int} {o o' : Option Int} (N : NxtOf h a o) (M : NxtOf h a o') : o = o' := by
  cases o with
  | none =>
    cases o' with
    | none => rfl
    | some y => have := N y M.1; rw [M.2.1] at this; cases this
  | some x =>
    cases o' with
    | none => have := M x N.1; rw [N.2.1] at this; cases this
    | some y =>
      congr 1
      rcases Int.lt_trichotomy x y with z | z | z
      · have := M.2.2 x N.1 z; rw [N.2.1] at this; cases this
      · exact z
      · have := N.2.2 y M.1 z; rw [M.2.1] at this; cases this
theorem lst_uniq {h : Int → Bool} {a : Int} {o o' : Option Int} (N : LstOf h a o) (M : LstOf h a o') : o = o' := by
  cases o with
  | none =>
    cases o' with
    | none => rfl
    | some y => have := N y M.1; rw [M.2.1] at this; cases this
  | some x =>
    cases o' with
    | none => have := M x N.1; rw [N.2.1] at this; cases this
    | some y =>
      congr 1
      rcases Int.lt_trichotomy x y with z | z | z
      · have := N.2.2 y z M.1; rw [M.2.1] at this; cases this
      · exact z
      · have := M.2.2 x z N.1; rw [N.2.1] at this; cases this
end Pr
namespace Pr
open PySem L2 Pu N7
abbrev finL10 : PEnds := ⟨fun _ => False, fun d _ => d = .bool true, fun _ => False, fun _ => False⟩
theorem same_int {i j : Int} {A B : Prop} (e : i = j) (h : B) : shq (.int i) = true ∧ shq (.int j) = true ∧ (if flipB true (PyData.eqv (.int i) (.int j)) = true then A else B) := by
  subst e
  exact ⟨rfl, rfl, ff (by rw [eqv_int, decide_eq_true rfl]; rfl) h⟩
theorem same_boolB {b : Bool} {A B : Prop} (h : B) : shq (.bool b) = true ∧ shq (.bool b) = true ∧ (if flipB true (PyData.eqv (.bool b) (.bool b)) = true then A else B) :=
  ⟨rfl, rfl, ff (by rw [eqv_bool]; cases b <;> rfl) h⟩
theorem same_opt {o : Option Int} {A B : Prop} (h : B) : shq (optI o) = true ∧ shq (optI o) = true ∧ (if flipB true (PyData.eqv (optI o) (optI o)) = true then A else B) := by
  cases o with
  | none => exact ⟨rfl, rfl, h⟩
  | some x => exact same_int rfl h
def cpw {i j : Int} (h : 0 ≤ j ∧ j ≤ 1000000 ∧ i.natAbs < 2 ^ 64 := by decide) : CPow i j := h
/-! two runs far from one another -/
def noS : Sd := ⟨1, [], false⟩
def gapD (n f : Int) : Ds := ⟨noS, n, [(n, n + 2), (f, f + 3)], f + 3, noS⟩
theorem noS_ok : SdOk noS := ⟨by decide, trivial, rfl⟩
theorem noS_T : SdT noS [] := ⟨⟨noS_ok, Nat.zero_le _⟩, by decide, ⟨trivial, by decide, fun x => rfl⟩, Nat.zero_le _⟩
theorem noS_F (m : Int) : sF noS [] m = 0 := by
  show m / 1 * 0 + 0 = 0
  omega
section
variable {n f : Int}
theorem gap_ok (h : n + 2 < f) : DsOk (gapD n f) := ⟨noS_ok, noS_ok, ⟨Int.le_refl _, by omega, by omega, by omega, trivial⟩, Int.le_refl _⟩
theorem gap_B (h : n + 2 < f) : DsB (gapD n f) := ⟨gap_ok h, Nat.zero_le _, Nat.zero_le _, by show (2 : Nat) ≤ 40000; decide⟩
theorem gap_T (h : n + 2 < f) : DsT (gapD n f) [] [] := ⟨gap_B h, noS_T, noS_T⟩
theorem gap_mem (h : n + 2 < f) (d : Int) : mem (gapD n f) d = decide ((n ≤ d ∧ d < n + 2) ∨ (f ≤ d ∧ d < f + 3)) := by
  unfold mem
  by_cases c1 : d < n
  · rw [if_pos (show d < (gapD n f).low from c1), decide_eq_false (by omega)]
    rfl
  · rw [if_neg (show ¬ d < (gapD n f).low from c1)]
    by_cases c2 : d < f + 3
    · rw [if_pos (show d < (gapD n f).high from c2)]
      show ((decide (n ≤ d) && decide (d < n + 2)) || ((decide (f ≤ d) && decide (d < f + 3)) || false)) = _
      by_cases c3 : d < n + 2
      · simp [c3, show n ≤ d by omega]
      · by_cases c4 : f ≤ d
        · simp [c2, c4]
        · simp [c3, c4]
    · rw [if_neg (show ¬ d < (gapD n f).high from c2), decide_eq_false (by omega)]
      rfl
theorem gap_lo {m : Int} (h : m ≤ n) : tG (gapD n f) [] [] m = 0 := by
  rw [tG_l (show m ≤ (gapD n f).low from h)]
  show sF noS [] m - sF noS [] n = 0
  rw [noS_F, noS_F]
  rfl
theorem gap_hi (h : n + 2 < f) {m : Int} (hm : f + 3 ≤ m) : tG (gapD n f) [] [] m = 5 := by
  rw [tG_r (gap_ok h) (show (gapD n f).high ≤ m from hm)]
  show (n + 2 - n) + ((f + 3 - f) + 0) + sF noS [] m - sF noS [] (f + 3) = 5
  rw [noS_F, noS_F]
  omega
theorem gap_mid (h : n + 2 < f) {m : Int} (h1 : n ≤ m) (h2 : m ≤ f + 3) : tG (gapD n f) [] [] m = (if m ≤ n then 0 else min m (n + 2) - n) + ((if m ≤ f then 0 else min m (f + 3) - f) + 0) :=
  tG_m (gap_ok h) (show (gapD n f).low ≤ m from h1) (show m ≤ (gapD n f).high from h2)
end
abbrev N_law_gap : List Str := ["box", "far", "near", "none", "dayset"]
def p_law_gap : PS' := (pSeq (pAsg (pPlus (pIx (pNew (pLst (pCons (pIIc CPow (fun i j => .int (i ^ j.toNat)) (pC (.int 10)) (pC (.int 20))) (pCons (pIIc CPow (fun i j => .int (i ^ j.toNat)) (pC (.int 10)) (pC (.int 6))) (pCons (pC (.int 150000)) pNil))))) (pCallB 1 S_law_next 0 (pCons (pC (.int 3)) pNil))) (pCallB 1 S_law_next 0 (pCons (pC (.int 50)) pNil))) (pgN 1))
      (pSeq (pAsg (pCallB 1 S_law_next 0 (pCons (pC (.int 20)) pNil)) (pgN 2))
      (pSeq (pAsg (pTup (pCons (pC (.int 1)) (pCons (pTup pNil) (pCons (pC (.bool false)) pNil)))) (pgN 3))
      (pSeq (pAsg (pTup (pCons (pVar 3) (pCons (pVar 2) (pCons (pTup (pCons (pTup (pCons (pVar 2) (pCons (pPlus (pVar 2) (pC (.int 2))) pNil))) (pCons (pTup (pCons (pVar 1) (pCons (pPlus (pVar 1) (pC (.int 3))) pNil))) pNil))) (pCons (pPlus (pVar 1) (pC (.int 3))) (pCons (pVar 3) pNil)))))) (pgN 4))
      (pSeq (pIfS (pOr (pTst (pEqD true (pCall 2 S_next_in (pCons (pVar 4) (pCons (pPlus (pVar 2) (pC (.int 2))) pNil))) (pVar 1))) (pOr (pTst (pEqD true (pCall 2 S_last_in (pCons (pVar 4) (pCons (pII (fun i j => .int (i - j)) (pVar 1) (pC (.int 1))) pNil))) (pPlus (pVar 2) (pC (.int 1))))) (pTst (pEqD true (pCall 3 S_count_in (pCons (pVar 4) (pCons (pI (fun i => .int (-i)) (pVar 1)) (pCons (pIIc CMul (fun i j => .int (i * j)) (pC (.int 2)) (pVar 1)) pNil)))) (pC (.int 5)))))) (pRet (pC (.bool false))) pNext)
      (pSeq (pIfS (pOr (pTst (pEqD true (pCall 3 S_nth_from (pCons (pVar 4) (pCons (pPlus (pVar 2) (pC (.int 1))) (pCons (pC (.int 2)) pNil)))) (pVar 1))) (pOr (pTst (pEqD true (pCall 3 S_nth_from (pCons (pVar 4) (pCons (pVar 2) (pCons (pC (.int 5)) pNil)))) (pPlus (pVar 1) (pC (.int 2))))) (pTst (pIsN true (pCall 3 S_nth_from (pCons (pVar 4) (pCons (pVar 2) (pCons (pC (.int 6)) pNil)))))))) (pRet (pC (.bool false))) pNext)
      (pRet (pAndV (pIsN false (pCall 2 S_next_in (pCons (pVar 4) (pCons (pPlus (pVar 1) (pC (.int 3))) pNil)))) (pAndV (pIsN false (pCall 2 S_last_in (pCons (pVar 4) (pCons (pII (fun i j => .int (i - j)) (pVar 2) (pC (.int 1))) pNil)))) (pEqD false (pCall 2 S_next_in (pCons (pVar 4) (pCons (pI (fun i => .int (-i)) (pVar 1)) pNil))) (pVar 2)))))))))))
def S_law_gap : FS := fun ds k => match ds with
  | [] => k (.bool true)
  | _ => False
theorem gap_far (v : Int) (v0 : 0 ≤ v) (v1 : v < 3) : ∃ w : Int, atI ([.int (10 ^ (20 : Int).toNat), .int (10 ^ (6 : Int).toNat), .int 150000] : List PyData) v = some (.int w) ∧ 150000 ≤ w := by
  have e : v = 0 ∨ v = 1 ∨ v = 2 := by omega
  rcases e with rfl | rfl | rfl
  · exact ⟨_, rfl, by decide⟩
  · exact ⟨_, rfl, by decide⟩
  · exact ⟨_, rfl, by decide⟩
theorem pure_law_gap (ds : List PyData) (c : PyData → Prop) (hl : ds.length = 0) (h : S_law_gap ds c) : p_law_gap (finB c) (.box :: startE N_law_gap.tail ds) := by
  cases ds with
  | cons _ _ => cases hl
  | nil =>
    refine ⟨cpw, cpw, le_k, rfl, rfl, rfl, by decide, fun v v0 v1 => ?_⟩
    obtain ⟨w, e, hw⟩ := gap_far v v0 v1
    refine oSome e ⟨rfl, rfl, rfl, by decide, fun u u0 u1 => ?_⟩
    refine ⟨rfl, rfl, rfl, by decide, fun n n0 n1 => ?_⟩
    obtain ⟨f, hf⟩ : ∃ f, f = w + u := ⟨_, rfl⟩
    refine ⟨le_k, le_k, le_k, le_k, le_k, le_k, ?_⟩
    rw [← hf]
    have nf : n + 2 < f := by omega
    have B := gap_B nf
    have T := gap_T nf
    have gm := gap_mem nf
    refine ⟨rfl, gapD n f, rfl, B, fun o No => ?_⟩
    have e1 : o = some f := nxt_uniq No ⟨by omega, by rw [gm]; exact decide_eq_true (by omega), fun d h1 h2 => by rw [gm]; exact decide_eq_false (by omega)⟩
    subst e1
    refine same_int rfl ?_
    refine ⟨rfl, gapD n f, rfl, B, fun o No => ?_⟩
    have e1 : o = some (n + 1) := lst_uniq No ⟨by omega, by rw [gm]; exact decide_eq_true (by omega), fun d h1 h2 => by rw [gm]; exact decide_eq_false (by omega)⟩
    subst e1
    refine same_int rfl ?_
    refine ⟨.inl ⟨by decide, by decide⟩, rfl, gapD n f, [], [], rfl, T, ?_⟩
    rw [if_neg (by omega), gap_lo (m := -f) (by omega), gap_hi nf (m := 2 * f) (by omega)]
    refine ⟨rfl, rfl, ?_⟩
    have x1 : tG (gapD n f) [] [] (n + 1) = 1 := by rw [gap_mid nf (by omega) (by omega), if_neg (by omega), if_pos (by omega), Int.min_eq_left (by omega)]; omega
    have x0 : tG (gapD n f) [] [] n = 0 := gap_lo (Int.le_refl _)
    have vals : ∀ x, mem (gapD n f) x = true → (x = n ∧ tG (gapD n f) [] [] x = 0) ∨ (x = n + 1 ∧ tG (gapD n f) [] [] x = 1) ∨ (x = f ∧ tG (gapD n f) [] [] x = 2) ∨ (x = f + 1 ∧ tG (gapD n f) [] [] x = 3) ∨ (x = f + 2 ∧ tG (gapD n f) [] [] x = 4) := fun x hx => by
      rw [gm, decide_eq_true_iff] at hx
      have g : tG (gapD n f) [] [] x = (if x ≤ n then 0 else min x (n + 2) - n) + ((if x ≤ f then 0 else min x (f + 3) - f) + 0) := gap_mid nf (by omega) (by omega)
      rw [g]
      have : x = n ∨ x = n + 1 ∨ x = f ∨ x = f + 1 ∨ x = f + 2 := by omega
      rcases this with y | y | y | y | y
      · exact .inl ⟨y, by rw [if_pos (by omega), if_pos (by omega)]; rfl⟩
      · exact .inr (.inl ⟨y, by rw [if_neg (by omega), if_pos (by omega), Int.min_eq_left (by omega)]; omega⟩)
      · exact .inr (.inr (.inl ⟨y, by rw [if_neg (by omega), if_pos (by omega), Int.min_eq_right (by omega)]; omega⟩))
      · exact .inr (.inr (.inr (.inl ⟨y, by rw [if_neg (by omega), if_neg (by omega), Int.min_eq_right (by omega), Int.min_eq_left (by omega)]; omega⟩)))
      · exact .inr (.inr (.inr (.inr ⟨y, by rw [if_neg (by omega), if_neg (by omega), Int.min_eq_right (by omega), Int.min_eq_left (by omega)]; omega⟩)))
    refine ⟨rfl, gapD n f, [], [], rfl, T, by decide, fun x hx hc => ?_, fun _ z => ?_⟩
    rotate_left
    · exfalso
      rw [x1] at z
      have z : (n + 2 - n) + ((f + 3 - f) + 0) ≤ (1 : Int) + 2 - 1 := z
      omega
    have ex : x = f := by
      rw [x1] at hc
      have := vals x hx
      omega
    refine same_int ex ?_
    refine ⟨rfl, gapD n f, [], [], rfl, T, by decide, fun x hx hc => ?_, fun _ z => ?_⟩
    rotate_left
    · exfalso
      rw [x0] at z
      have z : (n + 2 - n) + ((f + 3 - f) + 0) ≤ (0 : Int) + 5 - 1 := z
      omega
    have ex : x = f + 2 := by
      rw [x0] at hc
      have := vals x hx
      omega
    refine same_int ex ?_
    refine ⟨rfl, gapD n f, [], [], rfl, T, by decide, fun x hx hc => ?_, fun _ z => ?_⟩
    · exfalso
      rw [x0] at hc
      have := vals x hx
      omega
    refine ⟨rfl, gapD n f, rfl, B, fun o No => ?_⟩
    have e1 : o = none := nxt_uniq No fun d hd => by rw [gm]; exact decide_eq_false (by omega)
    subst e1
    refine ⟨rfl, gapD n f, rfl, B, fun o No => ?_⟩
    have e1 : o = none := lst_uniq No fun d hd => by rw [gm]; exact decide_eq_false (by omega)
    subst e1
    refine ⟨rfl, gapD n f, rfl, B, fun o No => ?_⟩
    have e1 : o = some n := nxt_uniq No ⟨by omega, by rw [gm]; exact decide_eq_true (by omega), fun d h1 h2 => by rw [gm]; exact decide_eq_false (by omega)⟩
    subst e1
    refine ⟨rfl, rfl, rfl, ?_⟩
    show c (.bool (PyData.eqv (.int n) (.int n)))
    rw [eqv_int, decide_eq_true rfl]
    exact h
/-! the law -/
abbrev N_law : List Str := ["script", "box", "k", "dayset", "day", "later", "earlier", "first", "end", "start", "number", "found"]
def p_day2 : PS' := (pIfS (pOr (pAnd (pTst (pII (fun i j => .bool (decide (j < i))) (pVar 4) (pC (.int 100)))) (pTst (pEqD true (pCall 2 S_next_in (pCons (pVar 3) (pCons (pVar 4) pNil))) (pVar 5)))) (pAnd (pTst (pII (fun i j => .bool (decide (i < j))) (pVar 4) (pI (fun i => .int (-i)) (pC (.int 100))))) (pTst (pEqD true (pCall 2 S_last_in (pCons (pVar 3) (pCons (pVar 4) pNil))) (pVar 6))))) (pRet (pC (.bool false))) pNext)
def p_nth : PS' := (pFor (pLO (pNew (pLst (pCons (pC (.int 1)) (pCons (pC (.int 2)) (pCons (pPlus (pC (.int 1)) (pCallB 1 S_law_next 1 (pCons (pC (.int 30)) pNil))) (pCons (pPlus (pIIc CPow (fun i j => .int (i ^ j.toNat)) (pC (.int 10)) (pC (.int 30))) (pCallB 1 S_law_next 1 (pCons (pC (.int 9)) pNil))) pNil))))))) (pgN 10) (pSeq (pAsg (pCall 3 S_nth_from (pCons (pVar 3) (pCons (pVar 7) (pCons (pVar 10) pNil)))) (pgN 11))
      (pIfS (pTst (pIsN false (pVar 11))) (pIfS (pTst (pII (fun i j => .bool (decide (j ≤ i))) (pCall 3 S_law_count (pCons (pVar 3) (pCons (pVar 7) (pCons (pPlus (pVar 7) (pIIc CPow (fun i j => .int (i ^ j.toNat)) (pC (.int 10)) (pC (.int 33)))) pNil)))) (pVar 10))) (pRet (pC (.bool false))) pNext) (pIfS (pOr (pTst (pII (fun i j => .bool (decide (i < j))) (pVar 11) (pVar 7))) (pOr (pNot (pTst (pCall 2 S_law_in (pCons (pVar 3) (pCons (pVar 11) pNil))))) (pTst (pEqD true (pCall 3 S_law_count (pCons (pVar 3) (pCons (pVar 7) (pCons (pVar 11) pNil)))) (pII (fun i j => .int (i - j)) (pVar 10) (pC (.int 1))))))) (pRet (pC (.bool false))) pNext))))
def p_cnt : PS' := (pFor (pLO (pNew (pLst (pCons (pII (fun i j => .int (i - j)) (pVar 7) (pC (.int 1))) (pCons (pVar 7) (pCons (pPlus (pVar 7) (pCallB 1 S_law_next 1 (pCons (pC (.int 60)) pNil))) (pCons (pPlus (pVar 7) (pIIc CPow (fun i j => .int (i ^ j.toNat)) (pC (.int 10)) (pC (.int 30)))) pNil))))))) (pgN 8) (pFor (pLO (pNew (pLst (pCons (pVar 7) (pCons (pII (fun i j => .int (i - j)) (pVar 7) (pIIc CPow (fun i j => .int (i ^ j.toNat)) (pC (.int 10)) (pC (.int 25)))) pNil))))) (pgN 9) (pIfS (pTst (pEqD true (pCall 3 S_count_in (pCons (pVar 3) (pCons (pVar 9) (pCons (pVar 8) pNil)))) (pCall 3 S_law_count (pCons (pVar 3) (pCons (pVar 9) (pCons (pVar 8) pNil)))))) (pRet (pC (.bool false))) pNext)))
def p_first : PS' := (pSeq (pAsg (pII (fun i j => .int (i - j)) (pCallB 1 S_law_next 1 (pCons (pC (.int 60)) pNil)) (pC (.int 30))) (pgN 7))
      (pSeq p_cnt
      p_nth))
def p_days : PS' := (pSeq (pFor (pLO (pPlus (pNew (pLstRg (pI (fun i => .int (-i)) (pC (.int 30))) (pC (.int 31)))) (pNew (pLst (pCons (pPlus (pIIc CPow (fun i j => .int (i ^ j.toNat)) (pC (.int 10)) (pC (.int 30))) (pVar 2)) (pCons (pII (fun i j => .int (i - j)) (pI (fun i => .int (-i)) (pIIc CPow (fun i j => .int (i ^ j.toNat)) (pC (.int 10)) (pC (.int 30)))) (pVar 2)) pNil)))))) (pgN 4) (pSeq (pIfS (pTst (pEqD true (pCall 2 S_holds (pCons (pVar 3) (pCons (pVar 4) pNil))) (pCall 2 S_law_in (pCons (pVar 3) (pCons (pVar 4) pNil))))) (pRet (pC (.bool false))) pNext)
      (pSeq (pAsg (pCall 3 S_law_seek (pCons (pVar 3) (pCons (pVar 4) (pCons (pC (.int 1)) pNil)))) (pgN 5))
      (pSeq (pAsg (pCall 3 S_law_seek (pCons (pVar 3) (pCons (pVar 4) (pCons (pI (fun i => .int (-i)) (pC (.int 1))) pNil)))) (pgN 6))
      (pSeq (pIfS (pAnd (pTst (pII (fun i j => .bool (decide (i < j))) (pFn fAbs (pCons (pVar 4) pNil)) (pC (.int 100)))) (pOr (pTst (pEqD true (pCall 2 S_next_in (pCons (pVar 3) (pCons (pVar 4) pNil))) (pVar 5))) (pTst (pEqD true (pCall 2 S_last_in (pCons (pVar 3) (pCons (pVar 4) pNil))) (pVar 6))))) (pRet (pC (.bool false))) pNext)
      p_day2)))))
      p_first)
def p_law : PS' := (pSeq (pRng (pCons (pC (.int 4)) pNil) (pgN 2) (pSeq (pAsg (pCallB 0 S_law_dayset10 1 pNil) (pgN 3))
      p_days))
      (pRet (pCallB 0 S_law_gap 1 pNil)))
theorem law_day2 {D : Ds} {x : Int} {o1 o2 : Option Int} {G : PEnds} (ok : DsS D) (lo : -60 ≤ D.low) (hi : D.high ≤ 60) (S1 : SeekN (mem D) x 1 o1) (S2 : SeekN (mem D) x (-1) o2) (c2 c7 c8 c9 c10 c11 : Cell)
    (hG : G.nx ([.no, .box, c2, .d (dsD D), .d (.int x), .d (optI o1), .d (optI o2), c7, c8, c9, c10, c11] : En)) : p_day2 G ([.no, .box, c2, .d (dsD D), .d (.int x), .d (optI o1), .d (optI o2), c7, c8, c9, c10, c11] : En) := by
  have l1 := ok.lp
  have l2 := ok.rp
  show (if decide (100 < x) = true then _ else _)
  refine ifd (fun z => ?_) (fun z => ?_)
  · refine ⟨rfl, D, rfl, ok.b, fun o No => ?_⟩
    have e : o = o1 := seek_up No (fun y ey => by subst ey; have := nxt_near ok.b.ok No; omega) S1
    subst e
    refine same_opt ?_
    show (if decide (x < -100) = true then _ else _)
    exact ff (decide_eq_false (by omega)) hG
  · show (if decide (x < -100) = true then _ else _)
    refine ifd (fun y => ?_) (fun y => hG)
    refine ⟨rfl, D, rfl, ok.b, fun o No => ?_⟩
    have e : o = o2 := seek_down No (fun y ey => by subst ey; have := lst_near ok.b.ok No; omega) S2
    subst e
    exact same_opt hG
theorem law_nth {D : Ds} {L R : Rn} {a : Int} {G : PEnds} (T : DsT D L R) (c2 c4 c5 c6 c8 c9 c10 c11 : Cell) (hG : ∀ c10 c11 : Cell, G.nx ([.no, .box, c2, .d (dsD D), c4, c5, c6, .d (.int a), c8, c9, c10, c11] : En)) :
    (∀ b d, G.rt b d = (finL10.rt b d)) → p_nth G ([.no, .box, c2, .d (dsD D), c4, c5, c6, .d (.int a), c8, c9, c10, c11] : En) := fun _ => by
  have ok := T.b.ok
  have P := tG_prim ok T.l.w T.r.w
  refine ⟨rfl, rfl, rfl, by decide, fun u u0 u1 => ⟨cpw, rfl, rfl, rfl, by decide, fun w w0 w1 => ⟨le_k, ?_⟩⟩⟩
  refine ⟨fun i ρ => ∃ c10 c11 : Cell, ρ = ([.no, .box, c2, .d (dsD D), c4, c5, c6, .d (.int a), c8, c9, c10, c11] : En), ⟨_, _, rfl⟩, ?_, ?_⟩
  · rintro i d ρ hd ⟨c10, c11, rfl⟩
    obtain ⟨n, rfl, n1⟩ : ∃ n : Int, d = .int n ∧ 1 ≤ n ∧ n ≤ 10 ^ 30 + 9 := by
      have m := List.mem_of_getElem? hd
      have b30 : (10 : Int) ^ (30 : Int).toNat = 10 ^ 30 := rfl
      rcases List.mem_cons.mp m with rfl | m
      · exact ⟨1, rfl, by decide, by decide⟩
      rcases List.mem_cons.mp m with rfl | m
      · exact ⟨2, rfl, by decide, by decide⟩
      rcases List.mem_cons.mp m with rfl | m
      · exact ⟨1 + u, rfl, by omega, by omega⟩
      rw [List.mem_singleton.mp m]
      exact ⟨_, rfl, by rw [b30]; omega, by rw [b30]; omega⟩
    refine ⟨rfl, D, L, R, rfl, T, n1.1, fun x hx hc => ?_, fun z1 z2 => ?_⟩
    · have ax : a ≤ x := by
        by_cases y : a ≤ x
        · exact y
        · have := prim_lt P hx (show x < a by omega)
          omega
      show (if decide (x < a) = true then _ else _)
      refine ff (decide_eq_false (by omega)) ?_
      refine ⟨rfl, D, rfl, T.b, ?_⟩
      rw [hx]
      refine ⟨rfl, D, L, R, rfl, T, same_int ?_ ⟨_, _, rfl⟩⟩
      unfold cntV
      by_cases y : x ≤ a
      · have e : x = a := by omega
        subst e
        rw [if_pos y]
        omega
      · rw [if_neg y]
        omega
    · refine ⟨cpw, rfl, D, L, R, rfl, T, ?_⟩
      have top : ∀ y, tG D L R y ≤ tot D.rs := fun y => by
        have h2 : tG D L R (max y D.high) = tot D.rs := by
          rw [tG_r ok (by omega)]
          have zero : ∀ m, sF D.r R m = 0 := fun m => by
            unfold sF
            have m0 := Int.emod_nonneg m (show D.r.p ≠ 0 by have := ok.r.p1; omega)
            have m1 := Int.emod_lt_of_pos m (show 0 < D.r.p by have := ok.r.p1; omega)
            have q1 := (prim_mono (rcnt_prim T.r.w.from_) m0).1
            have q2 := (prim_mono (rcnt_prim T.r.w.from_) (Int.le_of_lt m1)).1
            obtain ⟨e1, e2, _, _⟩ := win_tot ok.r T.r.w
            rw [z1, Int.mul_zero]
            omega
          rw [zero, zero]
          omega
        have := (prim_mono P (show y ≤ max y D.high by omega)).1
        omega
      show (if decide (n ≤ cntV D L R a (a + 10 ^ (33 : Int).toNat)) = true then _ else _)
      refine ff (decide_eq_false ?_) ⟨_, _, rfl⟩
      have b33 : (10 : Int) ^ (33 : Int).toNat = 1000000000000000000000000000000000 := by decide
      unfold cntV
      rw [b33, if_neg (by omega)]
      have := top (a + 1000000000000000000000000000000000)
      omega
  · rintro ρ ⟨c10, c11, rfl⟩
    exact hG _ _
theorem law_first {D : Ds} {L R : Rn} {G : PEnds} (T : DsT D L R) (hr : ∀ b d, G.rt b d = finL10.rt b d) (c2 c4 c5 c6 c7 c8 c9 c10 c11 : Cell) (hG : ∀ c7 c8 c9 c10 c11 : Cell, G.nx ([.no, .box, c2, .d (dsD D), c4, c5, c6, c7, c8, c9, c10, c11] : En)) :
    p_first G ([.no, .box, c2, .d (dsD D), c4, c5, c6, c7, c8, c9, c10, c11] : En) := by
  refine ⟨rfl, rfl, rfl, by decide, fun a a0 a1 => ?_⟩
  refine ⟨rfl, rfl, rfl, by decide, fun u u0 u1 => ⟨cpw, le_k, ?_⟩⟩
  refine ⟨fun i ρ => ∃ c8 c9 : Cell, ρ = ([.no, .box, c2, .d (dsD D), c4, c5, c6, .d (.int (a - 30)), c8, c9, c10, c11] : En), ⟨_, _, rfl⟩, ?_, ?_⟩
  · rintro i d ρ hd ⟨c8, c9, rfl⟩
    obtain ⟨b, rfl⟩ : ∃ b : Int, d = .int b := by
      have m := List.mem_of_getElem? hd
      rcases List.mem_cons.mp m with rfl | m
      · exact ⟨_, rfl⟩
      rcases List.mem_cons.mp m with rfl | m
      · exact ⟨_, rfl⟩
      rcases List.mem_cons.mp m with rfl | m
      · exact ⟨_, rfl⟩
      rw [List.mem_singleton.mp m]
      exact ⟨_, rfl⟩
    refine ⟨cpw, le_k, ?_⟩
    refine ⟨fun j ρ => ∃ c9 : Cell, ρ = ([.no, .box, c2, .d (dsD D), c4, c5, c6, .d (.int (a - 30)), .d (.int b), c9, c10, c11] : En), ⟨_, rfl⟩, ?_, ?_⟩
    · rintro j d ρ hd ⟨c9, rfl⟩
      obtain ⟨s, rfl⟩ : ∃ b : Int, d = .int b := by
        have m := List.mem_of_getElem? hd
        rcases List.mem_cons.mp m with rfl | m
        · exact ⟨_, rfl⟩
        rw [List.mem_singleton.mp m]
        exact ⟨_, rfl⟩
      exact ⟨rfl, D, L, R, rfl, T, rfl, D, L, R, rfl, T, same_int rfl ⟨_, rfl⟩⟩
    · rintro ρ ⟨c9, rfl⟩
      exact ⟨_, _, rfl⟩
  · rintro ρ ⟨c8, c9, rfl⟩
    exact law_nth T _ _ _ _ _ _ _ _ (fun c10 c11 => hG _ _ _ c10 c11) hr
theorem law_days {D : Ds} {L R : Rn} {G : PEnds} (T : DsT D L R) (ok : DsS D) (lo : -60 ≤ D.low) (hi : D.high ≤ 60) (hr : ∀ b d, G.rt b d = finL10.rt b d) (k : Int) (k0 : 0 ≤ k) (k1 : k < 4) (c4 c5 c6 c7 c8 c9 c10 c11 : Cell)
    (hG : ∀ c4 c5 c6 c7 c8 c9 c10 c11 : Cell, G.nx ([.no, .box, .d (.int k), .d (dsD D), c4, c5, c6, c7, c8, c9, c10, c11] : En)) :
    p_days G ([.no, .box, .d (.int k), .d (dsD D), c4, c5, c6, c7, c8, c9, c10, c11] : En) := by
  have l1 := ok.lp
  have l2 := ok.rp
  refine ⟨⟨by decide, by decide, by decide, by decide, by decide⟩, cpw, cpw, le_k, Nat.le_of_ble_eq_true rfl, ?_⟩
  refine ⟨fun i ρ => ∃ c4 c5 c6 : Cell, ρ = ([.no, .box, .d (.int k), .d (dsD D), c4, c5, c6, c7, c8, c9, c10, c11] : En), ⟨_, _, _, rfl⟩, ?_, ?_⟩
  · rintro i d ρ hd ⟨c4, c5, c6, rfl⟩
    obtain ⟨x, rfl, hx⟩ : ∃ x : Int, d = .int x ∧ ((-30 ≤ x ∧ x ≤ 30) ∨ 1000 ≤ x ∨ x ≤ -1000) := by
      have m := List.mem_of_getElem? hd
      have b30 : (10 : Int) ^ (30 : Int).toNat = 1000000000000000000000000000000 := by decide
      rcases List.mem_append.mp m with m | m
      · obtain ⟨n, hn, rfl⟩ := List.mem_map.mp m
        have := List.mem_range.mp hn
        exact ⟨_, rfl, .inl ⟨by omega, by omega⟩⟩
      · rcases List.mem_cons.mp m with rfl | m
        · exact ⟨_, rfl, .inr (.inl (by rw [b30]; omega))⟩
        · rw [List.mem_singleton.mp m]
          exact ⟨_, rfl, .inr (.inr (by rw [b30]; omega))⟩
    refine ⟨rfl, D, rfl, ok.b, rfl, D, rfl, ok.b, same_boolB ?_⟩
    refine ⟨rfl, D, rfl, ok.b, fun o1 S1 => ?_⟩
    refine ⟨rfl, D, rfl, ok.b, fun o2 S2 => ?_⟩
    show (if decide ((if x < 0 then -x else x) < 100) = true then _ else _)
    refine ifd (fun z => ?_) (fun z => law_day2 ok lo hi S1 S2 _ _ _ _ _ _ ⟨_, _, _, rfl⟩)
    have hx : -30 ≤ x ∧ x ≤ 30 := by
      by_cases y : x < 0
      · rw [if_pos y] at z; omega
      · rw [if_neg y] at z; omega
    refine ⟨rfl, D, rfl, ok.b, fun o No => ?_⟩
    have e : o = o1 := seek_up No (fun y ey => by subst ey; have := nxt_near ok.b.ok No; omega) S1
    subst e
    refine same_opt ?_
    refine ⟨rfl, D, rfl, ok.b, fun o' No' => ?_⟩
    have e : o' = o2 := seek_down No' (fun y ey => by subst ey; have := lst_near ok.b.ok No'; omega) S2
    subst e
    exact same_opt (law_day2 ok lo hi S1 S2 _ _ _ _ _ _ ⟨_, _, _, rfl⟩)
  · rintro ρ ⟨c4, c5, c6, rfl⟩
    exact law_first T hr _ _ _ _ _ _ _ _ _ (fun c7 c8 c9 c10 c11 => hG _ _ _ c7 c8 c9 c10 c11)
theorem pure_law : p_law finL10 [.no, .box, .no, .no, .no, .no, .no, .no, .no, .no, .no, .no] := by
  refine ⟨0, 4, .inl ⟨rfl, rfl⟩, ⟨by decide, by decide, by decide, by decide⟩, fun i ρ => ∃ c2 c3 c4 c5 c6 c7 c8 c9 c10 c11 : Cell, ρ = ([.no, .box, c2, c3, c4, c5, c6, c7, c8, c9, c10, c11] : En), ⟨_, _, _, _, _, _, _, _, _, _, rfl⟩, ?_, ?_⟩
  · rintro i ρ hi ⟨c2, c3, c4, c5, c6, c7, c8, c9, c10, c11, rfl⟩
    refine ⟨rfl, rfl, rfl, fun D ok hl hr lo hi2 => ?_⟩
    have l1 := ok.lp
    have l2 := ok.rp
    obtain ⟨L, WL, nL⟩ := win_exists (holds D.l) (show (0 : Int) ≤ D.l.p by have := ok.b.ok.l.p1; omega)
    obtain ⟨R, WR, nR⟩ := win_exists (holds D.r) (show (0 : Int) ≤ D.r.p by have := ok.b.ok.r.p1; omega)
    have T : DsT D L R := ⟨ok.b, ⟨⟨ok.b.ok.l, ok.b.l⟩, by omega, WL, by omega⟩, ⟨⟨ok.b.ok.r, ok.b.r⟩, by omega, WR, by omega⟩⟩
    show p_days _ ([.no, .box, .d (.int (0 + (i : Int))), .d (dsD D), c4, c5, c6, c7, c8, c9, c10, c11] : En)
    exact law_days T ok lo hi2 (by exact fun _ _ => rfl) (0 + (i : Int)) (by omega) (by omega) c4 c5 c6 c7 c8 c9 c10 c11 fun c4 c5 c6 c7 c8 c9 c10 c11 => ⟨_, _, _, _, _, _, _, _, _, _, rfl⟩
  · rintro ρ ⟨c2, c3, c4, c5, c6, c7, c8, c9, c10, c11, rfl⟩
    exact ⟨rfl, rfl, rfl, rfl⟩
end Pr
set_option maxHeartbeats 4000000
namespace Pr
open PySem PySem.Spec PyProof.Rows L2 Pu
def topS (i : Nat) : Stmt := PySem.Challenge.pw_everydue_k10_questions_near_and_far.main.body.getD i (.Pass ⟨0, 0, 0, 0⟩)
abbrev s_count_below : Stmt := topS 1
theorem sc_count_below : FnScope N_count_below ["rows", "mark"] (defScope s_count_below) := ⟨rfl, rfl, rfl, by decide +kernel, rfl, by decide +kernel, by decide +kernel⟩
abbrev s_side_holds : Stmt := topS 2
theorem sc_side_holds : FnScope N_side_holds ["side", "number"] (defScope s_side_holds) := ⟨rfl, rfl, rfl, by decide +kernel, rfl, by decide +kernel, by decide +kernel⟩
abbrev s_holds : Stmt := topS 4
theorem sc_holds : FnScope N_holds ["dayset", "day"] (defScope s_holds) := ⟨rfl, rfl, rfl, by decide +kernel, rfl, by decide +kernel, by decide +kernel⟩
abbrev s_paired : Stmt := topS 6
theorem sc_paired : FnScope N_paired ["begin", "inside", "borders", "end"] (defScope s_paired) := ⟨rfl, rfl, rfl, by decide +kernel, rfl, by decide +kernel, by decide +kernel⟩
abbrev s_Row_init : Stmt := inClass (topS 8) 0
abbrev N_Row_init : List Str := ["self", "runs", "begin", "end"]
theorem sc_Row_init : FnScope N_Row_init ["self", "runs"] (defScope s_Row_init) := ⟨rfl, rfl, rfl, by decide +kernel, rfl, by decide +kernel, by decide +kernel⟩
abbrev s_Row_below : Stmt := inClass (topS 8) 1
theorem sc_Row_below : FnScope N_Row_below ["self", "mark"] (defScope s_Row_below) := ⟨rfl, rfl, rfl, by decide +kernel, rfl, by decide +kernel, by decide +kernel⟩
abbrev s_Row_at : Stmt := inClass (topS 8) 2
theorem sc_Row_at : FnScope N_Row_at ["self", "index"] (defScope s_Row_at) := ⟨rfl, rfl, rfl, by decide +kernel, rfl, by decide +kernel, by decide +kernel⟩
abbrev s_SideTally_init : Stmt := inClass (topS 9) 0
theorem sc_SideTally_init : FnScope N_SideTally_init ["self", "side"] (defScope s_SideTally_init) := ⟨rfl, rfl, rfl, by decide +kernel, rfl, by decide +kernel, by decide +kernel⟩
abbrev s_SideTally_below : Stmt := inClass (topS 9) 1
theorem sc_SideTally_below : FnScope N_SideTally_below ["self", "mark"] (defScope s_SideTally_below) := ⟨rfl, rfl, rfl, by decide +kernel, rfl, by decide +kernel, by decide +kernel⟩
abbrev s_SideTally_at : Stmt := inClass (topS 9) 2
theorem sc_SideTally_at : FnScope N_SideTally_at ["self", "index"] (defScope s_SideTally_at) := ⟨rfl, rfl, rfl, by decide +kernel, rfl, by decide +kernel, by decide +kernel⟩
abbrev s_Tally_init : Stmt := inClass (topS 10) 0
theorem sc_Tally_init : FnScope N_Tally_init ["self", "dayset"] (defScope s_Tally_init) := ⟨rfl, rfl, rfl, by decide +kernel, rfl, by decide +kernel, by decide +kernel⟩
abbrev s_Tally_below : Stmt := inClass (topS 10) 1
theorem sc_Tally_below : FnScope N_Tally_below ["self", "mark"] (defScope s_Tally_below) := ⟨rfl, rfl, rfl, by decide +kernel, rfl, by decide +kernel, by decide +kernel⟩
abbrev s_Tally_at : Stmt := inClass (topS 10) 2
theorem sc_Tally_at : FnScope N_Tally_at ["self", "index"] (defScope s_Tally_at) := ⟨rfl, rfl, rfl, by decide +kernel, rfl, by decide +kernel, by decide +kernel⟩
abbrev s_next_in : Stmt := topS 12
theorem sc_next_in : FnScope N_next_in ["dayset", "day"] (defScope s_next_in) := ⟨rfl, rfl, rfl, by decide +kernel, rfl, by decide +kernel, by decide +kernel⟩
abbrev s_last_in : Stmt := topS 13
theorem sc_last_in : FnScope N_last_in ["dayset", "day"] (defScope s_last_in) := ⟨rfl, rfl, rfl, by decide +kernel, rfl, by decide +kernel, by decide +kernel⟩
abbrev s_next_in_side : Stmt := topS 14
theorem sc_next_in_side : FnScope N_next_in_side ["side", "day"] (defScope s_next_in_side) := ⟨rfl, rfl, rfl, by decide +kernel, rfl, by decide +kernel, by decide +kernel⟩
abbrev s_last_in_side : Stmt := topS 15
theorem sc_last_in_side : FnScope N_last_in_side ["side", "day"] (defScope s_last_in_side) := ⟨rfl, rfl, rfl, by decide +kernel, rfl, by decide +kernel, by decide +kernel⟩
abbrev s_count_in : Stmt := topS 16
theorem sc_count_in : FnScope N_count_in ["dayset", "first", "end"] (defScope s_count_in) := ⟨rfl, rfl, rfl, by decide +kernel, rfl, by decide +kernel, by decide +kernel⟩
abbrev s_nth_from : Stmt := topS 17
theorem sc_nth_from : FnScope N_nth_from ["dayset", "day", "number"] (defScope s_nth_from) := ⟨rfl, rfl, rfl, by decide +kernel, rfl, by decide +kernel, by decide +kernel⟩
abbrev s_law_draws : Stmt := topS 19
theorem sc_law_draws : FnScope N_law_draws ["cell", "modulus", "count"] (defScope s_law_draws) := ⟨rfl, rfl, rfl, by decide +kernel, rfl, by decide +kernel, by decide +kernel⟩
abbrev s_law_box : Stmt := topS 20
abbrev N_law_box : List Str := ["script", "row", "cell"]
theorem sc_law_box : FnScope N_law_box ["script"] (defScope s_law_box) := ⟨rfl, rfl, rfl, by decide +kernel, rfl, by decide +kernel, by decide +kernel⟩
abbrev s_law_next : Stmt := topS 21
theorem sc_law_next : FnScope N_law_next ["box", "modulus"] (defScope s_law_next) := ⟨rfl, rfl, rfl, by decide +kernel, rfl, by decide +kernel, by decide +kernel⟩
abbrev s_law_side : Stmt := topS 22
theorem sc_law_side : FnScope N_law_side ["box"] (defScope s_law_side) := ⟨rfl, rfl, rfl, by decide +kernel, rfl, by decide +kernel, by decide +kernel⟩
abbrev s_law_dayset : Stmt := topS 23
theorem sc_law_dayset : FnScope N_law_dayset ["box"] (defScope s_law_dayset) := ⟨rfl, rfl, rfl, by decide +kernel, rfl, by decide +kernel, by decide +kernel⟩
abbrev s_law_in_side : Stmt := topS 24
theorem sc_law_in_side : FnScope N_law_in_side ["side", "day"] (defScope s_law_in_side) := ⟨rfl, rfl, rfl, by decide +kernel, rfl, by decide +kernel, by decide +kernel⟩
abbrev s_law_in : Stmt := topS 25
theorem sc_law_in : FnScope N_law_in ["dayset", "day"] (defScope s_law_in) := ⟨rfl, rfl, rfl, by decide +kernel, rfl, by decide +kernel, by decide +kernel⟩
abbrev s_law_count : Stmt := topS 26
theorem sc_law_count : FnScope N_law_count ["dayset", "first", "end"] (defScope s_law_count) := ⟨rfl, rfl, rfl, by decide +kernel, rfl, by decide +kernel, by decide +kernel⟩
abbrev s_law_seek : Stmt := topS 27
theorem sc_law_seek : FnScope N_law_seek ["dayset", "day", "step"] (defScope s_law_seek) := ⟨rfl, rfl, rfl, by decide +kernel, rfl, by decide +kernel, by decide +kernel⟩
abbrev s_law_gap : Stmt := topS 28
theorem sc_law_gap : FnScope N_law_gap ["box"] (defScope s_law_gap) := ⟨rfl, rfl, rfl, by decide +kernel, rfl, by decide +kernel, by decide +kernel⟩
abbrev s_law : Stmt := topS 29
theorem sc_law : FnScope N_law ["script"] (defScope s_law) := ⟨rfl, rfl, rfl, by decide +kernel, rfl, by decide +kernel, by decide +kernel⟩
/-- what the top has left -/
structure Tx (K : PySem.W.Frag) (mg : Str → Option Value) where
  a_count_below : Addr
  d_count_below : FuncData
  f_count_below : Fun K "count_below" "count_below" s_count_below a_count_below d_count_below
  m_count_below : mg "count_below" = some (.ref a_count_below)
  b_count_below : Binds K d_count_below ["rows", "mark"] []
  a_side_holds : Addr
  d_side_holds : FuncData
  f_side_holds : Fun K "side_holds" "side_holds" s_side_holds a_side_holds d_side_holds
  m_side_holds : mg "side_holds" = some (.ref a_side_holds)
  b_side_holds : Binds K d_side_holds ["side", "number"] []
  a_holds : Addr
  d_holds : FuncData
  f_holds : Fun K "holds" "holds" s_holds a_holds d_holds
  m_holds : mg "holds" = some (.ref a_holds)
  b_holds : Binds K d_holds ["dayset", "day"] []
  a_paired : Addr
  d_paired : FuncData
  f_paired : Fun K "paired" "paired" s_paired a_paired d_paired
  m_paired : mg "paired" = some (.ref a_paired)
  b_paired : Binds K d_paired ["begin", "inside", "borders", "end"] []
  a_Row_init : Addr
  d_Row_init : FuncData
  f_Row_init : Fun K "__init__" "Row.__init__" s_Row_init a_Row_init d_Row_init
  b_Row_init : Binds K d_Row_init ["self", "runs"] []
  a_Row_below : Addr
  d_Row_below : FuncData
  f_Row_below : Fun K "below" "Row.below" s_Row_below a_Row_below d_Row_below
  b_Row_below : Binds K d_Row_below ["self", "mark"] []
  a_Row_at : Addr
  d_Row_at : FuncData
  f_Row_at : Fun K "at" "Row.at" s_Row_at a_Row_at d_Row_at
  b_Row_at : Binds K d_Row_at ["self", "index"] []
  a_SideTally_init : Addr
  d_SideTally_init : FuncData
  f_SideTally_init : Fun K "__init__" "SideTally.__init__" s_SideTally_init a_SideTally_init d_SideTally_init
  b_SideTally_init : Binds K d_SideTally_init ["self", "side"] []
  a_SideTally_below : Addr
  d_SideTally_below : FuncData
  f_SideTally_below : Fun K "below" "SideTally.below" s_SideTally_below a_SideTally_below d_SideTally_below
  b_SideTally_below : Binds K d_SideTally_below ["self", "mark"] []
  a_SideTally_at : Addr
  d_SideTally_at : FuncData
  f_SideTally_at : Fun K "at" "SideTally.at" s_SideTally_at a_SideTally_at d_SideTally_at
  b_SideTally_at : Binds K d_SideTally_at ["self", "index"] []
  a_Tally_init : Addr
  d_Tally_init : FuncData
  f_Tally_init : Fun K "__init__" "Tally.__init__" s_Tally_init a_Tally_init d_Tally_init
  b_Tally_init : Binds K d_Tally_init ["self", "dayset"] []
  a_Tally_below : Addr
  d_Tally_below : FuncData
  f_Tally_below : Fun K "below" "Tally.below" s_Tally_below a_Tally_below d_Tally_below
  b_Tally_below : Binds K d_Tally_below ["self", "mark"] []
  a_Tally_at : Addr
  d_Tally_at : FuncData
  f_Tally_at : Fun K "at" "Tally.at" s_Tally_at a_Tally_at d_Tally_at
  b_Tally_at : Binds K d_Tally_at ["self", "index"] []
  a_next_in : Addr
  d_next_in : FuncData
  f_next_in : Fun K "next_in" "next_in" s_next_in a_next_in d_next_in
  m_next_in : mg "next_in" = some (.ref a_next_in)
  b_next_in : Binds K d_next_in ["dayset", "day"] []
  a_last_in : Addr
  d_last_in : FuncData
  f_last_in : Fun K "last_in" "last_in" s_last_in a_last_in d_last_in
  m_last_in : mg "last_in" = some (.ref a_last_in)
  b_last_in : Binds K d_last_in ["dayset", "day"] []
  a_next_in_side : Addr
  d_next_in_side : FuncData
  f_next_in_side : Fun K "_next_in_side" "_next_in_side" s_next_in_side a_next_in_side d_next_in_side
  m_next_in_side : mg "_next_in_side" = some (.ref a_next_in_side)
  b_next_in_side : Binds K d_next_in_side ["side", "day"] []
  a_last_in_side : Addr
  d_last_in_side : FuncData
  f_last_in_side : Fun K "_last_in_side" "_last_in_side" s_last_in_side a_last_in_side d_last_in_side
  m_last_in_side : mg "_last_in_side" = some (.ref a_last_in_side)
  b_last_in_side : Binds K d_last_in_side ["side", "day"] []
  a_count_in : Addr
  d_count_in : FuncData
  f_count_in : Fun K "count_in" "count_in" s_count_in a_count_in d_count_in
  m_count_in : mg "count_in" = some (.ref a_count_in)
  b_count_in : Binds K d_count_in ["dayset", "first", "end"] []
  a_nth_from : Addr
  d_nth_from : FuncData
  f_nth_from : Fun K "nth_from" "nth_from" s_nth_from a_nth_from d_nth_from
  m_nth_from : mg "nth_from" = some (.ref a_nth_from)
  b_nth_from : Binds K d_nth_from ["dayset", "day", "number"] []
  a_law_draws : Addr
  d_law_draws : FuncData
  f_law_draws : Fun K "_law_draws" "_law_draws" s_law_draws a_law_draws d_law_draws
  m_law_draws : mg "_law_draws" = some (.ref a_law_draws)
  b_law_draws : Binds K d_law_draws ["cell", "modulus", "count"] []
  a_law_box : Addr
  d_law_box : FuncData
  f_law_box : Fun K "_law_box" "_law_box" s_law_box a_law_box d_law_box
  m_law_box : mg "_law_box" = some (.ref a_law_box)
  b_law_box : Binds K d_law_box ["script"] []
  a_law_next : Addr
  d_law_next : FuncData
  f_law_next : Fun K "_law_next" "_law_next" s_law_next a_law_next d_law_next
  m_law_next : mg "_law_next" = some (.ref a_law_next)
  b_law_next : Binds K d_law_next ["box", "modulus"] []
  a_law_side : Addr
  d_law_side : FuncData
  f_law_side : Fun K "_law_side" "_law_side" s_law_side a_law_side d_law_side
  m_law_side : mg "_law_side" = some (.ref a_law_side)
  b_law_side : Binds K d_law_side ["box"] []
  a_law_dayset : Addr
  d_law_dayset : FuncData
  f_law_dayset : Fun K "_law_dayset" "_law_dayset" s_law_dayset a_law_dayset d_law_dayset
  m_law_dayset : mg "_law_dayset" = some (.ref a_law_dayset)
  b_law_dayset : Binds K d_law_dayset ["box"] []
  a_law_in_side : Addr
  d_law_in_side : FuncData
  f_law_in_side : Fun K "_law_in_side" "_law_in_side" s_law_in_side a_law_in_side d_law_in_side
  m_law_in_side : mg "_law_in_side" = some (.ref a_law_in_side)
  b_law_in_side : Binds K d_law_in_side ["side", "day"] []
  a_law_in : Addr
  d_law_in : FuncData
  f_law_in : Fun K "_law_in" "_law_in" s_law_in a_law_in d_law_in
  m_law_in : mg "_law_in" = some (.ref a_law_in)
  b_law_in : Binds K d_law_in ["dayset", "day"] []
  a_law_count : Addr
  d_law_count : FuncData
  f_law_count : Fun K "_law_count" "_law_count" s_law_count a_law_count d_law_count
  m_law_count : mg "_law_count" = some (.ref a_law_count)
  b_law_count : Binds K d_law_count ["dayset", "first", "end"] []
  a_law_seek : Addr
  d_law_seek : FuncData
  f_law_seek : Fun K "_law_seek" "_law_seek" s_law_seek a_law_seek d_law_seek
  m_law_seek : mg "_law_seek" = some (.ref a_law_seek)
  b_law_seek : Binds K d_law_seek ["dayset", "day", "step"] []
  a_law_gap : Addr
  d_law_gap : FuncData
  f_law_gap : Fun K "_law_gap" "_law_gap" s_law_gap a_law_gap d_law_gap
  m_law_gap : mg "_law_gap" = some (.ref a_law_gap)
  b_law_gap : Binds K d_law_gap ["box"] []
  a_law : Addr
  d_law : FuncData
  f_law : Fun K "law" "law" s_law a_law d_law
  m_law : mg "law" = some (.ref a_law)
  b_law : Binds K d_law ["script"] []
  c_Row : Addr
  g_Row : mg "Row" = some (.ref c_Row)
  n_Row : ClsNm K "Row" c_Row
  cl_Row : Cls K c_Row
  mk_Row : Mk K c_Row a_Row_init
  h_Row_starts : ∀ C, ClsNm K "Row" C → Cls K C ∧ NoAttr K C "starts"
  h_Row_sums : ∀ C, ClsNm K "Row" C → Cls K C ∧ NoAttr K C "sums"
  h_Row_many : ∀ C, ClsNm K "Row" C → Cls K C ∧ NoAttr K C "many"
  me_Row_below : Meth K c_Row "below" a_Row_below
  me_Row_at : Meth K c_Row "at" a_Row_at
  c_SideTally : Addr
  g_SideTally : mg "SideTally" = some (.ref c_SideTally)
  n_SideTally : ClsNm K "SideTally" c_SideTally
  cl_SideTally : Cls K c_SideTally
  mk_SideTally : Mk K c_SideTally a_SideTally_init
  h_SideTally_period : ∀ C, ClsNm K "SideTally" C → Cls K C ∧ NoAttr K C "period"
  h_SideTally_many : ∀ C, ClsNm K "SideTally" C → Cls K C ∧ NoAttr K C "many"
  h_SideTally_row : ∀ C, ClsNm K "SideTally" C → Cls K C ∧ NoAttr K C "row"
  me_SideTally_below : Meth K c_SideTally "below" a_SideTally_below
  me_SideTally_at : Meth K c_SideTally "at" a_SideTally_at
  c_Tally : Addr
  g_Tally : mg "Tally" = some (.ref c_Tally)
  n_Tally : ClsNm K "Tally" c_Tally
  cl_Tally : Cls K c_Tally
  mk_Tally : Mk K c_Tally a_Tally_init
  h_Tally_left : ∀ C, ClsNm K "Tally" C → Cls K C ∧ NoAttr K C "left"
  h_Tally_row : ∀ C, ClsNm K "Tally" C → Cls K C ∧ NoAttr K C "row"
  h_Tally_right : ∀ C, ClsNm K "Tally" C → Cls K C ∧ NoAttr K C "right"
  h_Tally_low : ∀ C, ClsNm K "Tally" C → Cls K C ∧ NoAttr K C "low"
  h_Tally_high : ∀ C, ClsNm K "Tally" C → Cls K C ∧ NoAttr K C "high"
  me_Tally_below : Meth K c_Tally "below" a_Tally_below
  me_Tally_at : Meth K c_Tally "at" a_Tally_at
  abs : mg "abs" = none
  any : mg "any" = none
  divmod : mg "divmod" = none
  int : mg "int" = none
  len : mg "len" = none
  list : mg "list" = none
  max : mg "max" = none
  min : mg "min" = none
  range : mg "range" = none
  set : mg "set" = none
  sorted : mg "sorted" = none
  tuple : mg "tuple" = none
  zip : mg "zip" = none
section
variable {P : Program} {w : World} {K : PySem.W.Frag} {mg : Str → Option Value} {base : Heap}
theorem ok_count_below (T : Tx K mg) : FnOk P w K mg base CX0 1 T.a_count_below T.d_count_below ["rows", "mark"] (spP K 2 S_count_below) := by
  refine ok_P T.f_count_below sc_count_below rfl fun cdv A outer s H E hr => ?_
  exact ⟨_, p_count_below, (pss_cons (ps_par (by rfl) sc_count_below.nd rfl rfl (by decide) rfl rfl (pa_cons pe_int (pa_cons (pe_callB c_len (by rfl) T.len PySem.boot_len (pa_cons (pv 0) pa_nil)) pa_nil)) (by rfl))
      (pss_cons (ps_while PassesOwn.never (pt_cmpR op_lt (pv 2) (pv 3) (nomark _)) (pss_cons (ps_set (i := 4) sc_count_below.nd rfl (.inl rfl) (pe_op op_fdiv (pe_op op_plus (pv 2) (pv 3)) pe_int))
      (pss_one (ps_if (pt_cmpR (op_ltA (hu65 hr)) (pe_ix ix_seq (pv 0) (pv 4) (fun _ _ => rfl)) (pv 1) (nomark _)) (pss_one (ps_set (i := 2) sc_count_below.nd rfl (.inl rfl) (pe_op op_plus (pv 4) pe_int))) (pss_one (ps_set (i := 3) sc_count_below.nd rfl (.inl rfl) (pv 4)))))))
      (pss_one (ps_ret (pv 2))))),
    (s_seq (s_par (i := 2) (j := 3) (sim_cons (sim_c (v := .int 0) rfl) (sim_cons (sim_len (sim_cons (sim_var (i := 0)) sim_nil)) sim_nil)))
      (s_seq (s_while (sim_tst (sim_ii (sim_var (i := 2)) (sim_var (i := 3)) fun _ _ => rfl)) (s_seq (s_asg (sim_iic (sim_plus (sim_var (i := 2)) (sim_var (i := 3))) (sim_c (v := .int 2) rfl) fun _ _ => rfl) (g_name (i := 4)))
      (s_if (sim_tst (sim_ltA (sim_ix (sim_var (i := 0)) (sim_var (i := 4))) (sim_var (i := 1)))) (s_asg (sim_plus (sim_var (i := 4)) (sim_c (v := .int 1) rfl)) (g_name (i := 2))) (s_asg (sim_var (i := 4)) (g_name (i := 3))))))
      (s_ret (sim_var (i := 2))))), pure_count_below⟩
theorem ok_side_holds (T : Tx K mg) (G_count_below : FnOk P w K mg base CX0 1 T.a_count_below T.d_count_below ["rows", "mark"] (spP K 2 S_count_below)) : FnOk P w K mg base CX0 2 T.a_side_holds T.d_side_holds ["side", "number"] (spP K 2 S_side_holds) := by
  refine ok_P T.f_side_holds sc_side_holds rfl fun cdv A outer s H E hr => ?_
  exact ⟨_, p_side_holds, (pss_cons (ps_asg (pv 0) (pg_tup rfl (pgs_cons (pg_name (i := 2) sc_side_holds.nd rfl (.inl rfl)) (pgs_cons (pg_name (i := 3) sc_side_holds.nd rfl (.inl rfl)) (pgs_cons (pg_name (i := 4) sc_side_holds.nd rfl (.inl rfl)) pgs_nil)))))
      (pss_cons (ps_set (i := 5) sc_side_holds.nd rfl (.inl rfl) (pe_cmpR (op_eqD (hu65 hr)) (pe_op op_mod (pe_call G_count_below (hr.mono (by decide)) (by rfl) T.m_count_below T.f_count_below.kp T.b_count_below .nil pass0 (pa_cons (pv 3) (pa_cons (pe_op op_plus (pe_op op_mod (pv 1) (pv 2)) pe_int) pa_nil))) pe_int) pe_int (nomark _)))
      (pss_one (ps_ret (pe_cmpR (op_neD (hu65 hr)) (pv 4) (pv 5) (nomark _)))))),
    (s_seq (s_asg (sim_var (i := 0)) (g_tup (gs_cons (i := 2) (gs_cons (i := 3) (gs_cons (i := 4) gs_nil))) rfl))
      (s_seq (s_asg (sim_eqD (sim_iic (sim_call (sim_cons (sim_var (i := 3)) (sim_cons (sim_plus (sim_iic (sim_var (i := 1)) (sim_var (i := 2)) fun _ _ => rfl) (sim_c (v := .int 1) rfl)) sim_nil))) (sim_c (v := .int 2) rfl) fun _ _ => rfl) (sim_c (v := .int 1) rfl)) (g_name (i := 5)))
      (s_ret (sim_neD (sim_var (i := 4)) (sim_var (i := 5)))))), pure_side_holds⟩
theorem ok_holds (T : Tx K mg) (G_count_below : FnOk P w K mg base CX0 1 T.a_count_below T.d_count_below ["rows", "mark"] (spP K 2 S_count_below)) (G_side_holds : FnOk P w K mg base CX0 2 T.a_side_holds T.d_side_holds ["side", "number"] (spP K 2 S_side_holds)) : FnOk P w K mg base CX0 3 T.a_holds T.d_holds ["dayset", "day"] (spP K 2 S_holds) := by
  refine ok_P T.f_holds sc_holds rfl fun cdv A outer s H E hr => ?_
  exact ⟨_, p_holds, (pss_cons (ps_asg (pv 0) (pg_tup rfl (pgs_cons (pg_name (i := 2) sc_holds.nd rfl (.inl rfl)) (pgs_cons (pg_name (i := 3) sc_holds.nd rfl (.inl rfl)) (pgs_cons (pg_name (i := 4) sc_holds.nd rfl (.inl rfl)) (pgs_cons (pg_name (i := 5) sc_holds.nd rfl (.inl rfl)) (pgs_cons (pg_name (i := 6) sc_holds.nd rfl (.inl rfl)) pgs_nil)))))))
      (pss_cons (ps_if (pt_cmpR op_lt (pv 1) (pv 3) (nomark _)) (pss_one (ps_ret (pe_call G_side_holds (hr.mono (by decide)) (by rfl) T.m_side_holds T.f_side_holds.kp T.b_side_holds .nil pass0 (pa_cons (pv 2) (pa_cons (pv 1) pa_nil))))) pss_nil)
      (pss_cons (ps_if (pt_cmpR op_ge (pv 1) (pv 5) (nomark _)) (pss_one (ps_ret (pe_call G_side_holds (hr.mono (by decide)) (by rfl) T.m_side_holds T.f_side_holds.kp T.b_side_holds .nil pass0 (pa_cons (pv 6) (pa_cons (pv 1) pa_nil))))) pss_nil)
      (pss_cons (ps_set (i := 7) sc_holds.nd rfl (.inl rfl) (pe_call G_count_below (hr.mono (by decide)) (by rfl) T.m_count_below T.f_count_below.kp T.b_count_below .nil pass0 (pa_cons (pv 4) (pa_cons (pe_tup (pa_cons (pe_op op_plus (pv 1) pe_int) pa_nil)) pa_nil))))
      (pss_one (ps_ret (pe_and (pe_cmpR op_gt (pv 7) pe_int (nomark _)) (pe_one (pe_cmpR op_lt (pv 1) (pe_ix ix_seq (pe_ix ix_seq (pv 4) (pe_op op_sub (pv 7) pe_int) (fun _ _ => rfl)) pe_int (fun _ _ => rfl)) (nomark _)))))))))),
    (s_seq (s_asg (sim_var (i := 0)) (g_tup (gs_cons (i := 2) (gs_cons (i := 3) (gs_cons (i := 4) (gs_cons (i := 5) (gs_cons (i := 6) gs_nil))))) rfl))
      (s_seq (s_if (sim_tst (sim_ii (sim_var (i := 1)) (sim_var (i := 3)) fun _ _ => rfl)) (s_ret (sim_call (sim_cons (sim_var (i := 2)) (sim_cons (sim_var (i := 1)) sim_nil)))) s_next)
      (s_seq (s_if (sim_tst (sim_ii (sim_var (i := 1)) (sim_var (i := 5)) fun _ _ => rfl)) (s_ret (sim_call (sim_cons (sim_var (i := 6)) (sim_cons (sim_var (i := 1)) sim_nil)))) s_next)
      (s_seq (s_asg (sim_call (sim_cons (sim_var (i := 4)) (sim_cons (sim_tup (sim_cons (sim_plus (sim_var (i := 1)) (sim_c (v := .int 1) rfl)) sim_nil)) sim_nil))) (g_name (i := 7)))
      (s_ret (sim_andV (sim_ii (sim_var (i := 7)) (sim_c (v := .int 0) rfl) fun _ _ => rfl) (sim_ii (sim_var (i := 1)) (sim_ix (sim_ix (sim_var (i := 4)) (sim_ii (sim_var (i := 7)) (sim_c (v := .int 1) rfl) fun _ _ => rfl)) (sim_c (v := .int 1) rfl)) fun _ _ => rfl))))))), pure_holds⟩
theorem ok_paired (T : Tx K mg) : FnOk P w K mg base CX0 1 T.a_paired T.d_paired ["begin", "inside", "borders", "end"] (spP K 4 S_paired10) := by
  refine ok_P T.f_paired sc_paired rfl fun cdv A outer s H E hr => ?_
  exact ⟨_, p_paired, (pss_cons (ps_set (i := 4) sc_paired.nd rfl (.inl rfl) (pe_ifExp (pt_tru (pv 1)) (pe_lst (pa_cons (pv 0) (StX.pa_star (pv 2) pa_nil))) (pe_callTy c_listOf (by rfl) T.list (by decide +kernel) (pa_cons (pv 2) pa_nil))))
      (pss_cons (ps_if (pt_cmpR (op_eqD (hu65 hr)) (pe_op op_mod (pe_callB c_len (by rfl) T.len PySem.boot_len (pa_cons (pv 4) pa_nil)) pe_int) pe_int (nomark _)) (pss_one (ps_expr (pe_bm PySem.F.plainAttrs_list PySem.F.slot_list_append PySem.F.type_list_append mt_append (pv 4) (pa_cons (pv 3) pa_nil)))) pss_nil)
      (pss_one (ps_ret (ZL.pe_listZip rfl (by rfl) T.list (by rfl) T.zip (pa_cons (pe_sliceS (pv 4) po_none po_none (po_some pe_int)) (pa_cons (pe_sliceS (pv 4) (po_some pe_int) po_none (po_some pe_int)) pa_nil))))))),
    (s_seq (s_asgO (i := 4) (sim_ifL (sim_tru (sim_var (i := 1))) (sim_lst (sim_cons (sim_var (i := 0)) (sim_star (sim_var (i := 2)) sim_nil))) (sim_listOf (sim_var (i := 2)))))
      (s_seq (s_if (sim_tst (sim_eqD (sim_iic (sim_lenO (i := 4)) (sim_c (v := .int 2) rfl) fun _ _ => rfl) (sim_c (v := .int 1) rfl))) (s_app (i := 4) (sim_var (i := 3))) s_next)
      (s_ret (sim_new (sim_listZip (sim_cons (sim_new (sim_pickO (i := 4) o_none o_none (o_some (sim_c (v := .int 2) rfl)))) (sim_cons (sim_new (sim_pickO (i := 4) (o_some (sim_c (v := .int 1) rfl)) o_none (o_some (sim_c (v := .int 2) rfl)))) sim_nil))))))), pure_paired10⟩
theorem ok_Row_below (T : Tx K mg) (G_count_below : FnOk P w K mg base CX0 1 T.a_count_below T.d_count_below ["rows", "mark"] (spP K 2 S_count_below)) : FnOk P w K mg base CX0 2 T.a_Row_below T.d_Row_below ["self", "mark"] (spP K 2 S_Row_below) := by
  refine ok_P T.f_Row_below sc_Row_below rfl fun cdv A outer s H E hr => ?_
  exact ⟨_, p_Row_below, (pss_cons (ps_set (i := 2) sc_Row_below.nd rfl (.inl rfl) (pe_call G_count_below (hr.mono (by decide)) (by rfl) T.m_count_below T.f_count_below.kp T.b_count_below .nil pass0 (pa_cons (pe_fld (pv 0) rfl) (pa_cons (pv 1) pa_nil))))
      (pss_cons (ps_if (pt_cmpR (op_eqD (hu65 hr)) (pv 2) pe_int (nomark _)) (pss_one (ps_ret pe_int)) pss_nil)
      (pss_cons (ps_set (i := 3) sc_Row_below.nd rfl (.inl rfl) (pe_ifExp (pt_cmpR op_lt (pv 2) (pe_callB c_len (by rfl) T.len PySem.boot_len (pa_cons (pe_fld (pv 0) rfl) pa_nil)) (nomark _)) (pe_ix ix_seq (pe_fld (pv 0) rfl) (pv 2) (fun _ _ => rfl)) (pe_fld (pv 0) rfl)))
      (pss_one (ps_ret (pe_callB (c_min2 rfl) (by rfl) T.min (by decide +kernel) (pa_cons (pv 3) (pa_cons (pe_op op_sub (pe_op op_plus (pe_ix ix_seq (pe_fld (pv 0) rfl) (pe_op op_sub (pv 2) pe_int) (fun _ _ => rfl)) (pv 1)) (pe_ix ix_seq (pe_fld (pv 0) rfl) (pe_op op_sub (pv 2) pe_int) (fun _ _ => rfl))) pa_nil)))))))),
    (s_seq (s_asg (sim_call (sim_cons (sim_fldD T.h_Row_starts (sim_var (i := 0))) (sim_cons (sim_var (i := 1)) sim_nil))) (g_name (i := 2)))
      (s_seq (s_if (sim_tst (sim_eqD (sim_var (i := 2)) (sim_c (v := .int 0) rfl))) (s_ret (sim_c (v := .int 0) rfl)) s_next)
      (s_seq (s_asg (sim_ifE (sim_tst (sim_ii (sim_var (i := 2)) (sim_len (sim_cons (sim_fldD T.h_Row_sums (sim_var (i := 0))) sim_nil)) fun _ _ => rfl)) (sim_ix (sim_fldD T.h_Row_sums (sim_var (i := 0))) (sim_var (i := 2))) (sim_fldD T.h_Row_many (sim_var (i := 0)))) (g_name (i := 3)))
      (s_ret (sim_min2 (sim_cons (sim_var (i := 3)) (sim_cons (sim_ii (sim_plus (sim_ix (sim_fldD T.h_Row_sums (sim_var (i := 0))) (sim_ii (sim_var (i := 2)) (sim_c (v := .int 1) rfl) fun _ _ => rfl)) (sim_var (i := 1))) (sim_ix (sim_fldD T.h_Row_starts (sim_var (i := 0))) (sim_ii (sim_var (i := 2)) (sim_c (v := .int 1) rfl) fun _ _ => rfl)) fun _ _ => rfl) sim_nil))))))), pure_Row_below⟩
theorem ok_Row_at (T : Tx K mg) (G_count_below : FnOk P w K mg base CX0 1 T.a_count_below T.d_count_below ["rows", "mark"] (spP K 2 S_count_below)) : FnOk P w K mg base CX0 2 T.a_Row_at T.d_Row_at ["self", "index"] (spP K 2 S_Row_at) := by
  refine ok_P T.f_Row_at sc_Row_at rfl fun cdv A outer s H E hr => ?_
  exact ⟨_, p_Row_at, (pss_cons (ps_set (i := 2) sc_Row_at.nd rfl (.inl rfl) (pe_op op_sub (pe_call G_count_below (hr.mono (by decide)) (by rfl) T.m_count_below T.f_count_below.kp T.b_count_below .nil pass0 (pa_cons (pe_fld (pv 0) rfl) (pa_cons (pe_op op_plus (pv 1) pe_int) pa_nil))) pe_int))
      (pss_one (ps_ret (pe_op op_sub (pe_op op_plus (pe_ix ix_seq (pe_fld (pv 0) rfl) (pv 2) (fun _ _ => rfl)) (pv 1)) (pe_ix ix_seq (pe_fld (pv 0) rfl) (pv 2) (fun _ _ => rfl)))))),
    (s_seq (s_asg (sim_ii (sim_call (sim_cons (sim_fldD T.h_Row_sums (sim_var (i := 0))) (sim_cons (sim_plus (sim_var (i := 1)) (sim_c (v := .int 1) rfl)) sim_nil))) (sim_c (v := .int 1) rfl) fun _ _ => rfl) (g_name (i := 2)))
      (s_ret (sim_ii (sim_plus (sim_ix (sim_fldD T.h_Row_starts (sim_var (i := 0))) (sim_var (i := 2))) (sim_var (i := 1))) (sim_ix (sim_fldD T.h_Row_sums (sim_var (i := 0))) (sim_var (i := 2))) fun _ _ => rfl))), pure_Row_at⟩
theorem ok_SideTally_init (T : Tx K mg) (G_Row_init : FnOk P w K mg base CX0 1 T.a_Row_init T.d_Row_init ["self", "runs"] (spO K "Row" 1 S_Row_init)) (G_paired : FnOk P w K mg base CX0 1 T.a_paired T.d_paired ["begin", "inside", "borders", "end"] (spP K 4 S_paired10)) : FnOk P w K mg base CX0 3 T.a_SideTally_init T.d_SideTally_init ["self", "side"] (spO K "SideTally" 1 S_SideTally_init) := by
  refine ok_O T.f_SideTally_init sc_SideTally_init rfl fun cdv A outer s H E hr => ?_
  exact ⟨_, p_SideTally_init, (pss_cons (ps_asg (pv 1) (pg_tup rfl (pgs_cons (pg_name (i := 2) sc_SideTally_init.nd rfl (.inl rfl)) (pgs_cons (pg_name (i := 3) sc_SideTally_init.nd rfl (.inl rfl)) (pgs_cons (pg_name (i := 4) sc_SideTally_init.nd rfl (.inl rfl)) pgs_nil)))))
      (pss_cons (ps_fld (pv 0) (pv 2) rfl)
      (pss_cons (ps_if (PW.pt (pw_and (pt_tru (pv 3)) (pw_and1 (pt_cmpR (op_eqD (hu65 hr)) (pe_ix ix_seq (pv 3) pe_int (fun _ _ => rfl)) pe_int (nomark _))))) (pss_one (ps_fld (pv 0) (pe_make T.mk_Row G_Row_init (hr.mono (by decide)) (by rfl) T.g_Row T.b_Row_init .nil pass0 (pa_cons (pe_call G_paired (hr.mono (by decide)) (by rfl) T.m_paired T.f_paired.kp T.b_paired .nil pass0 (pa_cons pe_int (pa_cons (pe_not (pv 4)) (pa_cons (pe_slice sl_cut (pv 3) (po_some pe_int) po_none) (pa_cons (pv 2) pa_nil))))) pa_nil)) rfl)) (pss_one (ps_fld (pv 0) (pe_make T.mk_Row G_Row_init (hr.mono (by decide)) (by rfl) T.g_Row T.b_Row_init .nil pass0 (pa_cons (pe_call G_paired (hr.mono (by decide)) (by rfl) T.m_paired T.f_paired.kp T.b_paired .nil pass0 (pa_cons pe_int (pa_cons (pv 4) (pa_cons (pv 3) (pa_cons (pv 2) pa_nil))))) pa_nil)) rfl)))
      (pss_one (ps_fld (pv 0) (pe_fld (pe_fld (pv 0) rfl) rfl) rfl))))),
    (s_seq (s_asg (sim_var (i := 1)) (g_tup (gs_cons (i := 2) (gs_cons (i := 3) (gs_cons (i := 4) gs_nil))) rfl))
      (s_seq (s_setF (i := 0) T.h_SideTally_period (sim_var (i := 2)))
      (s_seq (s_if (sim_and (sim_tru (sim_var (i := 3))) (sim_tst (sim_eqD (sim_ix (sim_var (i := 3)) (sim_c (v := .int 0) rfl)) (sim_c (v := .int 0) rfl)))) (s_setF (i := 0) T.h_SideTally_row (sim_makeD T.n_Row (sim_cons (sim_call (sim_cons (sim_c (v := .int 0) rfl) (sim_cons (sim_notV (sim_var (i := 4))) (sim_cons (sim_cut (sim_var (i := 3)) (o_some (sim_c (v := .int 1) rfl)) o_none) (sim_cons (sim_var (i := 2)) sim_nil))))) sim_nil))) (s_setF (i := 0) T.h_SideTally_row (sim_makeD T.n_Row (sim_cons (sim_call (sim_cons (sim_c (v := .int 0) rfl) (sim_cons (sim_var (i := 4)) (sim_cons (sim_var (i := 3)) (sim_cons (sim_var (i := 2)) sim_nil))))) sim_nil))))
      (s_setF (i := 0) T.h_SideTally_many (sim_fldD T.h_Row_many (sim_fldO (i := 0) T.h_SideTally_row)))))), pure_SideTally_init⟩
theorem ok_SideTally_below (T : Tx K mg) (G_Row_below : FnOk P w K mg base CX0 2 T.a_Row_below T.d_Row_below ["self", "mark"] (spP K 2 S_Row_below)) : FnOk P w K mg base CX0 3 T.a_SideTally_below T.d_SideTally_below ["self", "mark"] (spP K 2 S_SideTally_below) := by
  refine ok_P T.f_SideTally_below sc_SideTally_below rfl fun cdv A outer s H E hr => ?_
  exact ⟨_, p_SideTally_below, (pss_cons (ps_asg (pe_callB c_divmod (by rfl) T.divmod (by decide +kernel) (pa_cons (pv 1) (pa_cons (pe_fld (pv 0) rfl) pa_nil))) (pg_tup rfl (pgs_cons (pg_name (i := 2) sc_SideTally_below.nd rfl (.inl rfl)) (pgs_cons (pg_name (i := 3) sc_SideTally_below.nd rfl (.inl rfl)) pgs_nil))))
      (pss_one (ps_ret (pe_op op_plus (pe_op op_mul (pv 2) (pe_fld (pv 0) rfl)) (pe_meth (pe_fld (pv 0) rfl) T.cl_Row T.me_Row_below G_Row_below (hr.mono (by decide)) T.b_Row_below .nil pass0 (pa_cons (pv 3) pa_nil)))))),
    (s_seq (s_asg (sim_divmod (sim_cons (sim_var (i := 1)) (sim_cons (sim_fldD T.h_SideTally_period (sim_var (i := 0))) sim_nil))) (g_tup (gs_cons (i := 2) (gs_cons (i := 3) gs_nil)) rfl))
      (s_ret (sim_plus (sim_iic (sim_var (i := 2)) (sim_fldD T.h_SideTally_many (sim_var (i := 0))) fun _ _ => rfl) (sim_methD T.n_Row (sim_fldD T.h_SideTally_row (sim_var (i := 0))) (sim_cons (sim_var (i := 3)) sim_nil))))), pure_SideTally_below⟩
theorem ok_SideTally_at (T : Tx K mg) (G_Row_at : FnOk P w K mg base CX0 2 T.a_Row_at T.d_Row_at ["self", "index"] (spP K 2 S_Row_at)) : FnOk P w K mg base CX0 3 T.a_SideTally_at T.d_SideTally_at ["self", "index"] (spP K 2 S_SideTally_at) := by
  refine ok_P T.f_SideTally_at sc_SideTally_at rfl fun cdv A outer s H E hr => ?_
  exact ⟨_, p_SideTally_at, (pss_cons (ps_asg (pe_callB c_divmod (by rfl) T.divmod (by decide +kernel) (pa_cons (pv 1) (pa_cons (pe_fld (pv 0) rfl) pa_nil))) (pg_tup rfl (pgs_cons (pg_name (i := 2) sc_SideTally_at.nd rfl (.inl rfl)) (pgs_cons (pg_name (i := 3) sc_SideTally_at.nd rfl (.inl rfl)) pgs_nil))))
      (pss_one (ps_ret (pe_op op_plus (pe_op op_mul (pv 2) (pe_fld (pv 0) rfl)) (pe_meth (pe_fld (pv 0) rfl) T.cl_Row T.me_Row_at G_Row_at (hr.mono (by decide)) T.b_Row_at .nil pass0 (pa_cons (pv 3) pa_nil)))))),
    (s_seq (s_asg (sim_divmod (sim_cons (sim_var (i := 1)) (sim_cons (sim_fldD T.h_SideTally_many (sim_var (i := 0))) sim_nil))) (g_tup (gs_cons (i := 2) (gs_cons (i := 3) gs_nil)) rfl))
      (s_ret (sim_plus (sim_iic (sim_var (i := 2)) (sim_fldD T.h_SideTally_period (sim_var (i := 0))) fun _ _ => rfl) (sim_methD T.n_Row (sim_fldD T.h_SideTally_row (sim_var (i := 0))) (sim_cons (sim_var (i := 3)) sim_nil))))), pure_SideTally_at⟩
theorem ok_Tally_init (T : Tx K mg) (G_SideTally_init : FnOk P w K mg base CX0 3 T.a_SideTally_init T.d_SideTally_init ["self", "side"] (spO K "SideTally" 1 S_SideTally_init)) (G_Row_init : FnOk P w K mg base CX0 1 T.a_Row_init T.d_Row_init ["self", "runs"] (spO K "Row" 1 S_Row_init)) : FnOk P w K mg base CX0 5 T.a_Tally_init T.d_Tally_init ["self", "dayset"] (spO K "Tally" 1 S_Tally_init) := by
  refine ok_O T.f_Tally_init sc_Tally_init rfl fun cdv A outer s H E hr => ?_
  exact ⟨_, p_Tally_init, (pss_cons (ps_asg (pv 1) (pg_tup rfl (pgs_cons (pg_name (i := 2) sc_Tally_init.nd rfl (.inl rfl)) (pgs_cons (pg_fld (pv 0)) (pgs_cons (pg_name (i := 3) sc_Tally_init.nd rfl (.inl rfl)) (pgs_cons (pg_fld (pv 0)) (pgs_cons (pg_name (i := 4) sc_Tally_init.nd rfl (.inl rfl)) pgs_nil)))))))
      (pss_cons (ps_fld (pv 0) (pe_make T.mk_SideTally G_SideTally_init (hr.mono (by decide)) (by rfl) T.g_SideTally T.b_SideTally_init .nil pass0 (pa_cons (pv 2) pa_nil)) rfl)
      (pss_cons (ps_fld (pv 0) (pe_make T.mk_Row G_Row_init (hr.mono (by decide)) (by rfl) T.g_Row T.b_Row_init .nil pass0 (pa_cons (pv 3) pa_nil)) rfl)
      (pss_one (ps_fld (pv 0) (pe_make T.mk_SideTally G_SideTally_init (hr.mono (by decide)) (by rfl) T.g_SideTally T.b_SideTally_init .nil pass0 (pa_cons (pv 4) pa_nil)) rfl))))),
    (s_seq (s_asgH (sim_var (i := 1)) (gh_tup (ghs_cons gh_name (ghs_cons (gh_fld (i := 0) T.h_Tally_low) (ghs_cons gh_name (ghs_cons (gh_fld (i := 0) T.h_Tally_high) (ghs_cons gh_name ghs_nil)))))))
      (s_seq (s_setF (i := 0) T.h_Tally_left (sim_makeD T.n_SideTally (sim_cons (sim_var (i := 2)) sim_nil)))
      (s_seq (s_setF (i := 0) T.h_Tally_row (sim_makeD T.n_Row (sim_cons (sim_var (i := 3)) sim_nil)))
      (s_setF (i := 0) T.h_Tally_right (sim_makeD T.n_SideTally (sim_cons (sim_var (i := 4)) sim_nil)))))), pure_Tally_init⟩
theorem ok_Tally_below (T : Tx K mg) (G_Row_below : FnOk P w K mg base CX0 2 T.a_Row_below T.d_Row_below ["self", "mark"] (spP K 2 S_Row_below)) (G_SideTally_below : FnOk P w K mg base CX0 3 T.a_SideTally_below T.d_SideTally_below ["self", "mark"] (spP K 2 S_SideTally_below)) : FnOk P w K mg base CX0 4 T.a_Tally_below T.d_Tally_below ["self", "mark"] (spP K 2 S_Tally_below) := by
  refine ok_P T.f_Tally_below sc_Tally_below rfl fun cdv A outer s H E hr => ?_
  exact ⟨_, p_Tally_below, (pss_cons (ps_if (pt_cmpR op_le (pv 1) (pe_fld (pv 0) rfl) (nomark _)) (pss_one (ps_ret (pe_op op_sub (pe_meth (pe_fld (pv 0) rfl) T.cl_SideTally T.me_SideTally_below G_SideTally_below (hr.mono (by decide)) T.b_SideTally_below .nil pass0 (pa_cons (pv 1) pa_nil)) (pe_meth (pe_fld (pv 0) rfl) T.cl_SideTally T.me_SideTally_below G_SideTally_below (hr.mono (by decide)) T.b_SideTally_below .nil pass0 (pa_cons (pe_fld (pv 0) rfl) pa_nil))))) pss_nil)
      (pss_cons (ps_if (pt_cmpR op_le (pv 1) (pe_fld (pv 0) rfl) (nomark _)) (pss_one (ps_ret (pe_meth (pe_fld (pv 0) rfl) T.cl_Row T.me_Row_below G_Row_below (hr.mono (by decide)) T.b_Row_below .nil pass0 (pa_cons (pv 1) pa_nil)))) pss_nil)
      (pss_one (ps_ret (pe_op op_sub (pe_op op_plus (pe_fld (pe_fld (pv 0) rfl) rfl) (pe_meth (pe_fld (pv 0) rfl) T.cl_SideTally T.me_SideTally_below G_SideTally_below (hr.mono (by decide)) T.b_SideTally_below .nil pass0 (pa_cons (pv 1) pa_nil))) (pe_meth (pe_fld (pv 0) rfl) T.cl_SideTally T.me_SideTally_below G_SideTally_below (hr.mono (by decide)) T.b_SideTally_below .nil pass0 (pa_cons (pe_fld (pv 0) rfl) pa_nil))))))),
    (s_seq (s_if (sim_tst (sim_ii (sim_var (i := 1)) (sim_fldD T.h_Tally_low (sim_var (i := 0))) fun _ _ => rfl)) (s_ret (sim_ii (sim_methD T.n_SideTally (sim_fldD T.h_Tally_left (sim_var (i := 0))) (sim_cons (sim_var (i := 1)) sim_nil)) (sim_methD T.n_SideTally (sim_fldD T.h_Tally_left (sim_var (i := 0))) (sim_cons (sim_fldD T.h_Tally_low (sim_var (i := 0))) sim_nil)) fun _ _ => rfl)) s_next)
      (s_seq (s_if (sim_tst (sim_ii (sim_var (i := 1)) (sim_fldD T.h_Tally_high (sim_var (i := 0))) fun _ _ => rfl)) (s_ret (sim_methD T.n_Row (sim_fldD T.h_Tally_row (sim_var (i := 0))) (sim_cons (sim_var (i := 1)) sim_nil))) s_next)
      (s_ret (sim_ii (sim_plus (sim_fldD T.h_Row_many (sim_fldD T.h_Tally_row (sim_var (i := 0)))) (sim_methD T.n_SideTally (sim_fldD T.h_Tally_right (sim_var (i := 0))) (sim_cons (sim_var (i := 1)) sim_nil))) (sim_methD T.n_SideTally (sim_fldD T.h_Tally_right (sim_var (i := 0))) (sim_cons (sim_fldD T.h_Tally_high (sim_var (i := 0))) sim_nil)) fun _ _ => rfl)))), pure_Tally_below⟩
theorem ok_Tally_at (T : Tx K mg) (G_SideTally_at : FnOk P w K mg base CX0 3 T.a_SideTally_at T.d_SideTally_at ["self", "index"] (spP K 2 S_SideTally_at)) (G_Row_at : FnOk P w K mg base CX0 2 T.a_Row_at T.d_Row_at ["self", "index"] (spP K 2 S_Row_at)) (G_SideTally_below : FnOk P w K mg base CX0 3 T.a_SideTally_below T.d_SideTally_below ["self", "mark"] (spP K 2 S_SideTally_below)) : FnOk P w K mg base CX0 4 T.a_Tally_at T.d_Tally_at ["self", "index"] (spP K 2 S_Tally_at) := by
  refine ok_P T.f_Tally_at sc_Tally_at rfl fun cdv A outer s H E hr => ?_
  exact ⟨_, p_Tally_at, (pss_cons (ps_if (pt_cmpR op_lt (pv 1) pe_int (nomark _)) (pss_one (ps_ret (pe_meth (pe_fld (pv 0) rfl) T.cl_SideTally T.me_SideTally_at G_SideTally_at (hr.mono (by decide)) T.b_SideTally_at .nil pass0 (pa_cons (pe_op op_plus (pe_meth (pe_fld (pv 0) rfl) T.cl_SideTally T.me_SideTally_below G_SideTally_below (hr.mono (by decide)) T.b_SideTally_below .nil pass0 (pa_cons (pe_fld (pv 0) rfl) pa_nil)) (pv 1)) pa_nil)))) pss_nil)
      (pss_cons (ps_if (pt_cmpR op_lt (pv 1) (pe_fld (pe_fld (pv 0) rfl) rfl) (nomark _)) (pss_one (ps_ret (pe_meth (pe_fld (pv 0) rfl) T.cl_Row T.me_Row_at G_Row_at (hr.mono (by decide)) T.b_Row_at .nil pass0 (pa_cons (pv 1) pa_nil)))) pss_nil)
      (pss_cons (ps_if (pt_cmpR (op_eqD (hu65 hr)) (pe_fld (pe_fld (pv 0) rfl) rfl) pe_int (nomark _)) (pss_one (ps_ret pe_non)) pss_nil)
      (pss_one (ps_ret (pe_meth (pe_fld (pv 0) rfl) T.cl_SideTally T.me_SideTally_at G_SideTally_at (hr.mono (by decide)) T.b_SideTally_at .nil pass0 (pa_cons (pe_op op_sub (pe_op op_plus (pe_meth (pe_fld (pv 0) rfl) T.cl_SideTally T.me_SideTally_below G_SideTally_below (hr.mono (by decide)) T.b_SideTally_below .nil pass0 (pa_cons (pe_fld (pv 0) rfl) pa_nil)) (pv 1)) (pe_fld (pe_fld (pv 0) rfl) rfl)) pa_nil))))))),
    (s_seq (s_if (sim_tst (sim_ii (sim_var (i := 1)) (sim_c (v := .int 0) rfl) fun _ _ => rfl)) (s_ret (sim_methD T.n_SideTally (sim_fldD T.h_Tally_left (sim_var (i := 0))) (sim_cons (sim_plus (sim_methD T.n_SideTally (sim_fldD T.h_Tally_left (sim_var (i := 0))) (sim_cons (sim_fldD T.h_Tally_low (sim_var (i := 0))) sim_nil)) (sim_var (i := 1))) sim_nil))) s_next)
      (s_seq (s_if (sim_tst (sim_ii (sim_var (i := 1)) (sim_fldD T.h_Row_many (sim_fldD T.h_Tally_row (sim_var (i := 0)))) fun _ _ => rfl)) (s_ret (sim_methD T.n_Row (sim_fldD T.h_Tally_row (sim_var (i := 0))) (sim_cons (sim_var (i := 1)) sim_nil))) s_next)
      (s_seq (s_if (sim_tst (sim_eqD (sim_fldD T.h_SideTally_many (sim_fldD T.h_Tally_right (sim_var (i := 0)))) (sim_c (v := .int 0) rfl))) (s_ret (sim_c (v := .non) rfl)) s_next)
      (s_ret (sim_methD T.n_SideTally (sim_fldD T.h_Tally_right (sim_var (i := 0))) (sim_cons (sim_ii (sim_plus (sim_methD T.n_SideTally (sim_fldD T.h_Tally_right (sim_var (i := 0))) (sim_cons (sim_fldD T.h_Tally_high (sim_var (i := 0))) sim_nil)) (sim_var (i := 1))) (sim_fldD T.h_Row_many (sim_fldD T.h_Tally_row (sim_var (i := 0)))) fun _ _ => rfl) sim_nil)))))), pure_Tally_at⟩
theorem ok_next_in (T : Tx K mg) (G_next_in_side : FnOk P w K mg base CX0 3 T.a_next_in_side T.d_next_in_side ["side", "day"] (spP K 2 S_next_in_side)) (G_count_below : FnOk P w K mg base CX0 1 T.a_count_below T.d_count_below ["rows", "mark"] (spP K 2 S_count_below)) : FnOk P w K mg base CX0 4 T.a_next_in T.d_next_in ["dayset", "day"] (spP K 2 S_next_in) := by
  refine ok_P T.f_next_in sc_next_in rfl fun cdv A outer s H E hr => ?_
  exact ⟨_, p_next_in, (pss_cons (ps_asg (pv 0) (pg_tup rfl (pgs_cons (pg_name (i := 2) sc_next_in.nd rfl (.inl rfl)) (pgs_cons (pg_name (i := 3) sc_next_in.nd rfl (.inl rfl)) (pgs_cons (pg_name (i := 4) sc_next_in.nd rfl (.inl rfl)) (pgs_cons (pg_name (i := 5) sc_next_in.nd rfl (.inl rfl)) (pgs_cons (pg_name (i := 6) sc_next_in.nd rfl (.inl rfl)) pgs_nil)))))))
      (pss_cons (ps_if (pt_cmpR op_lt (pv 1) (pv 3) (nomark _)) (pss_cons (ps_set (i := 7) sc_next_in.nd rfl (.inl rfl) (pe_call G_next_in_side (hr.mono (by decide)) (by rfl) T.m_next_in_side T.f_next_in_side.kp T.b_next_in_side .nil pass0 (pa_cons (pv 2) (pa_cons (pv 1) pa_nil))))
      (pss_one (ps_if (PW.pt (pw_and (pt_cmpR op_notN1 (pv 7) pe_non (nomark _)) (pw_and1 (pt_cmpR op_lt (pv 7) (pv 3) (nomark _))))) (pss_one (ps_ret (pv 7))) pss_nil))) pss_nil)
      (pss_cons (ps_set (i := 8) sc_next_in.nd rfl (.inl rfl) (pe_callB (c_max2 rfl) (by rfl) T.max (by decide +kernel) (pa_cons (pv 1) (pa_cons (pv 3) pa_nil))))
      (pss_cons (ps_if (pt_cmpR op_lt (pv 8) (pv 5) (nomark _)) (pss_cons (ps_set (i := 9) sc_next_in.nd rfl (.inl rfl) (pe_call G_count_below (hr.mono (by decide)) (by rfl) T.m_count_below T.f_count_below.kp T.b_count_below .nil pass0 (pa_cons (pv 4) (pa_cons (pe_tup (pa_cons (pv 8) pa_nil)) pa_nil))))
      (pss_cons (ps_if (PW.pt (pw_and (pt_cmpR op_gt (pv 9) pe_int (nomark _)) (pw_and1 (pt_cmpR op_lt (pv 8) (pe_ix ix_seq (pe_ix ix_seq (pv 4) (pe_op op_sub (pv 9) pe_int) (fun _ _ => rfl)) pe_int (fun _ _ => rfl)) (nomark _))))) (pss_one (ps_ret (pv 8))) pss_nil)
      (pss_one (ps_if (pt_cmpR op_lt (pv 9) (pe_callB c_len (by rfl) T.len PySem.boot_len (pa_cons (pv 4) pa_nil)) (nomark _)) (pss_one (ps_ret (pe_ix ix_seq (pe_ix ix_seq (pv 4) (pv 9) (fun _ _ => rfl)) pe_int (fun _ _ => rfl)))) pss_nil)))) pss_nil)
      (pss_one (ps_ret (pe_call G_next_in_side (hr.mono (by decide)) (by rfl) T.m_next_in_side T.f_next_in_side.kp T.b_next_in_side .nil pass0 (pa_cons (pv 6) (pa_cons (pe_callB (c_max2 rfl) (by rfl) T.max (by decide +kernel) (pa_cons (pv 1) (pa_cons (pv 5) pa_nil))) pa_nil))))))))),
    (s_seq (s_asg (sim_var (i := 0)) (g_tup (gs_cons (i := 2) (gs_cons (i := 3) (gs_cons (i := 4) (gs_cons (i := 5) (gs_cons (i := 6) gs_nil))))) rfl))
      (s_seq (s_if (sim_tst (sim_ii (sim_var (i := 1)) (sim_var (i := 3)) fun _ _ => rfl)) (s_seq (s_asg (sim_call (sim_cons (sim_var (i := 2)) (sim_cons (sim_var (i := 1)) sim_nil))) (g_name (i := 7)))
      (s_if (sim_and (sim_tst (sim_notN (sim_var (i := 7)))) (sim_tst (sim_ii (sim_var (i := 7)) (sim_var (i := 3)) fun _ _ => rfl))) (s_ret (sim_var (i := 7))) s_next)) s_next)
      (s_seq (s_asg (sim_max2 (sim_cons (sim_var (i := 1)) (sim_cons (sim_var (i := 3)) sim_nil))) (g_name (i := 8)))
      (s_seq (s_if (sim_tst (sim_ii (sim_var (i := 8)) (sim_var (i := 5)) fun _ _ => rfl)) (s_seq (s_asg (sim_call (sim_cons (sim_var (i := 4)) (sim_cons (sim_tup (sim_cons (sim_var (i := 8)) sim_nil)) sim_nil))) (g_name (i := 9)))
      (s_seq (s_if (sim_and (sim_tst (sim_ii (sim_var (i := 9)) (sim_c (v := .int 0) rfl) fun _ _ => rfl)) (sim_tst (sim_ii (sim_var (i := 8)) (sim_ix (sim_ix (sim_var (i := 4)) (sim_ii (sim_var (i := 9)) (sim_c (v := .int 1) rfl) fun _ _ => rfl)) (sim_c (v := .int 1) rfl)) fun _ _ => rfl))) (s_ret (sim_var (i := 8))) s_next)
      (s_if (sim_tst (sim_ii (sim_var (i := 9)) (sim_len (sim_cons (sim_var (i := 4)) sim_nil)) fun _ _ => rfl)) (s_ret (sim_ix (sim_ix (sim_var (i := 4)) (sim_var (i := 9))) (sim_c (v := .int 0) rfl))) s_next))) s_next)
      (s_ret (sim_call (sim_cons (sim_var (i := 6)) (sim_cons (sim_max2 (sim_cons (sim_var (i := 1)) (sim_cons (sim_var (i := 5)) sim_nil))) sim_nil)))))))), pure_next_in⟩
theorem ok_last_in (T : Tx K mg) (G_last_in_side : FnOk P w K mg base CX0 3 T.a_last_in_side T.d_last_in_side ["side", "day"] (spP K 2 S_last_in_side)) (G_count_below : FnOk P w K mg base CX0 1 T.a_count_below T.d_count_below ["rows", "mark"] (spP K 2 S_count_below)) : FnOk P w K mg base CX0 4 T.a_last_in T.d_last_in ["dayset", "day"] (spP K 2 S_last_in) := by
  refine ok_P T.f_last_in sc_last_in rfl fun cdv A outer s H E hr => ?_
  exact ⟨_, p_last_in, (pss_cons (ps_asg (pv 0) (pg_tup rfl (pgs_cons (pg_name (i := 2) sc_last_in.nd rfl (.inl rfl)) (pgs_cons (pg_name (i := 3) sc_last_in.nd rfl (.inl rfl)) (pgs_cons (pg_name (i := 4) sc_last_in.nd rfl (.inl rfl)) (pgs_cons (pg_name (i := 5) sc_last_in.nd rfl (.inl rfl)) (pgs_cons (pg_name (i := 6) sc_last_in.nd rfl (.inl rfl)) pgs_nil)))))))
      (pss_cons (ps_if (pt_cmpR op_ge (pv 1) (pv 5) (nomark _)) (pss_cons (ps_set (i := 7) sc_last_in.nd rfl (.inl rfl) (pe_call G_last_in_side (hr.mono (by decide)) (by rfl) T.m_last_in_side T.f_last_in_side.kp T.b_last_in_side .nil pass0 (pa_cons (pv 6) (pa_cons (pv 1) pa_nil))))
      (pss_one (ps_if (PW.pt (pw_and (pt_cmpR op_notN1 (pv 7) pe_non (nomark _)) (pw_and1 (pt_cmpR op_ge (pv 7) (pv 5) (nomark _))))) (pss_one (ps_ret (pv 7))) pss_nil))) pss_nil)
      (pss_cons (ps_set (i := 8) sc_last_in.nd rfl (.inl rfl) (pe_callB (c_min2 rfl) (by rfl) T.min (by decide +kernel) (pa_cons (pv 1) (pa_cons (pe_op op_sub (pv 5) pe_int) pa_nil))))
      (pss_cons (ps_if (pt_cmpR op_ge (pv 8) (pv 3) (nomark _)) (pss_cons (ps_set (i := 9) sc_last_in.nd rfl (.inl rfl) (pe_call G_count_below (hr.mono (by decide)) (by rfl) T.m_count_below T.f_count_below.kp T.b_count_below .nil pass0 (pa_cons (pv 4) (pa_cons (pe_tup (pa_cons (pe_op op_plus (pv 8) pe_int) pa_nil)) pa_nil))))
      (pss_one (ps_if (pt_cmpR op_gt (pv 9) pe_int (nomark _)) (pss_one (ps_ret (pe_callB (c_min2 rfl) (by rfl) T.min (by decide +kernel) (pa_cons (pv 8) (pa_cons (pe_op op_sub (pe_ix ix_seq (pe_ix ix_seq (pv 4) (pe_op op_sub (pv 9) pe_int) (fun _ _ => rfl)) pe_int (fun _ _ => rfl)) pe_int) pa_nil))))) pss_nil))) pss_nil)
      (pss_one (ps_ret (pe_call G_last_in_side (hr.mono (by decide)) (by rfl) T.m_last_in_side T.f_last_in_side.kp T.b_last_in_side .nil pass0 (pa_cons (pv 2) (pa_cons (pe_callB (c_min2 rfl) (by rfl) T.min (by decide +kernel) (pa_cons (pv 1) (pa_cons (pe_op op_sub (pv 3) pe_int) pa_nil))) pa_nil))))))))),
    (s_seq (s_asg (sim_var (i := 0)) (g_tup (gs_cons (i := 2) (gs_cons (i := 3) (gs_cons (i := 4) (gs_cons (i := 5) (gs_cons (i := 6) gs_nil))))) rfl))
      (s_seq (s_if (sim_tst (sim_ii (sim_var (i := 1)) (sim_var (i := 5)) fun _ _ => rfl)) (s_seq (s_asg (sim_call (sim_cons (sim_var (i := 6)) (sim_cons (sim_var (i := 1)) sim_nil))) (g_name (i := 7)))
      (s_if (sim_and (sim_tst (sim_notN (sim_var (i := 7)))) (sim_tst (sim_ii (sim_var (i := 7)) (sim_var (i := 5)) fun _ _ => rfl))) (s_ret (sim_var (i := 7))) s_next)) s_next)
      (s_seq (s_asg (sim_min2 (sim_cons (sim_var (i := 1)) (sim_cons (sim_ii (sim_var (i := 5)) (sim_c (v := .int 1) rfl) fun _ _ => rfl) sim_nil))) (g_name (i := 8)))
      (s_seq (s_if (sim_tst (sim_ii (sim_var (i := 8)) (sim_var (i := 3)) fun _ _ => rfl)) (s_seq (s_asg (sim_call (sim_cons (sim_var (i := 4)) (sim_cons (sim_tup (sim_cons (sim_plus (sim_var (i := 8)) (sim_c (v := .int 1) rfl)) sim_nil)) sim_nil))) (g_name (i := 9)))
      (s_if (sim_tst (sim_ii (sim_var (i := 9)) (sim_c (v := .int 0) rfl) fun _ _ => rfl)) (s_ret (sim_min2 (sim_cons (sim_var (i := 8)) (sim_cons (sim_ii (sim_ix (sim_ix (sim_var (i := 4)) (sim_ii (sim_var (i := 9)) (sim_c (v := .int 1) rfl) fun _ _ => rfl)) (sim_c (v := .int 1) rfl)) (sim_c (v := .int 1) rfl) fun _ _ => rfl) sim_nil)))) s_next)) s_next)
      (s_ret (sim_call (sim_cons (sim_var (i := 2)) (sim_cons (sim_min2 (sim_cons (sim_var (i := 1)) (sim_cons (sim_ii (sim_var (i := 3)) (sim_c (v := .int 1) rfl) fun _ _ => rfl) sim_nil))) sim_nil)))))))), pure_last_in⟩
theorem ok_next_in_side (T : Tx K mg) (G_side_holds : FnOk P w K mg base CX0 2 T.a_side_holds T.d_side_holds ["side", "number"] (spP K 2 S_side_holds)) (G_count_below : FnOk P w K mg base CX0 1 T.a_count_below T.d_count_below ["rows", "mark"] (spP K 2 S_count_below)) : FnOk P w K mg base CX0 3 T.a_next_in_side T.d_next_in_side ["side", "day"] (spP K 2 S_next_in_side) := by
  refine ok_P T.f_next_in_side sc_next_in_side rfl fun cdv A outer s H E hr => ?_
  exact ⟨_, p_next_in_side, (pss_cons (ps_if (pt_val (pe_call G_side_holds (hr.mono (by decide)) (by rfl) T.m_side_holds T.f_side_holds.kp T.b_side_holds .nil pass0 (pa_cons (pv 0) (pa_cons (pv 1) pa_nil)))) (pss_one (ps_ret (pv 1))) pss_nil)
      (pss_cons (ps_asg (pv 0) (pg_tup rfl (pgs_cons (pg_name (i := 2) sc_next_in_side.nd rfl (.inl rfl)) (pgs_cons (pg_name (i := 3) sc_next_in_side.nd rfl (.inl rfl)) (pgs_cons (pg_name (i := 4) sc_next_in_side.nd rfl (.inl rfl)) pgs_nil)))))
      (pss_cons (ps_if (pt_not (pt_tru (pv 3))) (pss_one (ps_ret pe_non)) pss_nil)
      (pss_cons (ps_set (i := 5) sc_next_in_side.nd rfl (.inl rfl) (pe_op op_mod (pv 1) (pv 2)))
      (pss_cons (ps_set (i := 6) sc_next_in_side.nd rfl (.inl rfl) (pe_call G_count_below (hr.mono (by decide)) (by rfl) T.m_count_below T.f_count_below.kp T.b_count_below .nil pass0 (pa_cons (pv 3) (pa_cons (pe_op op_plus (pv 5) pe_int) pa_nil))))
      (pss_cons (ps_if (pt_cmpR op_lt (pv 6) (pe_callB c_len (by rfl) T.len PySem.boot_len (pa_cons (pv 3) pa_nil)) (nomark _)) (pss_one (ps_ret (pe_op op_plus (pe_op op_sub (pv 1) (pv 5)) (pe_ix ix_seq (pv 3) (pv 6) (fun _ _ => rfl))))) pss_nil)
      (pss_one (ps_ret (pe_op op_plus (pe_op op_plus (pe_op op_sub (pv 1) (pv 5)) (pv 2)) (pe_ix ix_seq (pv 3) pe_int (fun _ _ => rfl))))))))))),
    (s_seq (s_if (sim_tB (sim_call (sim_cons (sim_var (i := 0)) (sim_cons (sim_var (i := 1)) sim_nil)))) (s_ret (sim_var (i := 1))) s_next)
      (s_seq (s_asg (sim_var (i := 0)) (g_tup (gs_cons (i := 2) (gs_cons (i := 3) (gs_cons (i := 4) gs_nil))) rfl))
      (s_seq (s_if (sim_not (sim_tru (sim_var (i := 3)))) (s_ret (sim_c (v := .non) rfl)) s_next)
      (s_seq (s_asg (sim_iic (sim_var (i := 1)) (sim_var (i := 2)) fun _ _ => rfl) (g_name (i := 5)))
      (s_seq (s_asg (sim_call (sim_cons (sim_var (i := 3)) (sim_cons (sim_plus (sim_var (i := 5)) (sim_c (v := .int 1) rfl)) sim_nil))) (g_name (i := 6)))
      (s_seq (s_if (sim_tst (sim_ii (sim_var (i := 6)) (sim_len (sim_cons (sim_var (i := 3)) sim_nil)) fun _ _ => rfl)) (s_ret (sim_plus (sim_ii (sim_var (i := 1)) (sim_var (i := 5)) fun _ _ => rfl) (sim_ix (sim_var (i := 3)) (sim_var (i := 6))))) s_next)
      (s_ret (sim_plus (sim_plus (sim_ii (sim_var (i := 1)) (sim_var (i := 5)) fun _ _ => rfl) (sim_var (i := 2))) (sim_ix (sim_var (i := 3)) (sim_c (v := .int 0) rfl)))))))))), pure_next_in_side⟩
theorem ok_last_in_side (T : Tx K mg) (G_side_holds : FnOk P w K mg base CX0 2 T.a_side_holds T.d_side_holds ["side", "number"] (spP K 2 S_side_holds)) (G_count_below : FnOk P w K mg base CX0 1 T.a_count_below T.d_count_below ["rows", "mark"] (spP K 2 S_count_below)) : FnOk P w K mg base CX0 3 T.a_last_in_side T.d_last_in_side ["side", "day"] (spP K 2 S_last_in_side) := by
  refine ok_P T.f_last_in_side sc_last_in_side rfl fun cdv A outer s H E hr => ?_
  exact ⟨_, p_last_in_side, (pss_cons (ps_if (pt_val (pe_call G_side_holds (hr.mono (by decide)) (by rfl) T.m_side_holds T.f_side_holds.kp T.b_side_holds .nil pass0 (pa_cons (pv 0) (pa_cons (pv 1) pa_nil)))) (pss_one (ps_ret (pv 1))) pss_nil)
      (pss_cons (ps_asg (pv 0) (pg_tup rfl (pgs_cons (pg_name (i := 2) sc_last_in_side.nd rfl (.inl rfl)) (pgs_cons (pg_name (i := 3) sc_last_in_side.nd rfl (.inl rfl)) (pgs_cons (pg_name (i := 4) sc_last_in_side.nd rfl (.inl rfl)) pgs_nil)))))
      (pss_cons (ps_if (pt_not (pt_tru (pv 3))) (pss_one (ps_ret pe_non)) pss_nil)
      (pss_cons (ps_set (i := 5) sc_last_in_side.nd rfl (.inl rfl) (pe_op op_mod (pv 1) (pv 2)))
      (pss_cons (ps_set (i := 6) sc_last_in_side.nd rfl (.inl rfl) (pe_call G_count_below (hr.mono (by decide)) (by rfl) T.m_count_below T.f_count_below.kp T.b_count_below .nil pass0 (pa_cons (pv 3) (pa_cons (pe_op op_plus (pv 5) pe_int) pa_nil))))
      (pss_cons (ps_if (pt_cmpR op_gt (pv 6) pe_int (nomark _)) (pss_one (ps_ret (pe_op op_sub (pe_op op_plus (pe_op op_sub (pv 1) (pv 5)) (pe_ix ix_seq (pv 3) (pe_op op_sub (pv 6) pe_int) (fun _ _ => rfl))) pe_int))) pss_nil)
      (pss_one (ps_ret (pe_op op_sub (pe_op op_plus (pe_op op_sub (pe_op op_sub (pv 1) (pv 5)) (pv 2)) (pe_ix ix_seq (pv 3) (pe_un un_neg pe_int) (fun _ _ => rfl))) pe_int))))))))),
    (s_seq (s_if (sim_tB (sim_call (sim_cons (sim_var (i := 0)) (sim_cons (sim_var (i := 1)) sim_nil)))) (s_ret (sim_var (i := 1))) s_next)
      (s_seq (s_asg (sim_var (i := 0)) (g_tup (gs_cons (i := 2) (gs_cons (i := 3) (gs_cons (i := 4) gs_nil))) rfl))
      (s_seq (s_if (sim_not (sim_tru (sim_var (i := 3)))) (s_ret (sim_c (v := .non) rfl)) s_next)
      (s_seq (s_asg (sim_iic (sim_var (i := 1)) (sim_var (i := 2)) fun _ _ => rfl) (g_name (i := 5)))
      (s_seq (s_asg (sim_call (sim_cons (sim_var (i := 3)) (sim_cons (sim_plus (sim_var (i := 5)) (sim_c (v := .int 1) rfl)) sim_nil))) (g_name (i := 6)))
      (s_seq (s_if (sim_tst (sim_ii (sim_var (i := 6)) (sim_c (v := .int 0) rfl) fun _ _ => rfl)) (s_ret (sim_ii (sim_plus (sim_ii (sim_var (i := 1)) (sim_var (i := 5)) fun _ _ => rfl) (sim_ix (sim_var (i := 3)) (sim_ii (sim_var (i := 6)) (sim_c (v := .int 1) rfl) fun _ _ => rfl))) (sim_c (v := .int 1) rfl) fun _ _ => rfl)) s_next)
      (s_ret (sim_ii (sim_plus (sim_ii (sim_ii (sim_var (i := 1)) (sim_var (i := 5)) fun _ _ => rfl) (sim_var (i := 2)) fun _ _ => rfl) (sim_ix (sim_var (i := 3)) (sim_u (sim_c (v := .int 1) rfl) fun _ => rfl))) (sim_c (v := .int 1) rfl) fun _ _ => rfl)))))))), pure_last_in_side⟩
theorem ok_count_in (T : Tx K mg) (G_Tally_init : FnOk P w K mg base CX0 5 T.a_Tally_init T.d_Tally_init ["self", "dayset"] (spO K "Tally" 1 S_Tally_init)) (G_Tally_below : FnOk P w K mg base CX0 4 T.a_Tally_below T.d_Tally_below ["self", "mark"] (spP K 2 S_Tally_below)) : FnOk P w K mg base CX0 7 T.a_count_in T.d_count_in ["dayset", "first", "end"] (spP K 3 S_count_in) := by
  refine ok_P T.f_count_in sc_count_in rfl fun cdv A outer s H E hr => ?_
  exact ⟨_, p_count_in, (pss_cons (ps_if (pt_cmpR op_le (pv 2) (pv 1) (nomark _)) (pss_one (ps_ret pe_int)) pss_nil)
      (pss_cons (ps_set (i := 3) sc_count_in.nd rfl (.inl rfl) (pe_make T.mk_Tally G_Tally_init (hr.mono (by decide)) (by rfl) T.g_Tally T.b_Tally_init .nil pass0 (pa_cons (pv 0) pa_nil)))
      (pss_one (ps_ret (pe_op op_sub (pe_meth (pv 3) T.cl_Tally T.me_Tally_below G_Tally_below (hr.mono (by decide)) T.b_Tally_below .nil pass0 (pa_cons (pv 2) pa_nil)) (pe_meth (pv 3) T.cl_Tally T.me_Tally_below G_Tally_below (hr.mono (by decide)) T.b_Tally_below .nil pass0 (pa_cons (pv 1) pa_nil))))))),
    (s_seq (s_if (sim_tst (sim_ii (sim_var (i := 2)) (sim_var (i := 1)) fun _ _ => rfl)) (s_ret (sim_c (v := .int 0) rfl)) s_next)
      (s_seq (s_asg (sim_makeD T.n_Tally (sim_cons (sim_var (i := 0)) sim_nil)) (g_name (i := 3)))
      (s_ret (sim_ii (sim_methD T.n_Tally (sim_var (i := 3)) (sim_cons (sim_var (i := 2)) sim_nil)) (sim_methD T.n_Tally (sim_var (i := 3)) (sim_cons (sim_var (i := 1)) sim_nil)) fun _ _ => rfl)))), pure_count_in⟩
theorem ok_nth_from (T : Tx K mg) (G_Tally_init : FnOk P w K mg base CX0 5 T.a_Tally_init T.d_Tally_init ["self", "dayset"] (spO K "Tally" 1 S_Tally_init)) (G_Tally_at : FnOk P w K mg base CX0 4 T.a_Tally_at T.d_Tally_at ["self", "index"] (spP K 2 S_Tally_at)) (G_Tally_below : FnOk P w K mg base CX0 4 T.a_Tally_below T.d_Tally_below ["self", "mark"] (spP K 2 S_Tally_below)) : FnOk P w K mg base CX0 7 T.a_nth_from T.d_nth_from ["dayset", "day", "number"] (spP K 3 S_nth_from) := by
  refine ok_P T.f_nth_from sc_nth_from rfl fun cdv A outer s H E hr => ?_
  exact ⟨_, p_nth_from, (pss_cons (ps_set (i := 3) sc_nth_from.nd rfl (.inl rfl) (pe_make T.mk_Tally G_Tally_init (hr.mono (by decide)) (by rfl) T.g_Tally T.b_Tally_init .nil pass0 (pa_cons (pv 0) pa_nil)))
      (pss_one (ps_ret (pe_meth (pv 3) T.cl_Tally T.me_Tally_at G_Tally_at (hr.mono (by decide)) T.b_Tally_at .nil pass0 (pa_cons (pe_op op_sub (pe_op op_plus (pe_meth (pv 3) T.cl_Tally T.me_Tally_below G_Tally_below (hr.mono (by decide)) T.b_Tally_below .nil pass0 (pa_cons (pv 1) pa_nil)) (pv 2)) pe_int) pa_nil))))),
    (s_seq (s_asg (sim_makeD T.n_Tally (sim_cons (sim_var (i := 0)) sim_nil)) (g_name (i := 3)))
      (s_ret (sim_methD T.n_Tally (sim_var (i := 3)) (sim_cons (sim_ii (sim_plus (sim_methD T.n_Tally (sim_var (i := 3)) (sim_cons (sim_var (i := 1)) sim_nil)) (sim_var (i := 2))) (sim_c (v := .int 1) rfl) fun _ _ => rfl) sim_nil)))), pure_nth_from⟩
theorem ok_law_draws (T : Tx K mg) : FnOk P w K mg base CX0 1 T.a_law_draws T.d_law_draws ["cell", "modulus", "count"] (spP K 3 S_law_draws) := by
  refine ok_P T.f_law_draws sc_law_draws rfl fun cdv A outer s H E hr => ?_
  exact ⟨_, p_law_draws, (pss_cons (ps_set (i := 3) sc_law_draws.nd rfl (.inl rfl) (pv 0))
      (pss_cons (ps_if (pt_cmpR op_lt (pv 3) pe_int (nomark _)) (pss_one (ps_set (i := 3) sc_law_draws.nd rfl (.inl rfl) (pe_op op_sub (pe_op op_sub pe_int pe_int) (pv 3)))) pss_nil)
      (pss_cons (ps_set (i := 4) sc_law_draws.nd rfl (.inl rfl) (pe_lst pa_nil))
      (pss_cons (ps_if (pt_cmpR op_ge (pv 3) (pe_op op_pow pe_int pe_int) (nomark _)) (pss_cons (ps_for PassesOwn.never rfl (pi_range1 rfl T.range (pa_cons (pv 2) pa_nil)) (pg_name (i := 5) sc_law_draws.nd rfl (.inl rfl)) (pss_cons (ps_expr (pe_bm PySem.F.plainAttrs_list PySem.F.slot_list_append PySem.F.type_list_append mt_append (pv 4) (pa_cons (pe_op op_mod (pe_callTy c_int (by rfl) T.int (by decide +kernel) (pa_cons (pv 3) pa_nil)) (pv 1)) pa_nil)))
      (pss_one (ps_set (i := 3) sc_law_draws.nd rfl (.inl rfl) (pe_op op_fdiv (pv 3) (pv 1))))))
      (pss_one (ps_ret (pv 4)))) pss_nil)
      (pss_cons (ps_for PassesOwn.never rfl (pi_range1 rfl T.range (pa_cons (pv 2) pa_nil)) (pg_name (i := 5) sc_law_draws.nd rfl (.inl rfl)) (pss_cons (ps_set (i := 6) sc_law_draws.nd rfl (.inl rfl) (pe_op op_mod (pe_callTy c_int (by rfl) T.int (by decide +kernel) (pa_cons (pe_op op_mul (pe_op op_plus (pe_op op_plus (pv 3) (pe_op op_mul pe_int (pv 5))) pe_int) pe_int) pa_nil)) pe_int))
      (pss_cons (ps_set (i := 6) sc_law_draws.nd rfl (.inl rfl) (pe_op op_mod (pe_callTy c_int (by rfl) T.int (by decide +kernel) (pa_cons (pe_op op_plus (pe_op op_mul (pv 6) pe_int) (pe_op op_mul pe_int (pv 5))) pa_nil)) pe_int))
      (pss_one (ps_expr (pe_bm PySem.F.plainAttrs_list PySem.F.slot_list_append PySem.F.type_list_append mt_append (pv 4) (pa_cons (pe_op op_mod (pe_callTy c_int (by rfl) T.int (by decide +kernel) (pa_cons (pe_op op_fdiv (pv 6) pe_int) pa_nil)) (pv 1)) pa_nil)))))))
      (pss_one (ps_ret (pv 4)))))))),
    (s_seq (s_asg (sim_var (i := 0)) (g_name (i := 3)))
      (s_seq (s_if (sim_tst (sim_ii (sim_var (i := 3)) (sim_c (v := .int 0) rfl) fun _ _ => rfl)) (s_asg (sim_ii (sim_ii (sim_c (v := .int 0) rfl) (sim_c (v := .int 1) rfl) fun _ _ => rfl) (sim_var (i := 3)) fun _ _ => rfl) (g_name (i := 3))) s_next)
      (s_seq (s_asgO (i := 4) (sim_lst sim_nil))
      (s_seq (s_if (sim_tst (sim_ii (sim_var (i := 3)) (sim_iic (sim_c (v := .int 10) rfl) (sim_c (v := .int 18) rfl) fun _ _ => rfl) fun _ _ => rfl)) (s_seq (s_rng1 (sim_cons (sim_var (i := 2)) sim_nil) (g_name (i := 5)) (s_seq (s_app (i := 4) (sim_iic (sim_int (sim_cons (sim_var (i := 3)) sim_nil)) (sim_var (i := 1)) fun _ _ => rfl))
      (s_asg (sim_iic (sim_var (i := 3)) (sim_var (i := 1)) fun _ _ => rfl) (g_name (i := 3)))) (fun ρ R h => by exact (pcons_len1 h)))
      (s_retO (i := 4))) s_next)
      (s_seq (s_rng1 (sim_cons (sim_var (i := 2)) sim_nil) (g_name (i := 5)) (s_seq (s_asg (sim_iic (sim_int (sim_cons (sim_iic (sim_plus (sim_plus (sim_var (i := 3)) (sim_iic (sim_c (v := .int 7) rfl) (sim_var (i := 5)) fun _ _ => rfl)) (sim_c (v := .int 1) rfl)) (sim_c (v := .int 48271) rfl) fun _ _ => rfl) sim_nil)) (sim_c (v := .int 2147483647) rfl) fun _ _ => rfl) (g_name (i := 6)))
      (s_seq (s_asg (sim_iic (sim_int (sim_cons (sim_plus (sim_iic (sim_var (i := 6)) (sim_c (v := .int 69621) rfl) fun _ _ => rfl) (sim_iic (sim_c (v := .int 31) rfl) (sim_var (i := 5)) fun _ _ => rfl)) sim_nil)) (sim_c (v := .int 2147483629) rfl) fun _ _ => rfl) (g_name (i := 6)))
      (s_app (i := 4) (sim_iic (sim_int (sim_cons (sim_iic (sim_var (i := 6)) (sim_c (v := .int 7) rfl) fun _ _ => rfl) sim_nil)) (sim_var (i := 1)) fun _ _ => rfl)))) (fun ρ R h => by exact (pcons_len1 h)))
      (s_retO (i := 4))))))), pure_law_draws⟩
theorem ok_law_side (T : Tx K mg) (G_law_next : FnOk P w K mg base CX0 1 T.a_law_next T.d_law_next ["box", "modulus"] (spB K 1 S_law_next)) : FnOk P w K mg base CX0 2 T.a_law_side T.d_law_side ["box"] (spB K 0 S_law_side7) := by
  refine ok_B T.f_law_side sc_law_side rfl fun cdv A outer s H E hr => ?_
  exact ⟨_, p_law_side, (pss_cons (ps_set (i := 1) sc_law_side.nd rfl (.inr rfl) (pe_op op_plus pe_int (pe_call G_law_next (hr.mono (by decide)) (by rfl) T.m_law_next T.f_law_next.kp T.b_law_next .nil pass0 (pa_cons (pv 0) (pa_cons pe_int pa_nil)))))
      (pss_cons (ps_if (pt_cmpR (op_eqD (hu65 hr)) (pe_call G_law_next (hr.mono (by decide)) (by rfl) T.m_law_next T.f_law_next.kp T.b_law_next .nil pass0 (pa_cons (pv 0) (pa_cons pe_int pa_nil))) pe_int (nomark _)) (pss_one (ps_set (i := 1) sc_law_side.nd rfl (.inr rfl) (pe_ix ix_seq (pe_lst (pa_cons pe_int (pa_cons pe_int (pa_cons pe_int pa_nil)))) (pe_call G_law_next (hr.mono (by decide)) (by rfl) T.m_law_next T.f_law_next.kp T.b_law_next .nil pass0 (pa_cons (pv 0) (pa_cons pe_int pa_nil))) (fun _ _ => rfl)))) pss_nil)
      (pss_cons (ps_set (i := 2) sc_law_side.nd rfl (.inl rfl) (pe_callB (cr_sortedSet rfl) (by rfl) T.sorted (by decide +kernel) (pa_cons (pe_callTy (c_setL rfl) (by rfl) T.set (by decide +kernel) (pa_cons (pe_lc (own := [("k", 3)]) (g := gName 3) (tt := tYes) (by rfl) sc_law_side.nd (pi_range1 rfl T.range (pa_cons (pe_call G_law_next (hr.mono (by decide)) (by rfl) T.m_law_next T.f_law_next.kp T.b_law_next .nil pass0 (pa_cons (pv 0) (pa_cons pe_int pa_nil))) pa_nil)) (blkOk_by (N := N_law_side) (sc := defScope s_law_side) (by decide +kernel)) (fun _ _ _ _ _ => pg_name (i := 3) sc_law_side.nd rfl (Or.inl rfl)) (fun _ _ _ _ _ => pts_nil) (fun _ _ _ _ _ => (pe_call G_law_next (hr.mono (by decide)) (by rfl) T.m_law_next T.f_law_next.kp T.b_law_next .nil pass0 (pa_cons (pv 0) (pa_cons (pv 1) pa_nil))))) pa_nil)) pa_nil)))
      (pss_cons (ps_if (pt_cmpR (op_eqD (hu65 hr)) (pe_op op_mod (pe_callB c_len (by rfl) T.len PySem.boot_len (pa_cons (pv 2) pa_nil)) pe_int) pe_int (nomark _)) (pss_one (ps_set (i := 2) sc_law_side.nd rfl (.inl rfl) (pe_slice sl_cut (pv 2) (po_some pe_int) po_none))) pss_nil)
      (pss_one (ps_ret (pe_tup (pa_cons (pv 1) (pa_cons (pe_callTy c_tuple (by rfl) T.tuple (by decide +kernel) (pa_cons (pv 2) pa_nil)) (pa_cons (pe_cmpR (op_eqD (hu65 hr)) (pe_call G_law_next (hr.mono (by decide)) (by rfl) T.m_law_next T.f_law_next.kp T.b_law_next .nil pass0 (pa_cons (pv 0) (pa_cons pe_int pa_nil))) pe_int (nomark _)) pa_nil)))))))))),
    (s_seq (s_asg (sim_plus (sim_c (v := .int 1) rfl) (sim_callB (i := 0) (sim_cons (sim_c (v := .int 8) rfl) sim_nil))) (g_name (i := 1)))
      (s_seq (s_if (sim_tst (sim_eqD (sim_callB (i := 0) (sim_cons (sim_c (v := .int 6) rfl) sim_nil)) (sim_c (v := .int 0) rfl))) (s_asg (sim_ix (sim_new (sim_lst (sim_cons (sim_c (v := .int 11) rfl) (sim_cons (sim_c (v := .int 30) rfl) (sim_cons (sim_c (v := .int 97) rfl) sim_nil))))) (sim_callB (i := 0) (sim_cons (sim_c (v := .int 3) rfl) sim_nil))) (g_name (i := 1))) s_next)
      (s_seq (s_asg (sim_new (sim_sortSet (sim_cons (sim_new (sim_lcR1 (vs := [3]) (is := [3]) (sim_cons (sim_callB (i := 0) (sim_cons (sim_c (v := .int 5) rfl) sim_nil)) sim_nil) (gv_name (by simp)) t_yes (sim_callB (i := 0) (sim_cons (sim_var (i := 1)) sim_nil)) (fun ρ R h => by exact (pcons_len1 h)))) sim_nil))) (g_name (i := 2)))
      (s_seq (s_if (sim_tst (sim_eqD (sim_iic (sim_len (sim_cons (sim_var (i := 2)) sim_nil)) (sim_c (v := .int 2) rfl) fun _ _ => rfl) (sim_c (v := .int 1) rfl))) (s_asg (sim_cut (sim_var (i := 2)) (o_some (sim_c (v := .int 1) rfl)) o_none) (g_name (i := 2))) s_next)
      (s_ret (sim_tup (sim_cons (sim_var (i := 1)) (sim_cons (sim_tuple (sim_cons (sim_var (i := 2)) sim_nil)) (sim_cons (sim_eqD (sim_callB (i := 0) (sim_cons (sim_c (v := .int 2) rfl) sim_nil)) (sim_c (v := .int 1) rfl)) sim_nil))))))))), pure_law_side7⟩
theorem ok_law_dayset (T : Tx K mg) (G_law_side : FnOk P w K mg base CX0 2 T.a_law_side T.d_law_side ["box"] (spB K 0 S_law_side7)) (G_law_next : FnOk P w K mg base CX0 1 T.a_law_next T.d_law_next ["box", "modulus"] (spB K 1 S_law_next)) : FnOk P w K mg base CX0 3 T.a_law_dayset T.d_law_dayset ["box"] (spB K 0 S_law_dayset10) := by
  refine ok_B T.f_law_dayset sc_law_dayset rfl fun cdv A outer s H E hr => ?_
  exact ⟨_, p_law_dayset7, (pss_cons (ps_set (i := 1) sc_law_dayset.nd rfl (.inl rfl) (pe_op op_sub (pe_call G_law_next (hr.mono (by decide)) (by rfl) T.m_law_next T.f_law_next.kp T.b_law_next .nil pass0 (pa_cons (pv 0) (pa_cons pe_int pa_nil))) pe_int))
      (pss_cons (ps_set (i := 2) sc_law_dayset.nd rfl (.inl rfl) (pv 1))
      (pss_cons (ps_set (i := 3) sc_law_dayset.nd rfl (.inl rfl) (pe_lst pa_nil))
      (pss_cons (ps_for PassesOwn.never rfl (pi_range1 rfl T.range (pa_cons (pe_call G_law_next (hr.mono (by decide)) (by rfl) T.m_law_next T.f_law_next.kp T.b_law_next .nil pass0 (pa_cons (pv 0) (pa_cons pe_int pa_nil))) pa_nil)) (pg_name (i := 4) sc_law_dayset.nd rfl (.inl rfl)) (pss_cons (ps_set (i := 5) sc_law_dayset.nd rfl (.inl rfl) (pe_op op_plus (pe_op op_plus (pv 2) (pe_call G_law_next (hr.mono (by decide)) (by rfl) T.m_law_next T.f_law_next.kp T.b_law_next .nil pass0 (pa_cons (pv 0) (pa_cons pe_int pa_nil)))) (pe_callTy c_int (by rfl) T.int (by decide +kernel) (pa_cons (pe_cmpR op_gt (pe_callB c_len (by rfl) T.len PySem.boot_len (pa_cons (pv 3) pa_nil)) pe_int (nomark _)) pa_nil))))
      (pss_cons (ps_expr (pe_bm PySem.F.plainAttrs_list PySem.F.slot_list_append PySem.F.type_list_append mt_append (pv 3) (pa_cons (pe_tup (pa_cons (pv 5) (pa_cons (pe_op op_plus (pe_op op_plus (pv 5) pe_int) (pe_call G_law_next (hr.mono (by decide)) (by rfl) T.m_law_next T.f_law_next.kp T.b_law_next .nil pass0 (pa_cons (pv 0) (pa_cons pe_int pa_nil)))) pa_nil))) pa_nil)))
      (pss_one (ps_set (i := 2) sc_law_dayset.nd rfl (.inl rfl) (pe_ix ix_seq (pe_ix ix_seq (pv 3) (pe_un un_neg pe_int) (fun _ _ => rfl)) pe_int (fun _ _ => rfl)))))))
      (pss_cons (ps_set (i := 6) sc_law_dayset.nd rfl (.inl rfl) (pe_call G_law_side (hr.mono (by decide)) (by rfl) T.m_law_side T.f_law_side.kp T.b_law_side .nil pass0 (pa_cons (pv 0) pa_nil)))
      (pss_cons (ps_set (i := 7) sc_law_dayset.nd rfl (.inl rfl) (pe_ifExp (pt_cmpR (op_eqD (hu65 hr)) (pe_call G_law_next (hr.mono (by decide)) (by rfl) T.m_law_next T.f_law_next.kp T.b_law_next .nil pass0 (pa_cons (pv 0) (pa_cons pe_int pa_nil))) pe_int (nomark _)) (pv 6) (pe_call G_law_side (hr.mono (by decide)) (by rfl) T.m_law_side T.f_law_side.kp T.b_law_side .nil pass0 (pa_cons (pv 0) pa_nil))))
      (pss_one (ps_ret (pe_tup (pa_cons (pv 6) (pa_cons (pv 1) (pa_cons (pe_callTy c_tuple (by rfl) T.tuple (by decide +kernel) (pa_cons (pv 3) pa_nil)) (pa_cons (pe_op op_plus (pv 2) (pe_call G_law_next (hr.mono (by decide)) (by rfl) T.m_law_next T.f_law_next.kp T.b_law_next .nil pass0 (pa_cons (pv 0) (pa_cons pe_int pa_nil)))) (pa_cons (pv 7) pa_nil)))))))))))))),
    (s_seq (s_asg (sim_ii (sim_callB (i := 0) (sim_cons (sim_c (v := .int 21) rfl) sim_nil)) (sim_c (v := .int 10) rfl) fun _ _ => rfl) (g_name (i := 1)))
      (s_seq (s_asg (sim_var (i := 1)) (g_name (i := 2)))
      (s_seq (s_asgO (i := 3) (sim_lst sim_nil))
      (s_seq (s_rng1 (sim_cons (sim_callB (i := 0) (sim_cons (sim_c (v := .int 4) rfl) sim_nil)) sim_nil) (g_name (i := 4)) (s_seq (s_asg (sim_plus (sim_plus (sim_var (i := 2)) (sim_callB (i := 0) (sim_cons (sim_c (v := .int 4) rfl) sim_nil))) (sim_int (sim_cons (sim_ii (sim_lenO (i := 3)) (sim_c (v := .int 0) rfl) fun _ _ => rfl) sim_nil))) (g_name (i := 5)))
      (s_seq (s_app (i := 3) (sim_tup (sim_cons (sim_var (i := 5)) (sim_cons (sim_plus (sim_plus (sim_var (i := 5)) (sim_c (v := .int 1) rfl)) (sim_callB (i := 0) (sim_cons (sim_c (v := .int 4) rfl) sim_nil))) sim_nil))))
      (s_asg (sim_ix (sim_ixO (i := 3) (sim_u (sim_c (v := .int 1) rfl) fun _ => rfl)) (sim_c (v := .int 1) rfl)) (g_name (i := 2))))) (fun ρ R h => by exact (pcons_len1 h)))
      (s_seq (s_asg (sim_callB (i := 0) sim_nil) (g_name (i := 6)))
      (s_seq (s_asg (sim_ifE (sim_tst (sim_eqD (sim_callB (i := 0) (sim_cons (sim_c (v := .int 4) rfl) sim_nil)) (sim_c (v := .int 0) rfl))) (sim_var (i := 6)) (sim_callB (i := 0) sim_nil)) (g_name (i := 7)))
      (s_ret (sim_tup (sim_cons (sim_var (i := 6)) (sim_cons (sim_var (i := 1)) (sim_cons (sim_tupO (i := 3)) (sim_cons (sim_plus (sim_var (i := 2)) (sim_callB (i := 0) (sim_cons (sim_c (v := .int 4) rfl) sim_nil))) (sim_cons (sim_var (i := 7)) sim_nil))))))))))))), pure_law_dayset10⟩
theorem ok_law_in_side (T : Tx K mg) : FnOk P w K mg base CX0 1 T.a_law_in_side T.d_law_in_side ["side", "day"] (spP K 2 S_law_in_side) := by
  refine ok_P T.f_law_in_side sc_law_in_side rfl fun cdv A outer s H E hr => ?_
  exact ⟨_, p_law_in_side, (pss_cons (ps_set (i := 2) sc_law_in_side.nd rfl (.inl rfl) (pe_callB c_len (by rfl) T.len PySem.boot_len (pa_cons (pe_lc (own := [("border", 3)]) (g := gName 3) (by rfl) sc_law_in_side.nd (pi_tup (pe_ix ix_seq (pv 0) pe_int (fun _ _ => rfl))) (blkOk_by (N := N_law_in_side) (sc := defScope s_law_in_side) (by decide +kernel)) (fun _ _ _ _ _ => pg_name (i := 3) sc_law_in_side.nd rfl (Or.inl rfl)) (fun _ _ _ _ _ => pts_one (pt_cmpR op_le (pv 3) (pe_op op_mod (pv 1) (pe_ix ix_seq (pv 0) pe_int (fun _ _ => rfl))) (nomark _))) (fun _ _ _ _ _ => (pv 3))) pa_nil)))
      (pss_one (ps_ret (pe_cmpR (op_neD (hu65 hr)) (pe_ix ix_seq (pv 0) pe_int (fun _ _ => rfl)) (pe_cmpR (op_eqD (hu65 hr)) (pe_op op_mod (pv 2) pe_int) pe_int (nomark _)) (nomark _))))),
    (s_seq (s_asg (sim_len (sim_cons (sim_new (sim_lcT (vs := [3]) (is := [3]) (sim_ix (sim_var (i := 0)) (sim_c (v := .int 1) rfl)) (gv_name (by simp)) (sim_tst (sim_ii (sim_var (i := 3)) (sim_iic (sim_var (i := 1)) (sim_ix (sim_var (i := 0)) (sim_c (v := .int 0) rfl)) fun _ _ => rfl) fun _ _ => rfl)) (sim_var (i := 3)))) sim_nil)) (g_name (i := 2)))
      (s_ret (sim_neD (sim_ix (sim_var (i := 0)) (sim_c (v := .int 2) rfl)) (sim_eqD (sim_iic (sim_var (i := 2)) (sim_c (v := .int 2) rfl) fun _ _ => rfl) (sim_c (v := .int 1) rfl))))), pure_law_in_side⟩
theorem ok_law_in (T : Tx K mg) (G_law_in_side : FnOk P w K mg base CX0 1 T.a_law_in_side T.d_law_in_side ["side", "day"] (spP K 2 S_law_in_side)) : FnOk P w K mg base CX0 2 T.a_law_in T.d_law_in ["dayset", "day"] (spP K 2 S_law_in) := by
  refine ok_P T.f_law_in sc_law_in rfl fun cdv A outer s H E hr => ?_
  exact ⟨_, p_law_in, (pss_cons (ps_asg (pv 0) (pg_tup rfl (pgs_cons (pg_name (i := 2) sc_law_in.nd rfl (.inl rfl)) (pgs_cons (pg_name (i := 3) sc_law_in.nd rfl (.inl rfl)) (pgs_cons (pg_name (i := 4) sc_law_in.nd rfl (.inl rfl)) (pgs_cons (pg_name (i := 5) sc_law_in.nd rfl (.inl rfl)) (pgs_cons (pg_name (i := 6) sc_law_in.nd rfl (.inl rfl)) pgs_nil)))))))
      (pss_cons (ps_if (pt_cmpR op_lt (pv 1) (pv 3) (nomark _)) (pss_one (ps_ret (pe_call G_law_in_side (hr.mono (by decide)) (by rfl) T.m_law_in_side T.f_law_in_side.kp T.b_law_in_side .nil pass0 (pa_cons (pv 2) (pa_cons (pv 1) pa_nil))))) pss_nil)
      (pss_cons (ps_if (pt_cmpR op_ge (pv 1) (pv 5) (nomark _)) (pss_one (ps_ret (pe_call G_law_in_side (hr.mono (by decide)) (by rfl) T.m_law_in_side T.f_law_in_side.kp T.b_law_in_side .nil pass0 (pa_cons (pv 6) (pa_cons (pv 1) pa_nil))))) pss_nil)
      (pss_one (ps_ret (pe_callB (cr_any rfl) (by rfl) T.any (by decide +kernel) (pa_cons (pe_lc (own := [("run", 7)]) (g := gName 7) (tt := tYes) (by rfl) sc_law_in.nd (pi_tup (pv 4)) (blkOk_by (N := N_law_in) (sc := defScope s_law_in) (by decide +kernel)) (fun _ _ _ _ _ => pg_name (i := 7) sc_law_in.nd rfl (Or.inl rfl)) (fun _ _ _ _ _ => pts_nil) (fun _ _ _ _ _ => (pe_chain op_le op_lt (pe_ix ix_seq (pv 7) pe_int (fun _ _ => rfl)) (pv 1) (pe_ix ix_seq (pv 7) pe_int (fun _ _ => rfl))))) pa_nil))))))),
    (s_seq (s_asg (sim_var (i := 0)) (g_tup (gs_cons (i := 2) (gs_cons (i := 3) (gs_cons (i := 4) (gs_cons (i := 5) (gs_cons (i := 6) gs_nil))))) rfl))
      (s_seq (s_if (sim_tst (sim_ii (sim_var (i := 1)) (sim_var (i := 3)) fun _ _ => rfl)) (s_ret (sim_call (sim_cons (sim_var (i := 2)) (sim_cons (sim_var (i := 1)) sim_nil)))) s_next)
      (s_seq (s_if (sim_tst (sim_ii (sim_var (i := 1)) (sim_var (i := 5)) fun _ _ => rfl)) (s_ret (sim_call (sim_cons (sim_var (i := 6)) (sim_cons (sim_var (i := 1)) sim_nil)))) s_next)
      (s_ret (sim_any (sim_cons (sim_new (sim_lcT (vs := [7]) (is := [7]) (sim_var (i := 4)) (gv_name (by simp)) t_yes (sim_chain (f := fun i j => decide (i ≤ j)) (g := fun i j => decide (i < j)) (sim_ix (sim_var (i := 7)) (sim_c (v := .int 0) rfl)) (sim_var (i := 1)) (sim_ix (sim_var (i := 7)) (sim_c (v := .int 1) rfl))))) sim_nil)))))), pure_law_in⟩
theorem ok_law_count (T : Tx K mg) (G_law_in : FnOk P w K mg base CX0 2 T.a_law_in T.d_law_in ["dayset", "day"] (spP K 2 S_law_in)) (G_law_in_side : FnOk P w K mg base CX0 1 T.a_law_in_side T.d_law_in_side ["side", "day"] (spP K 2 S_law_in_side)) : FnOk P w K mg base CX0 3 T.a_law_count T.d_law_count ["dayset", "first", "end"] (spP K 3 S_law_count) := by
  refine ok_P T.f_law_count sc_law_count rfl fun cdv A outer s H E hr => ?_
  exact ⟨_, p_law_count, (pss_cons (ps_set (i := 3) sc_law_count.nd rfl (.inl rfl) pe_int)
      (pss_cons (ps_set (i := 4) sc_law_count.nd rfl (.inl rfl) (pv 1))
      (pss_cons (ps_while PassesOwn.never (pt_cmpR op_lt (pv 4) (pv 2) (nomark _)) (pss_cons (ps_set (i := 5) sc_law_count.nd rfl (.inr rfl) pe_non)
      (pss_cons (ps_set (i := 6) sc_law_count.nd rfl (.inl rfl) (pv 2))
      (pss_cons (ps_if (pt_cmpR op_ge (pv 4) (pe_ix ix_seq (pv 0) pe_int (fun _ _ => rfl)) (nomark _)) (pss_one (ps_set (i := 5) sc_law_count.nd rfl (.inr rfl) (pe_ix ix_seq (pv 0) pe_int (fun _ _ => rfl)))) (pss_one (ps_if (pt_cmpR op_lt (pv 4) (pe_ix ix_seq (pv 0) pe_int (fun _ _ => rfl)) (nomark _)) (pss_cons (ps_set (i := 5) sc_law_count.nd rfl (.inr rfl) (pe_ix ix_seq (pv 0) pe_int (fun _ _ => rfl)))
      (pss_one (ps_set (i := 6) sc_law_count.nd rfl (.inl rfl) (pe_callB (c_min2 rfl) (by rfl) T.min (by decide +kernel) (pa_cons (pv 2) (pa_cons (pe_ix ix_seq (pv 0) pe_int (fun _ _ => rfl)) pa_nil)))))) pss_nil)))
      (pss_one (ps_if (PW.pt (pw_and (pt_cmpR op_notN1 (pv 5) pe_non (nomark _)) (pw_and1 (pt_cmpR op_ge (pe_op op_sub (pv 6) (pv 4)) (pe_ix ix_seq (pv 5) pe_int (fun _ _ => rfl)) (nomark _))))) (pss_cons (ps_set (i := 7) sc_law_count.nd rfl (.inl rfl) (pe_op op_fdiv (pe_op op_sub (pv 6) (pv 4)) (pe_ix ix_seq (pv 5) pe_int (fun _ _ => rfl))))
      (pss_cons (ps_set (i := 3) sc_law_count.nd rfl (.inl rfl) (pe_op op_plus (pv 3) (pe_op op_mul (pv 7) (pe_callB c_len (by rfl) T.len PySem.boot_len (pa_cons (pe_lc (own := [("day", 8)]) (g := gName 8) (by rfl) sc_law_count.nd (pi_range1 rfl T.range (pa_cons (pe_ix ix_seq (pv 5) pe_int (fun _ _ => rfl)) pa_nil)) (blkOk_by (N := N_law_count) (sc := defScope s_law_count) (by decide +kernel)) (fun _ _ _ _ _ => pg_name (i := 8) sc_law_count.nd rfl (Or.inl rfl)) (fun _ _ _ _ _ => pts_one (pt_val (pe_call G_law_in_side (hr.mono (by decide)) (by rfl) T.m_law_in_side T.f_law_in_side.kp T.b_law_in_side .nil pass0 (pa_cons (pv 5) (pa_cons (pv 8) pa_nil))))) (fun _ _ _ _ _ => (pv 8))) pa_nil)))))
      (pss_one (ps_set (i := 4) sc_law_count.nd rfl (.inl rfl) (pe_op op_plus (pv 4) (pe_op op_mul (pv 7) (pe_ix ix_seq (pv 5) pe_int (fun _ _ => rfl)))))))) (pss_cons (ps_set (i := 3) sc_law_count.nd rfl (.inl rfl) (pe_op op_plus (pv 3) (pe_callTy c_int (by rfl) T.int (by decide +kernel) (pa_cons (pe_call G_law_in (hr.mono (by decide)) (by rfl) T.m_law_in T.f_law_in.kp T.b_law_in .nil pass0 (pa_cons (pv 0) (pa_cons (pv 4) pa_nil))) pa_nil))))
      (pss_one (ps_set (i := 4) sc_law_count.nd rfl (.inl rfl) (pe_op op_plus (pv 4) pe_int))))))))))
      (pss_one (ps_ret (pv 3)))))),
    (s_seq (s_asg (sim_c (v := .int 0) rfl) (g_name (i := 3)))
      (s_seq (s_asg (sim_var (i := 1)) (g_name (i := 4)))
      (s_seq (s_while (sim_tst (sim_ii (sim_var (i := 4)) (sim_var (i := 2)) fun _ _ => rfl)) (s_seq (s_asg (sim_c (v := .non) rfl) (g_name (i := 5)))
      (s_seq (s_asg (sim_var (i := 2)) (g_name (i := 6)))
      (s_seq (s_if (sim_tst (sim_ii (sim_var (i := 4)) (sim_ix (sim_var (i := 0)) (sim_c (v := .int 3) rfl)) fun _ _ => rfl)) (s_asg (sim_ix (sim_var (i := 0)) (sim_c (v := .int 4) rfl)) (g_name (i := 5))) (s_if (sim_tst (sim_ii (sim_var (i := 4)) (sim_ix (sim_var (i := 0)) (sim_c (v := .int 1) rfl)) fun _ _ => rfl)) (s_seq (s_asg (sim_ix (sim_var (i := 0)) (sim_c (v := .int 0) rfl)) (g_name (i := 5)))
      (s_asg (sim_min2 (sim_cons (sim_var (i := 2)) (sim_cons (sim_ix (sim_var (i := 0)) (sim_c (v := .int 1) rfl)) sim_nil))) (g_name (i := 6)))) s_next))
      (s_if (sim_and (sim_tst (sim_notN (sim_var (i := 5)))) (sim_tst (sim_ii (sim_ii (sim_var (i := 6)) (sim_var (i := 4)) fun _ _ => rfl) (sim_ix (sim_var (i := 5)) (sim_c (v := .int 0) rfl)) fun _ _ => rfl))) (s_seq (s_asg (sim_iic (sim_ii (sim_var (i := 6)) (sim_var (i := 4)) fun _ _ => rfl) (sim_ix (sim_var (i := 5)) (sim_c (v := .int 0) rfl)) fun _ _ => rfl) (g_name (i := 7)))
      (s_seq (s_asg (sim_plus (sim_var (i := 3)) (sim_iic (sim_var (i := 7)) (sim_len (sim_cons (sim_new (sim_lcR1 (vs := [8]) (is := [8]) (sim_cons (sim_ix (sim_var (i := 5)) (sim_c (v := .int 0) rfl)) sim_nil) (gv_name (by simp)) (sim_tB (sim_call (sim_cons (sim_var (i := 5)) (sim_cons (sim_var (i := 8)) sim_nil)))) (sim_var (i := 8)) (fun ρ R h => by exact (pcons_len1 h)))) sim_nil)) fun _ _ => rfl)) (g_name (i := 3)))
      (s_asg (sim_plus (sim_var (i := 4)) (sim_iic (sim_var (i := 7)) (sim_ix (sim_var (i := 5)) (sim_c (v := .int 0) rfl)) fun _ _ => rfl)) (g_name (i := 4))))) (s_seq (s_asg (sim_plus (sim_var (i := 3)) (sim_int (sim_cons (sim_call (sim_cons (sim_var (i := 0)) (sim_cons (sim_var (i := 4)) sim_nil))) sim_nil))) (g_name (i := 3)))
      (s_asg (sim_plus (sim_var (i := 4)) (sim_c (v := .int 1) rfl)) (g_name (i := 4)))))))))
      (s_ret (sim_var (i := 3)))))), pure_law_count⟩
theorem ok_law_seek (T : Tx K mg) (G_law_in : FnOk P w K mg base CX0 2 T.a_law_in T.d_law_in ["dayset", "day"] (spP K 2 S_law_in)) : FnOk P w K mg base CX0 3 T.a_law_seek T.d_law_seek ["dayset", "day", "step"] (spP K 3 S_law_seek) := by
  refine ok_P T.f_law_seek sc_law_seek rfl fun cdv A outer s H E hr => ?_
  exact ⟨_, p_law_seek, (pss_cons (ps_set (i := 3) sc_law_seek.nd rfl (.inl rfl) (pv 1))
      (pss_cons (ps_for PassesOwn.never rfl (pi_range1 rfl T.range (pa_cons pe_int pa_nil)) (pg_name (i := 4) sc_law_seek.nd rfl (.inl rfl)) (pss_cons (ps_if (pt_val (pe_call G_law_in (hr.mono (by decide)) (by rfl) T.m_law_in T.f_law_in.kp T.b_law_in .nil pass0 (pa_cons (pv 0) (pa_cons (pv 3) pa_nil)))) (pss_one (ps_ret (pv 3))) pss_nil)
      (pss_one (ps_set (i := 3) sc_law_seek.nd rfl (.inl rfl) (pe_op op_plus (pv 3) (pv 2))))))
      (pss_one (ps_ret pe_non)))),
    (s_seq (s_asg (sim_var (i := 1)) (g_name (i := 3)))
      (s_seq (s_rng1 (sim_cons (sim_c (v := .int 200) rfl) sim_nil) (g_name (i := 4)) (s_seq (s_if (sim_tB (sim_call (sim_cons (sim_var (i := 0)) (sim_cons (sim_var (i := 3)) sim_nil)))) (s_ret (sim_var (i := 3))) s_next)
      (s_asg (sim_plus (sim_var (i := 3)) (sim_var (i := 2))) (g_name (i := 3)))) (fun ρ R h => by exact (pcons_len1 h)))
      (s_ret (sim_c (v := .non) rfl)))), pure_law_seek⟩
theorem ok_law_gap (T : Tx K mg) (G_law_next : FnOk P w K mg base CX0 1 T.a_law_next T.d_law_next ["box", "modulus"] (spB K 1 S_law_next)) (G_next_in : FnOk P w K mg base CX0 4 T.a_next_in T.d_next_in ["dayset", "day"] (spP K 2 S_next_in)) (G_last_in : FnOk P w K mg base CX0 4 T.a_last_in T.d_last_in ["dayset", "day"] (spP K 2 S_last_in)) (G_count_in : FnOk P w K mg base CX0 7 T.a_count_in T.d_count_in ["dayset", "first", "end"] (spP K 3 S_count_in)) (G_nth_from : FnOk P w K mg base CX0 7 T.a_nth_from T.d_nth_from ["dayset", "day", "number"] (spP K 3 S_nth_from)) : FnOk P w K mg base CX0 8 T.a_law_gap T.d_law_gap ["box"] (spB K 0 S_law_gap) := by
  refine ok_B T.f_law_gap sc_law_gap rfl fun cdv A outer s H E hr => ?_
  exact ⟨_, p_law_gap, (pss_cons (ps_set (i := 1) sc_law_gap.nd rfl (.inl rfl) (pe_op op_plus (pe_ix ix_seq (pe_lst (pa_cons (pe_op op_pow pe_int pe_int) (pa_cons (pe_op op_pow pe_int pe_int) (pa_cons pe_int pa_nil)))) (pe_call G_law_next (hr.mono (by decide)) (by rfl) T.m_law_next T.f_law_next.kp T.b_law_next .nil pass0 (pa_cons (pv 0) (pa_cons pe_int pa_nil))) (fun _ _ => rfl)) (pe_call G_law_next (hr.mono (by decide)) (by rfl) T.m_law_next T.f_law_next.kp T.b_law_next .nil pass0 (pa_cons (pv 0) (pa_cons pe_int pa_nil)))))
      (pss_cons (ps_set (i := 2) sc_law_gap.nd rfl (.inl rfl) (pe_call G_law_next (hr.mono (by decide)) (by rfl) T.m_law_next T.f_law_next.kp T.b_law_next .nil pass0 (pa_cons (pv 0) (pa_cons pe_int pa_nil))))
      (pss_cons (ps_set (i := 3) sc_law_gap.nd rfl (.inl rfl) (pe_tup (pa_cons pe_int (pa_cons (pe_tup pa_nil) (pa_cons pe_bl pa_nil)))))
      (pss_cons (ps_set (i := 4) sc_law_gap.nd rfl (.inl rfl) (pe_tup (pa_cons (pv 3) (pa_cons (pv 2) (pa_cons (pe_tup (pa_cons (pe_tup (pa_cons (pv 2) (pa_cons (pe_op op_plus (pv 2) pe_int) pa_nil))) (pa_cons (pe_tup (pa_cons (pv 1) (pa_cons (pe_op op_plus (pv 1) pe_int) pa_nil))) pa_nil))) (pa_cons (pe_op op_plus (pv 1) pe_int) (pa_cons (pv 3) pa_nil)))))))
      (pss_cons (ps_if (PW.pt (pw_or (pt_cmpR (op_neD (hu65 hr)) (pe_call G_next_in (hr.mono (by decide)) (by rfl) T.m_next_in T.f_next_in.kp T.b_next_in .nil pass0 (pa_cons (pv 4) (pa_cons (pe_op op_plus (pv 2) pe_int) pa_nil))) (pv 1) (nomark _)) (pw_or (pt_cmpR (op_neD (hu65 hr)) (pe_call G_last_in (hr.mono (by decide)) (by rfl) T.m_last_in T.f_last_in.kp T.b_last_in .nil pass0 (pa_cons (pv 4) (pa_cons (pe_op op_sub (pv 1) pe_int) pa_nil))) (pe_op op_plus (pv 2) pe_int) (nomark _)) (pw_or1 (pt_cmpR (op_neD (hu65 hr)) (pe_call G_count_in (hr.mono (by decide)) (by rfl) T.m_count_in T.f_count_in.kp T.b_count_in .nil pass0 (pa_cons (pv 4) (pa_cons (pe_un un_neg (pv 1)) (pa_cons (pe_op op_mul pe_int (pv 1)) pa_nil)))) pe_int (nomark _)))))) (pss_one (ps_ret pe_bl)) pss_nil)
      (pss_cons (ps_if (PW.pt (pw_or (pt_cmpR (op_neD (hu65 hr)) (pe_call G_nth_from (hr.mono (by decide)) (by rfl) T.m_nth_from T.f_nth_from.kp T.b_nth_from .nil pass0 (pa_cons (pv 4) (pa_cons (pe_op op_plus (pv 2) pe_int) (pa_cons pe_int pa_nil)))) (pv 1) (nomark _)) (pw_or (pt_cmpR (op_neD (hu65 hr)) (pe_call G_nth_from (hr.mono (by decide)) (by rfl) T.m_nth_from T.f_nth_from.kp T.b_nth_from .nil pass0 (pa_cons (pv 4) (pa_cons (pv 2) (pa_cons pe_int pa_nil)))) (pe_op op_plus (pv 1) pe_int) (nomark _)) (pw_or1 (pt_cmpR op_notN1 (pe_call G_nth_from (hr.mono (by decide)) (by rfl) T.m_nth_from T.f_nth_from.kp T.b_nth_from .nil pass0 (pa_cons (pv 4) (pa_cons (pv 2) (pa_cons pe_int pa_nil)))) pe_non (nomark _)))))) (pss_one (ps_ret pe_bl)) pss_nil)
      (pss_one (ps_ret (pe_and (pe_cmpR op_isN1 (pe_call G_next_in (hr.mono (by decide)) (by rfl) T.m_next_in T.f_next_in.kp T.b_next_in .nil pass0 (pa_cons (pv 4) (pa_cons (pe_op op_plus (pv 1) pe_int) pa_nil))) pe_non (nomark _)) (pe_and (pe_cmpR op_isN1 (pe_call G_last_in (hr.mono (by decide)) (by rfl) T.m_last_in T.f_last_in.kp T.b_last_in .nil pass0 (pa_cons (pv 4) (pa_cons (pe_op op_sub (pv 2) pe_int) pa_nil))) pe_non (nomark _)) (pe_one (pe_cmpR (op_eqD (hu65 hr)) (pe_call G_next_in (hr.mono (by decide)) (by rfl) T.m_next_in T.f_next_in.kp T.b_next_in .nil pass0 (pa_cons (pv 4) (pa_cons (pe_un un_neg (pv 1)) pa_nil))) (pv 2) (nomark _))))))))))))),
    (s_seq (s_asg (sim_plus (sim_ix (sim_new (sim_lst (sim_cons (sim_iic (sim_c (v := .int 10) rfl) (sim_c (v := .int 20) rfl) fun _ _ => rfl) (sim_cons (sim_iic (sim_c (v := .int 10) rfl) (sim_c (v := .int 6) rfl) fun _ _ => rfl) (sim_cons (sim_c (v := .int 150000) rfl) sim_nil))))) (sim_callB (i := 0) (sim_cons (sim_c (v := .int 3) rfl) sim_nil))) (sim_callB (i := 0) (sim_cons (sim_c (v := .int 50) rfl) sim_nil))) (g_name (i := 1)))
      (s_seq (s_asg (sim_callB (i := 0) (sim_cons (sim_c (v := .int 20) rfl) sim_nil)) (g_name (i := 2)))
      (s_seq (s_asg (sim_tup (sim_cons (sim_c (v := .int 1) rfl) (sim_cons (sim_tup sim_nil) (sim_cons (sim_c (v := .bl false) rfl) sim_nil)))) (g_name (i := 3)))
      (s_seq (s_asg (sim_tup (sim_cons (sim_var (i := 3)) (sim_cons (sim_var (i := 2)) (sim_cons (sim_tup (sim_cons (sim_tup (sim_cons (sim_var (i := 2)) (sim_cons (sim_plus (sim_var (i := 2)) (sim_c (v := .int 2) rfl)) sim_nil))) (sim_cons (sim_tup (sim_cons (sim_var (i := 1)) (sim_cons (sim_plus (sim_var (i := 1)) (sim_c (v := .int 3) rfl)) sim_nil))) sim_nil))) (sim_cons (sim_plus (sim_var (i := 1)) (sim_c (v := .int 3) rfl)) (sim_cons (sim_var (i := 3)) sim_nil)))))) (g_name (i := 4)))
      (s_seq (s_if (sim_or (sim_tst (sim_neD (sim_call (sim_cons (sim_var (i := 4)) (sim_cons (sim_plus (sim_var (i := 2)) (sim_c (v := .int 2) rfl)) sim_nil))) (sim_var (i := 1)))) (sim_or (sim_tst (sim_neD (sim_call (sim_cons (sim_var (i := 4)) (sim_cons (sim_ii (sim_var (i := 1)) (sim_c (v := .int 1) rfl) fun _ _ => rfl) sim_nil))) (sim_plus (sim_var (i := 2)) (sim_c (v := .int 1) rfl)))) (sim_tst (sim_neD (sim_call (sim_cons (sim_var (i := 4)) (sim_cons (sim_u (sim_var (i := 1)) fun _ => rfl) (sim_cons (sim_iic (sim_c (v := .int 2) rfl) (sim_var (i := 1)) fun _ _ => rfl) sim_nil)))) (sim_c (v := .int 5) rfl))))) (s_ret (sim_c (v := .bl false) rfl)) s_next)
      (s_seq (s_if (sim_or (sim_tst (sim_neD (sim_call (sim_cons (sim_var (i := 4)) (sim_cons (sim_plus (sim_var (i := 2)) (sim_c (v := .int 1) rfl)) (sim_cons (sim_c (v := .int 2) rfl) sim_nil)))) (sim_var (i := 1)))) (sim_or (sim_tst (sim_neD (sim_call (sim_cons (sim_var (i := 4)) (sim_cons (sim_var (i := 2)) (sim_cons (sim_c (v := .int 5) rfl) sim_nil)))) (sim_plus (sim_var (i := 1)) (sim_c (v := .int 2) rfl)))) (sim_tst (sim_notN (sim_call (sim_cons (sim_var (i := 4)) (sim_cons (sim_var (i := 2)) (sim_cons (sim_c (v := .int 6) rfl) sim_nil)))))))) (s_ret (sim_c (v := .bl false) rfl)) s_next)
      (s_ret (sim_andV (sim_isN (sim_call (sim_cons (sim_var (i := 4)) (sim_cons (sim_plus (sim_var (i := 1)) (sim_c (v := .int 3) rfl)) sim_nil)))) (sim_andV (sim_isN (sim_call (sim_cons (sim_var (i := 4)) (sim_cons (sim_ii (sim_var (i := 2)) (sim_c (v := .int 1) rfl) fun _ _ => rfl) sim_nil)))) (sim_eqD (sim_call (sim_cons (sim_var (i := 4)) (sim_cons (sim_u (sim_var (i := 1)) fun _ => rfl) sim_nil))) (sim_var (i := 2)))))))))))), pure_law_gap⟩
end
end Pr
set_option maxHeartbeats 4000000
namespace Pr
open PySem PySem.Spec PyProof.Rows L2 Pu
abbrev kRow : Key := .inr "row"
abbrev kAt : Key := .inr "at"
theorem row_ne_at : ¬ kRow = kAt := by decide +kernel
theorem val_at {x y : V} : valV [(kRow, x), (kAt, y)] kAt = some y := by
  unfold valV
  rw [List.find?_cons_of_neg (by simpa using row_ne_at), List.find?_cons_of_pos (by simp)]
  rfl
theorem val_row {x y : V} : valV [(kRow, x), (kAt, y)] kRow = some x := by
  unfold valV
  rw [List.find?_cons_of_pos (by simp)]
  rfl
theorem put_at {x y z : V} : putK [(kRow, x), (kAt, y)] kAt z = [(kRow, x), (kAt, z)] := by
  have ne : ¬ ("row" : Str) = "at" := by decide +kernel
  unfold putK
  simp
  intro h
  exact absurd h ne
theorem get_at {H : Hp} {b : Addr} {x y : V} (h : H b = some (.dK [(kRow, x), (kAt, y)])) : DGet H b (.str "at") (some y) := by
  have q := DGet.k (k := kAt) h
  rw [val_at] at q
  exact q
theorem get_row {H : Hp} {b : Addr} {x y : V} (h : H b = some (.dK [(kRow, x), (kAt, y)])) : DGet H b (.str "row") (some x) := by
  have q := DGet.k (k := kRow) h
  rw [val_row] at q
  exact q
theorem mod_at {ns : List Int} {i : Int} (h0 : 0 ≤ i) (h : 0 < ns.length) : ∃ x, x ∈ ns ∧ atI (ns.map V.int) (i % (((ns.map V.int).length : Nat) : Int)) = some (.int x) := by
  rw [List.length_map]
  have a := Int.emod_nonneg i (show ((ns.length : Nat) : Int) ≠ 0 by omega)
  have b := Int.emod_lt_of_pos i (show (0 : Int) < ((ns.length : Nat) : Int) by omega)
  obtain ⟨n, en⟩ : ∃ n : Nat, i % ((ns.length : Nat) : Int) = n := ⟨(i % ((ns.length : Nat) : Int)).toNat, by omega⟩
  have hn : n < ns.length := by omega
  refine ⟨ns[n], List.getElem_mem hn, ?_⟩
  rw [en]
  refine atI_nat ?_
  rw [List.getElem?_map, List.getElem?_eq_getElem hn]
  rfl
section
variable {P : Program} {w : World} {K : PySem.W.Frag} {mg : Str → Option Value} {base : Heap}
theorem ok_law_next (T : Tx K mg) : FnOk P w K mg base CX0 1 T.a_law_next T.d_law_next ["box", "modulus"] (spB K 1 S_law_next) := by
  refine T.f_law_next.ok sc_law_next (fun vs H Q E h => ?_) (fun cdv A outer s H vs Q E hr h => ?_)
  · obtain ⟨b, us, rfl, hl, _⟩ := h
    rw [List.length_cons, hl]
    rfl
  obtain ⟨b, us, rfl, hl, Z, ds, c, nz, hz, ⟨r, rows, at_, hb, h0, hr0, h1, h2, h3⟩, rr, hS, q⟩ := h
  have hd : ∃ m : Int, ds = [.int m] ∧ 0 < m ∧ ∀ v : Int, 0 ≤ v → v < m → c (.int v) := by
    unfold S_law_next at hS
    split at hS
    · exact ⟨_, rfl, hS⟩
    · exact hS.elim
  obtain ⟨m, rfl, m0, hk⟩ := hd
  have eu : us = [.int m] := dqs_of_ints (ns := [m]) rr
  subst eu
  have hu := hu_of hr
  obtain ⟨nr, hrow⟩ := veil_off hr0
  have nrb : r ≠ b := fun e => nr (.inr e)
  obtain ⟨x, hx, hix⟩ := mod_at h0 h1
  refine ⟨_, pss_cons (ps_set (i := 2) sc_law_next.nd rfl (.inl rfl) (pe_dget hu (pv 0) pe_str (fun _ _ => rfl)))
    (pss_cons (ps_dput hu (pv 0) pe_str (pe_op op_add (pv 2) pe_int) rfl)
    (pss_cons (ps_set (i := 3) sc_law_next.nd rfl (.inl rfl) (pe_ix ix_list (pe_dget hu (pv 0) pe_str (fun _ _ => rfl)) (pe_op op_mod (pv 2) (pe_callB call_len_seq (by rfl) T.len PySem.boot_len (pa_cons (pe_dget hu (pv 0) pe_str (fun _ _ => rfl)) pa_nil))) (fun _ _ => rfl)))
    (pss_one (ps_ret (pe_op op_mod (pe_callTy call_int1 (by rfl) T.int (by decide +kernel) (pa_cons (pe_op op_add (pv 3) (pe_op op_mul pe_int (pe_op op_fdiv (pv 2) (pe_callB call_len_seq (by rfl) T.len PySem.boot_len (pa_cons (pe_dget hu (pv 0) pe_str (fun _ _ => rfl)) pa_nil))))) pa_nil)) (pv 1)))))), ?_⟩
  refine ⟨.ref b, rfl, b, .int at_, rfl, get_at hb, ?_⟩
  refine ⟨.int at_, rfl, at_, 1, rfl, rfl, .ref b, rfl, b, _, rfl, DPut.k (k := kAt) hb (by show 2 < sizeLine; decide), ?_⟩
  rw [put_at]
  have hb' : (upd H b (.dK [(kRow, .ref r), (kAt, .int (at_ + 1))])) b = some (.dK [(kRow, .ref r), (kAt, .int (at_ + 1))]) := upd_same
  have hrow' : (upd H b (.dK [(kRow, .ref r), (kAt, .int (at_ + 1))])) r = some (.lst (rows.map V.int)) := by
    rw [upd_ne nrb]
    exact hrow
  have hlen : ((rows.map V.int).length : Int) = (rows.length : Int) := by rw [List.length_map]
  refine ⟨.ref b, rfl, b, .ref r, rfl, get_row hb', .int at_, rfl, .ref b, rfl, b, .ref r, rfl, get_row hb', r, rows.map V.int, rfl, .inl (.of hrow'), at_, _, rfl, rfl, by rw [hlen]; omega, r, rows.map V.int, _, .int x, rfl, rfl, .of hrow', hix, ?_⟩
  refine ⟨.int x, rfl, .int at_, rfl, .ref b, rfl, b, .ref r, rfl, get_row hb', r, rows.map V.int, rfl, .inl (.of hrow'), at_, _, rfl, rfl, ⟨by rw [hlen]; omega, by rw [hlen]; omega⟩, 7919, _, rfl, rfl, .inl ⟨by decide, by decide⟩, x, _, rfl, rfl, .inl ⟨_, rfl, .int m, rfl, _, m, rfl, rfl, m0, ?_⟩⟩
  refine q _ _ _ (hk _ (Int.emod_nonneg _ (by omega)) (Int.emod_lt_of_pos _ m0)) (fun a o ne e => (upd_ne ne).trans e) ⟨r, rows, at_ + 1, upd_same, by omega, ?_, h1, h2, h3⟩ (.int _)
  exact veil_on nr hrow'
/-- the making of the box -/
def spBox (K : PySem.W.Frag) : Sp := fun vs H Q _ => ∃ (a : Addr) (ns : List Int), vs = [.ref a] ∧ SqL K H a (ns.map V.int) ∧ ns.length ≤ 63 ∧
  ∀ b H', Grow H H' → H b = none → BoxAt K (fun x => x = b ∨ H x ≠ none) H' b → Q (.ref b) H'
theorem ok_law_box (T : Tx K mg) (G_law_draws : FnOk P w K mg base CX0 1 T.a_law_draws T.d_law_draws ["cell", "modulus", "count"] (spP K 3 S_law_draws)) : FnOk P w K mg base CX0 2 T.a_law_box T.d_law_box ["script"] (spBox K) := by
  refine T.f_law_box.ok sc_law_box (fun vs H Q E h => ?_) (fun cdv A outer s H vs Q E hr h => ?_)
  · obtain ⟨a, ns, rfl, _⟩ := h
    rfl
  obtain ⟨a, ns, rfl, hS, hl, q⟩ := h
  refine ⟨_, pss_cons (ps_set (i := 1) sc_law_box.nd rfl (.inl rfl) (pe_lst pa_nil))
    (pss_cons (ps_for PassesOwn.never rfl (pi_list (pv 0)) (pg_name (i := 2) sc_law_box.nd rfl (.inl rfl)) (pss_one (ps_set (i := 1) sc_law_box.nd rfl (.inl rfl)
      (pe_op op_cat (pv 1) (pe_call G_law_draws (hr.mono (by decide)) (by rfl) T.m_law_draws T.f_law_draws.kp T.b_law_draws .nil pass0 (pa_cons (pv 2) (pa_cons pe_int (pa_cons pe_int pa_nil))))))))
    (pss_cons (ps_if (pt_cmpR op_eq (pe_callB call_len_seq (by rfl) T.len PySem.boot_len (pa_cons (pv 1) pa_nil)) pe_int (nomark _))
      (pss_one (ps_set (i := 1) sc_law_box.nd rfl (.inl rfl) (pe_lst (pa_cons pe_int (pa_cons pe_int (pa_cons pe_int (pa_cons pe_int (pa_cons pe_int (pa_cons pe_int (pa_cons pe_int pa_nil))))))))))
      pss_nil)
    (pss_one (ps_ret (pe_disp (pps_cons pe_str (pv 1) (pps_cons pe_str pe_int pps_nil)) (by rfl) (by rfl) (fun z => by cases z) (by decide)))))), ?_⟩
  refine ⟨Nat.zero_le _, fun p0 n0 => ?_⟩
  -- the end: the row stands at r
  have last : ∀ (σ : L2.St) (H' : Hp) (r : Addr) (rows : List Int) (y2 : Option V), σ = [some (.ref a), some (.ref r), y2] → Grow H H' → H r = none → H' r = some (.lst (rows.map V.int)) → 0 < rows.length → rows.length ≤ 1000 → (∀ x ∈ rows, 0 ≤ x ∧ x < 1000003) →
      (tRet (tDisp [(tC (.str "row"), tVar 1), (tC (.str "at"), tC (.int 0))])) { nx := fun _ H' => Q .non H', rt := Q } σ H' := fun σ H' r rows y2 eσ g hn hr0 h1 h2 h3 b nb => by
    subst eσ
    have nrb : r ≠ b := ne_of_none hr0 nb
    refine ⟨.ref r, rfl, upd_same, [(kRow, .ref r), (kAt, .int 0)], rfl, by show 2 ≤ 15; decide, ?_⟩
    have em : mergeK [] [(kRow, V.ref r), (kAt, V.int 0)] = [(kRow, .ref r), (kAt, .int 0)] := by
      have ne : ¬ ("row" : Str) = "at" := by decide +kernel
      unfold mergeK
      simp [putK, ne]
    rw [em, upd_upd]
    refine q b _ (g.trans (grow_new nb)) ?_ ⟨r, rows, 0, upd_same, Int.le_refl _, ?_, h1, h2, h3⟩
    · cases e : H b with
      | none => rfl
      | some o =>
        rw [g b o e] at nb
        cases nb
    · refine veil_on ?_ ?_
      · rintro (e | e)
        · exact nrb e
        · exact e hn
      · rw [upd_ne nrb]
        exact hr0
  refine ⟨.ref a, rfl, a, rfl, ⟨_, grow_l (grow_new n0) hS⟩, for_list (xs := ns.map V.int) (fun i σ H' => ∃ (r : Addr) (rows : List Int) (y2 : Option V), σ = [some (.ref a), some (.ref r), y2] ∧ Grow H H' ∧ H r = none ∧ H' r = some (.lst (rows.map V.int)) ∧ rows.length = 6 * i ∧ ∀ x ∈ rows, 0 ≤ x ∧ x < 1000003)
    ⟨p0, [], none, rfl, grow_new n0, n0, upd_same, rfl, fun _ z => nomatch z⟩ (fun i σ H' _ ⟨_, _, _, _, g, _⟩ => grow_l g hS) (fun i x σ H' hx ⟨r, rows, y2, eσ, g, hn, hr0, hlen, hb⟩ => ?_) fun σ H' ⟨r, rows, y2, eσ, g, hn, hr0, hlen, hb⟩ => ?_⟩
  · subst eσ
    have hi : i < ns.length := by
      have := (List.getElem?_eq_some_iff.mp hx).1
      rwa [List.length_map] at this
    obtain ⟨n, rfl⟩ : ∃ n : Int, x = .int n := by
      rw [List.getElem?_map, List.getElem?_eq_getElem hi] at hx
      exact ⟨_, (Option.some.inj hx).symm⟩
    refine ⟨.ref r, rfl, .int n, rfl, ?_⟩
    refine ⟨rfl, fun _ => False, [.int n, .int 1000003, .int 6], fun d => ∃ ds : List Int, d = .list (ds.map PyData.int) ∧ ds.length = 6 ∧ ∀ x ∈ ds, 0 ≤ x ∧ x < 1000003, fun _ z => z.elim, dqs_ints (ns := [n, 1000003, 6]),
      ⟨by decide, by decide, by decide, by decide, fun ds h1 h2 => ⟨ds, rfl, h1, h2⟩⟩, ?_⟩
    rintro d v H1 ⟨ds, rfl, l6, b6⟩ g1 dv
    cases dv with
    | @lst u us _ hu ru =>
      have eu := dqs_of_ints ru
      subst eu
      have hu := veil_grow _ _ _ _ hu
      refine ⟨r, u, rows.map V.int, ds.map V.int, rfl, rfl, g1 _ _ hr0, hu, sz5 (by rw [List.length_map, List.length_map]; omega), fun p hp => ?_⟩
      have gh : Grow H H1 := g.trans g1
      refine ⟨p, rows ++ ds, some (.int n), rfl, gh.trans (grow_new hp), ?_, ?_, by rw [List.length_append]; omega, fun x hx => ?_⟩
      · cases e : H p with
        | none => rfl
        | some o =>
          rw [gh p o e] at hp
          cases hp
      · rw [upd_same, List.map_append]
      · rcases List.mem_append.mp hx with hx | hx
        · exact hb x hx
        · exact b6 x hx
  · subst eσ
    rw [List.length_map] at hlen
    refine ⟨.ref r, rfl, r, _, rfl, .inl (.of hr0), rfl, _, rfl, ite2 (fun e => ?_) (fun e => ?_)⟩
    · refine ⟨by show 7 ≤ sizeLine; decide, fun p hp => ?_⟩
      refine last _ _ p [11, 5, 2, 7, 31, 101, 997] y2 rfl (g.trans (grow_new hp)) ?_ upd_same (by decide) (by decide) (by decide)
      cases e : H p with
      | none => rfl
      | some o =>
        rw [g p o e] at hp
        cases hp
    · refine last _ _ r rows y2 rfl g hn hr0 ?_ (by omega) hb
      refine Nat.pos_of_ne_zero fun z => e ?_
      rw [List.length_map, z]
      exact decide_eq_true rfl
end
section
variable {P : Program} {w : World} {K : PySem.W.Frag} {mg : Str → Option Value} {base : Heap}
open N7
theorem runs_vals {H : Hp} : ∀ {rs : Rn} {vs : List V}, Dqs K H vs (rs.map runD) → ∀ (i : Nat) (b e : Int), rs[i]? = some (b, e) → ∃ t, vs[i]? = some (.ref t) ∧ SqT K H t [.int b, .int e]
  | [], _, _, i, b, e, h => by simp at h
  | (u, v) :: rs, _, .cons h r, 0, b, e, hh => by
    cases hh
    cases h with
    | tup ht r2 =>
      have := dqs_of_ints (ns := [u, v]) r2
      subst this
      exact ⟨_, rfl, ht⟩
  | q :: rs, _, .cons h r, i + 1, b, e, hh => runs_vals r i b e hh
/-- a row while it is made -/
structure Mk1 (H H' : Hp) (b p1 p2 C dx : Addr) (A : Rn) : Prop where
  ob : H' b = some (.ins C dx [("starts", .ref p1), ("sums", .ref p2), ("many", .int (tot A))])
  l1 : H' p1 = some (.lst ((A.map fun r => r.1).map V.int))
  l2 : H' p2 = some (.lst ((sumsOf 0 A).map V.int))
  keep : ∀ a o, a ≠ b → H a = some o → H' a = some o
theorem sums_snoc : ∀ (A : Rn) (k u v : Int), sumsOf k (A ++ [(u, v)]) = sumsOf k A ++ [k + tot A]
  | [], k, u, v => by show [k] = [k + 0]; rw [Int.add_zero]
  | (b, e) :: A, k, u, v => by
    show k :: sumsOf (k + (e - b)) (A ++ [(u, v)]) = k :: (sumsOf (k + (e - b)) A ++ [k + ((e - b) + tot A)])
    rw [sums_snoc A, Int.add_assoc]
theorem ok_Row_init (T : Tx K mg) : FnOk P w K mg base CX0 1 T.a_Row_init T.d_Row_init ["self", "runs"] (spO K "Row" 1 S_Row_init) := by
  refine T.f_Row_init.ok sc_Row_init (fun vs H Q E h => ?_) (fun cdv A outer s H vs Q E hr h => ?_)
  · obtain ⟨b, us, rfl, hl, _⟩ := h
    rw [List.length_cons, hl]
    rfl
  obtain ⟨b, us, rfl, hl, Z, ds, fs, c, nz, hz, ⟨C, dx, ws, hc, hb, hf⟩, rr, hS, q⟩ := h
  have hd : ∃ (d : PyData) (rs : Rn), fs = [] ∧ ds = [d] ∧ (d = runsD rs ∨ d = .list (rs.map runD)) ∧ RowOk rs ∧ c .none [("starts", .list (nums (rs.map fun r => r.1))), ("sums", .list (nums (sumsOf 0 rs))), ("many", .int (tot rs))] := by
    unfold S_Row_init at hS
    split at hS
    · obtain ⟨rs, h1, h2, h3⟩ := hS
      exact ⟨_, rs, rfl, rfl, h1, h2, h3⟩
    · exact hS.elim
  obtain ⟨d, rs, rfl, rfl, hdr, rok, hk⟩ := hd
  cases hf
  obtain ⟨u, rfl, du⟩ := one_of rr
  have few := rok.few
  -- the walk's values
  have hseq : ∃ (a : Addr) (vs : List V), u = .ref a ∧ ((SqT K (veil (plus Z b) H) a vs) ∨ (SqL K (veil (plus Z b) H) a vs)) ∧ Dqs K (veil (plus Z b) H) vs (rs.map runD) := by
    rcases hdr with rfl | rfl
    · cases du with
      | tup ht r => exact ⟨_, _, rfl, .inl ht, r⟩
    · cases du with
      | lst hl2 r => exact ⟨_, _, rfl, .inr (.of hl2), r⟩
  obtain ⟨a, vs, rfl, hsq, rvs⟩ := hseq
  have len : vs.length = rs.length := by rw [dqs_len rvs, List.length_map]
  have clA := T.h_Row_starts C hc
  have clB := T.h_Row_sums C hc
  have clC := T.h_Row_many C hc
  have up : ∀ {H' : Hp}, (∀ a o, a ≠ b → H a = some o → H' a = some o) → Grow (veil (plus Z b) H) H' := fun g x o hx => by
    obtain ⟨h1, h2⟩ := veil_off hx
    exact g x o (fun e => h1 (.inr e)) h2
  refine ⟨_, pss_cons (ps_fld (pv 0) (pe_lst pa_nil) rfl) (pss_cons (ps_fld (pv 0) (pe_lst pa_nil) rfl) (pss_cons (ps_fld (pv 0) pe_int rfl) (pss_one (ps_for PassesOwn.never rfl (pi_ei (pv 1)) (pg_tup rfl (pgs_cons (pg_name (i := 2) sc_Row_init.nd rfl (.inl rfl)) (pgs_cons (pg_name (i := 3) sc_Row_init.nd rfl (.inl rfl)) pgs_nil)))
    (pss_cons (ps_expr (pe_bm PySem.F.plainAttrs_list PySem.F.slot_list_append PySem.F.type_list_append mt_append (pe_fld (pv 0) rfl) (pa_cons (pv 2) pa_nil)))
    (pss_cons (ps_expr (pe_bm PySem.F.plainAttrs_list PySem.F.slot_list_append PySem.F.type_list_append mt_append (pe_fld (pv 0) rfl) (pa_cons (pe_fld (pv 0) rfl) pa_nil)))
    (pss_one (ps_fldaug (pv 0) (pe_op op_sub (pv 3) (pv 2)) ip_add)))))))), ?_⟩
  refine ⟨by decide, fun p1 n1 => ?_⟩
  have nb1 : p1 ≠ b := fun e => by rw [e, hb] at n1; cases n1
  refine ⟨.ref b, rfl, b, C, dx, [], rfl, (upd_ne (Ne.symm nb1)).trans hb, clA.1, clA.2, lt_k, ?_⟩
  refine ⟨by decide, fun p2 n2 => ?_⟩
  have nb2 : p2 ≠ b := fun e => by rw [e, upd_same] at n2; cases n2
  have n2' : (upd H p1 (.lst [])) p2 = none := by rw [← n2]; exact (upd_ne nb2).symm
  have n12 : p2 ≠ p1 := fun e => by rw [e, upd_same] at n2'; cases n2'
  have n2h : H p2 = none := by rw [← n2']; exact (upd_ne n12).symm
  refine ⟨.ref b, rfl, b, C, dx, _, rfl, (upd_ne (Ne.symm nb2)).trans upd_same, clB.1, clB.2, lt_k, ?_⟩
  refine ⟨.ref b, rfl, b, C, dx, _, rfl, upd_same, clC.1, clC.2, lt_k, ?_⟩
  generalize hH : upd _ b _ = H3
  have start : Mk1 H H3 b p1 p2 C dx [] := by
    subst hH
    refine ⟨upd_same, ?_, ?_, fun x o ne e => ?_⟩
    · rw [upd_ne nb1, upd_ne nb1, upd_ne (Ne.symm n12), upd_ne nb1]
      exact upd_same
    · rw [upd_ne nb2, upd_ne nb2]
      exact upd_same
    · have x1 : x ≠ p1 := fun z => by rw [z, n1] at e; cases e
      have x2 : x ≠ p2 := fun z => by rw [z, n2h] at e; cases e
      rw [upd_ne ne, upd_ne ne, upd_ne x2, upd_ne ne, upd_ne x1]
      exact e
  -- the end
  have fin : ∀ H', Mk1 H H' b p1 p2 C dx rs → Q .non H' := fun H' m => by
    have h1 : ¬ plus Z b p1 := fun z => z.elim (fun z => hz p1 z n1) nb1
    have h2 : ¬ plus Z b p2 := fun z => z.elim (fun z => hz p2 z n2h) nb2
    exact q .none _ .non H' hk m.keep ⟨C, dx, _, hc, m.ob, .cons (.lst (veil_on h1 m.l1) dqs_ints) (.cons (.lst (veil_on h2 m.l2) dqs_ints) (.cons (.int _) .nil))⟩ .non
  -- one turn
  have turn : ∀ (H' : Hp) (A B : Rn) (x y : Int) (N : L2.St → Hp → Prop) (D : Ends), rs = A ++ (x, y) :: B → Mk1 H H' b p1 p2 C dx A → (∀ H'', Mk1 H H'' b p1 p2 C dx (A ++ [(x, y)]) → D.nx [some (.ref b), some (.ref a), some (.int x), some (.int y)] H'') →
      tSeq (tDrop (tBM K "list" rAppend (tFld K (tVar 0) "starts") (tCons (tVar 2) tNil))) (tSeq (tDrop (tBM K "list" rAppend (tFld K (tVar 0) "sums") (tCons (tFld K (tVar 0) "many") tNil))) (sFldAug K (tVar 0) (tOp (rI0 fun i j => .int (i - j)) (tVar 3) (tVar 2)) (ipI fun i j => i + j) "many")) D [some (.ref b), some (.ref a), some (.int x), some (.int y)] H' := fun H' A B x y N D e m hD => by
    have ln : A.length ≤ 45000 := by
      have := congrArg List.length e
      rw [List.length_append] at this
      omega
    refine ⟨.ref b, rfl, b, C, dx, _, .ref p1, rfl, m.ob, clA.1, clA.2, rfl, .inl ⟨rfl, _, .of m.l1⟩, .int x, rfl, p1, _, .int x, rfl, rfl, m.l1, by rw [List.length_map, List.length_map]; exact Nat.lt_of_le_of_lt ln (by decide), ?_⟩
    have ob1 : (upd H' p1 (.lst ((A.map fun r => r.1).map V.int ++ [.int x]))) b = some (.ins C dx [("starts", .ref p1), ("sums", .ref p2), ("many", .int (tot A))]) := (upd_ne (Ne.symm nb1)).trans m.ob
    have l21 : (upd H' p1 (.lst ((A.map fun r => r.1).map V.int ++ [.int x]))) p2 = some (.lst ((sumsOf 0 A).map V.int)) := (upd_ne n12).trans m.l2
    refine ⟨.ref b, rfl, b, C, dx, _, .ref p2, rfl, ob1, clB.1, clB.2, rfl, .inl ⟨rfl, _, .of l21⟩, .ref b, rfl, b, C, dx, _, .int (tot A), rfl, ob1, clC.1, clC.2, rfl, p2, _, .int (tot A), rfl, rfl, l21, by rw [List.length_map, sums_len]; exact Nat.lt_of_le_of_lt ln (by decide), ?_⟩
    refine ⟨.ref b, rfl, b, C, dx, _, .int (tot A), rfl, (upd_ne (Ne.symm nb2)).trans ob1, clC.1, clC.2, rfl, .int y, rfl, .int x, rfl, y, x, rfl, rfl, tot A, y - x, rfl, rfl, dx, _, (upd_ne (Ne.symm nb2)).trans ob1, lt_k, ?_⟩
    refine hD _ ⟨?_, ?_, ?_, fun z o ne ez => ?_⟩
    · rw [upd_same, tot_app]
      show some (HO.ins C dx [("starts", .ref p1), ("sums", .ref p2), ("many", .int (tot A + (y - x)))]) = some (HO.ins C dx [("starts", .ref p1), ("sums", .ref p2), ("many", .int (tot A + ((y - x) + 0)))])
      rw [Int.add_zero]
    · rw [upd_ne nb1, upd_ne (Ne.symm n12), upd_same, List.map_append, List.map_append]
      rfl
    · rw [upd_ne nb2, upd_same, sums_snoc, List.map_append, Int.zero_add]
      rfl
    · have z1 : z ≠ p1 := fun w => by rw [w, n1] at ez; cases ez
      have z2 : z ≠ p2 := fun w => by rw [w, n2h] at ez; cases ez
      rw [upd_ne ne, upd_ne z2, upd_ne z1]
      exact m.keep z o ne ez
  refine ⟨.ref a, rfl, a, rfl, ?_⟩
  rcases hsq with hs | hs
  · refine .inl ⟨⟨vs, grow_t (up start.keep) hs⟩, fun i m σ H' => ∃ (A B : Rn) (o2 o3 : Option V), rs = A ++ B ∧ A.length = i ∧ m = B.length ∧ σ = [some (.ref b), some (.ref a), o2, o3] ∧ Mk1 H H' b p1 p2 C dx A, ⟨_, [], rs, _, _, rfl, rfl, rfl, rfl, start⟩, ?_⟩
    rintro i m σ H' ⟨A, B, o2, o3, e, rfl, rfl, rfl, mk⟩
    have sq : SqT K H' a vs := grow_t (up mk.keep) hs
    cases B with
    | nil =>
      rw [List.append_nil] at e
      subst e
      exact .inl ⟨⟨vs, sq, by omega⟩, fin H' mk⟩
    | cons xy B =>
      obtain ⟨x, y⟩ := xy
      have at1 : rs[A.length]? = some (x, y) := by rw [e, List.getElem?_append_right (Nat.le_refl _), Nat.sub_self]; rfl
      obtain ⟨t, ht, hst⟩ := runs_vals rvs _ _ _ at1
      refine .inr ⟨⟨vs, _, sq, ht⟩, fun σ' H'' => ∃ (A' B' : Rn) (o2 o3 : Option V), rs = A' ++ B' ∧ A'.length = A.length + 1 ∧ B.length = B'.length ∧ σ' = [some (.ref b), some (.ref a), o2, o3] ∧ Mk1 H H'' b p1 p2 C dx A', fun σ' H'' h => ⟨B.length, Nat.lt_succ_self _, h⟩, fun v H'' hy => ?_⟩
      obtain ⟨rfl, k1⟩ := hy
      have ev : v = .ref t := by have := k1 vs sq; rw [ht] at this; exact (Option.some.inj this).symm
      subst ev
      refine ⟨t, _, rfl, grow_t (up mk.keep) hst, rfl, _, _, rfl, _, _, rfl, rfl, ?_⟩
      exact turn _ A B x y (fun _ _ => True) _ e mk fun H'' m2 => ⟨A ++ [(x, y)], B, _, _, by rw [e]; simp, by simp, rfl, rfl, m2⟩
  · refine .inr ⟨⟨vs, grow_l (up start.keep) hs⟩, fun i m σ H' => ∃ (A B : Rn) (o2 o3 : Option V), rs = A ++ B ∧ A.length = i ∧ m = B.length ∧ σ = [some (.ref b), some (.ref a), o2, o3] ∧ Mk1 H H' b p1 p2 C dx A, ⟨_, [], rs, _, _, rfl, rfl, rfl, rfl, start⟩, ?_⟩
    rintro i m σ H' ⟨A, B, o2, o3, e, rfl, rfl, rfl, mk⟩
    have sq : SqL K H' a vs := grow_l (up mk.keep) hs
    cases B with
    | nil =>
      rw [List.append_nil] at e
      subst e
      exact .inl ⟨⟨vs, sq, by omega⟩, fin H' mk⟩
    | cons xy B =>
      obtain ⟨x, y⟩ := xy
      have at1 : rs[A.length]? = some (x, y) := by rw [e, List.getElem?_append_right (Nat.le_refl _), Nat.sub_self]; rfl
      obtain ⟨t, ht, hst⟩ := runs_vals rvs _ _ _ at1
      refine .inr ⟨⟨vs, _, sq, ht⟩, fun σ' H'' => ∃ (A' B' : Rn) (o2 o3 : Option V), rs = A' ++ B' ∧ A'.length = A.length + 1 ∧ B.length = B'.length ∧ σ' = [some (.ref b), some (.ref a), o2, o3] ∧ Mk1 H H'' b p1 p2 C dx A', fun σ' H'' h => ⟨B.length, Nat.lt_succ_self _, h⟩, fun v H'' hy => ?_⟩
      obtain ⟨rfl, k1⟩ := hy
      have ev : v = .ref t := by have := k1 vs sq; rw [ht] at this; exact (Option.some.inj this).symm
      subst ev
      refine ⟨t, _, rfl, grow_t (up mk.keep) hst, rfl, _, _, rfl, _, _, rfl, rfl, ?_⟩
      exact turn _ A B x y (fun _ _ => True) _ e mk fun H'' m2 => ⟨A ++ [(x, y)], B, _, _, by rw [e]; simp, by simp, rfl, rfl, m2⟩
end
end Pr
set_option maxHeartbeats 4000000
namespace Pr
open PySem PySem.Spec PyProof.Rows L2 Pu
def spLaw (K : PySem.W.Frag) : Sp := fun vs H Q _ => ∃ (a : Addr) (ns : List Int), vs = [.ref a] ∧ SqL K H a (ns.map V.int) ∧ ns.length ≤ 63 ∧ ∀ H', Q (.bl true) H'
section
variable {P : Program} {w : World} {K : PySem.W.Frag} {mg : Str → Option Value} {base : Heap}
theorem ok_law (T : Tx K mg) (G_law_box : FnOk P w K mg base CX0 2 T.a_law_box T.d_law_box ["script"] (spBox K)) (G_law_gap : FnOk P w K mg base CX0 8 T.a_law_gap T.d_law_gap ["box"] (spB K 0 S_law_gap)) (G_law_dayset : FnOk P w K mg base CX0 3 T.a_law_dayset T.d_law_dayset ["box"] (spB K 0 S_law_dayset10)) (G_law_seek : FnOk P w K mg base CX0 3 T.a_law_seek T.d_law_seek ["dayset", "day", "step"] (spP K 3 S_law_seek)) (G_law_next : FnOk P w K mg base CX0 1 T.a_law_next T.d_law_next ["box", "modulus"] (spB K 1 S_law_next)) (G_nth_from : FnOk P w K mg base CX0 7 T.a_nth_from T.d_nth_from ["dayset", "day", "number"] (spP K 3 S_nth_from)) (G_holds : FnOk P w K mg base CX0 3 T.a_holds T.d_holds ["dayset", "day"] (spP K 2 S_holds)) (G_law_in : FnOk P w K mg base CX0 2 T.a_law_in T.d_law_in ["dayset", "day"] (spP K 2 S_law_in)) (G_count_in : FnOk P w K mg base CX0 7 T.a_count_in T.d_count_in ["dayset", "first", "end"] (spP K 3 S_count_in)) (G_law_count : FnOk P w K mg base CX0 3 T.a_law_count T.d_law_count ["dayset", "first", "end"] (spP K 3 S_law_count)) (G_next_in : FnOk P w K mg base CX0 4 T.a_next_in T.d_next_in ["dayset", "day"] (spP K 2 S_next_in)) (G_last_in : FnOk P w K mg base CX0 4 T.a_last_in T.d_last_in ["dayset", "day"] (spP K 2 S_last_in)) : FnOk P w K mg base CX0 9 T.a_law T.d_law ["script"] (spLaw K) := by
  refine T.f_law.ok sc_law (fun vs H Q E h => ?_) (fun cdv A outer s H vs Q E hr h => ?_)
  · obtain ⟨a, ns, rfl, _⟩ := h
    rfl
  obtain ⟨a, ns, rfl, hS, hl, q⟩ := h
  have rest : ∃ t, PSs (cxOf CX0 P w K mg base N_law "law" (defScope s_law) T.a_law cdv A outer s H E).nox (defBody s_law).tail t ∧ SimS K t p_law := ⟨_, (pss_cons (ps_for PassesOwn.never rfl (pi_range1 rfl T.range (pa_cons pe_int pa_nil)) (pg_name (i := 2) sc_law.nd rfl (.inl rfl)) (pss_cons (ps_set (i := 3) sc_law.nd rfl (.inl rfl) (pe_call G_law_dayset (hr.mono (by decide)) (by rfl) T.m_law_dayset T.f_law_dayset.kp T.b_law_dayset .nil pass0 (pa_cons (pv 1) pa_nil)))
      (pss_cons (ps_for PassesOwn.never rfl (pi_list (pe_op op_plus (pe_listRg rfl (by rfl) T.list (prg_2 (by rfl) T.range (pe_un un_neg pe_int) pe_int)) (pe_lst (pa_cons (pe_op op_plus (pe_op op_pow pe_int pe_int) (pv 2)) (pa_cons (pe_op op_sub (pe_un un_neg (pe_op op_pow pe_int pe_int)) (pv 2)) pa_nil))))) (pg_name (i := 4) sc_law.nd rfl (.inl rfl)) (pss_cons (ps_if (pt_cmpR (op_neD (hu65 hr)) (pe_call G_holds (hr.mono (by decide)) (by rfl) T.m_holds T.f_holds.kp T.b_holds .nil pass0 (pa_cons (pv 3) (pa_cons (pv 4) pa_nil))) (pe_call G_law_in (hr.mono (by decide)) (by rfl) T.m_law_in T.f_law_in.kp T.b_law_in .nil pass0 (pa_cons (pv 3) (pa_cons (pv 4) pa_nil))) (nomark _)) (pss_one (ps_ret pe_bl)) pss_nil)
      (pss_cons (ps_set (i := 5) sc_law.nd rfl (.inl rfl) (pe_call G_law_seek (hr.mono (by decide)) (by rfl) T.m_law_seek T.f_law_seek.kp T.b_law_seek .nil pass0 (pa_cons (pv 3) (pa_cons (pv 4) (pa_cons pe_int pa_nil)))))
      (pss_cons (ps_set (i := 6) sc_law.nd rfl (.inl rfl) (pe_call G_law_seek (hr.mono (by decide)) (by rfl) T.m_law_seek T.f_law_seek.kp T.b_law_seek .nil pass0 (pa_cons (pv 3) (pa_cons (pv 4) (pa_cons (pe_un un_neg pe_int) pa_nil)))))
      (pss_cons (ps_if (PW.pt (pw_and (pt_cmpR op_lt (pe_callB call_abs (by rfl) T.abs (by decide +kernel) (pa_cons (pv 4) pa_nil)) pe_int (nomark _)) (pw_and1 (PW.pt (pw_or (pt_cmpR (op_neD (hu65 hr)) (pe_call G_next_in (hr.mono (by decide)) (by rfl) T.m_next_in T.f_next_in.kp T.b_next_in .nil pass0 (pa_cons (pv 3) (pa_cons (pv 4) pa_nil))) (pv 5) (nomark _)) (pw_or1 (pt_cmpR (op_neD (hu65 hr)) (pe_call G_last_in (hr.mono (by decide)) (by rfl) T.m_last_in T.f_last_in.kp T.b_last_in .nil pass0 (pa_cons (pv 3) (pa_cons (pv 4) pa_nil))) (pv 6) (nomark _)))))))) (pss_one (ps_ret pe_bl)) pss_nil)
      (pss_one (ps_if (PW.pt (pw_or (PW.pt (pw_and (pt_cmpR op_gt (pv 4) pe_int (nomark _)) (pw_and1 (pt_cmpR (op_neD (hu65 hr)) (pe_call G_next_in (hr.mono (by decide)) (by rfl) T.m_next_in T.f_next_in.kp T.b_next_in .nil pass0 (pa_cons (pv 3) (pa_cons (pv 4) pa_nil))) (pv 5) (nomark _))))) (pw_or1 (PW.pt (pw_and (pt_cmpR op_lt (pv 4) (pe_un un_neg pe_int) (nomark _)) (pw_and1 (pt_cmpR (op_neD (hu65 hr)) (pe_call G_last_in (hr.mono (by decide)) (by rfl) T.m_last_in T.f_last_in.kp T.b_last_in .nil pass0 (pa_cons (pv 3) (pa_cons (pv 4) pa_nil))) (pv 6) (nomark _)))))))) (pss_one (ps_ret pe_bl)) pss_nil)))))))
      (pss_cons (ps_set (i := 7) sc_law.nd rfl (.inl rfl) (pe_op op_sub (pe_call G_law_next (hr.mono (by decide)) (by rfl) T.m_law_next T.f_law_next.kp T.b_law_next .nil pass0 (pa_cons (pv 1) (pa_cons pe_int pa_nil))) pe_int))
      (pss_cons (ps_for PassesOwn.never rfl (pi_list (pe_lst (pa_cons (pe_op op_sub (pv 7) pe_int) (pa_cons (pv 7) (pa_cons (pe_op op_plus (pv 7) (pe_call G_law_next (hr.mono (by decide)) (by rfl) T.m_law_next T.f_law_next.kp T.b_law_next .nil pass0 (pa_cons (pv 1) (pa_cons pe_int pa_nil)))) (pa_cons (pe_op op_plus (pv 7) (pe_op op_pow pe_int pe_int)) pa_nil)))))) (pg_name (i := 8) sc_law.nd rfl (.inl rfl)) (pss_one (ps_for PassesOwn.never rfl (pi_list (pe_lst (pa_cons (pv 7) (pa_cons (pe_op op_sub (pv 7) (pe_op op_pow pe_int pe_int)) pa_nil)))) (pg_name (i := 9) sc_law.nd rfl (.inl rfl)) (pss_one (ps_if (pt_cmpR (op_neD (hu65 hr)) (pe_call G_count_in (hr.mono (by decide)) (by rfl) T.m_count_in T.f_count_in.kp T.b_count_in .nil pass0 (pa_cons (pv 3) (pa_cons (pv 9) (pa_cons (pv 8) pa_nil)))) (pe_call G_law_count (hr.mono (by decide)) (by rfl) T.m_law_count T.f_law_count.kp T.b_law_count .nil pass0 (pa_cons (pv 3) (pa_cons (pv 9) (pa_cons (pv 8) pa_nil)))) (nomark _)) (pss_one (ps_ret pe_bl)) pss_nil)))))
      (pss_one (ps_for PassesOwn.never rfl (pi_list (pe_lst (pa_cons pe_int (pa_cons pe_int (pa_cons (pe_op op_plus pe_int (pe_call G_law_next (hr.mono (by decide)) (by rfl) T.m_law_next T.f_law_next.kp T.b_law_next .nil pass0 (pa_cons (pv 1) (pa_cons pe_int pa_nil)))) (pa_cons (pe_op op_plus (pe_op op_pow pe_int pe_int) (pe_call G_law_next (hr.mono (by decide)) (by rfl) T.m_law_next T.f_law_next.kp T.b_law_next .nil pass0 (pa_cons (pv 1) (pa_cons pe_int pa_nil)))) pa_nil)))))) (pg_name (i := 10) sc_law.nd rfl (.inl rfl)) (pss_cons (ps_set (i := 11) sc_law.nd rfl (.inl rfl) (pe_call G_nth_from (hr.mono (by decide)) (by rfl) T.m_nth_from T.f_nth_from.kp T.b_nth_from .nil pass0 (pa_cons (pv 3) (pa_cons (pv 7) (pa_cons (pv 10) pa_nil)))))
      (pss_one (ps_if (pt_cmpR op_isN1 (pv 11) pe_non (nomark _)) (pss_one (ps_if (pt_cmpR op_ge (pe_call G_law_count (hr.mono (by decide)) (by rfl) T.m_law_count T.f_law_count.kp T.b_law_count .nil pass0 (pa_cons (pv 3) (pa_cons (pv 7) (pa_cons (pe_op op_plus (pv 7) (pe_op op_pow pe_int pe_int)) pa_nil)))) (pv 10) (nomark _)) (pss_one (ps_ret pe_bl)) pss_nil)) (pss_one (ps_if (PW.pt (pw_or (pt_cmpR op_lt (pv 11) (pv 7) (nomark _)) (pw_or (pt_not (pt_val (pe_call G_law_in (hr.mono (by decide)) (by rfl) T.m_law_in T.f_law_in.kp T.b_law_in .nil pass0 (pa_cons (pv 3) (pa_cons (pv 11) pa_nil))))) (pw_or1 (pt_cmpR (op_neD (hu65 hr)) (pe_call G_law_count (hr.mono (by decide)) (by rfl) T.m_law_count T.f_law_count.kp T.b_law_count .nil pass0 (pa_cons (pv 3) (pa_cons (pv 7) (pa_cons (pv 11) pa_nil)))) (pe_op op_sub (pv 10) pe_int) (nomark _)))))) (pss_one (ps_ret pe_bl)) pss_nil))))))))))))
      (pss_one (ps_ret (pe_call G_law_gap (hr.mono (by decide)) (by rfl) T.m_law_gap T.f_law_gap.kp T.b_law_gap .nil pass0 (pa_cons (pv 1) pa_nil))))),
    (s_seq (s_rng1 (sim_cons (sim_c (v := .int 4) rfl) sim_nil) (g_name (i := 2)) (s_seq (s_asg (sim_callB (i := 1) sim_nil) (g_name (i := 3)))
      (s_seq (s_forL (sim_plus (sim_new (sim_lstRg (sim_u (sim_c (v := .int 30) rfl) fun _ => rfl) (sim_c (v := .int 31) rfl))) (sim_new (sim_lst (sim_cons (sim_plus (sim_iic (sim_c (v := .int 10) rfl) (sim_c (v := .int 30) rfl) fun _ _ => rfl) (sim_var (i := 2))) (sim_cons (sim_ii (sim_u (sim_iic (sim_c (v := .int 10) rfl) (sim_c (v := .int 30) rfl) fun _ _ => rfl) fun _ => rfl) (sim_var (i := 2)) fun _ _ => rfl) sim_nil))))) (g_name (i := 4)) (s_seq (s_if (sim_tst (sim_neD (sim_call (sim_cons (sim_var (i := 3)) (sim_cons (sim_var (i := 4)) sim_nil))) (sim_call (sim_cons (sim_var (i := 3)) (sim_cons (sim_var (i := 4)) sim_nil))))) (s_ret (sim_c (v := .bl false) rfl)) s_next)
      (s_seq (s_asg (sim_call (sim_cons (sim_var (i := 3)) (sim_cons (sim_var (i := 4)) (sim_cons (sim_c (v := .int 1) rfl) sim_nil)))) (g_name (i := 5)))
      (s_seq (s_asg (sim_call (sim_cons (sim_var (i := 3)) (sim_cons (sim_var (i := 4)) (sim_cons (sim_u (sim_c (v := .int 1) rfl) fun _ => rfl) sim_nil)))) (g_name (i := 6)))
      (s_seq (s_if (sim_and (sim_tst (sim_ii (sim_abs (sim_cons (sim_var (i := 4)) sim_nil)) (sim_c (v := .int 100) rfl) fun _ _ => rfl)) (sim_or (sim_tst (sim_neD (sim_call (sim_cons (sim_var (i := 3)) (sim_cons (sim_var (i := 4)) sim_nil))) (sim_var (i := 5)))) (sim_tst (sim_neD (sim_call (sim_cons (sim_var (i := 3)) (sim_cons (sim_var (i := 4)) sim_nil))) (sim_var (i := 6)))))) (s_ret (sim_c (v := .bl false) rfl)) s_next)
      (s_if (sim_or (sim_and (sim_tst (sim_ii (sim_var (i := 4)) (sim_c (v := .int 100) rfl) fun _ _ => rfl)) (sim_tst (sim_neD (sim_call (sim_cons (sim_var (i := 3)) (sim_cons (sim_var (i := 4)) sim_nil))) (sim_var (i := 5))))) (sim_and (sim_tst (sim_ii (sim_var (i := 4)) (sim_u (sim_c (v := .int 100) rfl) fun _ => rfl) fun _ _ => rfl)) (sim_tst (sim_neD (sim_call (sim_cons (sim_var (i := 3)) (sim_cons (sim_var (i := 4)) sim_nil))) (sim_var (i := 6)))))) (s_ret (sim_c (v := .bl false) rfl)) s_next))))))
      (s_seq (s_asg (sim_ii (sim_callB (i := 1) (sim_cons (sim_c (v := .int 60) rfl) sim_nil)) (sim_c (v := .int 30) rfl) fun _ _ => rfl) (g_name (i := 7)))
      (s_seq (s_forL (sim_new (sim_lst (sim_cons (sim_ii (sim_var (i := 7)) (sim_c (v := .int 1) rfl) fun _ _ => rfl) (sim_cons (sim_var (i := 7)) (sim_cons (sim_plus (sim_var (i := 7)) (sim_callB (i := 1) (sim_cons (sim_c (v := .int 60) rfl) sim_nil))) (sim_cons (sim_plus (sim_var (i := 7)) (sim_iic (sim_c (v := .int 10) rfl) (sim_c (v := .int 30) rfl) fun _ _ => rfl)) sim_nil)))))) (g_name (i := 8)) (s_forL (sim_new (sim_lst (sim_cons (sim_var (i := 7)) (sim_cons (sim_ii (sim_var (i := 7)) (sim_iic (sim_c (v := .int 10) rfl) (sim_c (v := .int 25) rfl) fun _ _ => rfl) fun _ _ => rfl) sim_nil)))) (g_name (i := 9)) (s_if (sim_tst (sim_neD (sim_call (sim_cons (sim_var (i := 3)) (sim_cons (sim_var (i := 9)) (sim_cons (sim_var (i := 8)) sim_nil)))) (sim_call (sim_cons (sim_var (i := 3)) (sim_cons (sim_var (i := 9)) (sim_cons (sim_var (i := 8)) sim_nil)))))) (s_ret (sim_c (v := .bl false) rfl)) s_next)))
      (s_forL (sim_new (sim_lst (sim_cons (sim_c (v := .int 1) rfl) (sim_cons (sim_c (v := .int 2) rfl) (sim_cons (sim_plus (sim_c (v := .int 1) rfl) (sim_callB (i := 1) (sim_cons (sim_c (v := .int 30) rfl) sim_nil))) (sim_cons (sim_plus (sim_iic (sim_c (v := .int 10) rfl) (sim_c (v := .int 30) rfl) fun _ _ => rfl) (sim_callB (i := 1) (sim_cons (sim_c (v := .int 9) rfl) sim_nil))) sim_nil)))))) (g_name (i := 10)) (s_seq (s_asg (sim_call (sim_cons (sim_var (i := 3)) (sim_cons (sim_var (i := 7)) (sim_cons (sim_var (i := 10)) sim_nil)))) (g_name (i := 11)))
      (s_if (sim_tst (sim_isN (sim_var (i := 11)))) (s_if (sim_tst (sim_ii (sim_call (sim_cons (sim_var (i := 3)) (sim_cons (sim_var (i := 7)) (sim_cons (sim_plus (sim_var (i := 7)) (sim_iic (sim_c (v := .int 10) rfl) (sim_c (v := .int 33) rfl) fun _ _ => rfl)) sim_nil)))) (sim_var (i := 10)) fun _ _ => rfl)) (s_ret (sim_c (v := .bl false) rfl)) s_next) (s_if (sim_or (sim_tst (sim_ii (sim_var (i := 11)) (sim_var (i := 7)) fun _ _ => rfl)) (sim_or (sim_not (sim_tB (sim_call (sim_cons (sim_var (i := 3)) (sim_cons (sim_var (i := 11)) sim_nil))))) (sim_tst (sim_neD (sim_call (sim_cons (sim_var (i := 3)) (sim_cons (sim_var (i := 7)) (sim_cons (sim_var (i := 11)) sim_nil)))) (sim_ii (sim_var (i := 10)) (sim_c (v := .int 1) rfl) fun _ _ => rfl))))) (s_ret (sim_c (v := .bl false) rfl)) s_next)))))))) (fun ρ R h => by exact (pcons_len1 h)))
      (s_ret (sim_callB (i := 1) sim_nil)))⟩
  obtain ⟨t, ht, hs⟩ := rest
  refine ⟨_, pss_cons (ps_set (i := 1) sc_law.nd rfl (.inl rfl) (pe_call G_law_box (hr.mono (by decide)) (by rfl) T.m_law_box T.f_law_box.kp T.b_law_box .nil pass0 (pa_cons (pv 0) pa_nil))) ht, ?_⟩
  refine ⟨.ref a, rfl, a, ns, rfl, hS, hl, fun b H' g nb hb => ?_⟩
  have hB : BoxAt K (hid (fun _ => False) fun i => if i = 1 then some b else none) H' b := by
    obtain ⟨r, rows, at_, h, h0, hr0, h1, h2, h3⟩ := hb
    refine ⟨r, rows, at_, h, h0, veil_less ?_ _ _ hr0, h1, h2, h3⟩
    rintro x (z | ⟨i, m⟩)
    · exact z.elim
    · have m : (if i = 1 then some b else none) = some x := m
      by_cases e : i = 1
      · rw [if_pos e] at m
        exact .inl (Option.some.inj m).symm
      · rw [if_neg e] at m
        cases m
  have hb0 : H' b ≠ none := by
    obtain ⟨r, rows, at_, h, _⟩ := hB
    rw [h]
    intro z; cases z
  refine hs (fun _ => False) (fun _ => False) (fun _ => none) (fun _ => none) (fun i => if i = 1 then some b else none) _ H' [.no, .box, .no, .no, .no, .no, .no, .no, .no, .no, .no, .no] _ finL10 ?_ pure_law ?_
  · refine ⟨rfl, fun i j l h1 h2 => ?_, fun i l h => ?_, fun _ _ _ z => z, fun _ z => z.elim, fun _ _ _ z => (nomatch z), fun _ _ _ => .inr rfl, fun _ z => z.elim, fun _ _ z => (nomatch z), fun i c hc => ?_⟩
    · by_cases ei : i = 1
      · by_cases ej : j = 1
        · rw [ei, ej]
        · rw [if_neg ej] at h2; cases h2
      · rw [if_neg ei] at h1; cases h1
    · by_cases ei : i = 1
      · rw [if_pos ei] at h; cases h; exact hb0
      · rw [if_neg ei] at h; cases h
    · match i, hc with
      | 1, hc =>
        cases hc
        exact ⟨b, rfl, rfl, hB⟩
      | 0, hc => cases hc; trivial
      | 2, hc => cases hc; trivial
      | 3, hc => cases hc; trivial
      | 4, hc => cases hc; trivial
      | 5, hc => cases hc; trivial
      | 6, hc => cases hc; trivial
      | 7, hc => cases hc; trivial
      | 8, hc => cases hc; trivial
      | 9, hc => cases hc; trivial
      | 10, hc => cases hc; trivial
      | 11, hc => cases hc; trivial
      | _ + 12, hc => simp at hc
  · exact ⟨fun _ _ _ _ _ z => z.elim, fun _ _ _ _ _ z => z.elim, fun _ _ _ _ _ z => z.elim, fun M σ H ρ v d _ e dv => by
      have e : d = .bool true := e
      subst e
      rw [of_bl dv]
      exact q H⟩
end
/-! ### what the top has written -/
theorem all_mk {l : PySem.W.OpenLaw} {w : World} {K : PySem.W.Frag} {h : Heap} {mg : Str → Option Value} {fa : Addr} (X : K.In h) (G : h.Ns mainGlobals mg) (hfa : mg "law" = some (.ref fa))
    {C_Row : Addr}
    {C_SideTally : Addr}
    {C_Tally : Addr}
    {f0 : Addr} {od0 an0 : Option Addr} {sl0 : Array (Option Value)} {oc0 kV0 dc0 pm0 cd0 ct0 : Value}
    {f1 : Addr} {od1 an1 : Option Addr} {sl1 : Array (Option Value)} {oc1 kV1 dc1 pm1 cd1 ct1 : Value}
    {f2 : Addr} {od2 an2 : Option Addr} {sl2 : Array (Option Value)} {oc2 kV2 dc2 pm2 cd2 ct2 : Value}
    {f3 : Addr} {od3 an3 : Option Addr} {sl3 : Array (Option Value)} {oc3 kV3 dc3 pm3 cd3 ct3 : Value}
    {f4 : Addr} {od4 an4 : Option Addr} {sl4 : Array (Option Value)} {oc4 kV4 dc4 pm4 cd4 ct4 : Value}
    {f5 : Addr} {od5 an5 : Option Addr} {sl5 : Array (Option Value)} {oc5 kV5 dc5 pm5 cd5 ct5 : Value}
    {f6 : Addr} {od6 an6 : Option Addr} {sl6 : Array (Option Value)} {oc6 kV6 dc6 pm6 cd6 ct6 : Value}
    {f7 : Addr} {od7 an7 : Option Addr} {sl7 : Array (Option Value)} {oc7 kV7 dc7 pm7 cd7 ct7 : Value}
    {f8 : Addr} {od8 an8 : Option Addr} {sl8 : Array (Option Value)} {oc8 kV8 dc8 pm8 cd8 ct8 : Value}
    {f9 : Addr} {od9 an9 : Option Addr} {sl9 : Array (Option Value)} {oc9 kV9 dc9 pm9 cd9 ct9 : Value}
    {f10 : Addr} {od10 an10 : Option Addr} {sl10 : Array (Option Value)} {oc10 kV10 dc10 pm10 cd10 ct10 : Value}
    {f11 : Addr} {od11 an11 : Option Addr} {sl11 : Array (Option Value)} {oc11 kV11 dc11 pm11 cd11 ct11 : Value}
    {f12 : Addr} {od12 an12 : Option Addr} {sl12 : Array (Option Value)} {oc12 kV12 dc12 pm12 cd12 ct12 : Value}
    {f13 : Addr} {od13 an13 : Option Addr} {sl13 : Array (Option Value)} {oc13 kV13 dc13 pm13 cd13 ct13 : Value}
    {f14 : Addr} {od14 an14 : Option Addr} {sl14 : Array (Option Value)} {oc14 kV14 dc14 pm14 cd14 ct14 : Value}
    {f15 : Addr} {od15 an15 : Option Addr} {sl15 : Array (Option Value)} {oc15 kV15 dc15 pm15 cd15 ct15 : Value}
    {f16 : Addr} {od16 an16 : Option Addr} {sl16 : Array (Option Value)} {oc16 kV16 dc16 pm16 cd16 ct16 : Value}
    {f17 : Addr} {od17 an17 : Option Addr} {sl17 : Array (Option Value)} {oc17 kV17 dc17 pm17 cd17 ct17 : Value}
    {f18 : Addr} {od18 an18 : Option Addr} {sl18 : Array (Option Value)} {oc18 kV18 dc18 pm18 cd18 ct18 : Value}
    {f19 : Addr} {od19 an19 : Option Addr} {sl19 : Array (Option Value)} {oc19 kV19 dc19 pm19 cd19 ct19 : Value}
    {f20 : Addr} {od20 an20 : Option Addr} {sl20 : Array (Option Value)} {oc20 kV20 dc20 pm20 cd20 ct20 : Value}
    {f21 : Addr} {od21 an21 : Option Addr} {sl21 : Array (Option Value)} {oc21 kV21 dc21 pm21 cd21 ct21 : Value}
    {f22 : Addr} {od22 an22 : Option Addr} {sl22 : Array (Option Value)} {oc22 kV22 dc22 pm22 cd22 ct22 : Value}
    {f23 : Addr} {od23 an23 : Option Addr} {sl23 : Array (Option Value)} {oc23 kV23 dc23 pm23 cd23 ct23 : Value}
    {f24 : Addr} {od24 an24 : Option Addr} {sl24 : Array (Option Value)} {oc24 kV24 dc24 pm24 cd24 ct24 : Value}
    {f25 : Addr} {od25 an25 : Option Addr} {sl25 : Array (Option Value)} {oc25 kV25 dc25 pm25 cd25 ct25 : Value}
    {f26 : Addr} {od26 an26 : Option Addr} {sl26 : Array (Option Value)} {oc26 kV26 dc26 pm26 cd26 ct26 : Value}
    {f27 : Addr} {od27 an27 : Option Addr} {sl27 : Array (Option Value)} {oc27 kV27 dc27 pm27 cd27 ct27 : Value}
    {f28 : Addr} {od28 an28 : Option Addr} {sl28 : Array (Option Value)} {oc28 kV28 dc28 pm28 cd28 ct28 : Value}
    {f29 : Addr} {od29 an29 : Option Addr} {sl29 : Array (Option Value)} {oc29 kV29 dc29 pm29 cd29 ct29 : Value}
    (aC_Row : PySem.W.nsIn K mainGlobals "Row" = some (some (.ref C_Row)))
    (pg_Row : PySem.W.plainGet K C_Row Str.empty = true)
    (hd_Row : PySem.W.hasDictIn K C_Row = true)
    (po_Row : PySem.W.plainOver K C_Row = true)
    (sa_Row : PySem.W.findIn K (.ref C_Row) "__setattr__" = some (some (.builtin "object.__setattr__")))
    (mk_Row : PySem.W.makesIn K C_Row = true)
    (kc_Row : PySem.W.keepIn K (.ref C_Row) = true)
    (n_Row_starts : PySem.W.findIn K (.ref C_Row) "starts" = some none)
    (n_Row_sums : PySem.W.findIn K (.ref C_Row) "sums" = some none)
    (n_Row_many : PySem.W.findIn K (.ref C_Row) "many" = some none)
    (aC_SideTally : PySem.W.nsIn K mainGlobals "SideTally" = some (some (.ref C_SideTally)))
    (pg_SideTally : PySem.W.plainGet K C_SideTally Str.empty = true)
    (hd_SideTally : PySem.W.hasDictIn K C_SideTally = true)
    (po_SideTally : PySem.W.plainOver K C_SideTally = true)
    (sa_SideTally : PySem.W.findIn K (.ref C_SideTally) "__setattr__" = some (some (.builtin "object.__setattr__")))
    (mk_SideTally : PySem.W.makesIn K C_SideTally = true)
    (kc_SideTally : PySem.W.keepIn K (.ref C_SideTally) = true)
    (n_SideTally_period : PySem.W.findIn K (.ref C_SideTally) "period" = some none)
    (n_SideTally_many : PySem.W.findIn K (.ref C_SideTally) "many" = some none)
    (n_SideTally_row : PySem.W.findIn K (.ref C_SideTally) "row" = some none)
    (aC_Tally : PySem.W.nsIn K mainGlobals "Tally" = some (some (.ref C_Tally)))
    (pg_Tally : PySem.W.plainGet K C_Tally Str.empty = true)
    (hd_Tally : PySem.W.hasDictIn K C_Tally = true)
    (po_Tally : PySem.W.plainOver K C_Tally = true)
    (sa_Tally : PySem.W.findIn K (.ref C_Tally) "__setattr__" = some (some (.builtin "object.__setattr__")))
    (mk_Tally : PySem.W.makesIn K C_Tally = true)
    (kc_Tally : PySem.W.keepIn K (.ref C_Tally) = true)
    (n_Tally_left : PySem.W.findIn K (.ref C_Tally) "left" = some none)
    (n_Tally_row : PySem.W.findIn K (.ref C_Tally) "row" = some none)
    (n_Tally_right : PySem.W.findIn K (.ref C_Tally) "right" = some none)
    (n_Tally_low : PySem.W.findIn K (.ref C_Tally) "low" = some none)
    (n_Tally_high : PySem.W.findIn K (.ref C_Tally) "high" = some none)
    (a0 : PySem.W.nsIn K mainGlobals "count_below" = some (some (.ref f0)))
    (l0 : K.lookup f0 = some ⟨oc0, od0, .func (PySem.W.fnOf "count_below" "count_below" (defArgs s_count_below) (defBody s_count_below) (defScope s_count_below) .none kV0 dc0 pm0 an0 cd0 ct0), sl0⟩)
    (c0 : PySem.W.codeIn K cd0 "count_below" = true)
    (k0 : PySem.W.keepIn K (.ref f0) = true)
    (a1 : PySem.W.nsIn K mainGlobals "side_holds" = some (some (.ref f1)))
    (l1 : K.lookup f1 = some ⟨oc1, od1, .func (PySem.W.fnOf "side_holds" "side_holds" (defArgs s_side_holds) (defBody s_side_holds) (defScope s_side_holds) .none kV1 dc1 pm1 an1 cd1 ct1), sl1⟩)
    (c1 : PySem.W.codeIn K cd1 "side_holds" = true)
    (k1 : PySem.W.keepIn K (.ref f1) = true)
    (a2 : PySem.W.nsIn K mainGlobals "holds" = some (some (.ref f2)))
    (l2 : K.lookup f2 = some ⟨oc2, od2, .func (PySem.W.fnOf "holds" "holds" (defArgs s_holds) (defBody s_holds) (defScope s_holds) .none kV2 dc2 pm2 an2 cd2 ct2), sl2⟩)
    (c2 : PySem.W.codeIn K cd2 "holds" = true)
    (k2 : PySem.W.keepIn K (.ref f2) = true)
    (a3 : PySem.W.nsIn K mainGlobals "paired" = some (some (.ref f3)))
    (l3 : K.lookup f3 = some ⟨oc3, od3, .func (PySem.W.fnOf "paired" "paired" (defArgs s_paired) (defBody s_paired) (defScope s_paired) .none kV3 dc3 pm3 an3 cd3 ct3), sl3⟩)
    (c3 : PySem.W.codeIn K cd3 "paired" = true)
    (k3 : PySem.W.keepIn K (.ref f3) = true)
    (a4 : PySem.W.findIn K (.ref C_Row) "__init__" = some (some (.ref f4)))
    (i4 : PySem.W.isFn K (.ref f4) = true)
    (l4 : K.lookup f4 = some ⟨oc4, od4, .func (PySem.W.fnOf "__init__" "Row.__init__" (defArgs s_Row_init) (defBody s_Row_init) (defScope s_Row_init) .none kV4 dc4 pm4 an4 cd4 ct4), sl4⟩)
    (c4 : PySem.W.codeIn K cd4 "Row.__init__" = true)
    (k4 : PySem.W.keepIn K (.ref f4) = true)
    (a5 : PySem.W.findIn K (.ref C_Row) "below" = some (some (.ref f5)))
    (i5 : PySem.W.isFn K (.ref f5) = true)
    (l5 : K.lookup f5 = some ⟨oc5, od5, .func (PySem.W.fnOf "below" "Row.below" (defArgs s_Row_below) (defBody s_Row_below) (defScope s_Row_below) .none kV5 dc5 pm5 an5 cd5 ct5), sl5⟩)
    (c5 : PySem.W.codeIn K cd5 "Row.below" = true)
    (k5 : PySem.W.keepIn K (.ref f5) = true)
    (a6 : PySem.W.findIn K (.ref C_Row) "at" = some (some (.ref f6)))
    (i6 : PySem.W.isFn K (.ref f6) = true)
    (l6 : K.lookup f6 = some ⟨oc6, od6, .func (PySem.W.fnOf "at" "Row.at" (defArgs s_Row_at) (defBody s_Row_at) (defScope s_Row_at) .none kV6 dc6 pm6 an6 cd6 ct6), sl6⟩)
    (c6 : PySem.W.codeIn K cd6 "Row.at" = true)
    (k6 : PySem.W.keepIn K (.ref f6) = true)
    (a7 : PySem.W.findIn K (.ref C_SideTally) "__init__" = some (some (.ref f7)))
    (i7 : PySem.W.isFn K (.ref f7) = true)
    (l7 : K.lookup f7 = some ⟨oc7, od7, .func (PySem.W.fnOf "__init__" "SideTally.__init__" (defArgs s_SideTally_init) (defBody s_SideTally_init) (defScope s_SideTally_init) .none kV7 dc7 pm7 an7 cd7 ct7), sl7⟩)
    (c7 : PySem.W.codeIn K cd7 "SideTally.__init__" = true)
    (k7 : PySem.W.keepIn K (.ref f7) = true)
    (a8 : PySem.W.findIn K (.ref C_SideTally) "below" = some (some (.ref f8)))
    (i8 : PySem.W.isFn K (.ref f8) = true)
    (l8 : K.lookup f8 = some ⟨oc8, od8, .func (PySem.W.fnOf "below" "SideTally.below" (defArgs s_SideTally_below) (defBody s_SideTally_below) (defScope s_SideTally_below) .none kV8 dc8 pm8 an8 cd8 ct8), sl8⟩)
    (c8 : PySem.W.codeIn K cd8 "SideTally.below" = true)
    (k8 : PySem.W.keepIn K (.ref f8) = true)
    (a9 : PySem.W.findIn K (.ref C_SideTally) "at" = some (some (.ref f9)))
    (i9 : PySem.W.isFn K (.ref f9) = true)
    (l9 : K.lookup f9 = some ⟨oc9, od9, .func (PySem.W.fnOf "at" "SideTally.at" (defArgs s_SideTally_at) (defBody s_SideTally_at) (defScope s_SideTally_at) .none kV9 dc9 pm9 an9 cd9 ct9), sl9⟩)
    (c9 : PySem.W.codeIn K cd9 "SideTally.at" = true)
    (k9 : PySem.W.keepIn K (.ref f9) = true)
    (a10 : PySem.W.findIn K (.ref C_Tally) "__init__" = some (some (.ref f10)))
    (i10 : PySem.W.isFn K (.ref f10) = true)
    (l10 : K.lookup f10 = some ⟨oc10, od10, .func (PySem.W.fnOf "__init__" "Tally.__init__" (defArgs s_Tally_init) (defBody s_Tally_init) (defScope s_Tally_init) .none kV10 dc10 pm10 an10 cd10 ct10), sl10⟩)
    (c10 : PySem.W.codeIn K cd10 "Tally.__init__" = true)
    (k10 : PySem.W.keepIn K (.ref f10) = true)
    (a11 : PySem.W.findIn K (.ref C_Tally) "below" = some (some (.ref f11)))
    (i11 : PySem.W.isFn K (.ref f11) = true)
    (l11 : K.lookup f11 = some ⟨oc11, od11, .func (PySem.W.fnOf "below" "Tally.below" (defArgs s_Tally_below) (defBody s_Tally_below) (defScope s_Tally_below) .none kV11 dc11 pm11 an11 cd11 ct11), sl11⟩)
    (c11 : PySem.W.codeIn K cd11 "Tally.below" = true)
    (k11 : PySem.W.keepIn K (.ref f11) = true)
    (a12 : PySem.W.findIn K (.ref C_Tally) "at" = some (some (.ref f12)))
    (i12 : PySem.W.isFn K (.ref f12) = true)
    (l12 : K.lookup f12 = some ⟨oc12, od12, .func (PySem.W.fnOf "at" "Tally.at" (defArgs s_Tally_at) (defBody s_Tally_at) (defScope s_Tally_at) .none kV12 dc12 pm12 an12 cd12 ct12), sl12⟩)
    (c12 : PySem.W.codeIn K cd12 "Tally.at" = true)
    (k12 : PySem.W.keepIn K (.ref f12) = true)
    (a13 : PySem.W.nsIn K mainGlobals "next_in" = some (some (.ref f13)))
    (l13 : K.lookup f13 = some ⟨oc13, od13, .func (PySem.W.fnOf "next_in" "next_in" (defArgs s_next_in) (defBody s_next_in) (defScope s_next_in) .none kV13 dc13 pm13 an13 cd13 ct13), sl13⟩)
    (c13 : PySem.W.codeIn K cd13 "next_in" = true)
    (k13 : PySem.W.keepIn K (.ref f13) = true)
    (a14 : PySem.W.nsIn K mainGlobals "last_in" = some (some (.ref f14)))
    (l14 : K.lookup f14 = some ⟨oc14, od14, .func (PySem.W.fnOf "last_in" "last_in" (defArgs s_last_in) (defBody s_last_in) (defScope s_last_in) .none kV14 dc14 pm14 an14 cd14 ct14), sl14⟩)
    (c14 : PySem.W.codeIn K cd14 "last_in" = true)
    (k14 : PySem.W.keepIn K (.ref f14) = true)
    (a15 : PySem.W.nsIn K mainGlobals "_next_in_side" = some (some (.ref f15)))
    (l15 : K.lookup f15 = some ⟨oc15, od15, .func (PySem.W.fnOf "_next_in_side" "_next_in_side" (defArgs s_next_in_side) (defBody s_next_in_side) (defScope s_next_in_side) .none kV15 dc15 pm15 an15 cd15 ct15), sl15⟩)
    (c15 : PySem.W.codeIn K cd15 "_next_in_side" = true)
    (k15 : PySem.W.keepIn K (.ref f15) = true)
    (a16 : PySem.W.nsIn K mainGlobals "_last_in_side" = some (some (.ref f16)))
    (l16 : K.lookup f16 = some ⟨oc16, od16, .func (PySem.W.fnOf "_last_in_side" "_last_in_side" (defArgs s_last_in_side) (defBody s_last_in_side) (defScope s_last_in_side) .none kV16 dc16 pm16 an16 cd16 ct16), sl16⟩)
    (c16 : PySem.W.codeIn K cd16 "_last_in_side" = true)
    (k16 : PySem.W.keepIn K (.ref f16) = true)
    (a17 : PySem.W.nsIn K mainGlobals "count_in" = some (some (.ref f17)))
    (l17 : K.lookup f17 = some ⟨oc17, od17, .func (PySem.W.fnOf "count_in" "count_in" (defArgs s_count_in) (defBody s_count_in) (defScope s_count_in) .none kV17 dc17 pm17 an17 cd17 ct17), sl17⟩)
    (c17 : PySem.W.codeIn K cd17 "count_in" = true)
    (k17 : PySem.W.keepIn K (.ref f17) = true)
    (a18 : PySem.W.nsIn K mainGlobals "nth_from" = some (some (.ref f18)))
    (l18 : K.lookup f18 = some ⟨oc18, od18, .func (PySem.W.fnOf "nth_from" "nth_from" (defArgs s_nth_from) (defBody s_nth_from) (defScope s_nth_from) .none kV18 dc18 pm18 an18 cd18 ct18), sl18⟩)
    (c18 : PySem.W.codeIn K cd18 "nth_from" = true)
    (k18 : PySem.W.keepIn K (.ref f18) = true)
    (a19 : PySem.W.nsIn K mainGlobals "_law_draws" = some (some (.ref f19)))
    (l19 : K.lookup f19 = some ⟨oc19, od19, .func (PySem.W.fnOf "_law_draws" "_law_draws" (defArgs s_law_draws) (defBody s_law_draws) (defScope s_law_draws) .none kV19 dc19 pm19 an19 cd19 ct19), sl19⟩)
    (c19 : PySem.W.codeIn K cd19 "_law_draws" = true)
    (k19 : PySem.W.keepIn K (.ref f19) = true)
    (a20 : PySem.W.nsIn K mainGlobals "_law_box" = some (some (.ref f20)))
    (l20 : K.lookup f20 = some ⟨oc20, od20, .func (PySem.W.fnOf "_law_box" "_law_box" (defArgs s_law_box) (defBody s_law_box) (defScope s_law_box) .none kV20 dc20 pm20 an20 cd20 ct20), sl20⟩)
    (c20 : PySem.W.codeIn K cd20 "_law_box" = true)
    (k20 : PySem.W.keepIn K (.ref f20) = true)
    (a21 : PySem.W.nsIn K mainGlobals "_law_next" = some (some (.ref f21)))
    (l21 : K.lookup f21 = some ⟨oc21, od21, .func (PySem.W.fnOf "_law_next" "_law_next" (defArgs s_law_next) (defBody s_law_next) (defScope s_law_next) .none kV21 dc21 pm21 an21 cd21 ct21), sl21⟩)
    (c21 : PySem.W.codeIn K cd21 "_law_next" = true)
    (k21 : PySem.W.keepIn K (.ref f21) = true)
    (a22 : PySem.W.nsIn K mainGlobals "_law_side" = some (some (.ref f22)))
    (l22 : K.lookup f22 = some ⟨oc22, od22, .func (PySem.W.fnOf "_law_side" "_law_side" (defArgs s_law_side) (defBody s_law_side) (defScope s_law_side) .none kV22 dc22 pm22 an22 cd22 ct22), sl22⟩)
    (c22 : PySem.W.codeIn K cd22 "_law_side" = true)
    (k22 : PySem.W.keepIn K (.ref f22) = true)
    (a23 : PySem.W.nsIn K mainGlobals "_law_dayset" = some (some (.ref f23)))
    (l23 : K.lookup f23 = some ⟨oc23, od23, .func (PySem.W.fnOf "_law_dayset" "_law_dayset" (defArgs s_law_dayset) (defBody s_law_dayset) (defScope s_law_dayset) .none kV23 dc23 pm23 an23 cd23 ct23), sl23⟩)
    (c23 : PySem.W.codeIn K cd23 "_law_dayset" = true)
    (k23 : PySem.W.keepIn K (.ref f23) = true)
    (a24 : PySem.W.nsIn K mainGlobals "_law_in_side" = some (some (.ref f24)))
    (l24 : K.lookup f24 = some ⟨oc24, od24, .func (PySem.W.fnOf "_law_in_side" "_law_in_side" (defArgs s_law_in_side) (defBody s_law_in_side) (defScope s_law_in_side) .none kV24 dc24 pm24 an24 cd24 ct24), sl24⟩)
    (c24 : PySem.W.codeIn K cd24 "_law_in_side" = true)
    (k24 : PySem.W.keepIn K (.ref f24) = true)
    (a25 : PySem.W.nsIn K mainGlobals "_law_in" = some (some (.ref f25)))
    (l25 : K.lookup f25 = some ⟨oc25, od25, .func (PySem.W.fnOf "_law_in" "_law_in" (defArgs s_law_in) (defBody s_law_in) (defScope s_law_in) .none kV25 dc25 pm25 an25 cd25 ct25), sl25⟩)
    (c25 : PySem.W.codeIn K cd25 "_law_in" = true)
    (k25 : PySem.W.keepIn K (.ref f25) = true)
    (a26 : PySem.W.nsIn K mainGlobals "_law_count" = some (some (.ref f26)))
    (l26 : K.lookup f26 = some ⟨oc26, od26, .func (PySem.W.fnOf "_law_count" "_law_count" (defArgs s_law_count) (defBody s_law_count) (defScope s_law_count) .none kV26 dc26 pm26 an26 cd26 ct26), sl26⟩)
    (c26 : PySem.W.codeIn K cd26 "_law_count" = true)
    (k26 : PySem.W.keepIn K (.ref f26) = true)
    (a27 : PySem.W.nsIn K mainGlobals "_law_seek" = some (some (.ref f27)))
    (l27 : K.lookup f27 = some ⟨oc27, od27, .func (PySem.W.fnOf "_law_seek" "_law_seek" (defArgs s_law_seek) (defBody s_law_seek) (defScope s_law_seek) .none kV27 dc27 pm27 an27 cd27 ct27), sl27⟩)
    (c27 : PySem.W.codeIn K cd27 "_law_seek" = true)
    (k27 : PySem.W.keepIn K (.ref f27) = true)
    (a28 : PySem.W.nsIn K mainGlobals "_law_gap" = some (some (.ref f28)))
    (l28 : K.lookup f28 = some ⟨oc28, od28, .func (PySem.W.fnOf "_law_gap" "_law_gap" (defArgs s_law_gap) (defBody s_law_gap) (defScope s_law_gap) .none kV28 dc28 pm28 an28 cd28 ct28), sl28⟩)
    (c28 : PySem.W.codeIn K cd28 "_law_gap" = true)
    (k28 : PySem.W.keepIn K (.ref f28) = true)
    (a29 : PySem.W.nsIn K mainGlobals "law" = some (some (.ref f29)))
    (l29 : K.lookup f29 = some ⟨oc29, od29, .func (PySem.W.fnOf "law" "law" (defArgs s_law) (defBody s_law) (defScope s_law) .none kV29 dc29 pm29 an29 cd29 ct29), sl29⟩)
    (c29 : PySem.W.codeIn K cd29 "law" = true)
    (k29 : PySem.W.keepIn K (.ref f29) = true)
    (z_abs : PySem.W.nsIn K mainGlobals "abs" = some none)
    (z_any : PySem.W.nsIn K mainGlobals "any" = some none)
    (z_divmod : PySem.W.nsIn K mainGlobals "divmod" = some none)
    (z_int : PySem.W.nsIn K mainGlobals "int" = some none)
    (z_len : PySem.W.nsIn K mainGlobals "len" = some none)
    (z_list : PySem.W.nsIn K mainGlobals "list" = some none)
    (z_max : PySem.W.nsIn K mainGlobals "max" = some none)
    (z_min : PySem.W.nsIn K mainGlobals "min" = some none)
    (z_range : PySem.W.nsIn K mainGlobals "range" = some none)
    (z_set : PySem.W.nsIn K mainGlobals "set" = some none)
    (z_sorted : PySem.W.nsIn K mainGlobals "sorted" = some none)
    (z_tuple : PySem.W.nsIn K mainGlobals "tuple" = some none)
    (z_zip : PySem.W.nsIn K mainGlobals "zip" = some none) :
    ∃ fd : FuncData, (∀ (s : Shared) (v : Value), BindsTo s fd ⟨[v], []⟩ [("script", v)]) ∧ ∀ base : Heap, K.In base → base.Ns mainGlobals mg → FnOk l.prog w K mg base CX0 9 fa fd ["script"] (spLaw K) := by
  have e := hfa.symm.trans (PySem.W.mg_of X G a29)
  cases e
  have F0 := fun_mk (st := s_count_below) l0 c0 k0
  have B0 := F0.binds (ps := ["rows", "mark"]) fun _ _ _ _ _ _ us hl => match us, hl with | [_, _], _ => rfl
  have F1 := fun_mk (st := s_side_holds) l1 c1 k1
  have B1 := F1.binds (ps := ["side", "number"]) fun _ _ _ _ _ _ us hl => match us, hl with | [_, _], _ => rfl
  have F2 := fun_mk (st := s_holds) l2 c2 k2
  have B2 := F2.binds (ps := ["dayset", "day"]) fun _ _ _ _ _ _ us hl => match us, hl with | [_, _], _ => rfl
  have F3 := fun_mk (st := s_paired) l3 c3 k3
  have B3 := F3.binds (ps := ["begin", "inside", "borders", "end"]) fun _ _ _ _ _ _ us hl => match us, hl with | [_, _, _, _], _ => rfl
  have F4 := fun_mk (st := s_Row_init) l4 c4 k4
  have B4 := F4.binds (ps := ["self", "runs"]) fun _ _ _ _ _ _ us hl => match us, hl with | [_, _], _ => rfl
  have F5 := fun_mk (st := s_Row_below) l5 c5 k5
  have B5 := F5.binds (ps := ["self", "mark"]) fun _ _ _ _ _ _ us hl => match us, hl with | [_, _], _ => rfl
  have F6 := fun_mk (st := s_Row_at) l6 c6 k6
  have B6 := F6.binds (ps := ["self", "index"]) fun _ _ _ _ _ _ us hl => match us, hl with | [_, _], _ => rfl
  have F7 := fun_mk (st := s_SideTally_init) l7 c7 k7
  have B7 := F7.binds (ps := ["self", "side"]) fun _ _ _ _ _ _ us hl => match us, hl with | [_, _], _ => rfl
  have F8 := fun_mk (st := s_SideTally_below) l8 c8 k8
  have B8 := F8.binds (ps := ["self", "mark"]) fun _ _ _ _ _ _ us hl => match us, hl with | [_, _], _ => rfl
  have F9 := fun_mk (st := s_SideTally_at) l9 c9 k9
  have B9 := F9.binds (ps := ["self", "index"]) fun _ _ _ _ _ _ us hl => match us, hl with | [_, _], _ => rfl
  have F10 := fun_mk (st := s_Tally_init) l10 c10 k10
  have B10 := F10.binds (ps := ["self", "dayset"]) fun _ _ _ _ _ _ us hl => match us, hl with | [_, _], _ => rfl
  have F11 := fun_mk (st := s_Tally_below) l11 c11 k11
  have B11 := F11.binds (ps := ["self", "mark"]) fun _ _ _ _ _ _ us hl => match us, hl with | [_, _], _ => rfl
  have F12 := fun_mk (st := s_Tally_at) l12 c12 k12
  have B12 := F12.binds (ps := ["self", "index"]) fun _ _ _ _ _ _ us hl => match us, hl with | [_, _], _ => rfl
  have F13 := fun_mk (st := s_next_in) l13 c13 k13
  have B13 := F13.binds (ps := ["dayset", "day"]) fun _ _ _ _ _ _ us hl => match us, hl with | [_, _], _ => rfl
  have F14 := fun_mk (st := s_last_in) l14 c14 k14
  have B14 := F14.binds (ps := ["dayset", "day"]) fun _ _ _ _ _ _ us hl => match us, hl with | [_, _], _ => rfl
  have F15 := fun_mk (st := s_next_in_side) l15 c15 k15
  have B15 := F15.binds (ps := ["side", "day"]) fun _ _ _ _ _ _ us hl => match us, hl with | [_, _], _ => rfl
  have F16 := fun_mk (st := s_last_in_side) l16 c16 k16
  have B16 := F16.binds (ps := ["side", "day"]) fun _ _ _ _ _ _ us hl => match us, hl with | [_, _], _ => rfl
  have F17 := fun_mk (st := s_count_in) l17 c17 k17
  have B17 := F17.binds (ps := ["dayset", "first", "end"]) fun _ _ _ _ _ _ us hl => match us, hl with | [_, _, _], _ => rfl
  have F18 := fun_mk (st := s_nth_from) l18 c18 k18
  have B18 := F18.binds (ps := ["dayset", "day", "number"]) fun _ _ _ _ _ _ us hl => match us, hl with | [_, _, _], _ => rfl
  have F19 := fun_mk (st := s_law_draws) l19 c19 k19
  have B19 := F19.binds (ps := ["cell", "modulus", "count"]) fun _ _ _ _ _ _ us hl => match us, hl with | [_, _, _], _ => rfl
  have F20 := fun_mk (st := s_law_box) l20 c20 k20
  have B20 := F20.binds (ps := ["script"]) fun _ _ _ _ _ _ us hl => match us, hl with | [_], _ => rfl
  have F21 := fun_mk (st := s_law_next) l21 c21 k21
  have B21 := F21.binds (ps := ["box", "modulus"]) fun _ _ _ _ _ _ us hl => match us, hl with | [_, _], _ => rfl
  have F22 := fun_mk (st := s_law_side) l22 c22 k22
  have B22 := F22.binds (ps := ["box"]) fun _ _ _ _ _ _ us hl => match us, hl with | [_], _ => rfl
  have F23 := fun_mk (st := s_law_dayset) l23 c23 k23
  have B23 := F23.binds (ps := ["box"]) fun _ _ _ _ _ _ us hl => match us, hl with | [_], _ => rfl
  have F24 := fun_mk (st := s_law_in_side) l24 c24 k24
  have B24 := F24.binds (ps := ["side", "day"]) fun _ _ _ _ _ _ us hl => match us, hl with | [_, _], _ => rfl
  have F25 := fun_mk (st := s_law_in) l25 c25 k25
  have B25 := F25.binds (ps := ["dayset", "day"]) fun _ _ _ _ _ _ us hl => match us, hl with | [_, _], _ => rfl
  have F26 := fun_mk (st := s_law_count) l26 c26 k26
  have B26 := F26.binds (ps := ["dayset", "first", "end"]) fun _ _ _ _ _ _ us hl => match us, hl with | [_, _, _], _ => rfl
  have F27 := fun_mk (st := s_law_seek) l27 c27 k27
  have B27 := F27.binds (ps := ["dayset", "day", "step"]) fun _ _ _ _ _ _ us hl => match us, hl with | [_, _, _], _ => rfl
  have F28 := fun_mk (st := s_law_gap) l28 c28 k28
  have B28 := F28.binds (ps := ["box"]) fun _ _ _ _ _ _ us hl => match us, hl with | [_], _ => rfl
  have F29 := fun_mk (st := s_law) l29 c29 k29
  have B29 := F29.binds (ps := ["script"]) fun _ _ _ _ _ _ us hl => match us, hl with | [_], _ => rfl
  let T : Tx K mg := {
    a_count_below := f0, d_count_below := _, f_count_below := F0, m_count_below := PySem.W.mg_of X G a0, b_count_below := B0,
    a_side_holds := f1, d_side_holds := _, f_side_holds := F1, m_side_holds := PySem.W.mg_of X G a1, b_side_holds := B1,
    a_holds := f2, d_holds := _, f_holds := F2, m_holds := PySem.W.mg_of X G a2, b_holds := B2,
    a_paired := f3, d_paired := _, f_paired := F3, m_paired := PySem.W.mg_of X G a3, b_paired := B3,
    a_Row_init := f4, d_Row_init := _, f_Row_init := F4, b_Row_init := B4,
    a_Row_below := f5, d_Row_below := _, f_Row_below := F5, b_Row_below := B5,
    a_Row_at := f6, d_Row_at := _, f_Row_at := F6, b_Row_at := B6,
    a_SideTally_init := f7, d_SideTally_init := _, f_SideTally_init := F7, b_SideTally_init := B7,
    a_SideTally_below := f8, d_SideTally_below := _, f_SideTally_below := F8, b_SideTally_below := B8,
    a_SideTally_at := f9, d_SideTally_at := _, f_SideTally_at := F9, b_SideTally_at := B9,
    a_Tally_init := f10, d_Tally_init := _, f_Tally_init := F10, b_Tally_init := B10,
    a_Tally_below := f11, d_Tally_below := _, f_Tally_below := F11, b_Tally_below := B11,
    a_Tally_at := f12, d_Tally_at := _, f_Tally_at := F12, b_Tally_at := B12,
    a_next_in := f13, d_next_in := _, f_next_in := F13, m_next_in := PySem.W.mg_of X G a13, b_next_in := B13,
    a_last_in := f14, d_last_in := _, f_last_in := F14, m_last_in := PySem.W.mg_of X G a14, b_last_in := B14,
    a_next_in_side := f15, d_next_in_side := _, f_next_in_side := F15, m_next_in_side := PySem.W.mg_of X G a15, b_next_in_side := B15,
    a_last_in_side := f16, d_last_in_side := _, f_last_in_side := F16, m_last_in_side := PySem.W.mg_of X G a16, b_last_in_side := B16,
    a_count_in := f17, d_count_in := _, f_count_in := F17, m_count_in := PySem.W.mg_of X G a17, b_count_in := B17,
    a_nth_from := f18, d_nth_from := _, f_nth_from := F18, m_nth_from := PySem.W.mg_of X G a18, b_nth_from := B18,
    a_law_draws := f19, d_law_draws := _, f_law_draws := F19, m_law_draws := PySem.W.mg_of X G a19, b_law_draws := B19,
    a_law_box := f20, d_law_box := _, f_law_box := F20, m_law_box := PySem.W.mg_of X G a20, b_law_box := B20,
    a_law_next := f21, d_law_next := _, f_law_next := F21, m_law_next := PySem.W.mg_of X G a21, b_law_next := B21,
    a_law_side := f22, d_law_side := _, f_law_side := F22, m_law_side := PySem.W.mg_of X G a22, b_law_side := B22,
    a_law_dayset := f23, d_law_dayset := _, f_law_dayset := F23, m_law_dayset := PySem.W.mg_of X G a23, b_law_dayset := B23,
    a_law_in_side := f24, d_law_in_side := _, f_law_in_side := F24, m_law_in_side := PySem.W.mg_of X G a24, b_law_in_side := B24,
    a_law_in := f25, d_law_in := _, f_law_in := F25, m_law_in := PySem.W.mg_of X G a25, b_law_in := B25,
    a_law_count := f26, d_law_count := _, f_law_count := F26, m_law_count := PySem.W.mg_of X G a26, b_law_count := B26,
    a_law_seek := f27, d_law_seek := _, f_law_seek := F27, m_law_seek := PySem.W.mg_of X G a27, b_law_seek := B27,
    a_law_gap := f28, d_law_gap := _, f_law_gap := F28, m_law_gap := PySem.W.mg_of X G a28, b_law_gap := B28,
    a_law := fa, d_law := _, f_law := F29, m_law := PySem.W.mg_of X G a29, b_law := B29,
    c_Row := C_Row, g_Row := PySem.W.mg_of X G aC_Row, n_Row := aC_Row, cl_Row := ⟨pg_Row, hd_Row, po_Row, sa_Row⟩, mk_Row := ⟨mk_Row, a4, i4, kc_Row⟩,
    c_SideTally := C_SideTally, g_SideTally := PySem.W.mg_of X G aC_SideTally, n_SideTally := aC_SideTally, cl_SideTally := ⟨pg_SideTally, hd_SideTally, po_SideTally, sa_SideTally⟩, mk_SideTally := ⟨mk_SideTally, a7, i7, kc_SideTally⟩,
    c_Tally := C_Tally, g_Tally := PySem.W.mg_of X G aC_Tally, n_Tally := aC_Tally, cl_Tally := ⟨pg_Tally, hd_Tally, po_Tally, sa_Tally⟩, mk_Tally := ⟨mk_Tally, a10, i10, kc_Tally⟩,
    h_Row_starts := fun C h => by cases cls_one h aC_Row; exact ⟨⟨pg_Row, hd_Row, po_Row, sa_Row⟩, n_Row_starts⟩,
    h_Row_sums := fun C h => by cases cls_one h aC_Row; exact ⟨⟨pg_Row, hd_Row, po_Row, sa_Row⟩, n_Row_sums⟩,
    h_Row_many := fun C h => by cases cls_one h aC_Row; exact ⟨⟨pg_Row, hd_Row, po_Row, sa_Row⟩, n_Row_many⟩,
    h_SideTally_period := fun C h => by cases cls_one h aC_SideTally; exact ⟨⟨pg_SideTally, hd_SideTally, po_SideTally, sa_SideTally⟩, n_SideTally_period⟩,
    h_SideTally_many := fun C h => by cases cls_one h aC_SideTally; exact ⟨⟨pg_SideTally, hd_SideTally, po_SideTally, sa_SideTally⟩, n_SideTally_many⟩,
    h_SideTally_row := fun C h => by cases cls_one h aC_SideTally; exact ⟨⟨pg_SideTally, hd_SideTally, po_SideTally, sa_SideTally⟩, n_SideTally_row⟩,
    h_Tally_left := fun C h => by cases cls_one h aC_Tally; exact ⟨⟨pg_Tally, hd_Tally, po_Tally, sa_Tally⟩, n_Tally_left⟩,
    h_Tally_row := fun C h => by cases cls_one h aC_Tally; exact ⟨⟨pg_Tally, hd_Tally, po_Tally, sa_Tally⟩, n_Tally_row⟩,
    h_Tally_right := fun C h => by cases cls_one h aC_Tally; exact ⟨⟨pg_Tally, hd_Tally, po_Tally, sa_Tally⟩, n_Tally_right⟩,
    h_Tally_low := fun C h => by cases cls_one h aC_Tally; exact ⟨⟨pg_Tally, hd_Tally, po_Tally, sa_Tally⟩, n_Tally_low⟩,
    h_Tally_high := fun C h => by cases cls_one h aC_Tally; exact ⟨⟨pg_Tally, hd_Tally, po_Tally, sa_Tally⟩, n_Tally_high⟩,
    me_Row_below := ⟨a5, i5, k5⟩,
    me_Row_at := ⟨a6, i6, k6⟩,
    me_SideTally_below := ⟨a8, i8, k8⟩,
    me_SideTally_at := ⟨a9, i9, k9⟩,
    me_Tally_below := ⟨a11, i11, k11⟩,
    me_Tally_at := ⟨a12, i12, k12⟩,
    abs := PySem.W.mg_none_of X G z_abs,
    any := PySem.W.mg_none_of X G z_any,
    divmod := PySem.W.mg_none_of X G z_divmod,
    int := PySem.W.mg_none_of X G z_int,
    len := PySem.W.mg_none_of X G z_len,
    list := PySem.W.mg_none_of X G z_list,
    max := PySem.W.mg_none_of X G z_max,
    min := PySem.W.mg_none_of X G z_min,
    range := PySem.W.mg_none_of X G z_range,
    set := PySem.W.mg_none_of X G z_set,
    sorted := PySem.W.mg_none_of X G z_sorted,
    tuple := PySem.W.mg_none_of X G z_tuple,
    zip := PySem.W.mg_none_of X G z_zip }
  refine ⟨PySem.W.fnOf "law" "law" (defArgs s_law) (defBody s_law) (defScope s_law) .none kV29 dc29 pm29 an29 cd29 ct29, fun s v => .of_eq rfl, fun base _ _ => ?_⟩
  have G_count_below := ok_count_below (P := l.prog) (w := w) (base := base) T 
  have G_paired := ok_paired (P := l.prog) (w := w) (base := base) T 
  have G_Row_init := ok_Row_init (P := l.prog) (w := w) (base := base) T 
  have G_law_draws := ok_law_draws (P := l.prog) (w := w) (base := base) T 
  have G_law_next := ok_law_next (P := l.prog) (w := w) (base := base) T 
  have G_law_in_side := ok_law_in_side (P := l.prog) (w := w) (base := base) T 
  have G_side_holds := ok_side_holds (P := l.prog) (w := w) (base := base) T G_count_below
  have G_Row_below := ok_Row_below (P := l.prog) (w := w) (base := base) T G_count_below
  have G_Row_at := ok_Row_at (P := l.prog) (w := w) (base := base) T G_count_below
  have G_law_box := ok_law_box (P := l.prog) (w := w) (base := base) T G_law_draws
  have G_law_side := ok_law_side (P := l.prog) (w := w) (base := base) T G_law_next
  have G_law_in := ok_law_in (P := l.prog) (w := w) (base := base) T G_law_in_side
  have G_holds := ok_holds (P := l.prog) (w := w) (base := base) T G_count_below G_side_holds
  have G_SideTally_init := ok_SideTally_init (P := l.prog) (w := w) (base := base) T G_Row_init G_paired
  have G_SideTally_below := ok_SideTally_below (P := l.prog) (w := w) (base := base) T G_Row_below
  have G_SideTally_at := ok_SideTally_at (P := l.prog) (w := w) (base := base) T G_Row_at
  have G_next_in_side := ok_next_in_side (P := l.prog) (w := w) (base := base) T G_side_holds G_count_below
  have G_last_in_side := ok_last_in_side (P := l.prog) (w := w) (base := base) T G_side_holds G_count_below
  have G_law_dayset := ok_law_dayset (P := l.prog) (w := w) (base := base) T G_law_side G_law_next
  have G_law_count := ok_law_count (P := l.prog) (w := w) (base := base) T G_law_in G_law_in_side
  have G_law_seek := ok_law_seek (P := l.prog) (w := w) (base := base) T G_law_in
  have G_Tally_below := ok_Tally_below (P := l.prog) (w := w) (base := base) T G_Row_below G_SideTally_below
  have G_Tally_at := ok_Tally_at (P := l.prog) (w := w) (base := base) T G_SideTally_at G_Row_at G_SideTally_below
  have G_next_in := ok_next_in (P := l.prog) (w := w) (base := base) T G_next_in_side G_count_below
  have G_last_in := ok_last_in (P := l.prog) (w := w) (base := base) T G_last_in_side G_count_below
  have G_Tally_init := ok_Tally_init (P := l.prog) (w := w) (base := base) T G_SideTally_init G_Row_init
  have G_count_in := ok_count_in (P := l.prog) (w := w) (base := base) T G_Tally_init G_Tally_below
  have G_nth_from := ok_nth_from (P := l.prog) (w := w) (base := base) T G_Tally_init G_Tally_at G_Tally_below
  have G_law_gap := ok_law_gap (P := l.prog) (w := w) (base := base) T G_law_next G_next_in G_last_in G_count_in G_nth_from
  exact ok_law T G_law_box G_law_gap G_law_dayset G_law_seek G_law_next G_nth_from G_holds G_law_in G_count_in G_law_count G_next_in G_last_in
end Pr
open PySem PySem.W PyProof.Rows
set_option maxHeartbeats 0 in
theorem PySem.Challenge.cw_everydue_k10_questions_near_and_far_holds : PySem.Challenge.rw_everydue_k10_questions_near_and_far.Holds := by
  w_on; o_law; k_head; (case hw => w_witness2)
  k_fill
  refine L2.walk_of (l := PySem.Challenge.rw_everydue_k10_questions_near_and_far) (n := 63) (k := 9) (x := "script") (CX := fun _ => L2.CX0) (sp := fun w => Pr.spLaw _) rfl (by decide) rfl ⟨rfl, by decide, by decide⟩ (fun w h Y => PySem.W.kIn_of Y) ?F (fun _ _ a ns hl _ hS => ⟨a, ns, rfl, hS, hl, fun _ => rfl⟩) (fun _ _ _ _ _ h => h)
  case F =>
    intro w mg fa h KX G hmg
    refine' Pr.all_mk KX G hmg ?aC_Row ?pg_Row ?hd_Row ?po_Row ?sa_Row ?mk_Row ?kc_Row ?n_Row_starts ?n_Row_sums ?n_Row_many ?aC_SideTally ?pg_SideTally ?hd_SideTally ?po_SideTally ?sa_SideTally ?mk_SideTally ?kc_SideTally ?n_SideTally_period ?n_SideTally_many ?n_SideTally_row ?aC_Tally ?pg_Tally ?hd_Tally ?po_Tally ?sa_Tally ?mk_Tally ?kc_Tally ?n_Tally_left ?n_Tally_row ?n_Tally_right ?n_Tally_low ?n_Tally_high ?a0 ?l0 ?c0 ?k0 ?a1 ?l1 ?c1 ?k1 ?a2 ?l2 ?c2 ?k2 ?a3 ?l3 ?c3 ?k3 ?a4 ?i4 ?l4 ?c4 ?k4 ?a5 ?i5 ?l5 ?c5 ?k5 ?a6 ?i6 ?l6 ?c6 ?k6 ?a7 ?i7 ?l7 ?c7 ?k7 ?a8 ?i8 ?l8 ?c8 ?k8 ?a9 ?i9 ?l9 ?c9 ?k9 ?a10 ?i10 ?l10 ?c10 ?k10 ?a11 ?i11 ?l11 ?c11 ?k11 ?a12 ?i12 ?l12 ?c12 ?k12 ?a13 ?l13 ?c13 ?k13 ?a14 ?l14 ?c14 ?k14 ?a15 ?l15 ?c15 ?k15 ?a16 ?l16 ?c16 ?k16 ?a17 ?l17 ?c17 ?k17 ?a18 ?l18 ?c18 ?k18 ?a19 ?l19 ?c19 ?k19 ?a20 ?l20 ?c20 ?k20 ?a21 ?l21 ?c21 ?k21 ?a22 ?l22 ?c22 ?k22 ?a23 ?l23 ?c23 ?k23 ?a24 ?l24 ?c24 ?k24 ?a25 ?l25 ?c25 ?k25 ?a26 ?l26 ?c26 ?k26 ?a27 ?l27 ?c27 ?k27 ?a28 ?l28 ?c28 ?k28 ?a29 ?l29 ?c29 ?k29 ?z_abs ?z_any ?z_divmod ?z_int ?z_len ?z_list ?z_max ?z_min ?z_range ?z_set ?z_sorted ?z_tuple ?z_zip
    (case aC_Row => k_is)
    (case pg_Row => k_is)
    (case hd_Row => k_is)
    (case po_Row => k_is)
    (case sa_Row => k_is)
    (case mk_Row => k_is)
    (case kc_Row => k_is)
    (case n_Row_starts => k_is)
    (case n_Row_sums => k_is)
    (case n_Row_many => k_is)
    (case aC_SideTally => k_is)
    (case pg_SideTally => k_is)
    (case hd_SideTally => k_is)
    (case po_SideTally => k_is)
    (case sa_SideTally => k_is)
    (case mk_SideTally => k_is)
    (case kc_SideTally => k_is)
    (case n_SideTally_period => k_is)
    (case n_SideTally_many => k_is)
    (case n_SideTally_row => k_is)
    (case aC_Tally => k_is)
    (case pg_Tally => k_is)
    (case hd_Tally => k_is)
    (case po_Tally => k_is)
    (case sa_Tally => k_is)
    (case mk_Tally => k_is)
    (case kc_Tally => k_is)
    (case n_Tally_left => k_is)
    (case n_Tally_row => k_is)
    (case n_Tally_right => k_is)
    (case n_Tally_low => k_is)
    (case n_Tally_high => k_is)
    (case a0 => k_is)
    (case l0 => k_is)
    (case c0 => k_is)
    (case k0 => k_is)
    (case a1 => k_is)
    (case l1 => k_is)
    (case c1 => k_is)
    (case k1 => k_is)
    (case a2 => k_is)
    (case l2 => k_is)
    (case c2 => k_is)
    (case k2 => k_is)
    (case a3 => k_is)
    (case l3 => k_is)
    (case c3 => k_is)
    (case k3 => k_is)
    (case a4 => k_is)
    (case i4 => k_is)
    (case l4 => k_is)
    (case c4 => k_is)
    (case k4 => k_is)
    (case a5 => k_is)
    (case i5 => k_is)
    (case l5 => k_is)
    (case c5 => k_is)
    (case k5 => k_is)
    (case a6 => k_is)
    (case i6 => k_is)
    (case l6 => k_is)
    (case c6 => k_is)
    (case k6 => k_is)
    (case a7 => k_is)
    (case i7 => k_is)
    (case l7 => k_is)
    (case c7 => k_is)
    (case k7 => k_is)
    (case a8 => k_is)
    (case i8 => k_is)
    (case l8 => k_is)
    (case c8 => k_is)
    (case k8 => k_is)
    (case a9 => k_is)
    (case i9 => k_is)
    (case l9 => k_is)
    (case c9 => k_is)
    (case k9 => k_is)
    (case a10 => k_is)
    (case i10 => k_is)
    (case l10 => k_is)
    (case c10 => k_is)
    (case k10 => k_is)
    (case a11 => k_is)
    (case i11 => k_is)
    (case l11 => k_is)
    (case c11 => k_is)
    (case k11 => k_is)
    (case a12 => k_is)
    (case i12 => k_is)
    (case l12 => k_is)
    (case c12 => k_is)
    (case k12 => k_is)
    (case a13 => k_is)
    (case l13 => k_is)
    (case c13 => k_is)
    (case k13 => k_is)
    (case a14 => k_is)
    (case l14 => k_is)
    (case c14 => k_is)
    (case k14 => k_is)
    (case a15 => k_is)
    (case l15 => k_is)
    (case c15 => k_is)
    (case k15 => k_is)
    (case a16 => k_is)
    (case l16 => k_is)
    (case c16 => k_is)
    (case k16 => k_is)
    (case a17 => k_is)
    (case l17 => k_is)
    (case c17 => k_is)
    (case k17 => k_is)
    (case a18 => k_is)
    (case l18 => k_is)
    (case c18 => k_is)
    (case k18 => k_is)
    (case a19 => k_is)
    (case l19 => k_is)
    (case c19 => k_is)
    (case k19 => k_is)
    (case a20 => k_is)
    (case l20 => k_is)
    (case c20 => k_is)
    (case k20 => k_is)
    (case a21 => k_is)
    (case l21 => k_is)
    (case c21 => k_is)
    (case k21 => k_is)
    (case a22 => k_is)
    (case l22 => k_is)
    (case c22 => k_is)
    (case k22 => k_is)
    (case a23 => k_is)
    (case l23 => k_is)
    (case c23 => k_is)
    (case k23 => k_is)
    (case a24 => k_is)
    (case l24 => k_is)
    (case c24 => k_is)
    (case k24 => k_is)
    (case a25 => k_is)
    (case l25 => k_is)
    (case c25 => k_is)
    (case k25 => k_is)
    (case a26 => k_is)
    (case l26 => k_is)
    (case c26 => k_is)
    (case k26 => k_is)
    (case a27 => k_is)
    (case l27 => k_is)
    (case c27 => k_is)
    (case k27 => k_is)
    (case a28 => k_is)
    (case l28 => k_is)
    (case c28 => k_is)
    (case k28 => k_is)
    (case a29 => k_is)
    (case l29 => k_is)
    (case c29 => k_is)
    (case k29 => k_is)
    (case z_abs => k_is)
    (case z_any => k_is)
    (case z_divmod => k_is)
    (case z_int => k_is)
    (case z_len => k_is)
    (case z_list => k_is)
    (case z_max => k_is)
    (case z_min => k_is)
    (case z_range => k_is)
    (case z_set => k_is)
    (case z_sorted => k_is)
    (case z_tuple => k_is)
    (case z_zip => k_is)
