import PyProof.Rows.All
import Wide.All
import OpenK.AllK
import Wide.FinOn
import HandS.ForMost
import HandS.More
import HandS.TupAny
import HandS.SortInts
import HandS.Steps
import HandS.SetFor
import HandS.Strs
import HandS.ListItems
import HandS.TupMul
import HandS.Gcd
import KE.KTupSum
import HandS.IsInst
import HandS.RevRange
import PyProof.Rows.SortShellAny
import HandS.WordsExc
import HandS.ExcIs
import HandS.Star
import HandS.Iter
import HandS.Zip
import HandS.Style
import HandS.Comp
import HandS.RevTup
import HandS.Conv
import KE.KItemsList
import HandS.Rev
import HandS.Small
import PyProof.ReprRoads
import HandS.DeepEq
import PyProof.WalksMore
import HandS.Flow
import HandS.EndBits
import HandS.TupSets
import HandS.SortOrd
import PySem.Challenge.RW_everydue_k16_faults_of_rules
set_option Elab.async false
set_option linter.all false
set_option maxRecDepth 100000
/-! Pure readings: what a reading asks, said over data and not over the heap. -/
namespace Pu
open PySem L2

/-! ### what a heap holds, seen by itself and through a veil -/
def Grow (A H : Hp) : Prop := ∀ a o, A a = some o → H a = some o
theorem Grow.refl (H : Hp) : Grow H H := fun _ _ h => h
theorem Grow.trans {A B C : Hp} (f : Grow A B) (g : Grow B C) : Grow A C := fun a o h => g a o (f a o h)
theorem grow_rd {A H : Hp} {a : Addr} {u : HO} (g : Grow A H) (h : Rd A a u) : Rd H a u := by
  rcases h with h | ⟨o, h⟩
  · exact .inl (g a _ h)
  · exact .inr ⟨o, g a _ h⟩
theorem grow_l {K : PySem.W.Frag} {A H : Hp} {a : Addr} {xs : List V} (g : Grow A H) (h : SqL K A a xs) : SqL K H a xs := h.elim (fun z => .inl (grow_rd g z)) .inr
theorem grow_t {K : PySem.W.Frag} {A H : Hp} {a : Addr} {xs : List V} (g : Grow A H) (h : SqT K A a xs) : SqT K H a xs := h.elim (fun z => .inl (grow_rd g z)) .inr
def keyD : Key → PyData
  | .inl n => .int n
  | .inr z => .str z
/-- the class with a name -/
def ClsNm (K : PySem.W.Frag) (nm : Str) (C : Addr) : Prop := PySem.W.nsIn K mainGlobals nm = some (some (.ref C))
def fdD (p : Str × PyData) : PyData := .tuple [.str p.1, p.2]
/-- an object that is not changed any more, as a datum: a dict with a key that no dict has -/
@[reducible] def obD (nm : Str) (fs : List (Str × PyData)) : PyData := .dict [(.list [], .tuple (.str nm :: fs.map fdD))]
mutual
/-- a value is this datum; its lists and dicts stand in the heap by themselves -/
inductive Dq (K : PySem.W.Frag) (H : Hp) : V → PyData → Prop
  | non : Dq K H .non .none
  | bl (b : Bool) : Dq K H (.bl b) (.bool b)
  | int (i : Int) : Dq K H (.int i) (.int i)
  | str (x : Str) : Dq K H (.str x) (.str x)
  | lst {a : Addr} {xs : List V} {ds : List PyData} (h : H a = some (.lst xs)) (r : Dqs K H xs ds) : Dq K H (.ref a) (.list ds)
  | tup {a : Addr} {xs : List V} {ds : List PyData} (h : SqT K H a xs) (r : Dqs K H xs ds) : Dq K H (.ref a) (.tuple ds)
  | dct {a : Addr} {ws : List (Key × V)} {kvs : List (PyData × PyData)} (h : H a = some (.dK ws)) (r : Dks K H ws kvs) : Dq K H (.ref a) (.dict kvs)
  | ob {a : Addr} {nm : Str} {C dx : Addr} {ws : List (Str × V)} {fs : List (Str × PyData)} (hc : ClsNm K nm C) (h : H a = some (.ins C dx ws)) (r : Fds K H ws fs) : Dq K H (.ref a) (obD nm fs)
inductive Dqs (K : PySem.W.Frag) (H : Hp) : List V → List PyData → Prop
  | nil : Dqs K H [] []
  | cons {v : V} {vs : List V} {d : PyData} {ds : List PyData} (h : Dq K H v d) (r : Dqs K H vs ds) : Dqs K H (v :: vs) (d :: ds)
inductive Dks (K : PySem.W.Frag) (H : Hp) : List (Key × V) → List (PyData × PyData) → Prop
  | nil : Dks K H [] []
  | cons {k : Key} {v : V} {d : PyData} {ws : List (Key × V)} {kvs : List (PyData × PyData)} (h : Dq K H v d) (r : Dks K H ws kvs) : Dks K H ((k, v) :: ws) ((keyD k, d) :: kvs)
/-- the attributes of an object -/
inductive Fds (K : PySem.W.Frag) (H : Hp) : List (Str × V) → List (Str × PyData) → Prop
  | nil : Fds K H [] []
  | cons {f : Str} {v : V} {d : PyData} {ws : List (Str × V)} {fs : List (Str × PyData)} (h : Dq K H v d) (r : Fds K H ws fs) : Fds K H ((f, v) :: ws) ((f, d) :: fs)
end
mutual
theorem dq_up {K : PySem.W.Frag} {A H : Hp} (g : Grow A H) : ∀ {d : PyData} {v : V}, Dq K A v d → Dq K H v d
  | _, _, .non => .non
  | _, _, .bl b => .bl b
  | _, _, .int i => .int i
  | _, _, .str x => .str x
  | _, _, .lst hs ha => .lst (g _ _ hs) (dqs_up g ha)
  | _, _, .tup hs ha => .tup (grow_t g hs) (dqs_up g ha)
  | _, _, .dct hs ha => .dct (g _ _ hs) (dks_up g ha)
  | _, _, .ob hc hs ha => .ob hc (g _ _ hs) (fds_up g ha)
theorem dqs_up {K : PySem.W.Frag} {A H : Hp} (g : Grow A H) : ∀ {ds : List PyData} {vs : List V}, Dqs K A vs ds → Dqs K H vs ds
  | _, _, .nil => .nil
  | _, _, .cons h1 h2 => .cons (dq_up g h1) (dqs_up g h2)
theorem dks_up {K : PySem.W.Frag} {A H : Hp} (g : Grow A H) : ∀ {kvs : List (PyData × PyData)} {ws : List (Key × V)}, Dks K A ws kvs → Dks K H ws kvs
  | _, _, .nil => .nil
  | _, _, .cons h1 h2 => .cons (dq_up g h1) (dks_up g h2)
theorem fds_up {K : PySem.W.Frag} {A H : Hp} (g : Grow A H) : ∀ {fs : List (Str × PyData)} {ws : List (Str × V)}, Fds K A ws fs → Fds K H ws fs
  | _, _, .nil => .nil
  | _, _, .cons h1 h2 => .cons (dq_up g h1) (fds_up g h2)
end
theorem dp_grow {K : PySem.W.Frag} {A H : Hp} (g : Grow A H) (d : PyData) (v : V) (h : Dq K A v d) : Dq K H v d := dq_up g h
theorem dps_grow {K : PySem.W.Frag} {A H : Hp} (g : Grow A H) (ds : List PyData) (vs : List V) (h : Dqs K A vs ds) : Dqs K H vs ds := dqs_up g h
/-! no dict in it -/
mutual
def noD : PyData → Bool
  | .dict _ => false
  | .list ds => noDs ds
  | .tuple ds => noDs ds
  | .none => true
  | .bool _ => true
  | .int _ => true
  | .str _ => true
def noDs : List PyData → Bool
  | [] => true
  | d :: ds => noD d && noDs ds
end
def shq (d : PyData) : Bool := noD d && SeqAt.shaped d
mutual
theorem dq_dp {K : PySem.W.Frag} {H : Hp} : ∀ (d : PyData) (v : V), noD d = true → Dq K H v d → Dp K H v d
  | .none, _, _, .non => .non
  | .bool _, _, _, .bl b => .bl b
  | .int _, _, _, .int i => .int i
  | .str _, _, _, .str x => .str x
  | .list ds, _, n, .lst hs ha => .lst (.of hs) (dqs_dps ds _ n ha)
  | .tuple ds, _, n, .tup hs ha => .tup hs (dqs_dps ds _ n ha)
  | .dict _, _, n, _ => by cases n
theorem dqs_dps {K : PySem.W.Frag} {H : Hp} : ∀ (ds : List PyData) (vs : List V), noDs ds = true → Dqs K H vs ds → DpAll K H vs ds
  | [], _, _, .nil => .nil
  | d :: ds, _, n, .cons h1 h2 => by
    have n : (noD d && noDs ds) = true := n
    rw [Bool.and_eq_true] at n
    exact .cons (dq_dp d _ n.1 h1) (dqs_dps ds _ n.2 h2)
end
section
variable {K : PySem.W.Frag} {H : Hp}
theorem dqs_len : ∀ {vs : List V} {ds : List PyData}, Dqs K H vs ds → vs.length = ds.length
  | _, _, .nil => rfl
  | _, _, .cons _ r => congrArg (· + 1) (dqs_len r)
theorem dqs_app : ∀ {vs ws : List V} {ds es : List PyData}, Dqs K H vs ds → Dqs K H ws es → Dqs K H (vs ++ ws) (ds ++ es)
  | _, _, _, _, .nil, h => h
  | _, _, _, _, .cons a r, h => .cons a (dqs_app r h)
theorem dqs_get : ∀ {vs : List V} {ds : List PyData} {i : Nat} {d : PyData}, Dqs K H vs ds → ds[i]? = some d → ∃ v, vs[i]? = some v ∧ Dq K H v d
  | _, _, _, _, .nil, e => by simp at e
  | _, _, 0, _, .cons h _, e => ⟨_, rfl, by simp at e; subst e; exact h⟩
  | _, _, i + 1, _, .cons _ r, e => dqs_get (i := i) r (by simpa using e)
theorem dqs_got : ∀ {vs : List V} {ds : List PyData} {i : Nat} {v : V}, Dqs K H vs ds → vs[i]? = some v → ∃ d, ds[i]? = some d ∧ Dq K H v d
  | _, _, _, _, .nil, e => by simp at e
  | _, _, 0, _, .cons h _, e => ⟨_, rfl, by simp at e; subst e; exact h⟩
  | _, _, i + 1, _, .cons _ r, e => dqs_got (i := i) r (by simpa using e)
theorem dqs_take : ∀ {vs : List V} {ds : List PyData} (n : Nat), Dqs K H vs ds → Dqs K H (vs.take n) (ds.take n)
  | _, _, 0, _ => .nil
  | _, _, _ + 1, .nil => .nil
  | _, _, n + 1, .cons h r => .cons h (dqs_take n r)
theorem dqs_drop : ∀ {vs : List V} {ds : List PyData} (n : Nat), Dqs K H vs ds → Dqs K H (vs.drop n) (ds.drop n)
  | _, _, 0, r => r
  | _, _, _ + 1, .nil => .nil
  | _, _, n + 1, .cons _ r => dqs_drop n r
theorem dqs_set : ∀ {vs : List V} {ds : List PyData} {v : V} {d : PyData} (n : Nat), Dq K H v d → Dqs K H vs ds → Dqs K H (vs.set n v) (ds.set n d)
  | _, _, _, _, _, _, .nil => .nil
  | _, _, _, _, 0, k, .cons _ r => .cons k r
  | _, _, _, _, n + 1, k, .cons h r => .cons h (dqs_set n k r)
theorem dqs_ints : ∀ {ns : List Int}, Dqs K H (ns.map V.int) (ns.map PyData.int)
  | [] => .nil
  | n :: ns => .cons (.int n) (dqs_ints (ns := ns))
theorem dqs_of_ints : ∀ {vs : List V} {ns : List Int}, Dqs K H vs (ns.map PyData.int) → vs = ns.map V.int
  | _, [], .nil => rfl
  | _, n :: ns, .cons (.int _) r => congrArg (V.int n :: ·) (dqs_of_ints r)
end

/-! ### the veil: what changes hands is not read through -/
open Classical in
noncomputable def veil (Z : Addr → Prop) (H : Hp) : Hp := fun a => if Z a then none else H a
theorem veil_off {Z : Addr → Prop} {H : Hp} {a : Addr} {o : HO} (h : veil Z H a = some o) : ¬ Z a ∧ H a = some o := by
  unfold veil at h
  by_cases z : Z a
  · rw [if_pos z] at h
    cases h
  · rw [if_neg z] at h
    exact ⟨z, h⟩
theorem veil_on {Z : Addr → Prop} {H : Hp} {a : Addr} {o : HO} (z : ¬ Z a) (h : H a = some o) : veil Z H a = some o := by
  unfold veil
  rw [if_neg z]
  exact h
theorem veil_grow (Z : Addr → Prop) (H : Hp) : Grow (veil Z H) H := fun _ _ h => (veil_off h).2
theorem veil_none {Z : Addr → Prop} {H : Hp} {a : Addr} (h : H a = none) : veil Z H a = none := by
  unfold veil
  by_cases z : Z a
  · rw [if_pos z]
  · rw [if_neg z]
    exact h

/-- a dict with int keys -/
inductive Kvs (K : PySem.W.Frag) (H : Hp) : List (Key × V) → List (Int × PyData) → Prop
  | nil : Kvs K H [] []
  | cons {n : Int} {v : V} {d : PyData} {ws : List (Key × V)} {kvs : List (Int × PyData)} (h : Dq K H v d) (r : Kvs K H ws kvs) : Kvs K H ((.inl n, v) :: ws) ((n, d) :: kvs)
theorem kvs_grow {K : PySem.W.Frag} {A H : Hp} (g : Grow A H) : ∀ {ws : List (Key × V)} {kvs : List (Int × PyData)}, Kvs K A ws kvs → Kvs K H ws kvs
  | _, _, .nil => .nil
  | _, _, .cons h r => .cons (dp_grow g _ _ h) (kvs_grow g r)
theorem kvs_len {K : PySem.W.Frag} {H : Hp} : ∀ {ws : List (Key × V)} {kvs : List (Int × PyData)}, Kvs K H ws kvs → ws.length = kvs.length
  | _, _, .nil => rfl
  | _, _, .cons _ r => congrArg (· + 1) (kvs_len r)
theorem fds_grow {K : PySem.W.Frag} {A H : Hp} (g : Grow A H) : ∀ {ws : List (Str × V)} {fs : List (Str × PyData)}, Fds K A ws fs → Fds K H ws fs := fun h => fds_up g h
/-! ### places -/
inductive Cell where
  | no
  | d (x : PyData)
  | own (xs : List PyData)
  | dct (kvs : List (Int × PyData))
  | box
  | obj (nm : Str) (fs : List (Str × PyData))
abbrev En := List Cell

/-- the veil of a body: what its caller hides (Z), and what its own places own (M) -/
def hid (Z : Addr → Prop) (M : Nat → Option Addr) : Addr → Prop := fun a => Z a ∨ ∃ i, M i = some a
/-- the box of draws at b -/
def BoxAt (K : PySem.W.Frag) (Z : Addr → Prop) (H : Hp) (b : Addr) : Prop :=
  ∃ (r : Addr) (rows : List Int) (at_ : Int), H b = some (.dK [(.inr "row", .ref r), (.inr "at", .int at_)]) ∧ 0 ≤ at_ ∧ veil Z H r = some (.lst (rows.map V.int)) ∧
    0 < rows.length ∧ rows.length ≤ 1000 ∧ ∀ x ∈ rows, 0 ≤ x ∧ x < 1000003
def CellR (K : PySem.W.Frag) (Z : Addr → Prop) (M : Nat → Option Addr) (H : Hp) (i : Nat) (o : Option V) : Cell → Prop
  | .no => True
  | .d x => ∃ v, o = some v ∧ Dq K (veil (hid Z M) H) v x
  | .own xs => ∃ l vs, o = some (.ref l) ∧ M i = some l ∧ H l = some (.lst vs) ∧ Dqs K (veil (hid Z M) H) vs xs
  | .dct kvs => ∃ l ws, o = some (.ref l) ∧ M i = some l ∧ H l = some (.dK ws) ∧ Kvs K (veil (hid Z M) H) ws kvs
  | .box => ∃ b, o = some (.ref b) ∧ M i = some b ∧ BoxAt K (hid Z M) H b
  | .obj nm fs => ∃ l C dx ws, o = some (.ref l) ∧ M i = some l ∧ ClsNm K nm C ∧ H l = some (.ins C dx ws) ∧ Fds K (veil (hid Z M) H) ws fs

/-- B: what may change of what stood at the entry (H0); A: what stays (under the veil) -/
structure EnvR (K : PySem.W.Frag) (B Z : Addr → Prop) (A H0 : Hp) (M : Nat → Option Addr) (σ : St) (H : Hp) (ρ : En) : Prop where
  len : σ.length = ρ.length
  inj : ∀ i j l, M i = some l → M j = some l → i = j
  live : ∀ i l, M i = some l → H l ≠ none
  off : ∀ i l, M i = some l → ¬ Z l
  zl : ∀ a, Z a → H a ≠ none
  ext : ∀ a o, ¬ B a → H0 a = some o → H a = some o
  own : ∀ i l, M i = some l → B l ∨ H0 l = none
  m0 : ∀ b, B b → M 0 = some b
  anch : Grow A (veil (hid Z M) H)
  cell : ∀ i c, ρ[i]? = some c → CellR K Z M H i (σ[i]?.join) c

/-- what an expression's reading is worth: p asks over data -/
abbrev PE' := En → (PyData → En → Prop) → Prop
abbrev PT' := En → (Bool → En → Prop) → Prop
abbrev PA' := En → (List PyData → En → Prop) → Prop
structure PEnds where
  nx : En → Prop
  rt : PyData → En → Prop
  bk : En → Prop := fun _ => False
  ct : En → Prop := fun _ => False
abbrev PS' := PEnds → En → Prop

def Sim (K : PySem.W.Frag) (te : TE) (p : PE') : Prop := ∀ B Z A H0 M σ H ρ R, EnvR K B Z A H0 M σ H ρ → p ρ R →
  ∀ Q : VK, (∀ v d ρ' H2, R d ρ' → EnvR K B Z A H0 M σ H2 ρ' → Dq K (veil (hid Z M) H2) v d → Q v H2) → te σ H Q
def SimT (K : PySem.W.Frag) (tt : TT) (p : PT') : Prop := ∀ B Z A H0 M σ H ρ R, EnvR K B Z A H0 M σ H ρ → p ρ R →
  ∀ Q : Bool → Hp → Prop, (∀ b ρ' H2, R b ρ' → EnvR K B Z A H0 M σ H2 ρ' → Q b H2) → tt σ H Q
def SimA (K : PySem.W.Frag) (ta : TA) (p : PA') : Prop := ∀ B Z A H0 M σ H ρ R, EnvR K B Z A H0 M σ H ρ → p ρ R →
  ∀ Q : List V → Hp → Prop, (∀ vs ds ρ' H2, R ds ρ' → EnvR K B Z A H0 M σ H2 ρ' → Dqs K (veil (hid Z M) H2) vs ds → Q vs H2) → ta σ H Q
/-- a new list -/
def SimL (K : PySem.W.Frag) (te : TE) (p : PA') : Prop := ∀ B Z A H0 M σ H ρ R, EnvR K B Z A H0 M σ H ρ → p ρ R →
  ∀ Q : VK, (∀ l vs ds ρ' H2, R ds ρ' → EnvR K B Z A H0 M σ H2 ρ' → H2 l = none → Dqs K (veil (hid Z M) H2) vs ds → Q (.ref l) (upd H2 l (.lst vs))) → te σ H Q

/-- the ends of a statement -/
structure Comp (K : PySem.W.Frag) (B Z : Addr → Prop) (A H0 : Hp) (D : Ends) (G : PEnds) : Prop where
  nx : ∀ M σ H ρ, EnvR K B Z A H0 M σ H ρ → G.nx ρ → D.nx σ H
  bk : ∀ M σ H ρ, EnvR K B Z A H0 M σ H ρ → G.bk ρ → D.bk σ H
  ct : ∀ M σ H ρ, EnvR K B Z A H0 M σ H ρ → G.ct ρ → D.ct σ H
  rt : ∀ M σ H ρ v d, EnvR K B Z A H0 M σ H ρ → G.rt d ρ → Dq K (veil (fun a => Z a ∨ B a) H) v d → D.rt v H
def SimS (K : PySem.W.Frag) (ts : TS) (p : PS') : Prop := ∀ B Z A H0 M σ H ρ D G, EnvR K B Z A H0 M σ H ρ → p G ρ → Comp K B Z A H0 D G → ts D σ H

/-! ### the environment through changes -/
section
variable {K : PySem.W.Frag} {B Z : Addr → Prop} {A A' H0 H H2 : Hp} {M : Nat → Option Addr} {σ : St} {ρ : En}
theorem CellR.grow {i : Nat} {o : Option V} {c : Cell} (g : Grow (veil (hid Z M) H) (veil (hid Z M) H2)) (k : ∀ l, M i = some l → ∀ u, H l = some u → H2 l = some u) (h : CellR K Z M H i o c) : CellR K Z M H2 i o c := by
  cases c with
  | no => trivial
  | d x =>
    obtain ⟨v, e, h⟩ := h
    exact ⟨v, e, dp_grow g _ _ h⟩
  | own xs =>
    obtain ⟨l, vs, e, m, hl, h⟩ := h
    exact ⟨l, vs, e, m, k l m _ hl, dps_grow g _ _ h⟩
  | dct kvs =>
    obtain ⟨l, ws, e, m, hl, h⟩ := h
    exact ⟨l, ws, e, m, k l m _ hl, kvs_grow g h⟩
  | box =>
    obtain ⟨b, e, m, r, rows, at_, hb, h0, hr, h1, h2, h3⟩ := h
    exact ⟨b, e, m, r, rows, at_, k b m _ hb, h0, g _ _ hr, h1, h2, h3⟩
  | obj nm fs =>
    obtain ⟨l, C, dx, ws, e, m, hc, hl, h⟩ := h
    exact ⟨l, C, dx, ws, e, m, hc, k l m _ hl, fds_grow g h⟩
theorem EnvR.anchor (E : EnvR K B Z A H0 M σ H ρ) : EnvR K B Z (veil (hid Z M) H) H0 M σ H ρ := { E with anch := Grow.refl _ }
theorem EnvR.weak (g : Grow A' A) (E : EnvR K B Z A H0 M σ H ρ) : EnvR K B Z A' H0 M σ H ρ := { E with anch := g.trans E.anch }
/-- the heap has grown, nothing has changed -/
theorem EnvR.grown (E : EnvR K B Z A H0 M σ H ρ) (g : Grow H H2) : EnvR K B Z A H0 M σ H2 ρ := by
  have gv : Grow (veil (hid Z M) H) (veil (hid Z M) H2) := fun a o h => veil_on (veil_off h).1 (g _ _ (veil_off h).2)
  have nn : ∀ a, H a ≠ none → H2 a ≠ none := fun a h e => by
    cases q : H a with
    | none => exact h q
    | some o =>
      rw [g a o q] at e
      cases e
  exact ⟨E.len, E.inj, fun i l m => nn l (E.live i l m), E.off, fun a z => nn a (E.zl a z), fun a o b h => g _ _ (E.ext a o b h), E.own, E.m0, E.anch.trans gv, fun i c h => (E.cell i c h).grow gv fun l _ u hu => g _ _ hu⟩
theorem EnvR.veiled (E : EnvR K B Z A H0 M σ H ρ) {p : Addr} (h : H p = none) : ¬ hid Z M p := by
  rintro (z | ⟨i, m⟩)
  · exact E.zl p z h
  · exact E.live i p m h
theorem grow_new {p : Addr} {o : HO} (h : H p = none) : Grow H (upd H p o) := fun a u e => by
  rw [upd_ne (ne_of_none e h)]
  exact e
theorem grow_veil (g : Grow H H2) : Grow (veil Z H) (veil Z H2) := fun a o h => veil_on (veil_off h).1 (g _ _ (veil_off h).2)
theorem veil_less {Y : Addr → Prop} (h : ∀ a, Z a → Y a) : Grow (veil Y H) (veil Z H) := fun a o e => veil_on (fun z => (veil_off e).1 (h a z)) (veil_off e).2
end
end Pu
namespace Pu
open PySem L2

/-! ### asking a datum what it is -/
def asI : PyData → (Int → Prop) → Prop
  | .int i, k => k i
  | _, _ => False
def asB : PyData → (Bool → Prop) → Prop
  | .bool b, k => k b
  | _, _ => False
def asT : PyData → (List PyData → Prop) → Prop
  | .tuple ds, k => k ds
  | _, _ => False
def asL : PyData → (List PyData → Prop) → Prop
  | .list ds, k => k ds
  | _, _ => False
def asS : PyData → (List PyData → Prop) → Prop
  | .list ds, k => k ds
  | .tuple ds, k => k ds
  | _, _ => False
theorem asI_of {d : PyData} {k : Int → Prop} (h : asI d k) : ∃ i, d = .int i ∧ k i := by
  cases d <;> first | exact ⟨_, rfl, h⟩ | exact h.elim
theorem asB_of {d : PyData} {k : Bool → Prop} (h : asB d k) : ∃ i, d = .bool i ∧ k i := by
  cases d <;> first | exact ⟨_, rfl, h⟩ | exact h.elim
theorem asT_of {d : PyData} {k : List PyData → Prop} (h : asT d k) : ∃ i, d = .tuple i ∧ k i := by
  cases d <;> first | exact ⟨_, rfl, h⟩ | exact h.elim
theorem asL_of {d : PyData} {k : List PyData → Prop} (h : asL d k) : ∃ i, d = .list i ∧ k i := by
  cases d <;> first | exact ⟨_, rfl, h⟩ | exact h.elim
def isN : PyData → Bool
  | .none => true
  | _ => false
def isBl (b : Bool) : PyData → Bool
  | .bool c => decide (c = b)
  | _ => false
def tyN : PyData → String
  | .none => "NoneType"
  | .bool _ => "bool"
  | .int _ => "int"
  | .str _ => "str"
  | .list _ => "list"
  | .tuple _ => "tuple"
  | .dict [(.list [], _)] => "object"
  | .dict _ => "dict"
/-- a value without parts, as a datum -/
def dv : V → PyData
  | .bl b => .bool b
  | .int i => .int i
  | .str x => .str x
  | _ => .none
def sv : V → Bool
  | .non => true
  | .bl _ => true
  | .int _ => true
  | .str _ => true
  | _ => false
theorem dv_q {K : PySem.W.Frag} {H : Hp} {v : V} (h : sv v = true) : Dq K H v (dv v) := by
  cases v <;> first | exact .non | exact .bl _ | exact .int _ | exact .str _ | cases h
def asO : Option PyData → (PyData → Prop) → Prop
  | some d, k => k d
  | none, _ => False
theorem asO_of {o : Option PyData} {k : PyData → Prop} (h : asO o k) : ∃ d, o = some d ∧ k d := by
  cases o <;> first | exact ⟨_, rfl, h⟩ | exact h.elim

def cellAt : En → Nat → Cell
  | [], _ => .no
  | c :: _, 0 => c
  | _ :: r, i + 1 => cellAt r i
def cellSet : En → Nat → Cell → En
  | [], _, _ => []
  | _ :: r, 0, c => c :: r
  | x :: r, i + 1, c => x :: cellSet r i c
theorem cellAt_some : ∀ {ρ : En} {i : Nat} {c : Cell}, cellAt ρ i = c → c ≠ .no → ρ[i]? = some c
  | [], _, _, h, n => absurd h.symm n
  | c :: _, 0, _, h, _ => congrArg some h
  | _ :: r, i + 1, _, h, n => by simpa using cellAt_some (ρ := r) (i := i) h n
theorem cellSet_eq : ∀ (ρ : En) (i : Nat) (c : Cell), cellSet ρ i c = ρ.set i c
  | [], _, _ => rfl
  | _ :: _, 0, _ => rfl
  | x :: r, i + 1, c => congrArg (x :: ·) (cellSet_eq r i c)
def asD : Cell → (PyData → Prop) → Prop
  | .d x, k => k x
  | _, _ => False
def asOwn : Cell → (List PyData → Prop) → Prop
  | .own x, k => k x
  | _, _ => False
theorem asD_of {c : Cell} {k : PyData → Prop} (h : asD c k) : ∃ x, c = .d x ∧ k x := by
  cases c <;> first | exact ⟨_, rfl, h⟩ | exact h.elim
theorem asOwn_of {c : Cell} {k : List PyData → Prop} (h : asOwn c k) : ∃ x, c = .own x ∧ k x := by
  cases c <;> first | exact ⟨_, rfl, h⟩ | exact h.elim

def flipB : Bool → Bool → Bool
  | true, b => !b
  | false, b => b
/-! ### the pure readings of expressions -/
def pVar (i : Nat) : PE' := fun ρ R => asD (cellAt ρ i) fun x => R x ρ
def pC (d : PyData) : PE' := fun ρ R => R d ρ
def pII (f : Int → Int → PyData) (pa pb : PE') : PE' := fun ρ R => pa ρ fun x ρ1 => pb ρ1 fun y ρ2 => asI x fun i => asI y fun j => R (f i j) ρ2
def pIIc (C : Int → Int → Prop) (f : Int → Int → PyData) (pa pb : PE') : PE' := fun ρ R => pa ρ fun x ρ1 => pb ρ1 fun y ρ2 => asI x fun i => asI y fun j => C i j ∧ R (f i j) ρ2
def pI (f : Int → PyData) (pa : PE') : PE' := fun ρ R => pa ρ fun x ρ1 => asI x fun i => R (f i) ρ1
def pEqD (neg : Bool) (pa pb : PE') : PE' := fun ρ R => pa ρ fun x ρ1 => pb ρ1 fun y ρ2 => shq x = true ∧ shq y = true ∧ R (.bool (flipB neg (PyData.eqv x y))) ρ2
def pIsN (neg : Bool) (pa : PE') : PE' := fun ρ R => pa ρ fun x ρ1 => R (.bool (flipB neg (isN x))) ρ1
def pIsB (b : Bool) (pa : PE') : PE' := fun ρ R => pa ρ fun x ρ1 => R (.bool (isBl b x)) ρ1
def noO : PyData → Bool
  | .dict [(.list [], _)] => false
  | _ => true
theorem ty_dict (kvs : List (PyData × PyData)) : tyN (.dict kvs) = "object" ∨ tyN (.dict kvs) = "dict" := by
  unfold tyN
  split <;> simp_all
theorem dks_ty {K : PySem.W.Frag} {H : Hp} {ws : List (Key × V)} {kvs : List (PyData × PyData)} (r : Dks K H ws kvs) : tyN (.dict kvs) = "dict" := by
  cases r with
  | nil => rfl
  | @cons k v d ws kvs h r => cases k <;> cases r <;> rfl
theorem noO_of {d : PyData} (h : tyN d ≠ "object") : noO d = true := by
  unfold noO
  split
  · exact absurd rfl h
  · rfl
def pIsTy (T : String) (pa : PE') : PE' := fun ρ R => pa ρ fun x ρ1 => R (.bool (decide (tyN x = T))) ρ1
def pChain (f g : Int → Int → Bool) (pa pb pc : PE') : PE' := fun ρ R => pa ρ fun x ρ1 => pb ρ1 fun y ρ2 => asI x fun i => asI y fun j => if f i j = true then pc ρ2 fun z ρ3 => asI z fun k => R (.bool (g j k)) ρ3 else R (.bool false) ρ2
def pTup (pa : PA') : PE' := fun ρ R => pa ρ fun ds ρ1 => ds.length ≤ 100000 ∧ R (.tuple ds) ρ1
def pLst (pa : PA') : PA' := fun ρ R => pa ρ fun ds ρ1 => ds.length ≤ 100000 ∧ R ds ρ1
def pNew (pa : PA') : PE' := fun ρ R => pa ρ fun ds ρ1 => R (.list ds) ρ1
def pNil : PA' := fun ρ R => R [] ρ
def pCons (pa : PE') (pr : PA') : PA' := fun ρ R => pa ρ fun x ρ1 => pr ρ1 fun xs ρ2 => R (x :: xs) ρ2
def pIx (pa pb : PE') : PE' := fun ρ R => pa ρ fun x ρ1 => pb ρ1 fun y ρ2 => asS x fun ds => asI y fun i => asO (atI ds i) fun d => R d ρ2
def pAndV (pa pb : PE') : PE' := fun ρ R => pa ρ fun x ρ1 => asB x fun c => if c = true then pb ρ1 R else R (.bool false) ρ1
def pOrV (pa pb : PE') : PE' := fun ρ R => pa ρ fun x ρ1 => asB x fun c => if c = true then R (.bool true) ρ1 else pb ρ1 R
def pNotV (pa : PE') : PE' := fun ρ R => pa ρ fun x ρ1 => asB x fun c => R (.bool (!c)) ρ1
def pIfE (pt : PT') (pa pb : PE') : PE' := fun ρ R => pt ρ fun c ρ1 => if c = true then pa ρ1 R else pb ρ1 R
/-! tests -/
def pTst (pa : PE') : PT' := fun ρ R => pa ρ fun x ρ1 => asB x fun c => R c ρ1
def pAnd (pa pb : PT') : PT' := fun ρ R => pa ρ fun c ρ1 => if c = true then pb ρ1 R else R false ρ1
def pOr (pa pb : PT') : PT' := fun ρ R => pa ρ fun c ρ1 => if c = true then R true ρ1 else pb ρ1 R
def pNot (pa : PT') : PT' := fun ρ R => pa ρ fun c ρ1 => R (!c) ρ1
def truD : PyData → Option Bool
  | .none => some false
  | .bool b => some b
  | .int i => some (i != 0)
  | .list ds => some (!ds.isEmpty)
  | .tuple ds => some (!ds.isEmpty)
  | _ => none
def pTru (pa : PE') : PT' := fun ρ R => pa ρ fun x ρ1 => ∃ b, truD x = some b ∧ R b ρ1
/-! calls -/
abbrev FS := List PyData → (PyData → Prop) → Prop
def pCall (n : Nat) (S : FS) (pa : PA') : PE' := fun ρ R => pa ρ fun ds ρ1 => ds.length = n ∧ S ds fun d => R d ρ1
def pCallB (n : Nat) (S : FS) (i : Nat) (pa : PA') : PE' := fun ρ R => cellAt ρ i = .box ∧ pa ρ fun ds ρ1 => cellAt ρ1 i = .box ∧ ds.length = n ∧ S ds fun d => R d ρ1
/-- a built-in by its data -/
def pFn (f : List PyData → (PyData → Prop) → Prop) (pa : PA') : PE' := fun ρ R => pa ρ fun ds ρ1 => f ds fun d => R d ρ1

/-! statements -/
def pNext : PS' := fun G ρ => G.nx ρ
def pSeq (p q : PS') : PS' := fun G ρ => p { G with nx := q G } ρ
def pIfS (pt : PT') (p q : PS') : PS' := fun G ρ => pt ρ fun c ρ1 => if c = true then p G ρ1 else q G ρ1
def pRet (pa : PE') : PS' := fun G ρ => pa ρ fun d ρ1 => G.rt d ρ1
def pRetL (pa : PA') : PS' := fun G ρ => pa ρ fun d ρ1 => G.rt (.list d) ρ1
def pRetO (i : Nat) : PS' := fun G ρ => asOwn (cellAt ρ i) fun ds => G.rt (.list ds) ρ
def pRetN : PS' := fun G ρ => G.rt .none ρ
abbrev PG' := PyData → En → (En → Prop) → Prop
def pgN (i : Nat) : PG' := fun d ρ R => R (cellSet ρ i (.d d))
def setAll : En → List Nat → List PyData → En
  | ρ, i :: is, d :: ds => setAll (cellSet ρ i (.d d)) is ds
  | ρ, _, _ => ρ
def pgT (is : List Nat) : PG' := fun d ρ R => asT d fun ds => ds.length = is.length ∧ R (setAll ρ is ds)
def pAsg (pa : PE') (pg : PG') : PS' := fun G ρ => pa ρ fun d ρ1 => pg d ρ1 G.nx
def pAsgO (pa : PA') (i : Nat) : PS' := fun G ρ => i ≠ 0 ∧ pa ρ fun d ρ1 => G.nx (cellSet ρ1 i (.own d))
def pBrk : PS' := fun G ρ => G.bk ρ
def pCnt : PS' := fun G ρ => G.ct ρ
def pDrop (pa : PE') : PS' := fun G ρ => pa ρ fun _ ρ1 => G.nx ρ1
def pApp (i : Nat) (pa : PE') : PS' := fun G ρ => asOwn (cellAt ρ i) fun _ => pa ρ fun d ρ1 => asOwn (cellAt ρ1 i) fun ds => ds.length < 100000 ∧ G.nx (cellSet ρ1 i (.own (ds ++ [d])))
/-- a for over a list or a tuple of data -/
def pFor (pl : PE') (pg : PG') (pb : PS') : PS' := fun G ρ => pl ρ fun x ρ1 => asS x fun ds => ∃ I : Nat → En → Prop, I 0 ρ1 ∧
  (∀ i d ρ', ds[i]? = some d → I i ρ' → pg d ρ' fun ρ2 => pb { G with nx := I (i + 1), ct := I (i + 1), bk := G.nx } ρ2) ∧ ∀ ρ', I ds.length ρ' → G.nx ρ'
/-- for i in range(a, b) -/
def pRng (pa : PA') (pg : PG') (pb : PS') : PS' := fun G ρ => pa ρ fun x ρ1 => ∃ lo hi : Int, ((x = [.int hi] ∧ lo = 0) ∨ x = [.int lo, .int hi]) ∧ (-(2 ^ 62) ≤ lo ∧ lo < 2 ^ 62 ∧ -(2 ^ 62) ≤ hi ∧ hi < 2 ^ 62) ∧ ∃ I : Nat → En → Prop, I 0 ρ1 ∧
  (∀ (i : Nat) ρ', lo + (i : Int) < hi → I i ρ' → pg (.int (lo + (i : Int))) ρ' fun ρ2 => pb { G with nx := I (i + 1), ct := I (i + 1), bk := G.nx } ρ2) ∧ ∀ ρ', I (hi - lo).toNat ρ' → G.nx ρ'
def pWhile (pt : PT') (pb : PS') : PS' := fun G ρ => ∃ W : Nat → En → Prop, (∃ m, W m ρ) ∧ ∀ m ρ', W m ρ' → pt ρ' fun c ρ1 =>
  if c = true then pb { G with nx := fun ρ2 => ∃ m', m' < m ∧ W m' ρ2, ct := fun ρ2 => ∃ m', m' < m ∧ W m' ρ2, bk := G.nx } ρ1 else G.nx ρ1
/-- comprehensions -/
def pLcS (vs is : List Nat) (pl : PE') (pg : PG') (pt : PT') (pe : PE') : PA' := fun ρ R => (∀ v ∈ vs, cellAt ρ v = .no) ∧ pl ρ fun x ρ1 => ρ1 = ρ ∧ asS x fun ds => ∃ I : Nat → List PyData → Prop, I 0 [] ∧
  (∀ i d acc, ds[i]? = some d → I i acc → pg d ρ fun ρ2 => pt ρ2 fun b ρ3 => ρ3 = ρ2 ∧ if b = true then pe ρ2 fun y ρ4 => ρ4 = ρ2 ∧ acc.length < 100000 ∧ I (i + 1) (acc ++ [y]) else I (i + 1) acc) ∧ ∀ acc, I ds.length acc → R acc ρ
def pLcR (vs is : List Nat) (pa : PA') (pg : PG') (pt : PT') (pe : PE') : PA' := fun ρ R => (∀ v ∈ vs, cellAt ρ v = .no) ∧ pa ρ fun x ρ1 => ρ1 = ρ ∧ ∃ lo hi : Int, ((x = [.int hi] ∧ lo = 0) ∨ x = [.int lo, .int hi]) ∧ (-(2 ^ 62) ≤ lo ∧ lo < 2 ^ 62 ∧ -(2 ^ 62) ≤ hi ∧ hi < 2 ^ 62) ∧
  ∃ I : Nat → List PyData → Prop, I 0 [] ∧
  (∀ (i : Nat) acc, lo + (i : Int) < hi → I i acc → pg (.int (lo + (i : Int))) ρ fun ρ2 => pt ρ2 fun b ρ3 => ρ3 = ρ2 ∧ if b = true then pe ρ2 fun y ρ4 => ρ4 = ρ2 ∧ acc.length < 100000 ∧ I (i + 1) (acc ++ [y]) else I (i + 1) acc) ∧ ∀ acc, I (hi - lo).toNat acc → R acc ρ
def pTO (pl : PE') : PE' := fun ρ R => pl ρ fun x ρ1 => asT x fun ds => R (.tuple ds) ρ1
def pLO (pl : PE') : PE' := fun ρ R => pl ρ fun x ρ1 => asL x fun ds => R (.list ds) ρ1
def pYes : PT' := fun ρ R => R true ρ

section
variable {K : PySem.W.Frag}
/-! ### expressions -/
theorem sim_var {i : Nat} : Sim K (tVar i) (pVar i) := fun B Z A H0 M σ H ρ R E h Q q => by
  obtain ⟨x, hx, h⟩ := asD_of h
  obtain ⟨v, hv, hd⟩ := E.cell i _ (cellAt_some hx (by intro z; cases z))
  refine ⟨v, ?_, q v x ρ H h E hd⟩
  cases e : σ[i]? with
  | none =>
    rw [e] at hv
    cases hv
  | some o =>
    rw [e] at hv
    exact congrArg some hv
theorem sim_c {v : V} (s : sv v = true) : Sim K (tC v) (pC (dv v)) := fun B Z A H0 M σ H ρ R E h Q q => q v (dv v) ρ H h E (dv_q s)
theorem sim_k {v : V} {d : PyData} (s : ∀ H, Dq K H v d) : Sim K (tC v) (pC d) := fun B Z A H0 M σ H ρ R E h Q q => q v d ρ H h E (s _)
/-- two operands in turn: the first one stays through the second one's making -/
theorem two {ta tb : TE} {pa pb : PE'} (sa : Sim K ta pa) (sb : Sim K tb pb) {B Z : Addr → Prop} {A H0 : Hp} {M : Nat → Option Addr} {σ : St} {H : Hp} {ρ : En} {R : PyData → PyData → En → Prop} (E : EnvR K B Z A H0 M σ H ρ)
    (h : pa ρ fun x ρ1 => pb ρ1 fun y ρ2 => R x y ρ2) {Q : V → V → Hp → Prop} (q : ∀ v w x y ρ' H2, R x y ρ' → EnvR K B Z A H0 M σ H2 ρ' → Dq K (veil (hid Z M) H2) v x → Dq K (veil (hid Z M) H2) w y → Q v w H2) :
    ta σ H fun v H1 => tb σ H1 fun w H2 => Q v w H2 :=
  sa B Z A H0 M σ H ρ _ E h _ fun v x ρ1 H1 h1 E1 d1 => sb B Z _ H0 M σ H1 ρ1 _ E1.anchor h1 _ fun w y ρ2 H2 h2 E2 d2 =>
    q v w x y ρ2 H2 h2 (E2.weak E1.anch) (dp_grow E2.anch _ _ d1) d2
theorem of_int {H : Hp} {v : V} {i : Int} (h : Dq K H v (.int i)) : v = .int i := by cases h; rfl
theorem of_bl {H : Hp} {v : V} {i : Bool} (h : Dq K H v (.bool i)) : v = .bl i := by cases h; rfl
theorem sim_ii {g : Int → Int → V} {ta tb : TE} {pa pb : PE'} (sa : Sim K ta pa) (sb : Sim K tb pb) (hg : ∀ i j, sv (g i j) = true) : Sim K (tOp (rI0 g) ta tb) (pII (fun i j => dv (g i j)) pa pb) := fun B Z A H0 M σ H ρ R E h Q q =>
  two sa sb E h fun v w x y ρ2 H2 h2 E2 d1 d2 => by
    obtain ⟨i, rfl, h3⟩ := asI_of h2
    obtain ⟨j, rfl, h4⟩ := asI_of h3
    rw [of_int d1, of_int d2]
    exact ⟨i, j, rfl, rfl, q _ _ _ _ h4 E2 (dv_q (hg i j))⟩
theorem sim_iic {C : Int → Int → Prop} {g : Int → Int → V} {ta tb : TE} {pa pb : PE'} (sa : Sim K ta pa) (sb : Sim K tb pb) (hg : ∀ i j, sv (g i j) = true) : Sim K (tOp (rI C g) ta tb) (pIIc C (fun i j => dv (g i j)) pa pb) := fun B Z A H0 M σ H ρ R E h Q q =>
  two sa sb E h fun v w x y ρ2 H2 h2 E2 d1 d2 => by
    obtain ⟨i, rfl, h3⟩ := asI_of h2
    obtain ⟨j, rfl, h4⟩ := asI_of h3
    rw [of_int d1, of_int d2]
    exact ⟨i, j, rfl, rfl, h4.1, q _ _ _ _ h4.2 E2 (dv_q (hg i j))⟩
theorem sim_u {g : Int → V} {ta : TE} {pa : PE'} (sa : Sim K ta pa) (hg : ∀ i, sv (g i) = true) : Sim K (tUn (rU g) ta) (pI (fun i => dv (g i)) pa) := fun B Z A H0 M σ H ρ R E h Q q =>
  sa B Z A H0 M σ H ρ _ E h _ fun v x ρ1 H1 h1 E1 d1 => by
    obtain ⟨i, rfl, h1⟩ := asI_of h1
    rw [of_int d1]
    exact ⟨i, rfl, q _ _ _ _ h1 E1 (dv_q (hg i))⟩
theorem veil_dp {Z : Addr → Prop} {H : Hp} {v : V} {d : PyData} (n : noD d = true) (h : Dq K (veil Z H) v d) : Dp K H v d := dq_dp _ _ n (dp_grow (veil_grow _ _) _ _ h)
theorem shq_of {d : PyData} (h : shq d = true) : noD d = true ∧ SeqAt.shaped d = true := by
  unfold shq at h
  rwa [Bool.and_eq_true] at h
theorem sim_eqD {ta tb : TE} {pa pb : PE'} (sa : Sim K ta pa) (sb : Sim K tb pb) : Sim K (tOp (rEqD K) ta tb) (pEqD false pa pb) := fun B Z A H0 M σ H ρ R E h Q q =>
  two sa sb E h fun v w x y ρ2 H2 h2 E2 d1 d2 => ⟨x, y, veil_dp (shq_of h2.1).1 d1, veil_dp (shq_of h2.2.1).1 d2, (shq_of h2.1).2, (shq_of h2.2.1).2, q _ _ _ _ h2.2.2 E2 (.bl _)⟩
theorem sim_neD {ta tb : TE} {pa pb : PE'} (sa : Sim K ta pa) (sb : Sim K tb pb) : Sim K (tOp (rNeD K) ta tb) (pEqD true pa pb) := fun B Z A H0 M σ H ρ R E h Q q =>
  two sa sb E h fun v w x y ρ2 H2 h2 E2 d1 d2 => ⟨x, y, veil_dp (shq_of h2.1).1 d1, veil_dp (shq_of h2.2.1).1 d2, (shq_of h2.1).2, (shq_of h2.2.1).2, q _ _ _ _ h2.2.2 E2 (.bl _)⟩
theorem isN_v {H : Hp} {v : V} {d : PyData} (h : Dq K H v d) : decide (v = .non) = isN d := by
  cases h <;> simp [isN]
theorem sim_isN {ta : TE} {pa : PE'} (sa : Sim K ta pa) : Sim K (tOp rIsN ta (tC .non)) (pIsN false pa) := fun B Z A H0 M σ H ρ R E h Q q =>
  sa B Z A H0 M σ H ρ _ E h _ fun v x ρ1 H1 h1 E1 d1 => ⟨rfl, by rw [isN_v d1]; exact q _ _ _ _ h1 E1 (.bl _)⟩
theorem sim_notN {ta : TE} {pa : PE'} (sa : Sim K ta pa) : Sim K (tOp rNotN ta (tC .non)) (pIsN true pa) := fun B Z A H0 M σ H ρ R E h Q q =>
  sa B Z A H0 M σ H ρ _ E h _ fun v x ρ1 H1 h1 E1 d1 => ⟨rfl, by rw [isN_v d1]; exact q _ _ _ _ h1 E1 (.bl _)⟩
/-- is True, is False, of whatever -/
def rIsBA : R2 := fun x y H Q => ∃ b, y = .bl b ∧ Q (.bl (decide (x = .bl b))) H
theorem op_isBA {X : Cx} : OpR X (compareOp .Is) rIsBA := by
  intro pins s σ H x y v u Q I rx ry h
  obtain ⟨b, rfl, q⟩ := h
  cases (show u = Value.bool b from ry)
  by_cases e : x = .bl b
  · subst e
    cases (show v = Value.bool b from rx)
    exact wpAny_is_self rfl ⟨.bl true, H, I, rfl, by simpa using q⟩
  · have ne : v ≠ Value.bool b := by
      intro z
      subst z
      cases x <;> first
        | (cases rx; exact e rfl)
        | (cases rx; done)
        | (obtain ⟨t, z⟩ := rx; cases z)
    exact wpAny_is_other (by cases x <;> first | (cases rx; rfl) | (obtain ⟨t, z⟩ := rx; cases z; rfl)) ne ⟨.bl false, H, I, rfl, by simpa [e] using q⟩
theorem isB_v {H : Hp} {v : V} {d : PyData} {b : Bool} (h : Dq K H v d) : decide (v = .bl b) = isBl b d := by
  cases h <;> simp [isBl]
theorem sim_isB {ta : TE} {pa : PE'} {b : Bool} (sa : Sim K ta pa) : Sim K (tOp rIsBA ta (tC (.bl b))) (pIsB b pa) := fun B Z A H0 M σ H ρ R E h Q q =>
  sa B Z A H0 M σ H ρ _ E h _ fun v x ρ1 H1 h1 E1 d1 => ⟨b, rfl, by rw [isB_v d1]; exact q _ _ _ _ h1 E1 (.bl _)⟩
/-- type(x) is T -/
def rIsT2 : R2 := fun x y H Q => ∃ a b, x = .ty a ∧ y = .ty b ∧ Q (.bl (decide (a = b))) H
theorem op_isT2 {X : Cx} : OpR X (compareOp .Is) rIsT2 := op_isTyB
theorem tyB_of {Z : Addr → Prop} {H : Hp} {v : V} {d : PyData} (h : Dq K (veil Z H) v d) (no : noO d = true) : TyB K H v (tyN d) := by
  cases h with
  | ob hc hl r => cases no
  | non => exact .non
  | bl b => exact .bl b
  | int i => exact .int i
  | str x => exact .str x
  | lst h r => exact .lst (.of (veil_grow _ _ _ _ h))
  | tup h r => exact .tup (grow_t (veil_grow _ _) h)
  | dct h r => rw [dks_ty r]; exact .dK (veil_grow _ _ _ _ h)
/-- type(x), of an object of a class of the program's own too -/
def rTypA (K : PySem.W.Frag) : List V → Hp → VK → Prop := fun xs H Q => rTyp K xs H Q ∨ ∃ (a C dx : Addr) (ws : List (Str × V)), xs = [.ref a] ∧ H a = some (.ins C dx ws) ∧ Q (.ref C) H
theorem call_typeA {X : Cx} : CallR X (.type "type") (rTypA X.K) := by
  intro pins s σ H vs us Q I r h
  rcases h with h | ⟨a, C, dx, ws, rfl, ha, q⟩
  · exact call_type1 pins s σ H _ _ Q I r h
  · rw [Vals.ref1 r]
    obtain ⟨_, _, _, e, _⟩ := (show ObjOk X.prog X.w H s.heap a (.ins C dx ws) from I.hok a _ ha)
    obtain ⟨hh, g, d, t, os⟩ := s
    exact PyProof.Rows.call_type_obj e rfl ⟨.ref C, H, I, rfl, q⟩
def rIsT2A : R2 := fun x y H Q => rIsT2 x y H Q ∨ ∃ (C : Addr) (b : String), x = .ref C ∧ y = .ty b ∧ Q (.bl false) H
theorem op_isT2A {X : Cx} : OpR X (compareOp .Is) rIsT2A := by
  intro pins s σ H x y v u Q I rx ry h
  rcases h with h | ⟨C, b, rfl, rfl, q⟩
  · exact op_isT2 pins s σ H x y v u Q I rx ry h
  · cases (show v = Value.ref C from rx)
    cases (show u = Value.type b from ry)
    exact wpAny_is_other rfl (fun z => nomatch z) ⟨.bl false, H, I, rfl, q⟩
theorem ob_of {H : Hp} {v : V} {d : PyData} (h : Dq K H v d) (no : noO d ≠ true) : ∃ (a C dx : Addr) (ws : List (Str × V)), v = .ref a ∧ H a = some (.ins C dx ws) ∧ tyN d = "object" := by
  cases h with
  | ob hc hl r => exact ⟨_, _, _, _, rfl, hl, rfl⟩
  | dct hl r => exact absurd (noO_of (by rw [dks_ty r]; decide)) no
  | _ => exact absurd rfl no
theorem sim_isTy {ta : TE} {pa : PE'} {T : String} (sa : Sim K ta pa) (nT : T ≠ "object" := by decide) : Sim K (tOp rIsT2A (tCB (rTypA K) (tCons ta tNil)) (tC (.ty T))) (pIsTy T pa) := fun B Z A H0 M σ H ρ R E h Q q =>
  sa B Z A H0 M σ H ρ _ E h _ fun v x ρ1 H1 h1 E1 d1 => by
    by_cases no : noO x = true
    · exact .inl ⟨v, tyN x, rfl, tyB_of d1 no, .inl ⟨tyN x, T, rfl, rfl, q _ _ _ _ h1 E1 (.bl _)⟩⟩
    · obtain ⟨a, C, dx, ws, rfl, hl, ht⟩ := ob_of d1 no
      have e : decide (tyN x = T) = false := decide_eq_false (by rw [ht]; exact fun z => nT z.symm)
      rw [e] at h1
      exact .inr ⟨a, C, dx, ws, rfl, veil_grow _ _ _ _ hl, .inr ⟨C, T, rfl, rfl, q _ _ _ _ h1 E1 (.bl _)⟩⟩
theorem sim_chain {f g : Int → Int → Bool} {ta tb tc : TE} {pa pb pc : PE'} (sa : Sim K ta pa) (sb : Sim K tb pb) (sc : Sim K tc pc) :
    Sim K (tChain (rI0 fun i j => .bl (f i j)) (rI0 fun i j => .bl (g i j)) ta tb tc) (pChain f g pa pb pc) := fun B Z A H0 M σ H ρ R E h Q q =>
  two sa sb E h fun v w x y ρ2 H2 h2 E2 d1 d2 => by
    obtain ⟨i, rfl, h3⟩ := asI_of h2
    obtain ⟨j, rfl, h4⟩ := asI_of h3
    clear h2 h3
    have h2 := h4
    rw [of_int d1, of_int d2]
    refine ⟨i, j, rfl, rfl, f i j, rfl, ?_⟩
    cases hf : f i j with
    | true =>
      rw [if_pos hf] at h2
      rw [if_pos rfl]
      refine sc B Z A H0 M σ H2 ρ2 _ E2 h2 _ fun v3 z ρ3 H3 h3 E3 d3 => ?_
      obtain ⟨k, rfl, h3⟩ := asI_of h3
      rw [of_int d3]
      exact ⟨j, k, rfl, rfl, q _ _ _ _ h3 E3 (.bl _)⟩
    | false =>
      rw [hf, if_neg Bool.false_ne_true] at h2
      rw [if_neg Bool.false_ne_true]
      exact q _ _ _ _ h2 E2 (.bl _)
theorem sim_nil : SimA K tNil pNil := fun B Z A H0 M σ H ρ R E h Q q => q [] [] ρ H h E .nil
theorem sim_cons {ta : TE} {tr : TA} {pa : PE'} {pr : PA'} (sa : Sim K ta pa) (sr : SimA K tr pr) : SimA K (tCons ta tr) (pCons pa pr) := fun B Z A H0 M σ H ρ R E h Q q =>
  sa B Z A H0 M σ H ρ _ E h _ fun v x ρ1 H1 h1 E1 d1 => sr B Z _ H0 M σ H1 ρ1 _ E1.anchor h1 _ fun vs ds ρ2 H2 h2 E2 d2 =>
    q _ _ ρ2 H2 h2 (E2.weak E1.anch) (.cons (dp_grow E2.anch _ _ d1) d2)
theorem Dq.new {Z : Addr → Prop} {H : Hp} {p : Addr} {vs : List V} {ds : List PyData} (hz : ¬ Z p) (h : H p = none) (r : Dqs K (veil Z H) vs ds) : Dq K (veil Z (upd H p (.tup vs))) (.ref p) (.tuple ds) :=
  .tup (.of (veil_on hz upd_same)) (dps_grow (grow_veil (grow_new h)) _ _ r)
theorem Dq.newL {Z : Addr → Prop} {H : Hp} {p : Addr} {vs : List V} {ds : List PyData} (hz : ¬ Z p) (h : H p = none) (r : Dqs K (veil Z H) vs ds) : Dq K (veil Z (upd H p (.lst vs))) (.ref p) (.list ds) :=
  .lst (veil_on hz upd_same) (dps_grow (grow_veil (grow_new h)) _ _ r)
theorem sz5 {n : Nat} (h : n ≤ 100000) : n ≤ sizeLine := Nat.le_trans h (by decide)
theorem sim_tup {ta : TA} {pa : PA'} (sa : SimA K ta pa) : Sim K (tTup ta) (pTup pa) := fun B Z A H0 M σ H ρ R E h Q q =>
  sa B Z A H0 M σ H ρ _ E h _ fun vs ds ρ1 H1 h1 E1 d1 => ⟨sz5 (by rw [dqs_len d1]; exact h1.1), fun p hp => q _ _ _ _ h1.2 (E1.grown (grow_new hp)) (.new (E1.veiled hp) hp d1)⟩
theorem sim_lst {ta : TA} {pa : PA'} (sa : SimA K ta pa) : SimL K (tLst ta) (pLst pa) := fun B Z A H0 M σ H ρ R E h Q q =>
  sa B Z A H0 M σ H ρ _ E h _ fun vs ds ρ1 H1 h1 E1 d1 => ⟨sz5 (by rw [dqs_len d1]; exact h1.1), fun p hp => q p vs ds ρ1 H1 h1.2 E1 hp d1⟩
theorem sim_new {te : TE} {pa : PA'} (sa : SimL K te pa) : Sim K te (pNew pa) := fun B Z A H0 M σ H ρ R E h Q q =>
  sa B Z A H0 M σ H ρ _ E h _ fun l vs ds ρ1 H1 h1 E1 hl d1 => q _ _ _ _ h1 (E1.grown (grow_new hl)) (.newL (E1.veiled hl) hl d1)
theorem at_dq {H : Hp} {vs : List V} {ds : List PyData} {i : Int} {d : PyData} (r : Dqs K H vs ds) (h : atI ds i = some d) : ∃ v, atI vs i = some v ∧ Dq K H v d := by
  unfold atI at h ⊢
  rw [dqs_len r]
  cases e : ixN ds.length i with
  | none =>
    rw [e] at h
    cases h
  | some j =>
    rw [e] at h
    exact dqs_get r h
theorem sim_ix {ta tb : TE} {pa pb : PE'} (sa : Sim K ta pa) (sb : Sim K tb pb) : Sim K (tOp (rIx K) ta tb) (pIx pa pb) := fun B Z A H0 M σ H ρ R E h Q q =>
  two sa sb E h fun v w x y ρ2 H2 h2 E2 d1 d2 => by
    cases x with
    | list ds =>
      obtain ⟨i, rfl, h2⟩ := asI_of h2
      obtain ⟨d, hd, h2⟩ := asO_of h2
      rw [of_int d2]
      cases d1 with
      | lst hl r =>
        obtain ⟨u, hu, du⟩ := at_dq r hd
        exact .inl ⟨_, _, i, u, rfl, rfl, .of (veil_grow _ _ _ _ hl), hu, q _ _ _ _ h2 E2 du⟩
    | tuple ds =>
      obtain ⟨i, rfl, h2⟩ := asI_of h2
      obtain ⟨d, hd, h2⟩ := asO_of h2
      rw [of_int d2]
      cases d1 with
      | tup hl r =>
        obtain ⟨u, hu, du⟩ := at_dq r hd
        exact .inr (.inl ⟨_, _, i, u, rfl, rfl, grow_t (veil_grow _ _) hl, hu, q _ _ _ _ h2 E2 du⟩)
    | _ => exact h2.elim
theorem sim_andV {ta tb : TE} {pa pb : PE'} (sa : Sim K ta pa) (sb : Sim K tb pb) : Sim K (tAndV ta tb) (pAndV pa pb) := fun B Z A H0 M σ H ρ R E h Q q =>
  sa B Z A H0 M σ H ρ _ E h _ fun v x ρ1 H1 h1 E1 d1 => by
    obtain ⟨c, rfl, h1⟩ := asB_of h1
    refine ⟨c, of_bl d1, ?_⟩
    cases c with
    | true => exact sb B Z A H0 M σ H1 ρ1 _ E1 h1 _ q
    | false => exact q _ _ _ _ h1 E1 (.bl _)
theorem sim_orV {ta tb : TE} {pa pb : PE'} (sa : Sim K ta pa) (sb : Sim K tb pb) : Sim K (tOrV ta tb) (pOrV pa pb) := fun B Z A H0 M σ H ρ R E h Q q =>
  sa B Z A H0 M σ H ρ _ E h _ fun v x ρ1 H1 h1 E1 d1 => by
    obtain ⟨c, rfl, h1⟩ := asB_of h1
    refine ⟨c, of_bl d1, ?_⟩
    cases c with
    | true => exact q _ _ _ _ h1 E1 (.bl _)
    | false => exact sb B Z A H0 M σ H1 ρ1 _ E1 h1 _ q
theorem sim_notV {ta : TE} {pa : PE'} (sa : Sim K ta pa) : Sim K (tNotV ta) (pNotV pa) := fun B Z A H0 M σ H ρ R E h Q q =>
  sa B Z A H0 M σ H ρ _ E h _ fun v x ρ1 H1 h1 E1 d1 => by
    obtain ⟨c, rfl, h1⟩ := asB_of h1
    exact ⟨c, of_bl d1, q _ _ _ _ h1 E1 (.bl _)⟩
theorem sim_ifE {tt : TT} {ta tb : TE} {pt : PT'} {pa pb : PE'} (st : SimT K tt pt) (sa : Sim K ta pa) (sb : Sim K tb pb) : Sim K (tIf tt ta tb) (pIfE pt pa pb) := fun B Z A H0 M σ H ρ R E h Q q =>
  st B Z A H0 M σ H ρ _ E h _ fun c ρ1 H1 h1 E1 => by
    cases c with
    | true => exact sa B Z A H0 M σ H1 ρ1 _ E1 h1 _ q
    | false => exact sb B Z A H0 M σ H1 ρ1 _ E1 h1 _ q
theorem sim_tst {ta : TE} {pa : PE'} (sa : Sim K ta pa) : SimT K (tTest ta) (pTst pa) := fun B Z A H0 M σ H ρ R E h Q q =>
  sa B Z A H0 M σ H ρ _ E h _ fun v x ρ1 H1 h1 E1 d1 => by
    obtain ⟨c, rfl, h1⟩ := asB_of h1
    exact ⟨c, of_bl d1, q _ _ _ h1 E1⟩
theorem sim_tB {ta : TE} {pa : PE'} (sa : Sim K ta pa) : SimT K (tB ta) (pTst pa) := fun B Z A H0 M σ H ρ R E h Q q =>
  sa B Z A H0 M σ H ρ _ E h _ fun v x ρ1 H1 h1 E1 d1 => by
    obtain ⟨c, rfl, h1⟩ := asB_of h1
    exact ⟨c, of_bl d1, q _ _ _ h1 E1⟩
theorem sim_and {ta tb : TT} {pa pb : PT'} (sa : SimT K ta pa) (sb : SimT K tb pb) : SimT K (tAnd ta tb) (pAnd pa pb) := fun B Z A H0 M σ H ρ R E h Q q =>
  sa B Z A H0 M σ H ρ _ E h _ fun c ρ1 H1 h1 E1 => by
    cases c with
    | true => exact sb B Z A H0 M σ H1 ρ1 _ E1 h1 _ q
    | false => exact q _ _ _ h1 E1
theorem sim_or {ta tb : TT} {pa pb : PT'} (sa : SimT K ta pa) (sb : SimT K tb pb) : SimT K (tOr ta tb) (pOr pa pb) := fun B Z A H0 M σ H ρ R E h Q q =>
  sa B Z A H0 M σ H ρ _ E h _ fun c ρ1 H1 h1 E1 => by
    cases c with
    | true => exact q _ _ _ h1 E1
    | false => exact sb B Z A H0 M σ H1 ρ1 _ E1 h1 _ q
theorem sim_not {ta : TT} {pa : PT'} (sa : SimT K ta pa) : SimT K (tNot ta) (pNot pa) := fun B Z A H0 M σ H ρ R E h Q q =>
  sa B Z A H0 M σ H ρ _ E h _ fun c ρ1 H1 h1 E1 => q _ _ _ h1 E1
theorem sim_tru {ta : TE} {pa : PE'} (sa : Sim K ta pa) : SimT K (tTru K ta) (pTru pa) := fun B Z A H0 M σ H ρ R E h Q q =>
  sa B Z A H0 M σ H ρ _ E h _ fun v x ρ1 H1 ⟨b, hb, h1⟩ E1 d1 => by
    refine ⟨b, ?_, q _ _ _ h1 E1⟩
    cases d1 with
    | non => cases hb; rfl
    | bl c => cases hb; rfl
    | int i => cases hb; rfl
    | str z => cases hb
    | @lst a vs ds hl r =>
      cases hb
      refine .inl ⟨vs, .of (veil_grow _ _ _ _ hl), ?_⟩
      cases r <;> rfl
    | @tup a vs ds hl r =>
      cases hb
      refine .inr (.inl ⟨vs, grow_t (veil_grow _ _) hl, ?_⟩)
      cases r <;> rfl
    | dct hl r => cases hb
    | ob hc hl r => cases hb
end
end Pu
namespace Pu
open PySem L2
section
variable {K : PySem.W.Frag} {B Z : Addr → Prop} {A H0 H : Hp} {M : Nat → Option Addr} {σ : St} {ρ : En}

/-! ### the environment behind a store -/
theorem join_set {σ : St} {i : Nat} {v : V} (h : i < σ.length) : ((σ.set i (some v))[i]?).join = some v := by
  rw [List.getElem?_set_self h]
  rfl
theorem join_ne {σ : St} {i j : Nat} {o : Option V} (h : i ≠ j) : ((σ.set i o)[j]?).join = (σ[j]?).join := by
  rw [List.getElem?_set_ne h]
theorem set_at {ρ : En} {i j : Nat} {c c' : Cell} (h : (ρ.set i c)[j]? = some c') : (i = j ∧ i < ρ.length ∧ c' = c) ∨ (i ≠ j ∧ ρ[j]? = some c') := by
  by_cases e : i = j
  · subst e
    have hl : i < ρ.length := by
      have := (List.getElem?_eq_some_iff.mp h).1
      rwa [List.length_set] at this
    rw [List.getElem?_set_self hl] at h
    exact .inl ⟨rfl, hl, (Option.some.inj h).symm⟩
  · rw [List.getElem?_set_ne e] at h
    exact .inr ⟨e, h⟩
theorem EnvR.setD (E : EnvR K B Z A H0 M σ H ρ) {i : Nat} {v : V} {d : PyData} (h : Dq K (veil (hid Z M) H) v d) : EnvR K B Z A H0 M (σ.set i (some v)) H (cellSet ρ i (.d d)) := by
  rw [cellSet_eq]
  refine { E with len := by rw [List.length_set, List.length_set]; exact E.len, cell := fun j c hc => ?_ }
  rcases set_at hc with ⟨rfl, hl, rfl⟩ | ⟨ne, hc⟩
  · rw [join_set (by rw [E.len]; exact hl)]
    exact ⟨v, rfl, h⟩
  · rw [join_ne ne]
    exact E.cell j c hc
/-- a place gets a new list for its own -/
theorem EnvR.setO (E : EnvR K B Z A H0 M σ H ρ) {i : Nat} {l : Addr} {vs : List V} {ds : List PyData} (hi : i ≠ 0) (hl : H l = none) (r : Dqs K (veil (hid Z M) H) vs ds) :
    EnvR K B Z A H0 (fun j => if j = i then some l else M j) (σ.set i (some (.ref l))) (upd H l (.lst vs)) (cellSet ρ i (.own ds)) := by
  rw [cellSet_eq]
  have nM : ∀ j, M j ≠ some l := fun j m => E.live j l m hl
  have nZ : ¬ Z l := fun z => E.zl l z hl
  have keep : ∀ a, H a ≠ none → (upd H l (.lst vs)) a = H a := fun a h => upd_ne (fun e => h (e ▸ hl))
  have gv : Grow (veil (hid Z M) H) (veil (hid Z fun j => if j = i then some l else M j) (upd H l (.lst vs))) := fun a o h => by
    obtain ⟨h1, h2⟩ := veil_off h
    refine veil_on ?_ ((keep a (by rw [h2]; intro z; cases z)).trans h2)
    rintro (z | ⟨j, m⟩)
    · exact h1 (.inl z)
    · have m : (if j = i then some l else M j) = some a := m
      by_cases e : j = i
      · rw [if_pos e] at m
        cases m
        rw [hl] at h2
        cases h2
      · rw [if_neg e] at m
        exact h1 (.inr ⟨j, m⟩)
  refine ⟨by rw [List.length_set, List.length_set]; exact E.len, fun a b u h1 h2 => ?_, fun j u m => ?_, fun j u m => ?_, fun a z => ?_, fun a o nb h => ?_, fun j u m => ?_, fun b hb => ?_, E.anch.trans gv, fun j c hc => ?_⟩
  · by_cases ea : a = i
    · by_cases eb : b = i
      · rw [ea, eb]
      · rw [if_pos ea] at h1
        rw [if_neg eb] at h2
        cases h1
        exact absurd h2 (nM b)
    · by_cases eb : b = i
      · rw [if_neg ea] at h1
        rw [if_pos eb] at h2
        cases h2
        exact absurd h1 (nM a)
      · rw [if_neg ea] at h1
        rw [if_neg eb] at h2
        exact E.inj a b u h1 h2
  · by_cases e : j = i
    · rw [if_pos e] at m
      cases m
      rw [upd_same]
      intro z; cases z
    · rw [if_neg e] at m
      rw [keep u (E.live j u m)]
      exact E.live j u m
  · by_cases e : j = i
    · rw [if_pos e] at m
      cases m
      exact nZ
    · rw [if_neg e] at m
      exact E.off j u m
  · rw [keep a (E.zl a z)]
    exact E.zl a z
  · have q := E.ext a o nb h
    rw [keep a (by rw [q]; intro z; cases z)]
    exact q
  · by_cases e : j = i
    · rw [if_pos e] at m
      cases m
      by_cases nb : B l
      · exact .inl nb
      · refine .inr ?_
        cases q : H0 l with
        | none => rfl
        | some o =>
          rw [E.ext l o nb q] at hl
          cases hl
    · rw [if_neg e] at m
      exact E.own j u m
  · rw [if_neg (Ne.symm hi)]
    exact E.m0 b hb
  · rcases set_at hc with ⟨rfl, hk, rfl⟩ | ⟨ne, hc⟩
    · rw [join_set (by rw [E.len]; exact hk)]
      exact ⟨l, vs, rfl, if_pos rfl, upd_same, dps_grow gv _ _ r⟩
    · rw [join_ne ne]
      have h := E.cell j c hc
      have mj : (fun j => if j = i then some l else M j) j = M j := if_neg (Ne.symm ne)
      cases c with
      | no => trivial
      | d x =>
        obtain ⟨v, e, h⟩ := h
        exact ⟨v, e, dp_grow gv _ _ h⟩
      | own xs =>
        obtain ⟨u, ws, e, m, hu, h⟩ := h
        exact ⟨u, ws, e, mj.trans m, (keep u (by rw [hu]; intro z; cases z)).trans hu, dps_grow gv _ _ h⟩
      | dct kvs =>
        obtain ⟨u, ws, e, m, hu, h⟩ := h
        exact ⟨u, ws, e, mj.trans m, (keep u (by rw [hu]; intro z; cases z)).trans hu, kvs_grow gv h⟩
      | box =>
        obtain ⟨b, e, m, r, rows, at_, hb, h0, hr, h1, h2, h3⟩ := h
        exact ⟨b, e, mj.trans m, r, rows, at_, (keep b (by rw [hb]; intro z; cases z)).trans hb, h0, gv _ _ hr, h1, h2, h3⟩
      | obj nm fs =>
        obtain ⟨u, C, dx, ws, e, m, hc, hu, h⟩ := h
        exact ⟨u, C, dx, ws, e, mj.trans m, hc, (keep u (by rw [hu]; intro z; cases z)).trans hu, fds_grow gv h⟩
/-- what a place owns has changed -/
theorem EnvR.putO (E : EnvR K B Z A H0 M σ H ρ) {i : Nat} {l : Addr} {vs : List V} {ds : List PyData} (hs : (σ[i]?).join = some (.ref l)) (hm : M i = some l) (r : Dqs K (veil (hid Z M) H) vs ds) (k : cellAt ρ i ≠ .box) :
    EnvR K B Z A H0 M σ (upd H l (.lst vs)) (cellSet ρ i (.own ds)) := by
  rw [cellSet_eq]
  have hd : hid Z M l := .inr ⟨i, hm⟩
  have gv : Grow (veil (hid Z M) H) (veil (hid Z M) (upd H l (.lst vs))) := fun a o h => by
    obtain ⟨h1, h2⟩ := veil_off h
    exact veil_on h1 ((upd_ne fun e => h1 (by rw [e]; exact hd)).trans h2)
  have nn : ∀ a, H a ≠ none → (upd H l (.lst vs)) a ≠ none := fun a h => by
    by_cases e : a = l
    · rw [e, upd_same]
      intro z; cases z
    · rw [upd_ne e]
      exact h
  refine ⟨by rw [List.length_set]; exact E.len, E.inj, fun j u m => nn u (E.live j u m), E.off, fun a z => nn a (E.zl a z), fun a o nb h => ?_, E.own, E.m0, E.anch.trans gv, fun j c hc => ?_⟩
  · have ne : a ≠ l := fun e => by
      rcases E.own i l hm with b | n
      · exact nb (e ▸ b)
      · rw [e, n] at h
        cases h
    rw [upd_ne ne]
    exact E.ext a o nb h
  · rcases set_at hc with ⟨rfl, hk, rfl⟩ | ⟨ne, hc⟩
    · exact ⟨l, vs, hs, hm, upd_same, dps_grow gv _ _ r⟩
    · have other : ∀ u, M j = some u → u ≠ l := fun u m e => ne (E.inj i j l hm (e ▸ m))
      exact (E.cell j c hc).grow gv fun u m o ho => (upd_ne (other u m)).trans ho
theorem own_at (E : EnvR K B Z A H0 M σ H ρ) {i : Nat} {ds : List PyData} (h : cellAt ρ i = .own ds) : ∃ l vs, σ[i]? = some (some (.ref l)) ∧ M i = some l ∧ H l = some (.lst vs) ∧ Dqs K (veil (hid Z M) H) vs ds := by
  obtain ⟨l, vs, e, m, hl, r⟩ := E.cell i _ (cellAt_some h (by intro z; cases z))
  refine ⟨l, vs, ?_, m, hl, r⟩
  cases q : σ[i]? with
  | none =>
    rw [q] at e
    cases e
  | some o =>
    rw [q] at e
    exact congrArg some e
end

section
variable {K : PySem.W.Frag}
/-! ### statements -/
theorem s_next : SimS K tNext pNext := fun B Z A H0 M σ H ρ D G E h C => C.nx M σ H ρ E h
theorem s_seq {t u : TS} {p q : PS'} (st : SimS K t p) (su : SimS K u q) : SimS K (tSeq t u) (pSeq p q) := fun B Z A H0 M σ H ρ D G E h C =>
  st B Z A H0 M σ H ρ _ _ E h ⟨fun M σ H ρ E h => su B Z A H0 M σ H ρ D G E h C, C.bk, C.ct, C.rt⟩
theorem s_if {tt : TT} {t u : TS} {pt : PT'} {p q : PS'} (sc : SimT K tt pt) (st : SimS K t p) (su : SimS K u q) : SimS K (tIfS tt t u) (pIfS pt p q) := fun B Z A H0 M σ H ρ D G E h C =>
  sc B Z A H0 M σ H ρ _ E h _ fun c ρ1 H1 h1 E1 => by
    cases c with
    | true => exact st B Z A H0 M σ H1 ρ1 D G E1 h1 C
    | false => exact su B Z A H0 M σ H1 ρ1 D G E1 h1 C
theorem hid_z {Z : Addr → Prop} {M : Nat → Option Addr} {H : Hp} : Grow (veil (hid Z M) H) (veil Z H) := veil_less fun _ z => .inl z
theorem hid_zb (E : EnvR K B Z A H0 M σ H ρ) : Grow (veil (hid Z M) H) (veil (fun a => Z a ∨ B a) H) :=
  veil_less fun a z => z.elim Or.inl fun b => Or.inr ⟨0, E.m0 a b⟩
theorem s_ret {te : TE} {pa : PE'} (sa : Sim K te pa) : SimS K (tRet te) (pRet pa) := fun B Z A H0 M σ H ρ D G E h C =>
  sa B Z A H0 M σ H ρ _ E h _ fun v d ρ1 H1 h1 E1 d1 => C.rt M σ H1 ρ1 v d E1 h1 (dp_grow (hid_zb E1) _ _ d1)
theorem s_retN : SimS K tRetN pRetN := fun B Z A H0 M σ H ρ D G E h C => C.rt M σ H ρ .non .none E h .non
theorem s_retO {i : Nat} (hi : i ≠ 0 := by decide) : SimS K (tRet (tVar i)) (pRetO i) := fun B Z A H0 M σ H ρ D G E h C => by
  obtain ⟨ds, hc, h⟩ := asOwn_of h
  obtain ⟨l, vs, e, m, hl, r⟩ := own_at E hc
  exact ⟨.ref l, e, C.rt M σ H ρ _ _ E h (.lst (veil_on (fun z => z.elim (E.off i l m) fun b => hi (E.inj i 0 l m (E.m0 l b))) hl) (dps_grow (hid_zb E) _ _ r))⟩
theorem s_brk : SimS K tBreak pBrk := fun B Z A H0 M σ H ρ D G E h C => C.bk M σ H ρ E h
theorem s_cnt : SimS K tCont pCnt := fun B Z A H0 M σ H ρ D G E h C => C.ct M σ H ρ E h
theorem s_drop {te : TE} {pa : PE'} (sa : Sim K te pa) : SimS K (tDrop te) (pDrop pa) := fun B Z A H0 M σ H ρ D G E h C =>
  sa B Z A H0 M σ H ρ _ E h _ fun v d ρ1 H1 h1 E1 d1 => C.nx M σ H1 ρ1 E1 h1
/-! targets -/
def SimG (K : PySem.W.Frag) (g : TG) (pg : PG') : Prop := ∀ B Z A H0 M σ H ρ v d R, EnvR K B Z A H0 M σ H ρ → Dq K (veil (hid Z M) H) v d → pg d ρ R →
  ∀ Q : St → Hp → Prop, (∀ σ' ρ', R ρ' → EnvR K B Z A H0 M σ' H ρ' → Q σ' H) → g v σ H Q
theorem g_name {i : Nat} : SimG K (gName i) (pgN i) := fun B Z A H0 M σ H ρ v d R E hd h Q q => q _ _ h (E.setD hd)
def SimGs (K : PySem.W.Frag) (g : TGs) (is : List Nat) : Prop := ∀ B Z A H0 M σ H ρ vs ds, EnvR K B Z A H0 M σ H ρ → Dqs K (veil (hid Z M) H) vs ds → ds.length = is.length →
  ∀ Q : St → Hp → Prop, (∀ σ', EnvR K B Z A H0 M σ' H (setAll ρ is ds) → Q σ' H) → g vs σ H Q
theorem gs_nil : SimGs K gNil [] := fun B Z A H0 M σ H ρ vs ds E r hl Q q => by
  cases r with
  | nil => exact ⟨rfl, q _ E⟩
  | cons _ _ => cases hl
theorem gs_cons {i : Nat} {u : TGs} {is : List Nat} (su : SimGs K u is) : SimGs K (gCons (gName i) u) (i :: is) := fun B Z A H0 M σ H ρ vs ds E r hl Q q => by
  cases r with
  | nil => cases hl
  | cons h r => exact ⟨_, _, rfl, su B Z A H0 M _ H _ _ _ (E.setD h) r (by simpa using hl) Q q⟩
theorem g_tup {n : Nat} {u : TGs} {is : List Nat} (su : SimGs K u is) (hn : is.length = n) : SimG K (gTup K n u) (pgT is) := fun B Z A H0 M σ H ρ v d R E hd h Q q => by
  obtain ⟨ds, rfl, hl, h⟩ := asT_of h
  cases hd with
  | tup ht r => exact ⟨_, _, rfl, grow_t (veil_grow _ _) ht, by rw [dqs_len r, hl, hn], su B Z A H0 M σ H ρ _ ds E r hl Q fun σ' E' => q σ' _ h E'⟩
theorem s_asg {te : TE} {pa : PE'} {g : TG} {pg : PG'} (sa : Sim K te pa) (sg : SimG K g pg) : SimS K (tAsg te g) (pAsg pa pg) := fun B Z A H0 M σ H ρ D G E h C =>
  sa B Z A H0 M σ H ρ _ E h _ fun v d ρ1 H1 h1 E1 d1 => sg B Z A H0 M σ H1 ρ1 v d _ E1 d1 h1 _ fun σ' ρ' hR E' => C.nx M σ' H1 ρ' E' hR
theorem s_asgO {te : TE} {pa : PA'} {i : Nat} (sa : SimL K te pa) : SimS K (tAsg te (gName i)) (pAsgO pa i) := fun B Z A H0 M σ H ρ D G E h C =>
  sa B Z A H0 M σ H ρ _ E h.2 _ fun l vs ds ρ1 H1 h1 E1 hl d1 => C.nx _ _ _ _ (E1.setO h.1 hl d1) h1
theorem s_app {i : Nat} {te : TE} {pa : PE'} (sa : Sim K te pa) : SimS K (tDrop (tBM K "list" rAppend (tVar i) (tCons te tNil))) (pApp i pa) := fun B Z A H0 M σ H ρ D G E h C => by
  obtain ⟨ds, hc, h⟩ := asOwn_of h
  obtain ⟨l, vs, e, m, hl, r⟩ := own_at E hc
  refine ⟨.ref l, e, .inl ⟨rfl, vs, .of hl⟩, sa B Z A H0 M σ H ρ _ E h _ fun v d ρ1 H1 h1 E1 d1 => ?_⟩
  obtain ⟨ds1, hc1, h2, h3⟩ := asOwn_of h1
  obtain ⟨l1, vs1, e1, m1, hl1, r1⟩ := own_at E1 hc1
  rw [m] at m1
  cases m1
  refine ⟨l, vs1, v, rfl, rfl, hl1, Nat.lt_of_lt_of_le (by rw [dqs_len r1]; exact h2) (by decide), ?_⟩
  refine C.nx M σ _ _ (E1.putO (by rw [e1]; rfl) m (dqs_app r1 (.cons d1 .nil)) (by rw [hc1]; intro z; cases z)) h3
/-! loops -/
theorem s_forL {tl : TE} {g : TG} {tb : TS} {pl : PE'} {pg : PG'} {pb : PS'} (sl : Sim K tl pl) (sg : SimG K g pg) (sb : SimS K tb pb) :
    SimS K (tFor (iList K tl) g tb) (pFor (pLO pl) pg pb) := fun B Z A H0 M σ H ρ D G E h C =>
  sl B Z A H0 M σ H ρ _ E h _ fun v x ρ1 H1 h1 E1 d1 => by
    obtain ⟨ds, rfl, I, i0, is, ie⟩ := asL_of h1
    cases d1 with
    | @lst a vs _ hs r =>
      refine ⟨a, rfl, ⟨vs, .of (veil_grow _ _ _ _ hs)⟩, for_list (fun i σ' H' => ∃ M' ρ', EnvR K B Z (veil (hid Z M) H1) H0 M' σ' H' ρ' ∧ I i ρ') ⟨M, ρ1, E1.anchor, i0⟩
        (fun i σ' H' _ ⟨M', ρ', E', _⟩ => .of (veil_grow _ _ _ _ (E'.anch _ _ hs))) (fun i y σ' H' hy ⟨M', ρ', E', hI⟩ => ?_) fun σ' H' ⟨M', ρ', E', hI⟩ => C.nx M' σ' H' ρ' (E'.weak E1.anch) (ie ρ' (dqs_len r ▸ hI))⟩
      obtain ⟨d, hd, dd⟩ := dqs_got r hy
      exact sg B Z _ H0 M' σ' H' ρ' y d _ E' (dp_grow E'.anch _ _ dd) (is i d ρ' hd hI) _ fun σ2 ρ2 hR E2 => sb B Z _ H0 M' σ2 H' ρ2 _ _ E2 hR
        ⟨fun M σ H ρ E h => ⟨M, ρ, E, h⟩, fun M σ H ρ E h => C.nx M σ H ρ (E.weak E1.anch) h, fun M σ H ρ E h => ⟨M, ρ, E, h⟩, fun M σ H ρ v d E h k => C.rt M σ H ρ v d (E.weak E1.anch) h k⟩
theorem s_forT {tl : TE} {g : TG} {tb : TS} {pl : PE'} {pg : PG'} {pb : PS'} (sl : Sim K tl pl) (sg : SimG K g pg) (sb : SimS K tb pb) :
    SimS K (tFor (iTup K tl) g tb) (pFor (pTO pl) pg pb) := fun B Z A H0 M σ H ρ D G E h C =>
  sl B Z A H0 M σ H ρ _ E h _ fun v x ρ1 H1 h1 E1 d1 => by
    obtain ⟨ds, rfl, I, i0, is, ie⟩ := asT_of h1
    cases d1 with
    | @tup a vs _ hs r =>
      refine ⟨a, rfl, ⟨vs, grow_t (veil_grow _ _) hs⟩, for_tup (fun i σ' H' => ∃ M' ρ', EnvR K B Z (veil (hid Z M) H1) H0 M' σ' H' ρ' ∧ I i ρ') ⟨M, ρ1, E1.anchor, i0⟩
        (fun i σ' H' _ ⟨M', ρ', E', _⟩ => grow_t (veil_grow _ _) (grow_t E'.anch hs)) (fun i y σ' H' hy ⟨M', ρ', E', hI⟩ => ?_) fun σ' H' ⟨M', ρ', E', hI⟩ => C.nx M' σ' H' ρ' (E'.weak E1.anch) (ie ρ' (dqs_len r ▸ hI))⟩
      obtain ⟨d, hd, dd⟩ := dqs_got r hy
      exact sg B Z _ H0 M' σ' H' ρ' y d _ E' (dp_grow E'.anch _ _ dd) (is i d ρ' hd hI) _ fun σ2 ρ2 hR E2 => sb B Z _ H0 M' σ2 H' ρ2 _ _ E2 hR
        ⟨fun M σ H ρ E h => ⟨M, ρ, E, h⟩, fun M σ H ρ E h => C.nx M σ H ρ (E.weak E1.anch) h, fun M σ H ρ E h => ⟨M, ρ, E, h⟩, fun M σ H ρ v d E h k => C.rt M σ H ρ v d (E.weak E1.anch) h k⟩
theorem s_rng1 {ta : TA} {g : TG} {tb : TS} {pa : PA'} {pg : PG'} {pb : PS'} (sa : SimA K ta pa) (sg : SimG K g pg) (sb : SimS K tb pb) (hn : ∀ ρ R, pa ρ R → pa ρ fun x ρ1 => x.length = 1 ∧ R x ρ1) : SimS K (tFor (iRng1 ta) g tb) (pRng pa pg pb) := fun B Z A H0 M σ H ρ D G E h C =>
  sa B Z A H0 M σ H ρ _ E (hn _ _ h) _ fun vs x ρ1 H1 ⟨hx, lo, hi, hx2, hb, I, i0, is, ie⟩ E1 d1 => by
    rcases hx2 with ⟨rfl, rfl⟩ | rfl
    · have e : vs = [.int hi] := dqs_of_ints (ns := [hi]) d1
      subst e
      refine ⟨hi, rfl, hb.2.2.1, hb.2.2.2, for_range (lo := 0) (n := hi.toNat) (fun i σ' H' => ∃ M' ρ', EnvR K B Z (veil (hid Z M) H1) H0 M' σ' H' ρ' ∧ I i ρ') ⟨M, ρ1, E1.anchor, i0⟩ (fun i σ' H' hlt ⟨M', ρ', E', hI⟩ => ?_)
        fun σ' H' ⟨M', ρ', E', hI⟩ => C.nx M' σ' H' ρ' (E'.weak E1.anch) (ie ρ' (by rw [Int.sub_zero]; exact hI))⟩
      exact sg B Z _ H0 M' σ' H' ρ' _ _ _ E' (.int _) (is i ρ' (by omega) hI) _ fun σ2 ρ2 hR E2 => sb B Z _ H0 M' σ2 H' ρ2 _ _ E2 hR
        ⟨fun M σ H ρ E h => ⟨M, ρ, E, h⟩, fun M σ H ρ E h => C.nx M σ H ρ (E.weak E1.anch) h, fun M σ H ρ E h => ⟨M, ρ, E, h⟩, fun M σ H ρ v d E h k => C.rt M σ H ρ v d (E.weak E1.anch) h k⟩
    · exact absurd hx (by simp)
theorem s_rng2 {ta : TA} {g : TG} {tb : TS} {pa : PA'} {pg : PG'} {pb : PS'} (sa : SimA K ta pa) (sg : SimG K g pg) (sb : SimS K tb pb) (hn : ∀ ρ R, pa ρ R → pa ρ fun x ρ1 => x.length = 2 ∧ R x ρ1) : SimS K (tFor (iRng2 ta) g tb) (pRng pa pg pb) := fun B Z A H0 M σ H ρ D G E h C =>
  sa B Z A H0 M σ H ρ _ E (hn _ _ h) _ fun vs x ρ1 H1 ⟨hx, lo, hi, hx2, hb, I, i0, is, ie⟩ E1 d1 => by
    rcases hx2 with ⟨rfl, rfl⟩ | rfl
    · exact absurd hx (by simp)
    · have e : vs = [.int lo, .int hi] := dqs_of_ints (ns := [lo, hi]) d1
      subst e
      refine ⟨lo, hi, rfl, hb, for_range (lo := lo) (n := (hi - lo).toNat) (fun i σ' H' => ∃ M' ρ', EnvR K B Z (veil (hid Z M) H1) H0 M' σ' H' ρ' ∧ I i ρ') ⟨M, ρ1, E1.anchor, i0⟩ (fun i σ' H' hlt ⟨M', ρ', E', hI⟩ => ?_)
        fun σ' H' ⟨M', ρ', E', hI⟩ => C.nx M' σ' H' ρ' (E'.weak E1.anch) (ie ρ' hI)⟩
      exact sg B Z _ H0 M' σ' H' ρ' _ _ _ E' (.int _) (is i ρ' (by omega) hI) _ fun σ2 ρ2 hR E2 => sb B Z _ H0 M' σ2 H' ρ2 _ _ E2 hR
        ⟨fun M σ H ρ E h => ⟨M, ρ, E, h⟩, fun M σ H ρ E h => C.nx M σ H ρ (E.weak E1.anch) h, fun M σ H ρ E h => ⟨M, ρ, E, h⟩, fun M σ H ρ v d E h k => C.rt M σ H ρ v d (E.weak E1.anch) h k⟩
theorem s_while {tt : TT} {tb : TS} {pt : PT'} {pb : PS'} (st : SimT K tt pt) (sb : SimS K tb pb) : SimS K (tWhile tt tb) (pWhile pt pb) := fun B Z A H0 M σ H ρ D G E ⟨W, ⟨m, w0⟩, ws⟩ C => by
  refine ⟨fun n σ' H' => ∃ M' ρ', EnvR K B Z A H0 M' σ' H' ρ' ∧ W n ρ', ⟨m, M, ρ, E, w0⟩, fun n σ' H' ⟨M', ρ', E', w⟩ => ?_⟩
  refine st B Z A H0 M' σ' H' ρ' _ E' (ws n ρ' w) _ fun c ρ1 H1 h1 E1 => ?_
  cases c with
  | false => exact C.nx M' σ' H1 ρ1 E1 h1
  | true =>
    refine ⟨fun σ2 H2 => ∃ m', m' < n ∧ ∃ M' ρ', EnvR K B Z A H0 M' σ2 H2 ρ' ∧ W m' ρ', fun _ _ h => h, ?_⟩
    exact sb B Z A H0 M' σ' H1 ρ1 _ _ E1 h1 ⟨fun M σ H ρ E ⟨m', l, w⟩ => ⟨m', l, M, ρ, E, w⟩, fun M σ H ρ E h => C.nx M σ H ρ E h, fun M σ H ρ E ⟨m', l, w⟩ => ⟨m', l, M, ρ, E, w⟩, C.rt⟩
end
end Pu
namespace Pu
open PySem L2
/-! ### promises over data -/
def plus (Z : Addr → Prop) (b : Addr) : Addr → Prop := fun a => Z a ∨ a = b
/-- a def of data: n arguments -/
def spP (K : PySem.W.Frag) (n : Nat) (S : FS) : Sp := fun vs H Q _ => vs.length = n ∧ ∃ (Z : Addr → Prop) (ds : List PyData) (k : PyData → Prop), (∀ a, Z a → H a ≠ none) ∧ Dqs K (veil Z H) vs ds ∧
  S ds k ∧ ∀ d v H', k d → Grow H H' → Dq K (veil Z H') v d → Q v H'
/-- a def that draws: the box, then n arguments -/
def spB (K : PySem.W.Frag) (n : Nat) (S : FS) : Sp := fun vs H Q _ => ∃ (b : Addr) (us : List V), vs = .ref b :: us ∧ us.length = n ∧ ∃ (Z : Addr → Prop) (ds : List PyData) (k : PyData → Prop), ¬ Z b ∧ (∀ a, Z a → H a ≠ none) ∧
  BoxAt K (plus Z b) H b ∧ Dqs K (veil (plus Z b) H) us ds ∧
  S ds k ∧ ∀ d v H', k d → (∀ a o, a ≠ b → H a = some o → H' a = some o) → BoxAt K (plus Z b) H' b → Dq K (veil (plus Z b) H') v d → Q v H'
section
variable {K : PySem.W.Frag}
theorem sim_call {n : Nat} {S : FS} {E : XK} {ta : TA} {pa : PA'} (sa : SimA K ta pa) : Sim K (tCall (spP K n S) [] E ta) (pCall n S pa) := fun B Z A H0 M σ H ρ R EE h Q q =>
  sa B Z A H0 M σ H ρ _ EE h _ fun vs ds ρ1 H1 h1 E1 d1 => by
    rw [List.append_nil]
    refine ⟨by rw [dqs_len d1]; exact h1.1, hid Z M, ds, _, ?_, d1, h1.2, fun d v H' k g dv => q v d ρ1 H' k (E1.grown g) dv⟩
    rintro a (z | ⟨i, m⟩)
    · exact E1.zl a z
    · exact E1.live i a m
theorem hid_plus {Z : Addr → Prop} {M : Nat → Option Addr} {i : Nat} {b : Addr} (m : M i = some b) : plus (fun a => hid Z M a ∧ a ≠ b) b = hid Z M := by
  funext a
  apply propext
  constructor
  · rintro (⟨h, _⟩ | e)
    · exact h
    · exact .inr ⟨i, e ▸ m⟩
  · intro h
    by_cases e : a = b
    · exact .inr e
    · exact .inl ⟨h, e⟩
/-- behind a draw -/
theorem EnvR.drawn {B Z : Addr → Prop} {A H0 H H' : Hp} {M : Nat → Option Addr} {σ : L2.St} {ρ : En} (E : EnvR K B Z A H0 M σ H ρ) {i : Nat} {b : Addr} (m : M i = some b) (hc : cellAt ρ i = .box) (g : ∀ a o, a ≠ b → H a = some o → H' a = some o) (hb : BoxAt K (hid Z M) H' b) :
    EnvR K B Z A H0 M σ H' ρ := by
  have nb : H' b ≠ none := by
    obtain ⟨r, rows, at_, h, _⟩ := hb
    rw [h]
    intro z; cases z
  have nn : ∀ a, H a ≠ none → H' a ≠ none := fun a h => by
    by_cases e : a = b
    · rw [e]; exact nb
    · cases q : H a with
      | none => exact absurd q h
      | some o =>
        rw [g a o e q]
        intro z; cases z
  have gv : Grow (veil (hid Z M) H) (veil (hid Z M) H') := fun a o h => by
    obtain ⟨h1, h2⟩ := veil_off h
    exact veil_on h1 (g a o (fun e => h1 (.inr ⟨i, by rw [e]; exact m⟩)) h2)
  refine ⟨E.len, E.inj, fun j u k => nn u (E.live j u k), E.off, fun a z => nn a (E.zl a z), fun a o nB h => ?_, E.own, E.m0, E.anch.trans gv, fun j c h => ?_⟩
  · refine g a o (fun e => ?_) (E.ext a o nB h)
    rcases E.own i b m with x | x
    · exact nB (by rw [e]; exact x)
    · rw [e, x] at h
      cases h
  · by_cases e : j = i
    · subst e
      have h2 := cellAt_some hc (by intro z; cases z)
      rw [h2] at h
      cases h
      obtain ⟨b', e1, m1, _⟩ := E.cell j _ h2
      rw [m] at m1
      cases m1
      exact ⟨b, e1, m, hb⟩
    · exact (E.cell j c h).grow gv fun u mu o ho => g u o (fun z => e (E.inj j i b (by rw [← z]; exact mu) m)) ho
theorem box_at {B Z : Addr → Prop} {A H0 H : Hp} {M : Nat → Option Addr} {σ : L2.St} {ρ : En} (E : EnvR K B Z A H0 M σ H ρ) {i : Nat} (hc : cellAt ρ i = .box) : ∃ b, σ[i]? = some (some (.ref b)) ∧ M i = some b ∧ BoxAt K (hid Z M) H b := by
  obtain ⟨b, e, m, h⟩ := E.cell i _ (cellAt_some hc (by intro z; cases z))
  refine ⟨b, ?_, m, h⟩
  cases q : σ[i]? with
  | none =>
    rw [q] at e
    cases e
  | some o =>
    rw [q] at e
    exact congrArg some e
theorem sim_callB {n i : Nat} {S : FS} {E : XK} {ta : TA} {pa : PA'} (sa : SimA K ta pa) : Sim K (tCall (spB K n S) [] E (tCons (tVar i) ta)) (pCallB n S i pa) := fun B Z A H0 M σ H ρ R EE ⟨hc, h⟩ Q q => by
  obtain ⟨b, e, m, _⟩ := box_at EE hc
  refine ⟨.ref b, e, sa B Z A H0 M σ H ρ _ EE h _ fun vs ds ρ1 H1 h1 E1 d1 => ?_⟩
  obtain ⟨b1, e1, m1, hb⟩ := box_at E1 h1.1
  rw [m] at m1
  cases m1
  rw [List.append_nil]
  refine ⟨b, vs, rfl, by rw [dqs_len d1]; exact h1.2.1, fun a => hid Z M a ∧ a ≠ b, ds, _, fun z => z.2 rfl, ?_, by rw [hid_plus m]; exact hb, by rw [hid_plus m]; exact d1, h1.2.2, fun d v H' k g hb' dv => ?_⟩
  · rintro a ⟨z | ⟨j, mj⟩, _⟩
    · exact E1.zl a z
    · exact E1.live j a mj
  · rw [hid_plus m] at hb' dv
    exact q v d ρ1 H' k (E1.drawn m h1.1 g hb') dv
end

/-! ### a def keeps its promise -/
def startE (N : List Str) (ds : List PyData) : En := ds.map Cell.d ++ List.replicate (N.length - ds.length) .no
theorem no_hid {Z : Addr → Prop} : hid Z (fun _ => none) = Z := by
  funext a
  exact propext ⟨fun h => h.elim id fun ⟨_, z⟩ => (nomatch z), fun h => Or.inl h⟩
theorem one_hid {Z : Addr → Prop} {b : Addr} : hid Z (fun i => if i = 0 then some b else none) = plus Z b := by
  funext a
  refine propext ⟨fun h => h.elim Or.inl fun ⟨i, z⟩ => ?_, fun h => h.elim Or.inl fun e => Or.inr ⟨0, by rw [e]; rfl⟩⟩
  have z : (if i = 0 then some b else none) = some a := z
  by_cases e : i = 0
  · rw [if_pos e] at z
    cases z
    exact .inr rfl
  · rw [if_neg e] at z
    cases z
section
variable {K : PySem.W.Frag}
theorem start_len {N : List Str} {vs : List V} (h : vs.length ≤ N.length) : (L2.start N vs).length = N.length := by
  unfold L2.start
  rw [List.length_append, List.length_map, List.length_replicate]
  omega
theorem startE_len {N : List Str} {vs : List PyData} (h : vs.length ≤ N.length) : (startE N vs).length = N.length := by
  unfold startE
  rw [List.length_append, List.length_map, List.length_replicate]
  omega
theorem start_cell {N : List Str} {H : Hp} {vs : List V} {ds : List PyData} (r : Dqs K H vs ds) {i : Nat} {c : Cell} (h : (startE N ds)[i]? = some c) : c = .no ∨ ∃ v d, c = .d d ∧ ((L2.start N vs)[i]?).join = some v ∧ Dq K H v d := by
  unfold startE at h
  by_cases hi : i < ds.length
  · rw [List.getElem?_append_left (by rw [List.length_map]; exact hi), List.getElem?_map, List.getElem?_eq_getElem hi] at h
    obtain ⟨v, hv, dv⟩ := dqs_get r (List.getElem?_eq_getElem hi)
    refine .inr ⟨v, ds[i], (Option.some.inj h).symm, ?_, dv⟩
    unfold L2.start
    rw [List.getElem?_append_left (by rw [List.length_map, dqs_len r]; exact hi), List.getElem?_map, hv]
    rfl
  · rw [List.getElem?_append_right (by rw [List.length_map]; omega), List.getElem?_replicate] at h
    split at h
    · exact .inl (Option.some.inj h).symm
    · cases h
section
variable {P : Program} {w : World} {mg : Str → Option Value} {base : Heap}
/-- the body of a def as a term, its pure reading -/
def Body (P : Program) (w : World) (K : PySem.W.Frag) (mg : Str → Option Value) (base : Heap) (N : List Str) (qual : Str) (st : Stmt) (f : Addr) (k : Nat) (go : PS' → Prop) : Prop :=
  ∀ (cdv : Value) (A : Around) (outer : List Env) (s : Shared) (H : Hp) (E : XK), Room k (A.deeper (PyProof.Rows.envOfC qual (defScope st) s.heap.objs.size f cdv)) →
    ∃ t p, PSs (cxOf CX0 P w K mg base N qual (defScope st) f cdv A outer s H E).nox (defBody st) t ∧ SimS K t p ∧ go p
theorem ok_P {x qual : Str} {st : Stmt} {f : Addr} {fd : FuncData} {N ps : List Str} {k n : Nat} {S : FS} (F : Fun K x qual st f fd) (Sc : FnScope N ps (defScope st)) (hn : ps.length = n)
    (hb : Body P w K mg base N qual st f k fun p => ∀ ds c, ds.length = n → S ds c → p ⟨fun _ => c .none, fun d _ => c d, fun _ => False, fun _ => False⟩ (startE N ds)) : FnOk P w K mg base CX0 (k + 1) f fd ps (spP K n S) := by
  refine F.ok Sc (fun vs H Q E h => by rw [h.1, hn]) (fun cdv A outer s H vs Q E hr h => ?_)
  obtain ⟨hl, Z, ds, c, hz, r, hS, q⟩ := h
  obtain ⟨t, p, ht, hs, hp⟩ := hb cdv A outer s H E hr
  have hnl : ps.length ≤ N.length := by
    have := congrArg List.length Sc.pre
    rw [List.length_take] at this
    omega
  have dl := dqs_len r
  refine ⟨t, ht, hs (fun _ => False) Z (fun _ => none) H (fun _ => none) _ H (startE N ds) _ _ ?_ (hp ds c (by omega) hS) ?_⟩
  · refine ⟨by rw [start_len (by omega), startE_len (by omega)], fun _ _ _ z => (nomatch z), fun _ _ z => (nomatch z), fun _ _ z => (nomatch z), hz, fun _ _ _ h => h, fun _ _ z => (nomatch z), fun _ z => False.elim z, fun _ _ z => (nomatch z), fun i cc hc => ?_⟩
    rcases start_cell r hc with rfl | ⟨v, d, rfl, e, dv⟩
    · trivial
    · refine ⟨v, e, ?_⟩
      rw [no_hid]
      exact dv
  · refine ⟨fun M σ H' ρ E' k => q .none .non H' k (fun a o e => E'.ext a o id e) .non, fun _ _ _ _ _ z => z.elim, fun _ _ _ _ _ z => z.elim, fun M σ H' ρ v d E' k dv => q d v H' k (fun a o e => E'.ext a o id e) (dp_grow (veil_less fun _ z => .inl z) _ _ dv)⟩
theorem ok_B {x qual : Str} {st : Stmt} {f : Addr} {fd : FuncData} {N ps : List Str} {k n : Nat} {S : FS} (F : Fun K x qual st f fd) (Sc : FnScope N ps (defScope st)) (hn : ps.length = n + 1)
    (hb : Body P w K mg base N qual st f k fun p => ∀ ds c, ds.length = n → S ds c → p ⟨fun ρ => cellAt ρ 0 = .box ∧ c .none, fun d ρ => cellAt ρ 0 = .box ∧ c d, fun _ => False, fun _ => False⟩ (.box :: startE N.tail ds)) : FnOk P w K mg base CX0 (k + 1) f fd ps (spB K n S) := by
  refine F.ok Sc (fun vs H Q E h => ?_) (fun cdv A outer s H vs Q E hr h => ?_)
  · obtain ⟨b, us, rfl, hl, _⟩ := h
    rw [List.length_cons, hl, hn]
  obtain ⟨b, us, rfl, hl, Z, ds, c, nz, hz, box, r, hS, q⟩ := h
  obtain ⟨t, p, ht, hs, hp⟩ := hb cdv A outer s H E hr
  have hnl : ps.length ≤ N.length := by
    have := congrArg List.length Sc.pre
    rw [List.length_take] at this
    omega
  have dl := dqs_len r
  have nb : H b ≠ none := by
    obtain ⟨r, rows, at_, h, _⟩ := box
    rw [h]
    intro z; cases z
  have s0 : L2.start N (.ref b :: us) = some (.ref b) :: L2.start N.tail us := by
    unfold L2.start
    rw [List.map_cons, List.length_cons, List.length_tail, List.cons_append]
    congr 3
    omega
  have fin : ∀ M σ H' ρ, EnvR K (fun a => a = b) Z (fun _ => none) H M σ H' ρ → cellAt ρ 0 = .box → ∀ v d, c d → Dq K (veil (plus Z b) H') v d → Q v H' := fun M σ H' ρ E' hc v d k dv => by
    obtain ⟨b', e1, m1, hb'⟩ := box_at E' hc
    have m := E'.m0 b rfl
    rw [m] at m1
    cases m1
    obtain ⟨r, rows, at_, h, h0, hr, h1, h2, h3⟩ := hb'
    refine q d v H' k (fun a o ne e => E'.ext a o ne e) ⟨r, rows, at_, h, h0, ?_, h1, h2, h3⟩ dv
    refine veil_less ?_ _ _ hr
    rintro a (z | e)
    · exact .inl z
    · exact .inr ⟨0, by rw [e]; exact m⟩
  refine ⟨t, ht, hs (fun a => a = b) Z (fun _ => none) H (fun i => if i = 0 then some b else none) _ H (.box :: startE N.tail ds) _ _ ?_ (hp ds c (by omega) hS) ?_⟩
  · rw [s0]
    refine ⟨?_, fun i j l h1 h2 => ?_, fun i l h => ?_, fun i l h => ?_, hz, fun _ _ _ h => h, fun i l h => ?_, fun b' e => (by rw [e]; rfl), fun _ _ z => (nomatch z), fun i cc hc => ?_⟩
    · rw [List.length_cons, List.length_cons, start_len (by rw [List.length_tail]; omega), startE_len (by rw [List.length_tail]; omega)]
    · by_cases ei : i = 0
      · by_cases ej : j = 0
        · rw [ei, ej]
        · rw [if_neg ej] at h2; cases h2
      · rw [if_neg ei] at h1; cases h1
    · by_cases ei : i = 0
      · rw [if_pos ei] at h; cases h; exact nb
      · rw [if_neg ei] at h; cases h
    · by_cases ei : i = 0
      · rw [if_pos ei] at h; cases h; exact nz
      · rw [if_neg ei] at h; cases h
    · by_cases ei : i = 0
      · rw [if_pos ei] at h; cases h; exact .inl rfl
      · rw [if_neg ei] at h; cases h
    · cases i with
      | zero =>
        have e : cc = .box := (Option.some.inj hc).symm
        rw [e]
        exact ⟨b, rfl, rfl, by rw [one_hid]; exact box⟩
      | succ i =>
        rw [List.getElem?_cons_succ] at hc ⊢
        rcases start_cell r hc with rfl | ⟨v, d, rfl, e, dv⟩
        · trivial
        · refine ⟨v, e, ?_⟩
          rw [one_hid]
          exact dv
  · exact ⟨fun M σ H' ρ E' k => fin M σ H' ρ E' k.1 .non .none k.2 .non, fun _ _ _ _ _ z => z.elim, fun _ _ _ _ _ z => z.elim, fun M σ H' ρ v d E' k dv => fin M σ H' ρ E' k.1 v d k.2 dv⟩
end
end
end Pu
namespace Pu
open PySem L2
section
variable {X : Cx}
theorem either {f : Value → Value → Sem Value} {r r' : R2} (h : OpR X f r) (h' : OpR X f r') : OpR X f fun x y H Q => r x y H Q ∨ r' x y H Q := fun pins s σ H x y v u Q I rx ry q =>
  q.elim (h pins s σ H x y v u Q I rx ry) (h' pins s σ H x y v u Q I rx ry)
/-- + of two ints, tuples, lists -/
def rPlus (K : PySem.W.Frag) : R2 := fun x y H Q => rI0 (fun i j => .int (i + j)) x y H Q ∨ rCatA K x y H Q ∨ rCat x y H Q
theorem op_plus : OpR X (binaryOp .Add) (rPlus X.K) := either op_add (either op_catA op_cat)
/-- a slice of a list or a tuple -/
def rCut (K : PySem.W.Frag) : V → Option Int → Option Int → Hp → VK → Prop := fun x lo hi H Q => rSlL K x lo hi H Q ∨ rSlA K x lo hi H Q
theorem sl_cut : SlR X (rCut X.K) := SlR.or sl_list sl_tupA
def rLen (K : PySem.W.Frag) : List V → Hp → VK → Prop := fun xs H Q => ∃ x n, xs = [x] ∧ LenV K x H n ∧ Q (.int (n : Nat)) H
theorem c_len : CallR X (.builtin "len") (rLen X.K) := call_len
def rTupOf (K : PySem.W.Frag) : List V → Hp → VK → Prop := fun xs H Q => ∃ p ys, xs = [.ref p] ∧ ((SqL K H p ys ∧ ∀ l, H l = none → Q (.ref l) (upd H l (.tup ys))) ∨ (SqT K H p ys ∧ Q (.ref p) H))
theorem c_tuple : CallR X (.type "tuple") (rTupOf X.K) := call_tuple_of
def rInt1 : List V → Hp → VK → Prop := fun xs H Q => (∃ i, xs = [.int i] ∧ Q (.int i) H) ∨ ∃ k, xs = [.bl k] ∧ Q (.int (if k then 1 else 0)) H
theorem c_int : CallR X (.type "int") rInt1 := call_int1
end

def lenD : PyData → Option Nat
  | .list ds => some ds.length
  | .tuple ds => some ds.length
  | _ => none
def fLen : FS := fun ds k => match ds with
  | [d] => ∃ n, lenD d = some n ∧ k (.int (n : Nat))
  | _ => False
def fTuple : FS := fun ds k => match ds with
  | [d] => asS d fun xs => k (.tuple xs)
  | _ => False
def fInt : FS := fun ds k => match ds with
  | [.int i] => k (.int i)
  | [.bool b] => k (.int (if b then 1 else 0))
  | _ => False
def fSorted : FS := fun ds k => match ds with
  | [d] => ∃ ns : List Int, (d = .list (ns.map PyData.int) ∨ d = .tuple (ns.map PyData.int)) ∧ ∀ ns' : List Int, ns'.Perm ns → ns'.Pairwise (· ≤ ·) → k (.list (ns'.map PyData.int))
  | _ => False
theorem fLen_of {ds : List PyData} {k : PyData → Prop} (h : fLen ds k) : ∃ d n, ds = [d] ∧ lenD d = some n ∧ k (.int (n : Nat)) := by
  unfold fLen at h
  split at h
  · obtain ⟨n, h1, h2⟩ := h
    exact ⟨_, n, rfl, h1, h2⟩
  · exact h.elim
theorem fTuple_of {ds : List PyData} {k : PyData → Prop} (h : fTuple ds k) : ∃ xs, (ds = [.list xs] ∨ ds = [.tuple xs]) ∧ k (.tuple xs) := by
  unfold fTuple at h
  split at h
  · rename_i d
    cases d <;> first | exact ⟨_, .inl rfl, h⟩ | exact ⟨_, .inr rfl, h⟩ | exact h.elim
  · exact h.elim
theorem fInt_of {ds : List PyData} {k : PyData → Prop} (h : fInt ds k) : (∃ i, ds = [.int i] ∧ k (.int i)) ∨ ∃ b : Bool, ds = [.bool b] ∧ k (.int (if b then 1 else 0)) := by
  unfold fInt at h
  split at h
  · exact .inl ⟨_, rfl, h⟩
  · exact .inr ⟨_, rfl, h⟩
  · exact h.elim
def pSorted (pa : PA') : PA' := fun ρ R => pa ρ fun ds ρ1 => ∃ ns : List Int, ds = [.list (ns.map PyData.int)] ∧ ∀ ns' : List Int, ns'.Perm ns → ns'.Pairwise (· ≤ ·) → R (ns'.map PyData.int) ρ1
abbrev PO' := En → (Option Int → En → Prop) → Prop
def pNoP : PO' := fun ρ R => R none ρ
def pPart (pa : PE') : PO' := fun ρ R => pa ρ fun x ρ1 => asI x fun i => R (some i) ρ1
def cutP (xs : List PyData) (lo hi : Option Int) : List PyData := (xs.drop (HT.sIx xs.length 0 lo)).take (HT.sIx xs.length xs.length hi - HT.sIx xs.length 0 lo)
def cutD (d : PyData) (lo hi : Option Int) (k : PyData → Prop) : Prop := match d with
  | .list xs => k (.list (cutP xs lo hi))
  | .tuple xs => k (.tuple (cutP xs lo hi))
  | _ => False
def pCut (pa : PE') (pl ph : PO') : PE' := fun ρ R => pa ρ fun x ρ1 => pl ρ1 fun l ρ2 => ph ρ2 fun h ρ3 => cutD x l h fun d => R d ρ3
def addD (x y : PyData) (k : PyData → Prop) : Prop := match x, y with
  | .int i, .int j => k (.int (i + j))
  | .tuple xs, .tuple ys => xs.length + ys.length ≤ 100000 ∧ k (.tuple (xs ++ ys))
  | .list xs, .list ys => xs.length + ys.length ≤ 100000 ∧ k (.list (xs ++ ys))
  | _, _ => False
def pPlus (pa pb : PE') : PE' := fun ρ R => pa ρ fun x ρ1 => pb ρ1 fun y ρ2 => addD x y fun d => R d ρ2
/-- a flat datum as a value -/
def vd : PyData → V
  | .bool b => .bl b
  | .int i => .int i
  | .str x => .str x
  | _ => .non
def flatD : PyData → Bool
  | .none => true
  | .bool _ => true
  | .int _ => true
  | .str _ => true
  | _ => false
def pInD (neg : Bool) (pa pb : PE') : PE' := fun ρ R => pa ρ fun x ρ1 => pb ρ1 fun y ρ2 => asS y fun ds => flatD x = true ∧ ds.all flatD = true ∧ R (.bool (if neg then !inV (vd x) (ds.map vd) else inV (vd x) (ds.map vd))) ρ2

section
variable {K : PySem.W.Frag}
def SimO (K : PySem.W.Frag) (to : TO) (p : PO') : Prop := ∀ B Z A H0 M σ H ρ R, EnvR K B Z A H0 M σ H ρ → p ρ R →
  ∀ Q : Option Int → Hp → Prop, (∀ o ρ' H2, R o ρ' → EnvR K B Z A H0 M σ H2 ρ' → Q o H2) → to σ H Q
theorem o_none : SimO K tNoPart pNoP := fun B Z A H0 M σ H ρ R E h Q q => q none ρ H h E
theorem o_some {ta : TE} {pa : PE'} (sa : Sim K ta pa) : SimO K (tPart ta) (pPart pa) := fun B Z A H0 M σ H ρ R E h Q q =>
  sa B Z A H0 M σ H ρ _ E h _ fun v x ρ1 H1 h1 E1 d1 => by
    obtain ⟨i, rfl, h2⟩ := asI_of h1
    exact ⟨i, of_int d1, q _ _ _ h2 E1⟩
theorem cut_dq {H : Hp} {vs : List V} {ds : List PyData} (r : Dqs K H vs ds) (lo hi : Option Int) : Dqs K H (cutV vs lo hi) (cutP ds lo hi) := by
  unfold cutV cutP
  rw [dqs_len r]
  exact dqs_take _ (dqs_drop _ r)
theorem cut_whole {ds : List PyData} {lo hi : Option Int} (h : HT.sIx ds.length 0 lo = 0 ∧ HT.sIx ds.length ds.length hi = ds.length) : cutP ds lo hi = ds := by
  unfold cutP
  rw [h.1, h.2]
  simp
theorem sim_cut {ta : TE} {tl th : TO} {pa : PE'} {pl ph : PO'} (sa : Sim K ta pa) (sl : SimO K tl pl) (sh : SimO K th ph) : Sim K (tSl (rCut K) ta tl th) (pCut pa pl ph) := fun B Z A H0 M σ H ρ R E h Q q =>
  sa B Z A H0 M σ H ρ _ E h _ fun v x ρ1 H1 h1 E1 d1 => sl B Z _ H0 M σ H1 ρ1 _ E1.anchor h1 _ fun l ρ2 H2 h2 E2 => sh B Z _ H0 M σ H2 ρ2 _ E2.anchor h2 _ fun u ρ3 H3 h3 E3 => by
    have d3 := dp_grow (E2.anch.trans E3.anch) _ _ d1
    have E4 := (E3.weak E2.anch).weak E1.anch
    cases x with
    | list ds =>
      cases d3 with
      | lst hl r => exact .inl ⟨_, _, rfl, .of (veil_grow _ _ _ _ hl), fun p hp => q _ _ _ _ h3 (E4.grown (grow_new hp)) (.newL (E4.veiled hp) hp (cut_dq r l u))⟩
    | tuple ds =>
      cases d3 with
      | @tup a vs _ hl r =>
        refine .inr ⟨a, vs, rfl, grow_t (veil_grow _ _) hl, fun w => ?_, fun w p hp => ?_⟩
        · rw [dqs_len r] at w
          have h5 : R (.tuple (cutP ds l u)) ρ3 := h3
          rw [cut_whole w] at h5
          exact q _ _ _ _ h5 E4 (.tup hl r)
        · exact q _ _ _ _ h3 (E4.grown (grow_new hp)) (.new (E4.veiled hp) hp (cut_dq r l u))
    | _ => exact h3.elim
theorem nil_of {H : Hp} {ds : List PyData} (r : Dqs K H [] ds) : ds = [] := by cases r; rfl
theorem nil_to {H : Hp} {vs : List V} (r : Dqs K H vs []) : vs = [] := by cases r; rfl
theorem sim_plus {ta tb : TE} {pa pb : PE'} (sa : Sim K ta pa) (sb : Sim K tb pb) : Sim K (tOp (rPlus K) ta tb) (pPlus pa pb) := fun B Z A H0 M σ H ρ R E h Q q =>
  two sa sb E h fun v w x y ρ2 H2 h2 E2 d1 d2 => by
    cases x with
    | int i =>
      cases y with
      | int j =>
        rw [of_int d1, of_int d2]
        exact .inl ⟨i, j, rfl, rfl, q _ _ _ _ h2 E2 (.int _)⟩
      | _ => exact h2.elim
    | list xs =>
      cases y with
      | list ys =>
        cases d1 with
        | lst hl r =>
          cases d2 with
          | lst hl2 r2 =>
            exact .inr (.inr ⟨_, _, _, _, rfl, rfl, veil_grow _ _ _ _ hl, veil_grow _ _ _ _ hl2, sz5 (by rw [dqs_len r, dqs_len r2]; exact h2.1), fun p hp => q _ _ _ _ h2.2 (E2.grown (grow_new hp)) (.newL (E2.veiled hp) hp (dqs_app r r2))⟩)
      | _ => exact h2.elim
    | tuple xs =>
      cases y with
      | tuple ys =>
        cases d1 with
        | @tup a vs _ hl r =>
          cases d2 with
          | @tup b ws _ hl2 r2 =>
            refine .inr (.inl ⟨a, b, vs, ws, rfl, rfl, grow_t (veil_grow _ _) hl, grow_t (veil_grow _ _) hl2, sz5 (by rw [dqs_len r, dqs_len r2]; exact h2.1), fun e => ?_, fun _ e => ?_, fun _ _ p hp => ?_⟩)
            · subst e
              have ex := nil_of r
              subst ex
              exact q _ _ _ _ h2.2 E2 (.tup hl2 r2)
            · subst e
              have ey := nil_of r2
              subst ey
              have h5 := h2.2
              rw [List.append_nil] at h5
              exact q _ _ _ _ h5 E2 (.tup hl r)
            · exact q _ _ _ _ h2.2 (E2.grown (grow_new hp)) (.new (E2.veiled hp) hp (dqs_app r r2))
      | _ => exact h2.elim
    | _ => exact h2.elim
theorem vd_of {H : Hp} {v : V} {d : PyData} (h : Dq K H v d) (f : flatD d = true) : v = vd d ∧ flatV v = true := by
  cases h <;> first | exact ⟨rfl, rfl⟩ | cases f
theorem vds_of {H : Hp} : ∀ {vs : List V} {ds : List PyData}, Dqs K H vs ds → ds.all flatD = true → vs = ds.map vd ∧ vs.all flatV = true
  | _, _, .nil, _ => ⟨rfl, rfl⟩
  | _, _, .cons h r, f => by
    rw [List.all_cons, Bool.and_eq_true] at f
    obtain ⟨e1, f1⟩ := vd_of h f.1
    obtain ⟨e2, f2⟩ := vds_of r f.2
    exact ⟨by rw [e1, e2]; rfl, by rw [List.all_cons, f1, f2]; rfl⟩
theorem sim_inD {neg : Bool} {ta tb : TE} {pa pb : PE'} (sa : Sim K ta pa) (sb : Sim K tb pb) : Sim K (tOp (rIn K neg) ta tb) (pInD neg pa pb) := fun B Z A H0 M σ H ρ R E h Q q =>
  two sa sb E h fun v w x y ρ2 H2 h2 E2 d1 d2 => by
    cases y with
    | list ds =>
      obtain ⟨fx, fs, h3⟩ := h2
      cases d2 with
      | lst hl r =>
        obtain ⟨e1, f1⟩ := vd_of d1 fx
        obtain ⟨e2, f2⟩ := vds_of r fs
        exact ⟨_, _, rfl, .inl (.of (veil_grow _ _ _ _ hl)), f1, f2, by rw [e1, e2]; exact q _ _ _ _ h3 E2 (.bl _)⟩
    | tuple ds =>
      obtain ⟨fx, fs, h3⟩ := h2
      cases d2 with
      | tup hl r =>
        obtain ⟨e1, f1⟩ := vd_of d1 fx
        obtain ⟨e2, f2⟩ := vds_of r fs
        exact ⟨_, _, rfl, .inr (grow_t (veil_grow _ _) hl), f1, f2, by rw [e1, e2]; exact q _ _ _ _ h3 E2 (.bl _)⟩
    | _ => exact h2.elim
/-! built-ins -/
theorem one_of {H : Hp} {vs : List V} {d : PyData} (r : Dqs K H vs [d]) : ∃ v, vs = [v] ∧ Dq K H v d := by
  cases r with
  | cons h r => cases r; exact ⟨_, rfl, h⟩
theorem sim_len {ta : TA} {pa : PA'} (sa : SimA K ta pa) : Sim K (tCB (rLen K) ta) (pFn fLen pa) := fun B Z A H0 M σ H ρ R E h Q q =>
  sa B Z A H0 M σ H ρ _ E h _ fun vs ds ρ1 H1 h1 E1 d1 => by
    obtain ⟨d, n, rfl, hn, h2⟩ := fLen_of h1
    obtain ⟨v, rfl, dv⟩ := one_of d1
    refine ⟨v, n, rfl, ?_, q _ _ _ _ h2 E1 (.int _)⟩
    cases dv with
    | @lst a xs ds hl r => exact .inl ⟨xs, .of (veil_grow _ _ _ _ hl), by rw [dqs_len r]; exact (Option.some.inj hn).symm⟩
    | @tup a xs ds hl r => exact .inr ⟨xs, grow_t (veil_grow _ _) hl, by rw [dqs_len r]; exact (Option.some.inj hn).symm⟩
    | _ => cases hn
theorem sim_tuple {ta : TA} {pa : PA'} (sa : SimA K ta pa) : Sim K (tCB (rTupOf K) ta) (pFn fTuple pa) := fun B Z A H0 M σ H ρ R E h Q q =>
  sa B Z A H0 M σ H ρ _ E h _ fun vs ds ρ1 H1 h1 E1 d1 => by
    obtain ⟨xs, rfl | rfl, h2⟩ := fTuple_of h1
    · obtain ⟨v, rfl, dv⟩ := one_of d1
      cases dv with
      | lst hl r => exact ⟨_, _, rfl, .inl ⟨.of (veil_grow _ _ _ _ hl), fun p hp => q _ _ _ _ h2 (E1.grown (grow_new hp)) (.new (E1.veiled hp) hp r)⟩⟩
    · obtain ⟨v, rfl, dv⟩ := one_of d1
      cases dv with
      | tup hl r => exact ⟨_, _, rfl, .inr ⟨grow_t (veil_grow _ _) hl, q _ _ _ _ h2 E1 (.tup hl r)⟩⟩
theorem sim_int {ta : TA} {pa : PA'} (sa : SimA K ta pa) : Sim K (tCB rInt1 ta) (pFn fInt pa) := fun B Z A H0 M σ H ρ R E h Q q =>
  sa B Z A H0 M σ H ρ _ E h _ fun vs ds ρ1 H1 h1 E1 d1 => by
    rcases fInt_of h1 with ⟨i, rfl, h2⟩ | ⟨b, rfl, h2⟩
    · obtain ⟨v, rfl, dv⟩ := one_of d1
      rw [of_int dv]
      exact .inl ⟨i, rfl, q _ _ _ _ h2 E1 (.int _)⟩
    · obtain ⟨v, rfl, dv⟩ := one_of d1
      rw [of_bl dv]
      exact .inr ⟨b, rfl, q _ _ _ _ h2 E1 (.int _)⟩
theorem sim_sorted {ta : TA} {pa : PA'} (sa : SimA K ta pa) : SimL K (tCB (rSortedI K) ta) (pSorted pa) := fun B Z A H0 M σ H ρ R E h Q q =>
  sa B Z A H0 M σ H ρ _ E h _ fun vs ds ρ1 H1 ⟨ns, e, h2⟩ E1 d1 => by
    subst e
    obtain ⟨v, rfl, dv⟩ := one_of d1
    cases dv with
    | lst hl r =>
      have e := dqs_of_ints r
      subst e
      exact ⟨_, ns, rfl, .of (veil_grow _ _ _ _ hl), fun ns' p pm pw hp => q p _ _ ρ1 H1 (h2 ns' pm pw) E1 hp dqs_ints⟩
end
end Pu
namespace Pu
open PySem L2
section
variable {K : PySem.W.Frag} {B Z : Addr → Prop} {A A1 H0 H H1 : Hp} {M : Nat → Option Addr} {σ σ2 : St} {ρ ρ2 : En} {D : Addr} {vs : List Nat} {u : HO}
/-! ### a list that grows beside the places -/
def wiped (H : Hp) (D : Addr) : Hp := fun a => if a = D then none else H a
theorem wiped_at : wiped H D D = none := if_pos rfl
theorem wiped_ne {a : Addr} (h : a ≠ D) : wiped H D a = H a := if_neg h
theorem wiped_upd (h : H D = some u) : upd (wiped H D) D u = H := by
  funext a
  by_cases e : a = D
  · rw [e, upd_same, h]
  · rw [upd_ne e, wiped_ne e]
theorem hid_ne {a : Addr} (h : a ≠ D) : hid (plus Z D) M a ↔ hid Z M a :=
  ⟨fun z => z.elim (fun y => y.elim Or.inl fun e => absurd e h) Or.inr, fun z => z.elim (fun y => Or.inl (Or.inl y)) Or.inr⟩
theorem veil_in : Grow (veil (hid (plus Z D) M) H) (veil (hid Z M) (wiped H D)) := fun a o h => by
  obtain ⟨h1, h2⟩ := veil_off h
  have ne : a ≠ D := fun e => h1 (.inl (.inr e))
  exact veil_on (fun z => h1 ((hid_ne ne).mpr z)) ((wiped_ne ne).trans h2)
theorem veil_out : Grow (veil (hid Z M) (wiped H D)) (veil (hid (plus Z D) M) H) := fun a o h => by
  obtain ⟨h1, h2⟩ := veil_off h
  have ne : a ≠ D := fun e => by
    rw [e, wiped_at] at h2
    cases h2
  exact veil_on (fun z => h1 ((hid_ne ne).mp z)) ((wiped_ne ne).symm.trans h2)
theorem wiped_none (h : H D = none) : wiped (upd H D u) D = H := by
  funext a
  by_cases e : a = D
  · rw [e, wiped_at, h]
  · rw [wiped_ne e, upd_ne e]
theorem wipe_out {i : Nat} : ∀ {vs : List Nat}, i ∉ vs → (wipe σ vs)[i]? = σ[i]?
  | [], _ => rfl
  | v :: vs, h => by
    unfold wipe
    rw [List.getElem?_set_ne (fun e => h (by rw [e]; exact List.mem_cons_self)), wipe_out fun m => h (List.mem_cons_of_mem _ m)]
theorem wipe_join {i : Nat} {v : V} (h : ((wipe σ vs)[i]?).join = some v) : (σ[i]?).join = some v := by
  cases q : (wipe σ vs)[i]? with
  | none =>
    rw [q] at h
    cases h
  | some o =>
    rw [q] at h
    have h : o = some v := h
    subst h
    rw [(wipe_some q).1]
    rfl
theorem cell_more {i : Nat} {o o' : Option V} {c : Cell} (k : ∀ v, o = some v → o' = some v) (h : CellR K Z M H i o c) : CellR K Z M H i o' c := by
  cases c with
  | no => trivial
  | d x =>
    obtain ⟨v, e, h⟩ := h
    exact ⟨v, k v e, h⟩
  | own xs =>
    obtain ⟨l, vs, e, h⟩ := h
    exact ⟨l, vs, k _ e, h⟩
  | dct kvs =>
    obtain ⟨l, ws, e, h⟩ := h
    exact ⟨l, ws, k _ e, h⟩
  | box =>
    obtain ⟨b, e, h⟩ := h
    exact ⟨b, k _ e, h⟩
  | obj nm fs =>
    obtain ⟨l, C, dx, ws, e, h⟩ := h
    exact ⟨l, C, dx, ws, k _ e, h⟩
theorem cellAt_get : ∀ {ρ : En} {i : Nat} {c : Cell}, ρ[i]? = some c → cellAt ρ i = c
  | [], _, _, h => by simp at h
  | c :: _, 0, _, h => Option.some.inj h
  | _ :: r, i + 1, _, h => cellAt_get (ρ := r) (i := i) (by simpa using h)
/-- the cell of a hidden one and back -/
theorem cell_in {i : Nat} {o : Option V} {c : Cell} (nd : ∀ l, M i = some l → l ≠ D) (h : CellR K Z M (wiped H D) i o c) : CellR K (plus Z D) M H i o c := by
  cases c with
  | no => trivial
  | d x =>
    obtain ⟨v, e, h⟩ := h
    exact ⟨v, e, dp_grow veil_out _ _ h⟩
  | own xs =>
    obtain ⟨l, vs, e, m, hl, h⟩ := h
    exact ⟨l, vs, e, m, (wiped_ne (nd l m)).symm.trans hl, dps_grow veil_out _ _ h⟩
  | dct kvs =>
    obtain ⟨l, ws, e, m, hl, h⟩ := h
    exact ⟨l, ws, e, m, (wiped_ne (nd l m)).symm.trans hl, kvs_grow veil_out h⟩
  | box =>
    obtain ⟨b, e, m, r, rows, at_, hb, h0, hr, h1, h2, h3⟩ := h
    exact ⟨b, e, m, r, rows, at_, (wiped_ne (nd b m)).symm.trans hb, h0, veil_out _ _ hr, h1, h2, h3⟩
  | obj nm fs =>
    obtain ⟨l, C, dx, ws, e, m, hc, hl, h⟩ := h
    exact ⟨l, C, dx, ws, e, m, hc, (wiped_ne (nd l m)).symm.trans hl, fds_grow veil_out h⟩
theorem cell_ex {i : Nat} {o : Option V} {c : Cell} (nd : ∀ l, M i = some l → l ≠ D) (h : CellR K (plus Z D) M H i o c) : CellR K Z M (wiped H D) i o c := by
  cases c with
  | no => trivial
  | d x =>
    obtain ⟨v, e, h⟩ := h
    exact ⟨v, e, dp_grow veil_in _ _ h⟩
  | own xs =>
    obtain ⟨l, vs, e, m, hl, h⟩ := h
    exact ⟨l, vs, e, m, (wiped_ne (nd l m)).trans hl, dps_grow veil_in _ _ h⟩
  | dct kvs =>
    obtain ⟨l, ws, e, m, hl, h⟩ := h
    exact ⟨l, ws, e, m, (wiped_ne (nd l m)).trans hl, kvs_grow veil_in h⟩
  | box =>
    obtain ⟨b, e, m, r, rows, at_, hb, h0, hr, h1, h2, h3⟩ := h
    exact ⟨b, e, m, r, rows, at_, (wiped_ne (nd b m)).trans hb, h0, veil_in _ _ hr, h1, h2, h3⟩
  | obj nm fs =>
    obtain ⟨l, C, dx, ws, e, m, hc, hl, h⟩ := h
    exact ⟨l, C, dx, ws, e, m, hc, (wiped_ne (nd l m)).trans hl, fds_grow veil_in h⟩
/-- a comprehension's block begins: its own places forgotten, its list at D -/
theorem EnvR.enter (E : EnvR K B Z A H0 M σ H ρ) (hv : ∀ v ∈ vs, cellAt ρ v = .no) (hD : H D = none) : EnvR K B (plus Z D) (veil (hid Z M) H) H0 M (wipe σ vs) (upd H D u) ρ := by
  have nM : ∀ i l, M i = some l → l ≠ D := fun i l m e => E.live i l m (by rw [e]; exact hD)
  have keep : ∀ a, H a ≠ none → upd H D u a = H a := fun a h => upd_ne fun e => h (by rw [e]; exact hD)
  refine ⟨by rw [wipe_length]; exact E.len, E.inj, fun i l m => by rw [keep l (E.live i l m)]; exact E.live i l m, fun i l m z => z.elim (E.off i l m) (nM i l m), fun a z => ?_, fun a o nb h => ?_, E.own, E.m0, ?_, fun i c hc => ?_⟩
  · rcases z with z | e
    · rw [keep a (E.zl a z)]
      exact E.zl a z
    · rw [e, upd_same]
      intro z; cases z
  · have q := E.ext a o nb h
    rw [keep a (by rw [q]; intro z; cases z)]
    exact q
  · have g := veil_out (Z := Z) (M := M) (H := upd H D u) (D := D)
    rw [wiped_none hD] at g
    exact g
  · have h := E.cell i c hc
    by_cases hi : i ∈ vs
    · have e := hv i hi
      rw [cellAt_get hc] at e
      rw [e]
      trivial
    · rw [wipe_out hi]
      refine cell_in (nM i) ?_
      rw [wiped_none hD]
      exact h
/-- .. it ends -/
theorem EnvR.leave (E : EnvR K B (plus Z D) A1 H0 M (wipe σ vs) H ρ) (g : Grow A A1) (h0 : H0 D = none) (nZ : ¬ Z D) : EnvR K B Z A H0 M σ (wiped H D) ρ := by
  have nM : ∀ i l, M i = some l → l ≠ D := fun i l m e => E.off i l m (.inr e)
  refine ⟨by rw [← E.len, wipe_length], E.inj, fun i l m => by rw [wiped_ne (nM i l m)]; exact E.live i l m, fun i l m z => E.off i l m (.inl z), fun a z => ?_, fun a o nb h => ?_, E.own, E.m0, (g.trans E.anch).trans veil_in, fun i c hc => cell_more (fun v => wipe_join) (cell_ex (nM i) (E.cell i c hc))⟩
  · rw [wiped_ne (fun e => nZ (by rw [← e]; exact z))]
    exact E.zl a (.inl z)
  · rw [wiped_ne (fun e => by rw [e, h0] at h; cases h)]
    exact E.ext a o nb h
/-- for a turn: what stands at D stays -/
theorem EnvR.hold (E : EnvR K B Z A H0 M σ H ρ) (h : H D = some u) (nM : ∀ i l, M i = some l → l ≠ D) : EnvR K B Z A (upd H0 D u) M σ H ρ := by
  refine { E with ext := fun a o nb k => ?_, own := fun i l m => ?_ }
  · by_cases e : a = D
    · rw [e, upd_same] at k
      rw [e, h]
      exact k
    · rw [upd_ne e] at k
      exact E.ext a o nb k
  · rw [upd_ne (nM i l m)]
    exact E.own i l m
theorem EnvR.unhold (E : EnvR K B Z A (upd H0 D u) M σ H ρ) (h0 : H0 D = none) (nM : ∀ i l, M i = some l → l ≠ D) : EnvR K B Z A H0 M σ H ρ := by
  refine { E with ext := fun a o nb k => E.ext a o nb ?_, own := fun i l m => ?_ }
  · rw [upd_ne (fun e => by rw [e, h0] at k; cases k)]
    exact k
  · have q := E.own i l m
    rw [upd_ne (nM i l m)] at q
    exact q
/-- what stands at D changes -/
theorem EnvR.turn (E : EnvR K B (plus Z D) A H0 M σ H ρ) (h0 : H0 D = none) : EnvR K B (plus Z D) A H0 M σ (upd H D u) ρ := by
  have nM : ∀ i l, M i = some l → l ≠ D := fun i l m e => E.off i l m (.inr e)
  have gv : Grow (veil (hid (plus Z D) M) H) (veil (hid (plus Z D) M) (upd H D u)) := fun a o h => by
    obtain ⟨h1, h2⟩ := veil_off h
    exact veil_on h1 ((upd_ne fun e => h1 (.inl (.inr e))).trans h2)
  refine ⟨E.len, E.inj, fun i l m => by rw [upd_ne (nM i l m)]; exact E.live i l m, E.off, fun a z => ?_, fun a o nb h => ?_, E.own, E.m0, E.anch.trans gv, fun i c hc => (E.cell i c hc).grow gv fun l m w hw => (upd_ne (nM i l m)).trans hw⟩
  · by_cases e : a = D
    · rw [e, upd_same]
      intro z; cases z
    · rw [upd_ne e]
      exact E.zl a z
  · rw [upd_ne (fun e => by rw [e, h0] at h; cases h)]
    exact E.ext a o nb h
/-- the turn's own places forgotten -/
theorem EnvR.back (E : EnvR K B Z A H0 M σ2 H ρ2) (hw : wipe σ2 vs = wipe σ vs) (hl : ρ2.length = ρ.length) (ho : ∀ i, i ∉ vs → cellAt ρ2 i = cellAt ρ i) (hv : ∀ v ∈ vs, cellAt ρ v = .no) : EnvR K B Z A H0 M (wipe σ vs) H ρ := by
  refine { E with len := by rw [← hw, wipe_length, E.len, hl], cell := fun i c hc => ?_ }
  by_cases hi : i ∈ vs
  · have e := hv i hi
    rw [cellAt_get hc] at e
    rw [e]
    trivial
  · have e := ho i hi
    rw [cellAt_get hc] at e
    cases c with
    | no => trivial
    | _ =>
      have h := E.cell i _ (cellAt_some e (by intro z; cases z))
      rw [← hw, wipe_out hi]
      exact h
end

/-! ### comprehensions -/
section
variable {K : PySem.W.Frag}
/-- a target whose places are all in vs -/
def SimGV (K : PySem.W.Frag) (vs : List Nat) (g : TG) (pg : PG') : Prop := ∀ B Z A H0 M σ H ρ v d R, EnvR K B Z A H0 M σ H ρ → Dq K (veil (hid Z M) H) v d → pg d ρ R →
  ∀ Q : St → Hp → Prop, (∀ σ' ρ', R ρ' → EnvR K B Z A H0 M σ' H ρ' → wipe σ' vs = wipe σ vs → ρ'.length = ρ.length → (∀ i, i ∉ vs → cellAt ρ' i = cellAt ρ i) → Q σ' H) → g v σ H Q
theorem wipe_set {σ : St} {j : Nat} {o : Option V} : ∀ {vs : List Nat}, j ∈ vs → wipe (σ.set j o) vs = wipe σ vs
  | v :: vs, h => by
    unfold wipe
    by_cases e : j ∈ vs
    · rw [wipe_set e]
    · have ev : j = v := (List.mem_cons.mp h).resolve_right e
      subst ev
      have q : ∀ {ws : List Nat}, j ∉ ws → wipe (σ.set j o) ws = (wipe σ ws).set j o := fun {ws} => by
        induction ws with
        | nil => intro _; rfl
        | cons w ws ih =>
          intro h
          unfold wipe
          rw [ih fun m => h (List.mem_cons_of_mem _ m), List.set_comm _ _ (fun z => h (by rw [z]; exact List.mem_cons_self))]
      rw [q e, List.set_set]
theorem cellSet_ne : ∀ {ρ : En} {i j : Nat} {c : Cell}, i ≠ j → cellAt (cellSet ρ i c) j = cellAt ρ j
  | [], _, _, _, _ => rfl
  | _ :: _, 0, 0, _, h => absurd rfl h
  | _ :: _, 0, _ + 1, _, _ => rfl
  | _ :: _, _ + 1, 0, _, _ => rfl
  | _ :: r, i + 1, j + 1, _, h => cellSet_ne (ρ := r) (i := i) (j := j) fun e => h (congrArg (· + 1) e)
theorem cellSet_len {ρ : En} {i : Nat} {c : Cell} : (cellSet ρ i c).length = ρ.length := by
  rw [cellSet_eq, List.length_set]
theorem gv_name {vs : List Nat} {i : Nat} (h : i ∈ vs) : SimGV K vs (gName i) (pgN i) := fun B Z A H0 M σ H ρ v d R E hd hR Q q =>
  q _ _ hR (E.setD hd) (wipe_set h) cellSet_len fun j hj => cellSet_ne fun e => hj (by rw [← e]; exact h)
def SimGsV (K : PySem.W.Frag) (vs : List Nat) (g : TGs) (is : List Nat) : Prop := ∀ B Z A H0 M σ H ρ us ds, EnvR K B Z A H0 M σ H ρ → Dqs K (veil (hid Z M) H) us ds → ds.length = is.length →
  ∀ Q : St → Hp → Prop, (∀ σ', EnvR K B Z A H0 M σ' H (setAll ρ is ds) → wipe σ' vs = wipe σ vs → (setAll ρ is ds).length = ρ.length → (∀ i, i ∉ vs → cellAt (setAll ρ is ds) i = cellAt ρ i) → Q σ' H) → g us σ H Q
theorem gsv_nil {vs : List Nat} : SimGsV K vs gNil [] := fun B Z A H0 M σ H ρ us ds E r hl Q q => by
  cases r with
  | nil => exact ⟨rfl, q _ E rfl rfl fun _ _ => rfl⟩
  | cons _ _ => cases hl
theorem gsv_cons {vs : List Nat} {i : Nat} {u : TGs} {is : List Nat} (h : i ∈ vs) (su : SimGsV K vs u is) : SimGsV K vs (gCons (gName i) u) (i :: is) := fun B Z A H0 M σ H ρ us ds E r hl Q q => by
  cases r with
  | nil => cases hl
  | cons hd r => exact ⟨_, _, rfl, su B Z A H0 M _ H _ _ _ (E.setD hd) r (by simpa using hl) Q fun σ' E' w l o => q σ' E' (w.trans (wipe_set h)) (l.trans cellSet_len) fun j hj => (o j hj).trans (cellSet_ne fun e => hj (by rw [← e]; exact h))⟩
theorem gv_tup {vs : List Nat} {n : Nat} {u : TGs} {is : List Nat} (su : SimGsV K vs u is) (hn : is.length = n) : SimGV K vs (gTup K n u) (pgT is) := fun B Z A H0 M σ H ρ v d R E hd h Q q => by
  obtain ⟨ds, rfl, hl, h⟩ := asT_of h
  cases hd with
  | tup ht r => exact ⟨_, _, rfl, grow_t (veil_grow _ _) ht, by rw [dqs_len r, hl, hn], su B Z A H0 M σ H ρ _ ds E r hl Q fun σ' E' w l o => q σ' _ h E' w l o⟩
def SimP (K : PySem.W.Frag) (tt : TT) (p : PT') : Prop := SimT K tt p
theorem t_yes : SimT K tYes pYes := fun B Z A H0 M σ H ρ R E h Q q => q true ρ H h E
/-- one turn -/
theorem lc_turn {B Z : Addr → Prop} {A H0 H : Hp} {M : Nat → Option Addr} {σ : St} {ρ : En} {D : Addr} {vs : List Nat} {g : TG} {pg : PG'} {tt : TT} {pt : PT'} {te : TE} {pe : PE'} {v : V} {d : PyData} {va : List V} {acc : List PyData} {yes : List PyData → Prop}
    (sg : SimGV K vs g pg) (st : SimT K tt pt) (se : Sim K te pe) (E : EnvR K B (plus Z D) A H0 M (wipe σ vs) H ρ) (hv : ∀ v ∈ vs, cellAt ρ v = .no) (hD : H D = some (.lst va)) (h0 : H0 D = none) (nB : ¬ B D) (dv : Dq K (veil (hid (plus Z D) M) H) v d)
    (ra : Dqs K (veil (hid (plus Z D) M) H) va acc) (hw : wipe (wipe σ vs) vs = wipe σ vs)
    (h : pg d ρ fun ρ2 => pt ρ2 fun b ρ3 => ρ3 = ρ2 ∧ if b = true then pe ρ2 fun y ρ4 => ρ4 = ρ2 ∧ acc.length < 100000 ∧ yes (acc ++ [y]) else yes acc) {Pv : Hp → Prop}
    (hP : ∀ H' va' acc', EnvR K B (plus Z D) A H0 M (wipe σ vs) H' ρ → H' D = some (.lst va') → Dqs K (veil (hid (plus Z D) M) H') va' acc' → yes acc' → Pv H') :
    g v (wipe σ vs) H fun σ2 H2 => wipe σ2 vs = wipe σ vs ∧ tt σ2 H2 fun b H3 => if b = true then te σ2 H3 fun y H4 => ∃ acc, H4 D = some (.lst acc) ∧ acc.length < sizeLine ∧ Pv (upd H4 D (.lst (acc ++ [y]))) else Pv H3 := by
  have nM : ∀ i l, M i = some l → l ≠ D := fun i l m e => E.off i l m (.inr e)
  have E' := (E.anchor.hold hD nM)
  refine sg B _ _ _ M _ H ρ v d _ E' dv h _ fun σ2 ρ2 h2 E2 w2 l2 o2 => ⟨w2.trans hw, ?_⟩
  refine st B _ _ _ M σ2 H ρ2 _ E2 h2 _ fun b ρ3 H3 ⟨e3, h3⟩ E3 => ?_
  subst e3
  have d3 : H3 D = some (.lst va) := E3.ext D _ nB upd_same
  have fin : ∀ {H5 : Hp}, EnvR K B (plus Z D) (veil (hid (plus Z D) M) H) (upd H0 D (.lst va)) M σ2 H5 ρ3 → EnvR K B (plus Z D) A H0 M (wipe σ vs) H5 ρ := fun {H5} E5 =>
    ((E5.unhold h0 nM).weak E.anch).back (w2.trans hw) l2 o2 hv
  cases b with
  | false => exact hP H3 va acc (fin E3) d3 (dps_grow E3.anch _ _ ra) h3
  | true =>
    refine se B _ _ _ M σ2 H3 ρ3 _ E3 h3 _ fun y z ρ4 H4 ⟨e4, hz, h4⟩ E4 dz => ?_
    subst e4
    have d4 : H4 D = some (.lst va) := E4.ext D _ nB upd_same
    have ra4 := dps_grow E4.anch _ _ ra
    have gv : Grow (veil (hid (plus Z D) M) H4) (veil (hid (plus Z D) M) (upd H4 D (.lst (va ++ [y])))) := fun a o h => by
      obtain ⟨h1, h2⟩ := veil_off h
      exact veil_on h1 ((upd_ne fun e => h1 (.inl (.inr e))).trans h2)
    exact ⟨va, d4, Nat.lt_of_lt_of_le (by rw [dqs_len ra]; exact hz) (by decide), hP _ (va ++ [y]) _ ((fin E4).turn h0) upd_same (dps_grow gv _ _ (dqs_app ra4 (.cons dz .nil))) h4⟩
theorem wipe_wipe {σ : St} : ∀ {vs : List Nat}, wipe (wipe σ vs) vs = wipe σ vs := fun {vs} => by
  have q : ∀ ws : List Nat, (∀ v ∈ ws, v ∈ vs) → wipe (wipe σ ws) vs = wipe σ vs := fun ws => by
    induction ws with
    | nil => intro _; rfl
    | cons w ws ih =>
      intro h
      show wipe ((wipe σ ws).set w none) vs = wipe σ vs
      rw [wipe_set (h w List.mem_cons_self), ih fun v m => h v (List.mem_cons_of_mem _ m)]
  exact q vs fun _ m => m
/-- the end of the whole -/
theorem lc_start {B Z : Addr → Prop} {A H0 H : Hp} {M : Nat → Option Addr} {σ : St} {ρ : En} {D : Addr} (E : EnvR K B Z A H0 M σ H ρ) (hD : H D = none) : H0 D = none ∧ ¬ B D ∧ ¬ Z D := by
  have nB : ¬ B D := fun b => E.live 0 D (E.m0 D b) hD
  refine ⟨?_, nB, fun z => E.zl D z hD⟩
  cases q : H0 D with
  | none => rfl
  | some o =>
    have := E.ext D o nB q
    rw [hD] at this
    cases this
theorem sim_lcR1 {ta : TA} {g : TG} {tt : TT} {te : TE} {vs is : List Nat} {pa : PA'} {pg : PG'} {pt : PT'} {pe : PE'} (sa : SimA K ta pa) (sg : SimGV K vs g pg) (st : SimT K tt pt) (se : Sim K te pe) (hn : ∀ ρ R, pa ρ R → pa ρ fun x ρ1 => x.length = 1 ∧ R x ρ1) :
    SimL K (tLc (iRng1 ta) g tt te vs) (pLcR vs is pa pg pt pe) := fun B Z A H0 M σ H ρ R E ⟨hv, h⟩ Q q =>
  sa B Z A H0 M σ H ρ _ E (hn _ _ h) _ fun us x ρ1 H1 ⟨hx, e1, lo, hi, hx2, hb, I, i0, is, ie⟩ E1 d1 => by
    subst e1
    rcases hx2 with ⟨rfl, rfl⟩ | rfl
    · have e : us = [.int hi] := dqs_of_ints (ns := [hi]) d1
      subst e
      refine ⟨hi, rfl, hb.2.2.1, hb.2.2.2, fun D hD => ?_⟩
      obtain ⟨h0, nB, nZ⟩ := lc_start E1 hD
      refine lc_range (lo := 0) (n := hi.toNat) (fun i H' => ∃ va acc, EnvR K B (plus Z D) (veil (hid Z M) H1) H0 M (wipe σ vs) H' ρ1 ∧ H' D = some (.lst va) ∧ Dqs K (veil (hid (plus Z D) M) H') va acc ∧ I i acc) ⟨[], [], E1.enter hv hD, upd_same, .nil, i0⟩
        (fun i H' hlt ⟨va, acc, E', hd', ra, hI⟩ => lc_turn sg st se E' hv hd' h0 nB (.int _) ra wipe_wipe (is i acc (by omega) hI) fun H2 va' acc' E2 h2 r2 y2 => ⟨va', acc', E2, h2, r2, y2⟩) fun H' ⟨va, acc, E', hd', ra, hI⟩ => ?_
      have hI : I (hi - 0).toNat acc := by rw [Int.sub_zero]; exact hI
      have z := q D va acc ρ1 (wiped H' D) (ie acc hI) (E'.leave E1.anch h0 nZ) wiped_at (dps_grow veil_in _ _ ra)
      rw [wiped_upd hd'] at z
      exact z
    · exact absurd hx (by simp)
theorem sim_lcT {tl : TE} {g : TG} {tt : TT} {te : TE} {vs is : List Nat} {pl : PE'} {pg : PG'} {pt : PT'} {pe : PE'} (sl : Sim K tl pl) (sg : SimGV K vs g pg) (st : SimT K tt pt) (se : Sim K te pe) :
    SimL K (tLc (iTup K tl) g tt te vs) (pLcS vs is (pTO pl) pg pt pe) := fun B Z A H0 M σ H ρ R E ⟨hv, h⟩ Q q =>
  sl B Z A H0 M σ H ρ _ E h _ fun u x ρ1 H1 h1 E1 d1 => by
    obtain ⟨ds, rfl, e1, I, i0, is, ie⟩ := asT_of h1
    subst e1
    cases d1 with
    | @tup a us _ hs r =>
      refine ⟨a, rfl, ⟨us, grow_t (veil_grow _ _) hs⟩, fun D hD => ?_⟩
      obtain ⟨h0, nB, nZ⟩ := lc_start E1 hD
      refine lc_tup (xs := us) (fun i H' => ∃ va acc, EnvR K B (plus Z D) (veil (hid Z M) H1) H0 M (wipe σ vs) H' ρ1 ∧ H' D = some (.lst va) ∧ Dqs K (veil (hid (plus Z D) M) H') va acc ∧ I i acc) ⟨[], [], E1.enter hv hD, upd_same, .nil, i0⟩
        (fun i H' _ ⟨va, acc, E', _⟩ => grow_t (veil_grow _ _) (grow_t E'.anch hs)) (fun i y H' hy ⟨va, acc, E', hd', ra, hI⟩ => ?_) fun H' ⟨va, acc, E', hd', ra, hI⟩ => ?_
      · obtain ⟨d, hd, dd⟩ := dqs_got r hy
        exact lc_turn sg st se E' hv hd' h0 nB (dp_grow E'.anch _ _ dd) ra wipe_wipe (is i d acc hd hI) fun H2 va' acc' E2 h2 r2 y2 => ⟨va', acc', E2, h2, r2, y2⟩
      · have z := q D va acc ρ1 (wiped H' D) (ie acc (dqs_len r ▸ hI)) (E'.leave E1.anch h0 nZ) wiped_at (dps_grow veil_in _ _ ra)
        rw [wiped_upd hd'] at z
        exact z
theorem sim_lcL {tl : TE} {g : TG} {tt : TT} {te : TE} {vs is : List Nat} {pl : PE'} {pg : PG'} {pt : PT'} {pe : PE'} (sl : Sim K tl pl) (sg : SimGV K vs g pg) (st : SimT K tt pt) (se : Sim K te pe) :
    SimL K (tLc (iList K tl) g tt te vs) (pLcS vs is (pLO pl) pg pt pe) := fun B Z A H0 M σ H ρ R E ⟨hv, h⟩ Q q =>
  sl B Z A H0 M σ H ρ _ E h _ fun u x ρ1 H1 h1 E1 d1 => by
    obtain ⟨ds, rfl, e1, I, i0, is, ie⟩ := asL_of h1
    subst e1
    cases d1 with
    | @lst a us _ hs r =>
      refine ⟨a, rfl, ⟨us, .of (veil_grow _ _ _ _ hs)⟩, fun D hD => ?_⟩
      obtain ⟨h0, nB, nZ⟩ := lc_start E1 hD
      refine lc_list (xs := us) (fun i H' => ∃ va acc, EnvR K B (plus Z D) (veil (hid Z M) H1) H0 M (wipe σ vs) H' ρ1 ∧ H' D = some (.lst va) ∧ Dqs K (veil (hid (plus Z D) M) H') va acc ∧ I i acc) ⟨[], [], E1.enter hv hD, upd_same, .nil, i0⟩
        (fun i H' _ ⟨va, acc, E', _⟩ => .of (veil_grow _ _ _ _ (E'.anch _ _ hs))) (fun i y H' hy ⟨va, acc, E', hd', ra, hI⟩ => ?_) fun H' ⟨va, acc, E', hd', ra, hI⟩ => ?_
      · obtain ⟨d, hd, dd⟩ := dqs_got r hy
        exact lc_turn sg st se E' hv hd' h0 nB (dp_grow E'.anch _ _ dd) ra wipe_wipe (is i d acc hd hI) fun H2 va' acc' E2 h2 r2 y2 => ⟨va', acc', E2, h2, r2, y2⟩
      · have z := q D va acc ρ1 (wiped H' D) (ie acc (dqs_len r ▸ hI)) (E'.leave E1.anch h0 nZ) wiped_at (dps_grow veil_in _ _ ra)
        rw [wiped_upd hd'] at z
        exact z
end
end Pu
namespace Pu
open PySem PySem.Spec PyProof.Rows L2
/-! ### set(xs), xs a list of ints; sorted of it -/
abbrev bare (w : World) : Obj := { cls := .type "set", dict := none, data := .set #[] 0 (.fresh 0 0 (!w.params.followText "set-order")) }
section
variable {P : Program} {w : World} {A : Around} {E : Value → Shared → Prop} {s : Shared}
theorem in_lst {xs : Array Value} {ns : List Int} (hi : IntsAre xs.toList ns) (i : Nat) (v : Value) (hv : xs[i]? = some v) : ∃ k t, ns[i]? = some k ∧ v = .int k t := by
  have hz : xs.size = ns.length := by simpa using IntsAre.length hi
  have lt : i < ns.length := hz ▸ (Array.getElem?_eq_some_iff.mp hv).1
  obtain ⟨t, e⟩ := IntsAre.int_at hi i v (by simpa using hv)
  exact ⟨ns[i], t, by simp [lt], by simpa [List.getD_eq_getElem?_getD, lt] using e⟩
/-- what set(xs) has laid: a set of the ints at S, all else as before -/
def Laid (w : World) (S : Addr) (ns : List Int) (s₀ : Shared) (r : Value) (s' : Shared) : Prop := r = .none ∧ ∃ (g : Heap) (tk c : Nat), s' = { s₀ with heap := g, toks := tk } ∧
  SetR w g S (fun j => decide (j ∈ ns)) c ∧ c ≤ ns.length ∧ ∀ b o, s₀.heap.get? b = some o → g.get? b = some o
set_option maxHeartbeats 3200000 in
theorem call_set_lst {l : Addr} {xs : Array Value} (ns : List Int) {Q : Value → Shared → Prop} (hA : A.handled = none) (hl : s.heap.IsList l xs) (hi : IntsAre xs.toList ns) (room : ns.length + 1 < scanBound)
    (h : ∀ (g : Heap) (tk c : Nat), SetR w g s.heap.objs.size (fun j => decide (j ∈ ns)) c → c ≤ ns.length → (∀ b o, s.heap.get? b = some o → g.get? b = some o) → Q (.ref s.heap.objs.size) { s with heap := g, toks := tk }) :
    wpAny (model P w) A (call (.type "set") [.ref l]) Q E s := by
  have hz : xs.size = ns.length := by simpa using IntsAre.length hi
  obtain ⟨_, _, m1⟩ := F.called_set.mro
  have m2 := F.called_set.made
  have m3 := F.called_set.sub
  have m4 := F.called_set.notType
  have m5 := F.called_set.canCreate
  have m6 := F.typeCall_set_1 (.ref l)
  refine wpAny_call <| codeAny_of_tree ?_
  show wpAny _ _ (callAny (.type "set") _) _ _ _
  refine wpAny_pure ⟨Code.quiet_builtin _ (by decide +kernel), codeAny_builtin F.entry_type_call ?_⟩
  rw [Around.under_plain (weight_type_call_type "set" [.ref l] []) rfl]
  repeat any_goals first | assumption | wp_step
  refine codeAny_mono (code_set_led1 (.ref l) (E := E)
    (Q₁ := fun r t => r = .ref s.heap.objs.size ∧ t = { s with heap := s.heap.push (bare w) }) ⟨rfl, rfl⟩) fun r t ht => ?_
  cases r with
  | error _ => exact ht
  | ok fl =>
    cases fl with
    | ret _ =>
      obtain ⟨rfl, rfl⟩ := ht
      have at0 : (s.heap.push (bare w)).get? s.heap.objs.size = some (bare w) := Heap.get?_push_size _ rfl
      have ty0 : Shared.TypeIs { s with heap := s.heap.push (bare w) } (.ref s.heap.objs.size) "set" := ⟨_, at0, rfl⟩
      have i1 := F.called_set.init.lookup
      have i2 := F.called_set.init.bind (.ref s.heap.objs.size)
      repeat any_goals first | assumption | wp_step
      refine codeAny_mono (codeAny_call_builtin (R := wants (Laid w s.heap.objs.size ns s) E) F.called_set.init.plain F.entry_set_init (check_set_init_1 ty0 ?_)) fun r2 t2 ht2 => ?_
      · have l1 : (s.heap.push (bare w)).IsList l xs := hl.push _
        obtain ⟨⟨k1, k2, k3, k4⟩, ho, kc, n, kd⟩ := hl
        obtain rfl : k1 = .type "list" := kc
        obtain rfl : k3 = .seq xs n := kd
        have ho1 : (s.heap.push (bare w)).get? l = some { cls := .type "list", dict := k2, data := .seq xs n, slots := k4 } := Heap.get?_push_of_some _ ho
        have q1 := F.sub_list_set
        have q2 := F.sub_list_frozenset
        have q3 : (Value.type "list" == Value.type "dict") = false := by decide
        unfold Builtin.«set.__init__» noKeywords Builtin.Frozenset.updateFrom
        generalize hIt : pyIter = IT
        wp_walk
        subst hIt
        refine wpAny_pyIter_list l1 (wpAny_bind (wpAny_runValue ?_))
        have l0 : l < s.heap.objs.size := Heap.lt_size ho
        have hA3 : A.in1.in1.in1.handled = none := by simp [hA]
        have z1 : (s.heap.push (bare w)).objs.size = s.heap.objs.size + 1 := Heap.size_push ..
        have neI : l ≠ (s.heap.push (bare w)).objs.size := Nat.ne_of_lt (z1 ▸ Nat.lt_succ_of_lt l0)
        have off : s.heap.objs.size ∉ [(s.heap.push (bare w)).objs.size, l] := by
          intro m
          rcases List.mem_cons.mp m with e | m
          · exact Nat.ne_of_lt (z1 ▸ Nat.lt_succ_self _) e
          · exact Nat.ne_of_gt l0 (List.mem_singleton.mp m)
        refine set_update_ints (Walks.list hA3 _ l neI xs).toS s.heap.objs.size off ns hz room (in_lst hi) (xs.size - 0) 0 _ (by omega) (Nat.zero_le _) ⟨⟨_, Heap.get?_push_size _ rfl, rfl, rfl⟩, l1.push _⟩ ?begin ?finish
        case begin => exact ⟨0, Nat.le_refl 0, setR_new_at (Heap.get?_push_of_some _ at0)⟩
        case finish =>
          rintro ⟨g, gs, dr, tk, os⟩ c mv hc hS
          obtain rfl : gs = s.gens := mv.gens
          obtain rfl : dr = s.drawn := mv.drawn
          obtain rfl : os = s.os := mv.os
          show wpAny _ _ _ _ _ _
          refine wpAny_pure ?_
          show wpAny _ _ (ret Value.none) _ _ _
          refine wpAny_pure ⟨rfl, g, tk, c, rfl, hS, hz ▸ hc, fun b o e => ?_⟩
          have b0 : b < s.heap.objs.size := Heap.lt_size e
          refine mv.heap b o (fun m => ?_) (Heap.get?_push_of_some _ (Heap.get?_push_of_some _ e))
          rcases List.mem_cons.mp m with e | m
          · exact Nat.ne_of_lt b0 e
          · exact Nat.ne_of_lt (z1 ▸ Nat.lt_succ_of_lt b0) (List.mem_singleton.mp m)
      · cases r2 with
        | error _ => exact ht2
        | ok fl2 =>
          cases fl2 with
          | ret _ =>
            obtain ⟨rfl, g, tk, c, rfl, hS, hc, hk⟩ := ht2
            repeat any_goals first | assumption | wp_step
            exact h g tk c hS hc hk
          | _ => exact ht2.elim
    | _ => exact ht.elim
end
/-- set(xs) -/
def rSetL (K : PySem.W.Frag) (w : World) : List V → Hp → VK → Prop := fun vs H Q => ∃ (p : Addr) (ns : List Int), vs = [.ref p] ∧ SqL K H p (ns.map V.int) ∧ ns.length < 60 ∧
  ∀ (a : Addr) (c : Nat), c ≤ ns.length → H a = none → Q (.ref a) (upd H a (SetO w a (fun j => decide (j ∈ ns)) c))
theorem c_setL {X : Cx} (hc : X.calm = true) : CallR X (.type "set") (rSetL X.K X.w) := by
  intro pins s σ H vs us Q I r h
  obtain ⟨p, ns, rfl, hp, hl, q⟩ := h
  rw [Vals.ref1 r]
  obtain ⟨its, rv, pl, _⟩ := I.list hp
  refine call_set_lst ns (I.ok.hd hc) pl.isList (ints_of_vals rv) (by unfold scanBound; omega) fun g tk c R1 hcn k => ?_
  exact ⟨.ref _, _, I.laid (t' := tk) k (Nat.le_refl _) (setO_new R1), rfl, q _ c hcn (I.hok.fresh (Nat.le_refl _))⟩
def pSortSet (pa : PA') : PA' := fun ρ R => pa ρ fun ds ρ1 => ∃ ns : List Int, ds = [.list (ns.map PyData.int)] ∧ ns.length < 60 ∧
    ∀ ns' : List Int, ns'.Pairwise (· < ·) → (∀ k, k ∈ ns' ↔ k ∈ ns) → ns'.length ≤ ns.length → R (ns'.map PyData.int) ρ1
section
variable {K : PySem.W.Frag}
theorem sim_sortSet {w : World} {ta : TA} {pa : PA'} (sa : SimA K ta pa) : SimL K (tCB (rSortedSet w) (tCons (tCB (rSetL K w) ta) tNil)) (pSortSet pa) := fun B Z A H0 M σ H ρ R E h Q q =>
  sa B Z A H0 M σ H ρ _ E h _ fun vs ds ρ1 H1 ⟨ns, e, hl, h2⟩ E1 d1 => by
    subst e
    obtain ⟨v, rfl, dv⟩ := one_of d1
    cases dv with
    | lst hl0 r =>
      have e := dqs_of_ints r
      subst e
      refine ⟨_, ns, rfl, .of (veil_grow _ _ _ _ hl0), hl, fun a c hc ha => ⟨a, _, c, rfl, upd_same, by omega, fun ns' p pw mem len hp => ?_⟩⟩
      exact q p _ _ ρ1 _ (h2 ns' pw (fun k => (mem k).trans decide_eq_true_iff) (by omega)) (E1.grown (grow_new ha)) hp dqs_ints
end
end Pu
namespace Pu
open PySem L2
/-! ### what a place owns, read -/
def pLenO (i : Nat) : PE' := fun ρ R => asOwn (cellAt ρ i) fun ds => R (.int (ds.length : Nat)) ρ
def pIxO (i : Nat) (pb : PE') : PE' := fun ρ R => asOwn (cellAt ρ i) fun _ => pb ρ fun y ρ1 => asOwn (cellAt ρ1 i) fun ds => asI y fun j => asO (atI ds j) fun d => R d ρ1
def pTupO (i : Nat) : PE' := fun ρ R => asOwn (cellAt ρ i) fun ds => R (.tuple ds) ρ
def pTruO (i : Nat) : PT' := fun ρ R => asOwn (cellAt ρ i) fun ds => R (!ds.isEmpty) ρ
/-- an int's place changed by an operator -/
def pAug (i : Nat) (f : Int → Int → Int) (pa : PE') : PS' := fun G ρ => asD (cellAt ρ i) fun x => asI x fun a => pa ρ fun y ρ1 => asI y fun b => G.nx (cellSet ρ1 i (.d (.int (f a b))))
section
variable {K : PySem.W.Frag}
theorem sim_lenO {i : Nat} : Sim K (tCB (rLen K) (tCons (tVar i) tNil)) (pLenO i) := fun B Z A H0 M σ H ρ R E h Q q => by
  obtain ⟨ds, hc, h⟩ := asOwn_of h
  obtain ⟨l, vs, e, m, hl, r⟩ := own_at E hc
  exact ⟨.ref l, e, .ref l, vs.length, rfl, .inl ⟨vs, .of hl, rfl⟩, by rw [dqs_len r]; exact q _ _ _ _ h E (.int _)⟩
theorem sim_ixO {i : Nat} {tb : TE} {pb : PE'} (sb : Sim K tb pb) : Sim K (tOp (rIx K) (tVar i) tb) (pIxO i pb) := fun B Z A H0 M σ H ρ R E h Q q => by
  obtain ⟨ds, hc, h⟩ := asOwn_of h
  obtain ⟨l, vs, e, m, hl, r⟩ := own_at E hc
  refine ⟨.ref l, e, sb B Z A H0 M σ H ρ _ E h _ fun w y ρ1 H1 h1 E1 d1 => ?_⟩
  obtain ⟨ds1, hc1, h2⟩ := asOwn_of h1
  obtain ⟨l1, vs1, e1, m1, hl1, r1⟩ := own_at E1 hc1
  rw [m] at m1
  cases m1
  obtain ⟨j, rfl, h3⟩ := asI_of h2
  obtain ⟨d, hd, h4⟩ := asO_of h3
  rw [of_int d1]
  obtain ⟨u, hu, du⟩ := at_dq r1 hd
  exact .inl ⟨l, vs1, j, u, rfl, rfl, .of hl1, hu, q _ _ _ _ h4 E1 du⟩
theorem sim_tupO {i : Nat} : Sim K (tCB (rTupOf K) (tCons (tVar i) tNil)) (pTupO i) := fun B Z A H0 M σ H ρ R E h Q q => by
  obtain ⟨ds, hc, h⟩ := asOwn_of h
  obtain ⟨l, vs, e, m, hl, r⟩ := own_at E hc
  exact ⟨.ref l, e, l, vs, rfl, .inl ⟨.of hl, fun p hp => q _ _ _ _ h (E.grown (grow_new hp)) (.new (E.veiled hp) hp r)⟩⟩
theorem sim_truO {i : Nat} : SimT K (tTru K (tVar i)) (pTruO i) := fun B Z A H0 M σ H ρ R E h Q q => by
  obtain ⟨ds, hc, h⟩ := asOwn_of h
  obtain ⟨l, vs, e, m, hl, r⟩ := own_at E hc
  refine ⟨.ref l, e, !ds.isEmpty, .inl ⟨vs, .of hl, ?_⟩, q _ _ _ h E⟩
  cases r <;> rfl
theorem s_aug {i : Nat} {te : TE} {pa : PE'} {f : Int → Int → Int} (sa : Sim K te pa) : SimS K (tAug i te (ipI f)) (pAug i f pa) := fun B Z A H0 M σ H ρ D G E h C => by
  obtain ⟨x, hx, h⟩ := asD_of h
  obtain ⟨a, rfl, h⟩ := asI_of h
  obtain ⟨v, hv, hd⟩ := E.cell i _ (cellAt_some hx (by intro z; cases z))
  rw [of_int hd] at hv
  refine ⟨.int a, ?_, sa B Z A H0 M σ H ρ _ E h _ fun w y ρ1 H1 h1 E1 d1 => ?_⟩
  · cases e : σ[i]? with
    | none =>
      rw [e] at hv
      cases hv
    | some o =>
      rw [e] at hv
      exact congrArg some hv
  · obtain ⟨b, rfl, h2⟩ := asI_of h1
    rw [of_int d1]
    exact ⟨a, b, rfl, rfl, C.nx M _ H1 _ (E1.setD (.int _)) h2⟩
end
theorem pcons_len1 {pa : PE'} {ρ : En} {R : List PyData → En → Prop} (h : pCons pa pNil ρ R) : pCons pa pNil ρ fun x ρ1 => x.length = 1 ∧ R x ρ1 := by
  have e : (fun x ρ1 => ([x] : List PyData).length = 1 ∧ R [x] ρ1) = fun x ρ1 => R [x] ρ1 := by
    funext x ρ1
    simp
  show pa ρ fun x ρ1 => ([x] : List PyData).length = 1 ∧ R [x] ρ1
  rw [e]
  exact h
theorem pcons_len2 {pa pb : PE'} {ρ : En} {R : List PyData → En → Prop} (h : pCons pa (pCons pb pNil) ρ R) : pCons pa (pCons pb pNil) ρ fun x ρ1 => x.length = 2 ∧ R x ρ1 := by
  have e : (fun x ρ1 => pb ρ1 fun y ρ2 => ([x, y] : List PyData).length = 2 ∧ R [x, y] ρ2) = fun x ρ1 => pb ρ1 fun y ρ2 => R [x, y] ρ2 := by
    funext x ρ1
    congr 1
    funext y ρ2
    simp
  show pa ρ fun x ρ1 => pb ρ1 fun y ρ2 => ([x, y] : List PyData).length = 2 ∧ R [x, y] ρ2
  rw [e]
  exact h
theorem hu65 {k : Nat} {A : Around} (hr : Room k A) : A.units + 64 < cLine := by
  have := hr.un
  omega
/-! functions of data -/
def fn1 (f : PyData → PyData) : FS := fun ds k => match ds with
  | [a] => k (f a)
  | _ => False
section
variable {X : Cx}
theorem pt_tru {a : Expr} {ta : TE} (ha : PE X a ta) (he : ∀ whole, isTrue a X.env whole = (do let v ← whole; standAt a.pos; holding [v] (truthy v)) := by intro _; rfl) : PT X a (tTru X.K ta) := pt_truth ha he
end
end Pu
namespace Pr
open PySem L2 Pu
local macro_rules | `(tactic| walk_at "pu") => `(tactic| simp only [pVar, pC, pII, pIIc, pI, pEqD, pIsN, pIsB, pIsTy, pChain, pTup, pLst, pNew, pNil, pCons, pIx, pAndV, pOrV, pNotV, pIfE, pTst, pAnd, pOr, pNot, pTru, pCall, pCallB, pFn, pNext, pSeq, pIfS, pRet, pRetL, pRetO, pRetN, pAsg, pAsgO, pgN, pgT, pBrk, pCnt, pDrop, pApp, pTO, pLO, pYes, pLenO, pIxO, pTupO, pTruO, pCut, pPlus, pInD, pNoP, pPart, pSorted, pSortSet, Pu.cellAt, Pu.cellSet, Pu.setAll, asI, asB, asT, asL, asS, asD, asOwn, asO, addD, lenD, fLen, fTuple, fInt, cutD, fn1])
/-! ### what a datum is -/
def isI : PyData → Bool
  | .int _ => true
  | _ => false
def isF : PyData → Bool
  | .bool _ => true
  | _ => false
def isT : PyData → Bool
  | .tuple _ => true
  | _ => false
def inR : PyData → Int → Int → Bool
  | .int i, lo, hi => decide (lo ≤ i) && decide (i ≤ hi)
  | _, _, _ => false
def lenT : PyData → Nat
  | .tuple ds => ds.length
  | _ => 0
def S_is_whole : FS := fn1 fun d => .bool (isI d)
def S_is_flag : FS := fn1 fun d => .bool (isF d)
def S_is_tuple : FS := fn1 fun d => .bool (isT d)
def S_is_from_to : FS := fun ds k => match ds with
  | [v, .int lo, .int hi] => k (.bool (inR v lo hi))
  | _ => False
def S_is_tuple_of : FS := fun ds k => match ds with
  | [v, .int n] => k (.bool (isT v && decide ((lenT v : Int) = n)))
  | _ => False
def asc : Int → Int → List PyData → Bool
  | _, _, [] => true
  | lo, hi, .int i :: r => decide (lo ≤ i) && decide (i ≤ hi) && asc (i + 1) hi r
  | _, _, _ => false
def bordersOk (p : Int) : PyData → Bool
  | .tuple bs => decide (bs.length ≤ 40000) && decide (bs.length % 2 = 0) && asc 0 (p - 1) bs
  | _ => false
def side2 (b i : PyData) : PyData → Bool
  | .int p => decide (1 ≤ p) && decide (p ≤ 1000000000000) && isF i && bordersOk p b
  | _ => false
def side3 : List PyData → Bool
  | [p, b, i] => side2 b i p
  | _ => false
def sideOk : PyData → Bool
  | .tuple l => side3 l
  | _ => false
def S_is_side : FS := fn1 fun d => .bool (sideOk d)
def pairL : List PyData → Option (Int × Int)
  | [b, e] => match b, e with
    | .int b, .int e => some (b, e)
    | _, _ => none
  | _ => none
def pairOf : PyData → Option (Int × Int)
  | .tuple l => pairL l
  | _ => none
def runs1 : Int → List PyData → Bool
  | _, [] => true
  | least, d :: r => match pairOf d with
    | some (b, e) => decide (least ≤ b) && decide (b < e) && runs1 (e + 1) r
    | none => false
def runsOk (low : Int) : PyData → Bool
  | .tuple rs => decide (rs.length ≤ 40000) && runs1 low rs
  | _ => false
def S_are_runs : FS := fun ds k => match ds with
  | [r, .int low] => k (.bool (runsOk low r))
  | _ => False
def k_MOST_BORDERS : PyData := .int 40000
def k_GREATEST_PERIOD : PyData := .int 1000000000000
def txt (s : String) : PyData := .str (Str.ofString s)
/-- where the last run ends -/
def endOf : Int → List PyData → Int
  | low, [] => low
  | low, d :: r => match pairOf d with
    | some (_, e) => endOf e r
    | none => endOf low r
def highBad (low : Int) (rs : PyData) : PyData → Bool
  | .int h => match rs with
    | .tuple l => decide (h < endOf low l)
    | _ => true
  | _ => true
def fault5 (l lo rs h r : PyData) : PyData :=
  if sideOk l = false then txt "left" else match lo with
    | .int low => if runsOk low rs = false then txt "runs" else if highBad low rs h then txt "high" else if sideOk r = false then txt "right" else .none
    | _ => txt "low"
def S_dayset_fault : FS := fun ds k => match ds with
  | [.tuple [l, lo, rs, h, r]] => k (fault5 l lo rs h r)
  | _ => False
-- is_whole: ['value']
abbrev N_is_whole : List Str := ["value"]
def p_is_whole : PS' := (pRet (pIsTy "int" (pVar 0)))
-- is_from_to: ['value', 'low', 'high']
abbrev N_is_from_to : List Str := ["value", "low", "high"]
def p_is_from_to : PS' := (pRet (pAndV (pCall 1 S_is_whole (pCons (pVar 0) pNil)) (pChain (fun i j => decide (i ≤ j)) (fun i j => decide (i ≤ j)) (pVar 1) (pVar 0) (pVar 2))))
-- is_flag: ['value']
abbrev N_is_flag : List Str := ["value"]
def p_is_flag : PS' := (pRet (pOrV (pIsB true (pVar 0)) (pIsB false (pVar 0))))
-- is_tuple: ['value']
abbrev N_is_tuple : List Str := ["value"]
def p_is_tuple : PS' := (pRet (pIsTy "tuple" (pVar 0)))
-- is_tuple_of: ['value', 'many']
abbrev N_is_tuple_of : List Str := ["value", "many"]
def p_is_tuple_of : PS' := (pRet (pAndV (pCall 1 S_is_tuple (pCons (pVar 0) pNil)) (pEqD false (pFn fLen (pCons (pVar 0) pNil)) (pVar 1))))
-- is_side: ['value', 'period', 'borders', 'inside', 'least', 'border']
abbrev N_is_side : List Str := ["value", "period", "borders", "inside", "least", "border"]
def p_is_side : PS' := (pSeq (pIfS (pNot (pTst (pCall 2 S_is_tuple_of (pCons (pVar 0) (pCons (pC (.int 3)) pNil))))) (pRet (pC (.bool false))) pNext)
      (pSeq (pAsg (pVar 0) (pgT [1, 2, 3]))
      (pSeq (pIfS (pOr (pNot (pTst (pCall 3 S_is_from_to (pCons (pVar 1) (pCons (pC (.int 1)) (pCons (pC k_GREATEST_PERIOD) pNil)))))) (pNot (pTst (pCall 1 S_is_flag (pCons (pVar 3) pNil))))) (pRet (pC (.bool false))) pNext)
      (pSeq (pIfS (pOr (pNot (pTst (pCall 1 S_is_tuple (pCons (pVar 2) pNil)))) (pOr (pTst (pII (fun i j => .bool (decide (j < i))) (pFn fLen (pCons (pVar 2) pNil)) (pC k_MOST_BORDERS))) (pTst (pEqD false (pIIc (fun _ j => 0 < j) (fun i j => .int (i % j)) (pFn fLen (pCons (pVar 2) pNil)) (pC (.int 2))) (pC (.int 1)))))) (pRet (pC (.bool false))) pNext)
      (pSeq (pAsg (pC (.int 0)) (pgN 4))
      (pSeq (pFor (pTO (pVar 2)) (pgN 5) (pSeq (pIfS (pNot (pTst (pCall 3 S_is_from_to (pCons (pVar 5) (pCons (pVar 4) (pCons (pII (fun i j => .int (i - j)) (pVar 1) (pC (.int 1))) pNil)))))) (pRet (pC (.bool false))) pNext)
      (pAsg (pPlus (pVar 5) (pC (.int 1))) (pgN 4))))
      (pRet (pC (.bool true)))))))))
-- _are_runs: ['runs', 'low', 'least', 'run', 'begin', 'end']
abbrev N_are_runs : List Str := ["runs", "low", "least", "run", "begin", "end"]
def p_are_runs : PS' := (pSeq (pIfS (pOr (pNot (pTst (pCall 1 S_is_tuple (pCons (pVar 0) pNil)))) (pTst (pII (fun i j => .bool (decide (j < i))) (pFn fLen (pCons (pVar 0) pNil)) (pC k_MOST_BORDERS)))) (pRet (pC (.bool false))) pNext)
      (pSeq (pAsg (pVar 1) (pgN 2))
      (pSeq (pFor (pTO (pVar 0)) (pgN 3) (pSeq (pIfS (pNot (pTst (pCall 2 S_is_tuple_of (pCons (pVar 3) (pCons (pC (.int 2)) pNil))))) (pRet (pC (.bool false))) pNext)
      (pSeq (pAsg (pVar 3) (pgT [4, 5]))
      (pSeq (pIfS (pOr (pNot (pTst (pCall 1 S_is_whole (pCons (pVar 4) pNil)))) (pOr (pNot (pTst (pCall 1 S_is_whole (pCons (pVar 5) pNil)))) (pNot (pTst (pChain (fun i j => decide (i ≤ j)) (fun i j => decide (i < j)) (pVar 2) (pVar 4) (pVar 5)))))) (pRet (pC (.bool false))) pNext)
      (pAsg (pPlus (pVar 5) (pC (.int 1))) (pgN 2))))))
      (pRet (pC (.bool true))))))
-- dayset_fault: ['dayset', 'left', 'low', 'runs', 'high', 'right', 'end']
abbrev N_dayset_fault : List Str := ["dayset", "left", "low", "runs", "high", "right", "end"]
def p_dayset_fault : PS' := (pSeq (pAsg (pVar 0) (pgT [1, 2, 3, 4, 5]))
      (pSeq (pIfS (pNot (pTst (pCall 1 S_is_side (pCons (pVar 1) pNil)))) (pRet (pC (.str (Str.ofString "left")))) pNext)
      (pSeq (pIfS (pNot (pTst (pCall 1 S_is_whole (pCons (pVar 2) pNil)))) (pRet (pC (.str (Str.ofString "low")))) pNext)
      (pSeq (pIfS (pNot (pTst (pCall 2 S_are_runs (pCons (pVar 3) (pCons (pVar 2) pNil))))) (pRet (pC (.str (Str.ofString "runs")))) pNext)
      (pSeq (pAsg (pIfE (pTru (pVar 3)) (pIx (pIx (pVar 3) (pI (fun i => .int (-i)) (pC (.int 1)))) (pC (.int 1))) (pVar 2)) (pgN 6))
      (pSeq (pIfS (pOr (pNot (pTst (pCall 1 S_is_whole (pCons (pVar 4) pNil)))) (pTst (pII (fun i j => .bool (decide (i < j))) (pVar 4) (pVar 6)))) (pRet (pC (.str (Str.ofString "high")))) pNext)
      (pSeq (pIfS (pNot (pTst (pCall 1 S_is_side (pCons (pVar 5) pNil)))) (pRet (pC (.str (Str.ofString "right")))) pNext)
      (pRet (pC .none)))))))))
abbrev fin (c : PyData → Prop) : PEnds := ⟨fun _ => c .none, fun d _ => c d, fun _ => False, fun _ => False⟩
theorem eqv_int (i j : Int) : PyData.eqv (.int i) (.int j) = decide (i = j) := by
  rw [Bool.eq_iff_iff]
  simp [PyData.eqv]
theorem pure_is_whole (ds : List PyData) (c : PyData → Prop) (hl : ds.length = 1) (h : S_is_whole ds c) : p_is_whole (fin c) (startE N_is_whole ds) := by
  unfold S_is_whole fn1 at h
  split at h
  · rename_i d
    show c (.bool (decide (tyN d = "int")))
    cases d with
    | dict kvs => rcases ty_dict kvs with e | e <;> (rw [e]; exact h)
    | _ => exact h
  · exact h.elim
theorem pure_is_flag (ds : List PyData) (c : PyData → Prop) (hl : ds.length = 1) (h : S_is_flag ds c) : p_is_flag (fin c) (startE N_is_flag ds) := by
  unfold S_is_flag fn1 at h
  split at h
  · rename_i d
    cases d with
    | bool b => cases b <;> exact h
    | _ => exact h
  · exact h.elim
theorem pure_is_tuple (ds : List PyData) (c : PyData → Prop) (hl : ds.length = 1) (h : S_is_tuple ds c) : p_is_tuple (fin c) (startE N_is_tuple ds) := by
  unfold S_is_tuple fn1 at h
  split at h
  · rename_i d
    show c (.bool (decide (tyN d = "tuple")))
    cases d with
    | dict kvs => rcases ty_dict kvs with e | e <;> (rw [e]; exact h)
    | _ => exact h
  · exact h.elim
theorem ifd {A B : Prop} {q : Prop} [Decidable q] (h1 : q → A) (h2 : ¬ q → B) : if decide q = true then A else B := by
  by_cases z : q
  · rw [if_pos (decide_eq_true z)]
    exact h1 z
  · rw [if_neg (by simpa using z)]
    exact h2 z
theorem pure_is_from_to (ds : List PyData) (c : PyData → Prop) (hl : ds.length = 3) (h : S_is_from_to ds c) : p_is_from_to (fin c) (startE N_is_from_to ds) := by
  unfold S_is_from_to at h
  split at h
  · rename_i v lo hi
    refine ⟨rfl, ?_⟩
    cases v with
    | int i =>
      have h : c (.bool (decide (lo ≤ i) && decide (i ≤ hi))) := h
      show (if decide (lo ≤ i) = true then c (.bool (decide (i ≤ hi))) else c (.bool false))
      refine ifd (fun z => ?_) fun z => ?_
      · rw [decide_eq_true z] at h
        exact h
      · rw [decide_eq_false z] at h
        exact h
    | _ => exact h
  · exact h.elim
theorem pure_is_tuple_of (ds : List PyData) (c : PyData → Prop) (hl : ds.length = 2) (h : S_is_tuple_of ds c) : p_is_tuple_of (fin c) (startE N_is_tuple_of ds) := by
  unfold S_is_tuple_of at h
  split at h
  · rename_i v n
    cases v with
    | tuple ds =>
      refine ⟨rfl, _, rfl, rfl, rfl, ?_⟩
      show c (.bool (PyData.eqv (.int ds.length) (.int n)))
      rw [eqv_int]
      exact h
    | _ => exact ⟨rfl, h⟩
  · exact h.elim
theorem tt {b : Bool} {A B : Prop} (h : b = true) (a : A) : if b = true then A else B := by rw [if_pos h]; exact a
theorem ff {b : Bool} {A B : Prop} (h : b = false) (a : B) : if b = true then A else B := by rw [h, if_neg Bool.false_ne_true]; exact a
theorem tf {b : Bool} {A B : Prop} (h1 : b = true → A) (h2 : b = false → B) : if b = true then A else B := by
  cases b with
  | true => exact tt rfl (h1 rfl)
  | false => exact ff rfl (h2 rfl)
theorem len3 {l : List PyData} (h : (l.length : Int) = 3) : ∃ a b c, l = [a, b, c] := by
  match l, h with
  | [a, b, c], _ => exact ⟨a, b, c, rfl⟩
  | [], h => simp at h
  | [_], h => simp at h
  | [_, _], h => simp at h
  | _ :: _ :: _ :: _ :: _, h => simp at h; omega
theorem len2 {l : List PyData} (h : (l.length : Int) = 2) : ∃ a b, l = [a, b] := by
  match l, h with
  | [a, b], _ => exact ⟨a, b, rfl⟩
  | [], h => simp at h
  | [_], h => simp at h
  | _ :: _ :: _ :: _, h => simp at h; omega
theorem pure_is_side (ds : List PyData) (c : PyData → Prop) (hl : ds.length = 1) (h : S_is_side ds c) : p_is_side (fin c) (startE N_is_side ds) := by
  unfold S_is_side fn1 at h
  split at h
  · rename_i d
    refine ⟨rfl, ?_⟩
    show (if (!(isT d && decide ((lenT d : Int) = 3))) = true then c (.bool false) else _)
    have h : c (.bool (sideOk d)) := h
    refine tf (fun z => ?_) (fun z => ?_)
    · have e : sideOk d = false := by
        cases d with
        | tuple l =>
          match l, z with
          | [p, b, i], z => simp [isT, lenT] at z
          | [], _ => rfl
          | [_], _ => rfl
          | [_, _], _ => rfl
          | _ :: _ :: _ :: _ :: _, _ => rfl
        | _ => rfl
      rw [e] at h
      exact h
    · have hT : ∃ l, d = .tuple l ∧ (l.length : Int) = 3 := by
        cases d with
        | tuple l =>
          simp only [isT, lenT, Bool.true_and, Bool.not_eq_false'] at z
          exact ⟨l, rfl, of_decide_eq_true z⟩
        | _ => simp [isT] at z
      obtain ⟨l, rfl, hl3⟩ := hT
      obtain ⟨p, b, i, rfl⟩ := len3 hl3
      refine ⟨rfl, rfl, ?_⟩
      show (if (!(inR p 1 1000000000000)) = true then _ else _)
      refine tf (fun zp => ?_) (fun zp => ?_)
      · have e : sideOk (.tuple [p, b, i]) = false := by
          cases p with
          | int p =>
            have zp : (decide (1 ≤ p) && decide (p ≤ 1000000000000)) = false := by simpa only [inR, Bool.not_eq_true'] using zp
            show (decide (1 ≤ p) && decide (p ≤ 1000000000000) && isF i && bordersOk p b) = false
            rw [zp]
            rfl
          | _ => rfl
        rw [e] at h
        exact h
      · have hp : ∃ q : Int, p = .int q ∧ 1 ≤ q ∧ q ≤ 1000000000000 := by
          cases p with
          | int q =>
            have zq : (decide (1 ≤ q) && decide (q ≤ 1000000000000)) = true := by simpa only [inR, Bool.not_eq_false'] using zp
            rw [Bool.and_eq_true] at zq
            exact ⟨q, rfl, of_decide_eq_true zq.1, of_decide_eq_true zq.2⟩
          | _ => simp [inR] at zp
        obtain ⟨p, rfl, p1, p2⟩ := hp
        have es : sideOk (.tuple [.int p, b, i]) = (isF i && bordersOk p b) := by
          show (decide (1 ≤ p) && decide (p ≤ 1000000000000) && isF i && bordersOk p b) = _
          rw [decide_eq_true p1, decide_eq_true p2, Bool.and_self, Bool.true_and]
        rw [es] at h
        refine ⟨rfl, ?_⟩
        show (if (!(isF i)) = true then _ else _)
        refine tf (fun zi => ?_) (fun zi => ?_)
        · have e : isF i = false := by simpa using zi
          rw [e] at h
          exact h
        · have e : isF i = true := by simpa using zi
          rw [e, Bool.true_and] at h
          refine ⟨rfl, ?_⟩
          show (if (!(isT b)) = true then _ else _)
          refine tf (fun zb => ?_) (fun zb => ?_)
          · have e : bordersOk p b = false := by
              cases b <;> first | rfl | simp [isT] at zb
            rw [e] at h
            exact h
          · have hb : ∃ l, b = .tuple l := by
              cases b <;> first | exact ⟨_, rfl⟩ | simp [isT] at zb
            obtain ⟨bs, rfl⟩ := hb
            refine ⟨_, rfl, ?_⟩
            show (if decide ((40000 : Int) < (bs.length : Nat)) = true then _ else _)
            have eb : bordersOk p (.tuple bs) = (decide (bs.length ≤ 40000) && decide (bs.length % 2 = 0) && asc 0 (p - 1) bs) := rfl
            refine ifd (fun zl => ?_) (fun zl => ?_)
            · rw [eb, decide_eq_false (show ¬ bs.length ≤ 40000 by omega)] at h
              exact h
            · rw [eb, decide_eq_true (show bs.length ≤ 40000 by omega), Bool.true_and] at h
              refine ⟨_, rfl, (by decide : (0 : Int) < 2), rfl, rfl, ?_⟩
              show (if PyData.eqv (.int ((bs.length : Int) % 2)) (.int 1) = true then _ else _)
              rw [eqv_int]
              refine ifd (fun zm => ?_) (fun zm => ?_)
              · rw [decide_eq_false (show ¬ bs.length % 2 = 0 by omega), Bool.false_and] at h
                exact h
              · rw [decide_eq_true (show bs.length % 2 = 0 by omega), Bool.true_and] at h
                -- the loop
                refine ⟨fun k ρ => ∃ (least : Int) (o : Cell), ρ = [.d (.tuple [.int p, .tuple bs, i]), .d (.int p), .d (.tuple bs), .d i, .d (.int least), o] ∧ asc least (p - 1) (bs.drop k) = asc 0 (p - 1) bs, ⟨0, _, rfl, rfl⟩, ?_, ?_⟩
                · rintro k d ρ hk ⟨least, o, rfl, hs⟩
                  have hdr : bs.drop k = d :: bs.drop (k + 1) := by
                    have hlt := (List.getElem?_eq_some_iff.mp hk).1
                    rw [List.drop_eq_getElem_cons hlt]
                    rw [(List.getElem?_eq_some_iff.mp hk).2]
                  rw [hdr] at hs
                  refine ⟨rfl, ?_⟩
                  show (if (!(inR d least (p - 1))) = true then c (.bool false) else _)
                  refine tf (fun zd => ?_) (fun zd => ?_)
                  · have e : asc 0 (p - 1) bs = false := by
                      rw [← hs]
                      cases d with
                      | int x =>
                        have zd : (decide (least ≤ x) && decide (x ≤ p - 1)) = false := by simpa only [inR, Bool.not_eq_true'] using zd
                        show (decide (least ≤ x) && decide (x ≤ p - 1) && asc (x + 1) (p - 1) (bs.drop (k + 1))) = false
                        rw [zd]
                        rfl
                      | _ => rfl
                    rw [e] at h
                    exact h
                  · have hx : ∃ x : Int, d = .int x ∧ inR d least (p - 1) = true := by
                      cases d <;> first | exact ⟨_, rfl, by simpa using zd⟩ | simp [inR] at zd
                    obtain ⟨x, rfl, zx⟩ := hx
                    refine ⟨x + 1, .d (.int x), rfl, ?_⟩
                    rw [← hs]
                    show _ = (inR (.int x) least (p - 1) && asc (x + 1) (p - 1) (bs.drop (k + 1)))
                    rw [zx, Bool.true_and]
                · rintro ρ ⟨least, o, rfl, hs⟩
                  rw [List.drop_length] at hs
                  rw [← hs] at h
                  exact h
  · exact h.elim
theorem drop_at {l : List PyData} {k : Nat} {d : PyData} (hk : l[k]? = some d) : l.drop k = d :: l.drop (k + 1) := by
  have hlt := (List.getElem?_eq_some_iff.mp hk).1
  rw [List.drop_eq_getElem_cons hlt, (List.getElem?_eq_some_iff.mp hk).2]
theorem isI_of {d : PyData} (h : isI d = true) : ∃ i, d = .int i := by
  cases d <;> first | exact ⟨_, rfl⟩ | cases h
theorem isT_of {d : PyData} (h : isT d = true) : ∃ i, d = .tuple i := by
  cases d <;> first | exact ⟨_, rfl⟩ | cases h
theorem pure_are_runs (ds : List PyData) (c : PyData → Prop) (hl : ds.length = 2) (h : S_are_runs ds c) : p_are_runs (fin c) (startE N_are_runs ds) := by
  unfold S_are_runs at h
  split at h
  · rename_i d low
    refine ⟨rfl, ?_⟩
    show (if (!(isT d)) = true then _ else _)
    refine tf (fun z => ?_) (fun z => ?_)
    · have e : runsOk low d = false := by
        cases d <;> first | rfl | simp [isT] at z
      rw [e] at h
      exact h
    · obtain ⟨rs, rfl⟩ := isT_of (by simpa using z)
      refine ⟨_, rfl, ?_⟩
      show (if decide ((40000 : Int) < (rs.length : Nat)) = true then _ else _)
      have er : runsOk low (.tuple rs) = (decide (rs.length ≤ 40000) && runs1 low rs) := rfl
      rw [er] at h
      refine ifd (fun zl => ?_) (fun zl => ?_)
      · rw [decide_eq_false (show ¬ rs.length ≤ 40000 by omega)] at h
        exact h
      · rw [decide_eq_true (show rs.length ≤ 40000 by omega), Bool.true_and] at h
        refine ⟨fun k ρ => ∃ (least : Int) (o1 o2 o3 : Cell), ρ = [.d (.tuple rs), .d (.int low), .d (.int least), o1, o2, o3] ∧ runs1 least (rs.drop k) = runs1 low rs, ⟨low, _, _, _, rfl, rfl⟩, ?_, ?_⟩
        · rintro k d ρ hk ⟨least, o1, o2, o3, rfl, hs⟩
          rw [drop_at hk] at hs
          refine ⟨rfl, ?_⟩
          show (if (!(isT d && decide ((lenT d : Int) = 2))) = true then c (.bool false) else _)
          refine tf (fun zd => ?_) (fun zd => ?_)
          · have e : runs1 low rs = false := by
              have p0 : pairOf d = none := by
                cases d with
                | tuple l =>
                  match l, zd with
                  | [b, e], zd => simp [isT, lenT] at zd
                  | [], _ => rfl
                  | [_], _ => rfl
                  | _ :: _ :: _ :: _, _ => rfl
                | _ => rfl
              rw [← hs]
              unfold runs1
              rw [p0]
            rw [e] at h
            exact h
          · have hT : ∃ l, d = .tuple l ∧ (l.length : Int) = 2 := by
              cases d with
              | tuple l =>
                simp only [isT, lenT, Bool.true_and, Bool.not_eq_false'] at zd
                exact ⟨l, rfl, of_decide_eq_true zd⟩
              | _ => simp [isT] at zd
            obtain ⟨l, rfl, hl2⟩ := hT
            obtain ⟨b, e, rfl⟩ := len2 hl2
            refine ⟨rfl, rfl, ?_⟩
            show (if (!(isI b)) = true then _ else _)
            refine tf (fun zb => ?_) (fun zb => ?_)
            · have e : runs1 low rs = false := by
                have p0 : pairOf (.tuple [b, e]) = none := by
                  cases b <;> first | rfl | simp [isI] at zb
                rw [← hs]
                unfold runs1
                rw [p0]
              rw [e] at h
              exact h
            · obtain ⟨b, rfl⟩ := isI_of (by simpa using zb)
              refine ⟨rfl, ?_⟩
              show (if (!(isI e)) = true then _ else _)
              refine tf (fun ze => ?_) (fun ze => ?_)
              · have e : runs1 low rs = false := by
                  have p0 : pairOf (.tuple [.int b, e]) = none := by
                    cases e <;> first | rfl | simp [isI] at ze
                  rw [← hs]
                  unfold runs1
                  rw [p0]
                rw [e] at h
                exact h
              · obtain ⟨e, rfl⟩ := isI_of (by simpa using ze)
                have e1 : runs1 least (.tuple [.int b, .int e] :: rs.drop (k + 1)) = (decide (least ≤ b) && decide (b < e) && runs1 (e + 1) (rs.drop (k + 1))) := rfl
                rw [e1] at hs
                have bad : (decide (least ≤ b) && decide (b < e)) = false → c (.bool false) := fun z => by
                  rw [z, Bool.false_and] at hs
                  rw [← hs] at h
                  exact h
                show (if decide (least ≤ b) = true then _ else _)
                refine ifd (fun zb => ?_) (fun zb => ?_)
                · show (if (!(decide (b < e))) = true then _ else _)
                  refine tf (fun zz => ?_) (fun zz => ?_)
                  · have zz : decide (b < e) = false := by simpa using zz
                    exact bad (by rw [zz, Bool.and_false])
                  · have zz : decide (b < e) = true := by simpa using zz
                    rw [decide_eq_true zb, zz, Bool.true_and, Bool.true_and] at hs
                    exact ⟨e + 1, _, _, _, rfl, hs⟩
                · exact bad (by rw [decide_eq_false zb, Bool.false_and])
        · rintro ρ ⟨least, o1, o2, o3, rfl, hs⟩
          rw [List.drop_length] at hs
          rw [← hs] at h
          exact h
  · exact h.elim
theorem oSome {o : Option PyData} {d : PyData} {k : PyData → Prop} (h : o = some d) (q : k d) : asO o k := by
  rw [h]
  exact q
theorem pairOf_eq {d : PyData} {b e : Int} (h : pairOf d = some (b, e)) : d = .tuple [.int b, .int e] := by
  cases d with
  | tuple l =>
    match l, h with
    | [x, y], h =>
      cases x with
      | int x =>
        cases y with
        | int y =>
          cases h
          rfl
        | _ => cases h
      | _ => cases h
    | [], h => cases h
    | [_], h => cases h
    | _ :: _ :: _ :: _, h => cases h
  | _ => cases h
theorem runs1_last : ∀ {init : List PyData} {low : Int} {d : PyData}, runs1 low (init ++ [d]) = true → ∃ b e, pairOf d = some (b, e) ∧ endOf low (init ++ [d]) = e
  | [], low, d, h => by
    cases q : pairOf d with
    | none =>
      rw [List.nil_append] at h
      unfold runs1 at h
      rw [q] at h
      cases h
    | some p =>
      obtain ⟨b, e⟩ := p
      refine ⟨b, e, rfl, ?_⟩
      rw [List.nil_append]
      unfold endOf
      rw [q]
      rfl
  | x :: init, low, d, h => by
    rw [List.cons_append] at h ⊢
    unfold runs1 at h
    unfold endOf
    cases q : pairOf x with
    | none =>
      rw [q] at h
      cases h
    | some p =>
      obtain ⟨b, e⟩ := p
      rw [q] at h
      have h : (decide (low ≤ b) && decide (b < e) && runs1 (e + 1) (init ++ [d])) = true := h
      rw [Bool.and_eq_true] at h
      obtain ⟨b', e', h1, h2⟩ := runs1_last h.2
      refine ⟨b', e', h1, ?_⟩
      show endOf e (init ++ [d]) = e'
      rw [← h2]
      exact endOf_snoc h1
where endOf_snoc {b e : Int} : ∀ {init : List PyData} {low low' : Int} {d : PyData}, pairOf d = some (b, e) → endOf low (init ++ [d]) = endOf low' (init ++ [d])
  | [], low, low', d, h => by
    rw [List.nil_append]
    unfold endOf
    rw [h]
  | x :: init, low, low', d, h => by
    rw [List.cons_append]
    unfold endOf
    cases pairOf x with
    | none => exact endOf_snoc h
    | some p => exact rfl
theorem pure_dayset_fault (ds : List PyData) (c : PyData → Prop) (hl : ds.length = 1) (h : S_dayset_fault ds c) : p_dayset_fault (fin c) (startE N_dayset_fault ds) := by
  unfold S_dayset_fault at h
  split at h
  · rename_i l lo rs hi r
    refine ⟨rfl, rfl, ?_⟩
    show (if (!(sideOk l)) = true then c (txt "left") else _)
    unfold fault5 at h
    refine tf (fun z => ?_) (fun z => ?_)
    · rw [if_pos (by simpa using z)] at h
      exact h
    rw [if_neg (by simpa using z)] at h
    refine ⟨rfl, ?_⟩
    show (if (!(isI lo)) = true then c (txt "low") else _)
    refine tf (fun z => ?_) (fun z => ?_)
    · cases lo <;> first | exact h | simp [isI] at z
    obtain ⟨low, rfl⟩ := isI_of (by simpa using z)
    have h : c (if runsOk low rs = false then txt "runs" else if highBad low rs hi then txt "high" else if sideOk r = false then txt "right" else .none) := h
    refine ⟨rfl, ?_⟩
    show (if (!(runsOk low rs)) = true then c (txt "runs") else _)
    refine tf (fun z => ?_) (fun z => ?_)
    · rw [if_pos (by simpa using z)] at h
      exact h
    have hr : runsOk low rs = true := by simpa using z
    rw [if_neg (by rw [hr]; decide)] at h
    have hrs : ∃ rl, rs = .tuple rl ∧ runs1 low rl = true := by
      cases rs with
      | tuple rl =>
        have hr : (decide (rl.length ≤ 40000) && runs1 low rl) = true := hr
        rw [Bool.and_eq_true] at hr
        exact ⟨rl, rfl, hr.2⟩
      | _ => cases hr
    obtain ⟨rl, rfl, h1⟩ := hrs
    refine ⟨!rl.isEmpty, rfl, ?_⟩
    -- what follows, once the end is known
    have go : ∀ (e : Int), e = endOf low rl → (pSeq (pIfS (pOr (pNot (pTst (pCall 1 S_is_whole (pCons (pVar 4) pNil)))) (pTst (pII (fun i j => .bool (decide (i < j))) (pVar 4) (pVar 6)))) (pRet (pC (txt "high"))) pNext)
      (pSeq (pIfS (pNot (pTst (pCall 1 S_is_side (pCons (pVar 5) pNil)))) (pRet (pC (txt "right"))) pNext)
      (pRet (pC .none)))) (fin c) [.d (.tuple [l, .int low, .tuple rl, hi, r]), .d l, .d (.int low), .d (.tuple rl), .d hi, .d r, .d (.int e)] := fun e ee => by
      refine ⟨rfl, ?_⟩
      show (if (!(isI hi)) = true then _ else _)
      have last : c (if sideOk r = false then txt "right" else .none) → (pSeq (pIfS (pNot (pTst (pCall 1 S_is_side (pCons (pVar 5) pNil)))) (pRet (pC (txt "right"))) pNext) (pRet (pC .none))) (fin c) [.d (.tuple [l, .int low, .tuple rl, hi, r]), .d l, .d (.int low), .d (.tuple rl), .d hi, .d r, .d (.int e)] := fun h => by
        refine ⟨rfl, ?_⟩
        show (if (!(sideOk r)) = true then c (txt "right") else c .none)
        refine tf (fun z => ?_) (fun z => ?_)
        · rw [if_pos (by simpa using z)] at h
          exact h
        · rw [if_neg (by simpa using z)] at h
          exact h
      refine tf (fun z => ?_) (fun z => ?_)
      · have hb : highBad low (.tuple rl) hi = true := by
          cases hi <;> first | rfl | simp [isI] at z
        rw [if_pos hb] at h
        exact h
      · obtain ⟨hi, rfl⟩ := isI_of (by simpa using z)
        show (if decide (hi < e) = true then c (txt "high") else _)
        have hb : highBad low (.tuple rl) (.int hi) = decide (hi < e) := by
          rw [ee]
          rfl
        refine ifd (fun z => ?_) (fun z => ?_)
        · rw [if_pos (by rw [hb]; exact decide_eq_true z)] at h
          exact h
        · rw [if_neg (by rw [hb]; simpa using z)] at h
          exact last h
    rcases List.eq_nil_or_concat rl with rfl | ⟨init, d, rfl⟩
    · exact go low rfl
    · rw [List.concat_eq_append] at h1 go ⊢
      obtain ⟨b, e, hp, he⟩ := runs1_last h1
      refine tt (by cases init <;> rfl) ?_
      obtain rfl := pairOf_eq hp
      refine oSome (atI_last _ _) ?_

      exact go e he.symm
  · exact h.elim
end Pr
namespace Pr
open PySem L2 Pu
abbrev finB (c : PyData → Prop) : PEnds := ⟨fun ρ => Pu.cellAt ρ 0 = .box ∧ c .none, fun d ρ => Pu.cellAt ρ 0 = .box ∧ c d, fun _ => False, fun _ => False⟩
def S_law_draws : FS := fun ds k => match ds with
  | [.int _, .int m, .int n] => 0 < m ∧ m < 1073741824 ∧ 0 ≤ n ∧ n ≤ 100 ∧ ∀ ns : List Int, ns.length = n.toNat → (∀ x ∈ ns, 0 ≤ x ∧ x < m) → k (.list (ns.map PyData.int))
  | _ => False
def S_law_next : FS := fun ds k => match ds with
  | [.int m] => 0 < m ∧ ∀ v : Int, 0 ≤ v → v < m → k (.int v)
  | _ => False
def S_law_side : FS := fun ds k => match ds with
  | [] => ∀ d, sideOk d = true → k d
  | _ => False
def S_law_dayset : FS := fun ds k => match ds with
  | [] => ∀ l low rs h r, sideOk l = true → runsOk low rs = true → highBad low rs h = false → sideOk r = true → k (.tuple [l, .int low, rs, h, r])
  | _ => False
def S_law_spoilt : FS := fun ds k => match ds with
  | [.tuple [l, lo, rs, h, r], .int place, .int low] => (place = 0 ∧ ∀ w, sideOk w = false → k (.tuple [w, lo, rs, h, r])) ∨ (place = 1 ∧ ∀ w, isI w = false → k (.tuple [l, w, rs, h, r])) ∨
      (place = 2 ∧ ∀ w, runsOk low w = false → k (.tuple [l, lo, w, h, r])) ∨ (place = 3 ∧ runsOk low rs = true ∧ ∀ w, highBad low rs w = true → k (.tuple [l, lo, rs, w, r])) ∨ (place = 4 ∧ ∀ w, sideOk w = false → k (.tuple [l, lo, rs, h, w]))
  | _ => False
-- _law_draws: ['cell', 'modulus', 'count', 'number', 'row', 'k', 'mixed']
abbrev N_law_draws : List Str := ["cell", "modulus", "count", "number", "row", "k", "mixed"]
def p_law_draws : PS' := (pSeq (pAsg (pVar 0) (pgN 3))
      (pSeq (pIfS (pTst (pII (fun i j => .bool (decide (i < j))) (pVar 3) (pC (.int 0)))) (pAsg (pII (fun i j => .int (i - j)) (pII (fun i j => .int (i - j)) (pC (.int 0)) (pC (.int 1))) (pVar 3)) (pgN 3)) pNext)
      (pSeq (pAsgO (pLst pNil) 4)
      (pSeq (pIfS (pTst (pII (fun i j => .bool (decide (j ≤ i))) (pVar 3) (pIIc CPow (fun i j => .int (i ^ j.toNat)) (pC (.int 10)) (pC (.int 18))))) (pSeq (pRng (pCons (pVar 2) pNil) (pgN 5) (pSeq (pApp 4 (pIIc (fun _ j => 0 < j) (fun i j => .int (i % j)) (pFn fInt (pCons (pVar 3) pNil)) (pVar 1)))
      (pAsg (pIIc CDiv (fun i j => .int (i / j)) (pVar 3) (pVar 1)) (pgN 3))))
      (pRetO 4)) pNext)
      (pSeq (pRng (pCons (pVar 2) pNil) (pgN 5) (pSeq (pAsg (pIIc (fun _ j => 0 < j) (fun i j => .int (i % j)) (pFn fInt (pCons (pIIc CMul (fun i j => .int (i * j)) (pPlus (pPlus (pVar 3) (pIIc CMul (fun i j => .int (i * j)) (pC (.int 7)) (pVar 5))) (pC (.int 1))) (pC (.int 48271))) pNil)) (pC (.int 2147483647))) (pgN 6))
      (pSeq (pAsg (pIIc (fun _ j => 0 < j) (fun i j => .int (i % j)) (pFn fInt (pCons (pPlus (pIIc CMul (fun i j => .int (i * j)) (pVar 6) (pC (.int 69621))) (pIIc CMul (fun i j => .int (i * j)) (pC (.int 31)) (pVar 5))) pNil)) (pC (.int 2147483629))) (pgN 6))
      (pApp 4 (pIIc (fun _ j => 0 < j) (fun i j => .int (i % j)) (pFn fInt (pCons (pIIc CDiv (fun i j => .int (i / j)) (pVar 6) (pC (.int 7))) pNil)) (pVar 1))))))
      (pRetO 4))))))
-- _law_next: ['box', 'modulus', 'at', 'number']
abbrev N_law_next : List Str := ["box", "modulus", "at", "number"]
-- _law_side: ['box', 'period', 'borders', 'k']
abbrev N_law_side : List Str := ["box", "period", "borders", "k"]
def p_law_side : PS' := (pSeq (pAsg (pPlus (pC (.int 1)) (pCallB 1 S_law_next 0 (pCons (pC (.int 8)) pNil))) (pgN 1))
      (pSeq (pIfS (pTst (pEqD false (pCallB 1 S_law_next 0 (pCons (pC (.int 6)) pNil)) (pC (.int 0)))) (pAsg (pIx (pNew (pLst (pCons (pC (.int 11)) (pCons (pC (.int 30)) (pCons (pC (.int 97)) pNil))))) (pCallB 1 S_law_next 0 (pCons (pC (.int 3)) pNil))) (pgN 1)) pNext)
      (pSeq (pAsg (pNew (pSortSet (pCons (pNew (pLcR [3] [3] (pCons (pCallB 1 S_law_next 0 (pCons (pC (.int 5)) pNil)) pNil) (pgN 3) pYes (pCallB 1 S_law_next 0 (pCons (pVar 1) pNil)))) pNil))) (pgN 2))
      (pSeq (pIfS (pTst (pEqD false (pIIc (fun _ j => 0 < j) (fun i j => .int (i % j)) (pFn fLen (pCons (pVar 2) pNil)) (pC (.int 2))) (pC (.int 1)))) (pAsg (pCut (pVar 2) (pPart (pC (.int 1))) pNoP) (pgN 2)) pNext)
      (pRet (pTup (pCons (pVar 1) (pCons (pFn fTuple (pCons (pVar 2) pNil)) (pCons (pEqD false (pCallB 1 S_law_next 0 (pCons (pC (.int 2)) pNil)) (pC (.int 1))) pNil)))))))))
-- _law_dayset: ['box', 'low', 'at', 'runs', 'k', 'first', 'left', 'right']
abbrev N_law_dayset : List Str := ["box", "low", "at", "runs", "k", "first", "left", "right"]
def p_law_dayset : PS' := (pSeq (pAsg (pII (fun i j => .int (i - j)) (pCallB 1 S_law_next 0 (pCons (pC (.int 21)) pNil)) (pC (.int 10))) (pgN 1))
      (pSeq (pAsg (pVar 1) (pgN 2))
      (pSeq (pAsgO (pLst pNil) 3)
      (pSeq (pRng (pCons (pCallB 1 S_law_next 0 (pCons (pC (.int 4)) pNil)) pNil) (pgN 4) (pSeq (pAsg (pPlus (pPlus (pVar 2) (pCallB 1 S_law_next 0 (pCons (pC (.int 4)) pNil))) (pFn fInt (pCons (pII (fun i j => .bool (decide (j < i))) (pLenO 3) (pC (.int 0))) pNil))) (pgN 5))
      (pSeq (pApp 3 (pTup (pCons (pVar 5) (pCons (pPlus (pPlus (pVar 5) (pC (.int 1))) (pCallB 1 S_law_next 0 (pCons (pC (.int 4)) pNil))) pNil))))
      (pAsg (pIx (pIxO 3 (pI (fun i => .int (-i)) (pC (.int 1)))) (pC (.int 1))) (pgN 2)))))
      (pSeq (pAsg (pCallB 0 S_law_side 0 pNil) (pgN 6))
      (pSeq (pAsg (pIfE (pTst (pEqD false (pCallB 1 S_law_next 0 (pCons (pC (.int 4)) pNil)) (pC (.int 0)))) (pVar 6) (pCallB 0 S_law_side 0 pNil)) (pgN 7))
      (pRet (pTup (pCons (pVar 6) (pCons (pVar 1) (pCons (pTupO 3) (pCons (pPlus (pVar 2) (pCallB 1 S_law_next 0 (pCons (pC (.int 4)) pNil))) (pCons (pVar 7) pNil)))))))))))))
-- _law_spoilt: ['box', 'dayset', 'place', 'low', 'sides', 'runs', 'wrong']
abbrev N_law_spoilt : List Str := ["box", "dayset", "place", "low", "sides", "runs", "wrong"]
def p_law_spoilt : PS' := (pSeq (pAsg (pNew (pLst (pCons (pTup (pCons (pC (.int 0)) (pCons (pTup pNil) (pCons (pC (.bool false)) pNil)))) (pCons (pTup (pCons (pC (.int 1)) (pCons (pTup (pCons (pC (.int 0)) pNil)) (pCons (pC (.bool false)) pNil)))) (pCons (pTup (pCons (pC (.int 4)) (pCons (pTup (pCons (pC (.int 1)) (pCons (pC (.int 1)) pNil))) (pCons (pC (.bool true)) pNil)))) (pCons (pTup (pCons (pC (.int 4)) (pCons (pTup (pCons (pC (.int 2)) (pCons (pC (.int 1)) pNil))) (pCons (pC (.bool true)) pNil)))) (pCons (pTup (pCons (pC (.int 4)) (pCons (pTup (pCons (pC (.int 1)) (pCons (pC (.int 4)) pNil))) (pCons (pC (.bool true)) pNil)))) (pCons (pTup (pCons (pC (.int 4)) (pCons (pTup (pCons (pC (.int 1)) (pCons (pC (.int 2)) pNil))) (pCons (pC (.int 1)) pNil)))) pNil)))))))) (pgN 4))
      (pSeq (pAsg (pPlus (pVar 4) (pNew (pLst (pCons (pTup (pCons (pC (.int 2)) (pCons (pTup pNil) (pCons (pC .none) pNil)))) (pCons (pTup (pCons (pC (.bool true)) (pCons (pTup pNil) (pCons (pC (.bool true)) pNil)))) (pCons (pTup (pCons (pC (.int 4)) (pCons (pNew (pLst (pCons (pC (.int 1)) (pCons (pC (.int 2)) pNil)))) (pCons (pC (.bool true)) pNil)))) (pCons (pTup (pCons (pC (.int 4)) (pCons (pTup (pCons (pC (.int 1)) (pCons (pC (.int 2)) pNil))) pNil))) (pCons (pTup (pCons (pPlus (pIIc CPow (fun i j => .int (i ^ j.toNat)) (pC (.int 10)) (pC (.int 12))) (pC (.int 1))) (pCons (pTup pNil) (pCons (pC (.bool true)) pNil)))) (pCons (pTup (pCons (pC (.int 4)) (pCons (pTup (pCons (pI (fun i => .int (-i)) (pC (.int 1))) (pCons (pC (.int 2)) pNil))) (pCons (pC (.bool true)) pNil)))) pNil))))))))) (pgN 4))
      (pSeq (pAsg (pNew (pLst (pCons (pTup (pCons (pTup (pCons (pII (fun i j => .int (i - j)) (pVar 3) (pC (.int 1))) (pCons (pPlus (pVar 3) (pC (.int 1))) pNil))) pNil)) (pCons (pTup (pCons (pTup (pCons (pVar 3) (pCons (pVar 3) pNil))) pNil)) (pCons (pTup (pCons (pTup (pCons (pPlus (pVar 3) (pC (.int 1))) (pCons (pPlus (pVar 3) (pC (.int 3))) pNil))) (pCons (pTup (pCons (pPlus (pVar 3) (pC (.int 3))) (pCons (pPlus (pVar 3) (pC (.int 4))) pNil))) pNil))) (pCons (pTup (pCons (pTup (pCons (pVar 3) (pCons (pPlus (pVar 3) (pC (.int 1))) (pCons (pC (.int 5)) pNil)))) pNil)) (pCons (pNew (pLst pNil)) (pCons (pTup (pCons (pVar 3) pNil)) (pCons (pTup (pCons (pTup (pCons (pPlus (pVar 3) (pC (.int 2))) (pCons (pPlus (pVar 3) (pC (.int 1))) pNil))) pNil)) pNil))))))))) (pgN 5))
      (pSeq (pAsg (pIx (pNew (pLst (pCons (pVar 4) (pCons (pNew (pLst (pCons (pC (.bool true)) (pCons (pTup (pCons (pC (.int 3)) pNil)) pNil)))) (pCons (pVar 5) (pCons (pNew (pLst (pCons (pII (fun i j => .int (i - j)) (pVar 3) (pC (.int 1))) (pCons (pC (.bool true)) (pCons (pC .none) pNil))))) (pCons (pVar 4) pNil))))))) (pVar 2)) (pgN 6))
      (pSeq (pIfS (pAnd (pTst (pEqD false (pVar 2) (pC (.int 3)))) (pTst (pII (fun i j => .bool (decide (j < i))) (pFn fLen (pCons (pIx (pVar 1) (pC (.int 2))) pNil)) (pC (.int 0))))) (pAsg (pPlus (pVar 6) (pNew (pLst (pCons (pII (fun i j => .int (i - j)) (pIx (pIx (pIx (pVar 1) (pC (.int 2))) (pI (fun i => .int (-i)) (pC (.int 1)))) (pC (.int 1))) (pC (.int 1))) pNil)))) (pgN 6)) pNext)
      (pRet (pPlus (pPlus (pCut (pVar 1) pNoP (pPart (pVar 2))) (pTup (pCons (pIx (pVar 6) (pCallB 1 S_law_next 0 (pCons (pFn fLen (pCons (pVar 6) pNil)) pNil))) pNil))) (pCut (pVar 1) (pPart (pPlus (pVar 2) (pC (.int 1)))) pNoP))))))))
theorem pure_law_draws (ds : List PyData) (c : PyData → Prop) (hl : ds.length = 3) (h : S_law_draws ds c) : p_law_draws (fin c) (startE N_law_draws ds) := by
  unfold S_law_draws at h
  split at h
  · rename_i cell m n
    obtain ⟨m0, m1, n0, n1, h⟩ := h
    -- the two loops, from any number
    have loop1 : ∀ number : Int, (pSeq (pRng (pCons (pVar 2) pNil) (pgN 5) (pSeq (pApp 4 (pIIc (fun _ j => 0 < j) (fun i j => .int (i % j)) (pFn fInt (pCons (pVar 3) pNil)) (pVar 1)))
      (pAsg (pIIc CDiv (fun i j => .int (i / j)) (pVar 3) (pVar 1)) (pgN 3)))) (pRetO 4)) { fin c with nx := fun _ => c .none } [.d (.int cell), .d (.int m), .d (.int n), .d (.int number), .own [], .no, .no] := fun number => by
      refine ⟨0, n, .inl ⟨rfl, rfl⟩, ⟨by omega, by omega, by omega, by omega⟩, fun k ρ => ∃ (num : Int) (o : Cell) (ns : List Int), ρ = [.d (.int cell), .d (.int m), .d (.int n), .d (.int num), .own (ns.map PyData.int), o, .no] ∧ ns.length = k ∧ ∀ x ∈ ns, 0 ≤ x ∧ x < m, ⟨number, _, [], rfl, rfl, fun _ z => nomatch z⟩, ?_, ?_⟩
      · rintro i ρ hi ⟨num, o, ns, rfl, hn, hb⟩
        refine ⟨m0, ?_, ⟨m0, m1⟩, num / m, .d (.int (0 + (i : Int))), ns ++ [num % m], ?_, by simp [hn], ?_⟩
        · rw [List.length_map, hn]
          omega
        · rw [List.map_append]
          rfl
        · intro x hx
          rcases List.mem_append.mp hx with hx | hx
          · exact hb x hx
          · rw [List.mem_singleton.mp hx]
            exact ⟨Int.emod_nonneg _ (by omega), Int.emod_lt_of_pos _ m0⟩
      · rintro ρ ⟨num, o, ns, rfl, hn, hb⟩
        exact h ns (by rw [hn, Int.sub_zero]) hb
    have loop2 : ∀ number : Int, (pSeq (pRng (pCons (pVar 2) pNil) (pgN 5) (pSeq (pAsg (pIIc (fun _ j => 0 < j) (fun i j => .int (i % j)) (pFn fInt (pCons (pIIc CMul (fun i j => .int (i * j)) (pPlus (pPlus (pVar 3) (pIIc CMul (fun i j => .int (i * j)) (pC (.int 7)) (pVar 5))) (pC (.int 1))) (pC (.int 48271))) pNil)) (pC (.int 2147483647))) (pgN 6))
      (pSeq (pAsg (pIIc (fun _ j => 0 < j) (fun i j => .int (i % j)) (pFn fInt (pCons (pPlus (pIIc CMul (fun i j => .int (i * j)) (pVar 6) (pC (.int 69621))) (pIIc CMul (fun i j => .int (i * j)) (pC (.int 31)) (pVar 5))) pNil)) (pC (.int 2147483629))) (pgN 6))
      (pApp 4 (pIIc (fun _ j => 0 < j) (fun i j => .int (i % j)) (pFn fInt (pCons (pIIc CDiv (fun i j => .int (i / j)) (pVar 6) (pC (.int 7))) pNil)) (pVar 1)))))) (pRetO 4)) (fin c) [.d (.int cell), .d (.int m), .d (.int n), .d (.int number), .own [], .no, .no] := fun number => by
      refine ⟨0, n, .inl ⟨rfl, rfl⟩, ⟨by omega, by omega, by omega, by omega⟩, fun k ρ => ∃ (o1 o2 : Cell) (ns : List Int), ρ = [.d (.int cell), .d (.int m), .d (.int n), .d (.int number), .own (ns.map PyData.int), o1, o2] ∧ ns.length = k ∧ ∀ x ∈ ns, 0 ≤ x ∧ x < m, ⟨_, _, [], rfl, rfl, fun _ z => nomatch z⟩, ?_, ?_⟩
      · rintro i ρ hi ⟨o1, o2, ns, rfl, hn, hb⟩
        refine ⟨.inl (by decide), .inr (by decide), (by decide : (0 : Int) < 2147483647), .inr (by decide), .inl (by decide), (by decide : (0 : Int) < 2147483629), ⟨by decide, by decide⟩, m0, ?len, ?a, ?b, ns ++ [?x], ?e, by simp [hn], ?m⟩
        case len =>
          rw [List.length_map, hn]
          omega
        case e =>
          rw [List.map_append]
          exact rfl
        case m =>
          intro x hx
          rcases List.mem_append.mp hx with hx | hx
          · exact hb x hx
          · rw [List.mem_singleton.mp hx]
            exact ⟨Int.emod_nonneg _ (by omega), Int.emod_lt_of_pos _ m0⟩
      · rintro ρ ⟨o1, o2, ns, rfl, hn, hb⟩
        exact h ns (by rw [hn, Int.sub_zero]) hb
    have rest : ∀ number : Int, (pSeq (pAsgO (pLst pNil) 4)
      (pSeq (pIfS (pTst (pII (fun i j => .bool (decide (j ≤ i))) (pVar 3) (pIIc CPow (fun i j => .int (i ^ j.toNat)) (pC (.int 10)) (pC (.int 18))))) (pSeq (pRng (pCons (pVar 2) pNil) (pgN 5) (pSeq (pApp 4 (pIIc (fun _ j => 0 < j) (fun i j => .int (i % j)) (pFn fInt (pCons (pVar 3) pNil)) (pVar 1)))
      (pAsg (pIIc CDiv (fun i j => .int (i / j)) (pVar 3) (pVar 1)) (pgN 3))))
      (pRetO 4)) pNext)
      (pSeq (pRng (pCons (pVar 2) pNil) (pgN 5) (pSeq (pAsg (pIIc (fun _ j => 0 < j) (fun i j => .int (i % j)) (pFn fInt (pCons (pIIc CMul (fun i j => .int (i * j)) (pPlus (pPlus (pVar 3) (pIIc CMul (fun i j => .int (i * j)) (pC (.int 7)) (pVar 5))) (pC (.int 1))) (pC (.int 48271))) pNil)) (pC (.int 2147483647))) (pgN 6))
      (pSeq (pAsg (pIIc (fun _ j => 0 < j) (fun i j => .int (i % j)) (pFn fInt (pCons (pPlus (pIIc CMul (fun i j => .int (i * j)) (pVar 6) (pC (.int 69621))) (pIIc CMul (fun i j => .int (i * j)) (pC (.int 31)) (pVar 5))) pNil)) (pC (.int 2147483629))) (pgN 6))
      (pApp 4 (pIIc (fun _ j => 0 < j) (fun i j => .int (i % j)) (pFn fInt (pCons (pIIc CDiv (fun i j => .int (i / j)) (pVar 6) (pC (.int 7))) pNil)) (pVar 1))))))
      (pRetO 4)))) (fin c) [.d (.int cell), .d (.int m), .d (.int n), .d (.int number), .no, .no, .no] := fun number => by
      refine ⟨by decide, Nat.zero_le _, ⟨by decide, by decide, by decide⟩, ?_⟩
      refine tf (fun _ => ?_) (fun _ => ?_)
      · exact loop1 number
      · exact loop2 number
    show (if decide (cell < 0) = true then _ else _)
    refine ifd (fun _ => ?_) (fun _ => ?_)
    · exact rest _
    · exact rest _
  · exact h.elim
end Pr
namespace Pr
open PySem L2 Pu
theorem asc_of : ∀ {ns : List Int} {lo hi : Int}, ns.Pairwise (· < ·) → (∀ x ∈ ns, lo ≤ x ∧ x ≤ hi) → asc lo hi (ns.map PyData.int) = true
  | [], _, _, _, _ => rfl
  | n :: ns, lo, hi, hp, hb => by
    obtain ⟨h1, h2⟩ := hb n List.mem_cons_self
    show (decide (lo ≤ n) && decide (n ≤ hi) && asc (n + 1) hi (ns.map PyData.int)) = true
    rw [decide_eq_true h1, decide_eq_true h2, asc_of (List.pairwise_cons.mp hp).2 fun x hx => ⟨by have := (List.pairwise_cons.mp hp).1 x hx; omega, (hb x (List.mem_cons_of_mem _ hx)).2⟩]
    rfl
theorem side_of {p : Int} {ns : List Int} {b : Bool} (p0 : 1 ≤ p) (p1 : p ≤ 100) (hp : ns.Pairwise (· < ·)) (hb : ∀ x ∈ ns, 0 ≤ x ∧ x < p) (hl : ns.length ≤ 100) (he : ns.length % 2 = 0) : sideOk (.tuple [.int p, .tuple (ns.map PyData.int), .bool b]) = true := by
  show (decide (1 ≤ p) && decide (p ≤ 1000000000000) && isF (.bool b) && (decide ((ns.map PyData.int).length ≤ 40000) && decide ((ns.map PyData.int).length % 2 = 0) && asc 0 (p - 1) (ns.map PyData.int))) = true
  rw [List.length_map, decide_eq_true p0, decide_eq_true (show p ≤ 1000000000000 by omega), decide_eq_true (show ns.length ≤ 40000 by omega), decide_eq_true he, asc_of hp fun x hx => ⟨(hb x hx).1, by have := (hb x hx).2; omega⟩]
  rfl
theorem atI_in {l : List PyData} {v : Int} (h0 : 0 ≤ v) (h1 : v < (l.length : Nat)) : ∃ d, atI l v = some d ∧ d ∈ l := by
  obtain ⟨n, rfl⟩ : ∃ n : Nat, v = n := ⟨v.toNat, by omega⟩
  have hv : n < l.length := by omega
  exact ⟨l[n], atI_nat (List.getElem?_eq_getElem hv), List.getElem_mem hv⟩
theorem pure_law_side (ds : List PyData) (c : PyData → Prop) (hl : ds.length = 0) (h : S_law_side ds c) : p_law_side (finB c) (.box :: startE N_law_side.tail ds) := by
  cases ds with
  | cons _ _ => cases hl
  | nil =>
    have h : ∀ d, sideOk d = true → c d := h
    -- from the period on
    have rest : ∀ p : Int, 1 ≤ p → p ≤ 100 → (pSeq (pAsg (pNew (pSortSet (pCons (pNew (pLcR [3] [3] (pCons (pCallB 1 S_law_next 0 (pCons (pC (.int 5)) pNil)) pNil) (pgN 3) pYes (pCallB 1 S_law_next 0 (pCons (pVar 1) pNil)))) pNil))) (pgN 2))
      (pSeq (pIfS (pTst (pEqD false (pIIc (fun _ j => 0 < j) (fun i j => .int (i % j)) (pFn fLen (pCons (pVar 2) pNil)) (pC (.int 2))) (pC (.int 1)))) (pAsg (pCut (pVar 2) (pPart (pC (.int 1))) pNoP) (pgN 2)) pNext)
      (pRet (pTup (pCons (pVar 1) (pCons (pFn fTuple (pCons (pVar 2) pNil)) (pCons (pEqD false (pCallB 1 S_law_next 0 (pCons (pC (.int 2)) pNil)) (pC (.int 1))) pNil))))))) (finB c) [.box, .d (.int p), .no, .no] := fun p p0 p1 => by
      refine ⟨by simp [Pu.cellAt], rfl, rfl, rfl, by decide, fun n n0 n1 => ⟨rfl, 0, n, .inl ⟨rfl, rfl⟩, ⟨by omega, by omega, by omega, by omega⟩, fun k acc => ∃ ns : List Int, acc = ns.map PyData.int ∧ ns.length = k ∧ ∀ x ∈ ns, 0 ≤ x ∧ x < p, ⟨[], rfl, rfl, fun _ z => nomatch z⟩, ?_, ?_⟩⟩
      · rintro k acc hk ⟨ns, rfl, hn, hb⟩
        refine ⟨rfl, ?_⟩
        refine ⟨rfl, rfl, rfl, by omega, fun v v0 v1 => ⟨rfl, by rw [List.length_map]; omega, ns ++ [v], by rw [List.map_append]; rfl, by simp [hn], fun x hx => ?_⟩⟩
        rcases List.mem_append.mp hx with hx | hx
        · exact hb x hx
        · rw [List.mem_singleton.mp hx]
          exact ⟨v0, v1⟩
      · rintro acc ⟨ns, rfl, hn, hb⟩
        refine ⟨ns, rfl, by omega, fun bs pw mem len => ?_⟩
        have hbs : ∀ x ∈ bs, 0 ≤ x ∧ x < p := fun x hx => hb x ((mem x).mp hx)
        -- from the even borders on
        have last : ∀ bs : List Int, bs.Pairwise (· < ·) → (∀ x ∈ bs, 0 ≤ x ∧ x < p) → bs.length ≤ 100 → bs.length % 2 = 0 → ∀ o, (pRet (pTup (pCons (pVar 1) (pCons (pFn fTuple (pCons (pVar 2) pNil)) (pCons (pEqD false (pCallB 1 S_law_next 0 (pCons (pC (.int 2)) pNil)) (pC (.int 1))) pNil))))) (finB c) [.box, .d (.int p), .d (.list (bs.map PyData.int)), o] := fun bs pw hb hl he o => by
          refine ⟨rfl, rfl, rfl, by decide, fun v v0 v1 => ⟨rfl, rfl, ?_, rfl, ?_⟩⟩
          · show 3 ≤ 100000
            decide
          · exact h _ (side_of p0 p1 pw hb hl he)
        refine ⟨_, rfl, (by decide : (0 : Int) < 2), rfl, rfl, ?_⟩
        show (if PyData.eqv (.int (((bs.map PyData.int).length : Int) % 2)) (.int 1) = true then _ else _)
        rw [eqv_int, List.length_map]
        refine ifd (fun z => ?_) (fun z => ?_)
        · cases bs with
          | nil => simp at z
          | cons b bs =>
            have e : cutP ((b :: bs).map PyData.int) (some 1) none = bs.map PyData.int := by
              simp only [cutP, HT.sIx]
              simp
              exact List.take_of_length_le (by simp)
            have q := last bs (List.pairwise_cons.mp pw).2 (fun x hx => hbs x (List.mem_cons_of_mem _ hx)) (by rw [List.length_cons] at len; omega) (by rw [List.length_cons] at z; omega) .no
            rw [← e] at q
            exact q
        · exact last bs pw hbs (by omega) (by omega) _
    refine ⟨rfl, rfl, rfl, by decide, fun v v0 v1 => ?_⟩
    refine ⟨rfl, rfl, rfl, by decide, fun u u0 u1 => ⟨rfl, rfl, ?_⟩⟩
    show (if PyData.eqv (.int u) (.int 0) = true then _ else _)
    rw [eqv_int]
    refine ifd (fun z => ?_) (fun z => ?_)
    · refine ⟨?_, rfl, rfl, rfl, by decide, fun t t0 t1 => ?_⟩
      · show 3 ≤ 100000
        decide
      · have k3 : t = 0 ∨ t = 1 ∨ t = 2 := by omega
        rcases k3 with rfl | rfl | rfl
        · exact rest 11 (by decide) (by decide)
        · exact rest 30 (by decide) (by decide)
        · exact rest 97 (by decide) (by decide)
    · exact rest (1 + v) (by omega) (by omega)
end Pr
namespace Pu
open PySem L2
/-! ### dicts with int keys -/
def getA (kvs : List (Int × PyData)) (n : Int) : Option PyData := (kvs.find? fun kv => decide (kv.1 = n)).map (·.2)
def putA (kvs : List (Int × PyData)) (n : Int) (d : PyData) : List (Int × PyData) :=
  if (kvs.any fun kv => decide (kv.1 = n)) = true then kvs.map (fun kv => if kv.1 = n then (kv.1, d) else kv) else kvs ++ [(n, d)]
def asDct : Cell → (List (Int × PyData) → Prop) → Prop
  | .dct x, k => k x
  | _, _ => False
theorem asDct_of {c : Cell} {k : List (Int × PyData) → Prop} (h : asDct c k) : ∃ x, c = .dct x ∧ k x := by
  cases c <;> first | exact ⟨_, rfl, h⟩ | exact h.elim
section
variable {K : PySem.W.Frag} {H : Hp}
theorem kvs_any {n : Int} : ∀ {ws : List (Key × V)} {kvs : List (Int × PyData)}, Kvs K H ws kvs → (ws.any fun kv => decide (kv.1 = (.inl n : Key))) = kvs.any fun kv => decide (kv.1 = n)
  | _, _, .nil => rfl
  | _, _, .cons (n := m) h r => by
    rw [List.any_cons, List.any_cons, kvs_any r]
    congr 1
    by_cases e : m = n
    · rw [decide_eq_true (show (.inl m : Key) = .inl n by rw [e]), decide_eq_true e]
    · rw [decide_eq_false (show ¬ (.inl m : Key) = .inl n from fun z => e (Sum.inl.inj z)), decide_eq_false e]
theorem kvs_get {n : Int} : ∀ {ws : List (Key × V)} {kvs : List (Int × PyData)}, Kvs K H ws kvs → (getA kvs n = none ∧ valV ws (.inl n : Key) = none) ∨ ∃ d v, getA kvs n = some d ∧ valV ws (.inl n : Key) = some v ∧ Dq K H v d
  | _, _, .nil => .inl ⟨rfl, rfl⟩
  | _, _, .cons (n := m) (v := v) (d := d) h r => by
    unfold getA valV
    by_cases e : m = n
    · rw [List.find?_cons_of_pos (by simpa using e), List.find?_cons_of_pos (by simpa using e)]
      exact .inr ⟨d, v, rfl, rfl, h⟩
    · rw [List.find?_cons_of_neg (by simpa using e), List.find?_cons_of_neg (by simpa using e)]
      exact kvs_get r
theorem kvs_map {n : Int} {v : V} {d : PyData} (h : Dq K H v d) : ∀ {ws : List (Key × V)} {kvs : List (Int × PyData)}, Kvs K H ws kvs →
    Kvs K H (ws.map fun kv => if kv.1 = (.inl n : Key) then (kv.1, v) else kv) (kvs.map fun kv => if kv.1 = n then (kv.1, d) else kv)
  | _, _, .nil => .nil
  | _, _, .cons (n := m) h' r => by
    rw [List.map_cons, List.map_cons]
    by_cases e : m = n
    · rw [if_pos (show (.inl m : Key) = .inl n by rw [e]), if_pos e]
      exact .cons h (kvs_map h r)
    · rw [if_neg (show ¬ (.inl m : Key) = .inl n from fun z => e (Sum.inl.inj z)), if_neg e]
      exact .cons h' (kvs_map h r)
theorem kvs_app {n : Int} {v : V} {d : PyData} (h : Dq K H v d) : ∀ {ws : List (Key × V)} {kvs : List (Int × PyData)}, Kvs K H ws kvs → Kvs K H (ws ++ [(.inl n, v)]) (kvs ++ [(n, d)])
  | _, _, .nil => .cons h .nil
  | _, _, .cons h' r => .cons h' (kvs_app h r)
theorem kvs_put {n : Int} {v : V} {d : PyData} {ws : List (Key × V)} {kvs : List (Int × PyData)} (h : Dq K H v d) (r : Kvs K H ws kvs) : Kvs K H (putK ws (.inl n) v) (putA kvs n d) := by
  unfold putK putA
  rw [kvs_any r]
  by_cases e : (kvs.any fun kv => decide (kv.1 = n)) = true
  · rw [if_pos e, if_pos e]
    exact kvs_map h r
  · rw [if_neg e, if_neg e]
    exact kvs_app h r
end
def pAsgD (i : Nat) : PS' := fun G ρ => i ≠ 0 ∧ G.nx (cellSet ρ i (.dct []))
def pPutD (i : Nat) (pk pv : PE') : PS' := fun G ρ => pv ρ fun v ρ1 => asDct (cellAt ρ1 i) fun _ => pk ρ1 fun k ρ2 => asI k fun n => asDct (cellAt ρ2 i) fun kvs => kvs.length < 100000 ∧ G.nx (cellSet ρ2 i (.dct (putA kvs n v)))
def pGetD (i : Nat) (pk px : PE') : PE' := fun ρ R => asDct (cellAt ρ i) fun _ => pk ρ fun k ρ1 => px ρ1 fun x ρ2 => asI k fun n => asDct (cellAt ρ2 i) fun kvs => R ((getA kvs n).getD x) ρ2
def pItemsD (i : Nat) : PA' := fun ρ R => asDct (cellAt ρ i) fun kvs => kvs.length ≤ 100000 ∧ R (kvs.map fun kv => .tuple [.int kv.1, kv.2]) ρ
section
variable {K : PySem.W.Frag} {B Z : Addr → Prop} {A H0 H : Hp} {M : Nat → Option Addr} {σ : St} {ρ : En}
theorem dct_at (E : EnvR K B Z A H0 M σ H ρ) {i : Nat} {kvs : List (Int × PyData)} (h : cellAt ρ i = .dct kvs) : ∃ l ws, σ[i]? = some (some (.ref l)) ∧ M i = some l ∧ H l = some (.dK ws) ∧ Kvs K (veil (hid Z M) H) ws kvs := by
  obtain ⟨l, ws, e, m, hl, r⟩ := E.cell i _ (cellAt_some h (by intro z; cases z))
  refine ⟨l, ws, ?_, m, hl, r⟩
  cases q : σ[i]? with
  | none =>
    rw [q] at e
    cases e
  | some o =>
    rw [q] at e
    exact congrArg some e
/-- any new object for a place's own: what the list's rule says, for a dict -/
theorem EnvR.setK (E : EnvR K B Z A H0 M σ H ρ) {i : Nat} {l : Addr} (hi : i ≠ 0) (hl : H l = none) :
    EnvR K B Z A H0 (fun j => if j = i then some l else M j) (σ.set i (some (.ref l))) (upd H l (.dK [])) (cellSet ρ i (.dct [])) := by
  have E2 := E.setO (i := i) (l := l) (vs := []) (ds := []) hi hl .nil
  have nM : ∀ j, M j ≠ some l := fun j m => E.live j l m hl
  have same : ∀ a, a ≠ l → upd H l (.lst []) a = upd H l (.dK []) a := fun a h => by rw [upd_ne h, upd_ne h]
  have hv : veil (hid Z fun j => if j = i then some l else M j) (upd H l (.lst [])) = veil (hid Z fun j => if j = i then some l else M j) (upd H l (.dK [])) := by
    funext a
    unfold veil
    by_cases z : hid Z (fun j => if j = i then some l else M j) a
    · rw [if_pos z, if_pos z]
    · rw [if_neg z, if_neg z]
      exact same a fun e => z (.inr ⟨i, by rw [e]; exact if_pos rfl⟩)
  have nn : ∀ a, upd H l (.lst []) a ≠ none → upd H l (.dK []) a ≠ none := fun a h => by
    by_cases e : a = l
    · rw [e, upd_same]
      intro z; cases z
    · rw [← same a e]
      exact h
  rw [cellSet_eq] at E2 ⊢
  refine ⟨by rw [List.length_set, List.length_set]; exact E.len, E2.inj, fun j u m => nn u (E2.live j u m), E2.off, fun a z => nn a (E2.zl a z), fun a o nb h => ?_, E2.own, E2.m0, hv ▸ E2.anch, fun j c hc => ?_⟩
  · have q := E.ext a o nb h
    rw [upd_ne (fun e => by rw [e, hl] at q; cases q)]
    exact q
  · rcases set_at hc with ⟨rfl, hk, rfl⟩ | ⟨ne, hc⟩
    · rw [join_set (by rw [E.len]; exact hk)]
      exact ⟨l, [], rfl, if_pos rfl, upd_same, .nil⟩
    · have h := E2.cell j c (by rw [List.getElem?_set_ne ne]; exact hc)
      refine h.grow (by rw [hv]; exact Grow.refl _) fun u m o ho => ?_
      have mj : (if j = i then some l else M j) = some u := m
      rw [if_neg (Ne.symm ne)] at mj
      rw [← same u fun e => nM j (by rw [mj, e])]
      exact ho
theorem EnvR.putKv (E : EnvR K B Z A H0 M σ H ρ) {i : Nat} {l : Addr} {ws : List (Key × V)} {kvs : List (Int × PyData)} (hs : (σ[i]?).join = some (.ref l)) (hm : M i = some l) (r : Kvs K (veil (hid Z M) H) ws kvs) :
    EnvR K B Z A H0 M σ (upd H l (.dK ws)) (cellSet ρ i (.dct kvs)) := by
  rw [cellSet_eq]
  have hd : hid Z M l := .inr ⟨i, hm⟩
  have gv : Grow (veil (hid Z M) H) (veil (hid Z M) (upd H l (.dK ws))) := fun a o h => by
    obtain ⟨h1, h2⟩ := veil_off h
    exact veil_on h1 ((upd_ne fun e => h1 (by rw [e]; exact hd)).trans h2)
  have nn : ∀ a, H a ≠ none → (upd H l (.dK ws)) a ≠ none := fun a h => by
    by_cases e : a = l
    · rw [e, upd_same]
      intro z; cases z
    · rw [upd_ne e]
      exact h
  refine ⟨by rw [List.length_set]; exact E.len, E.inj, fun j u m => nn u (E.live j u m), E.off, fun a z => nn a (E.zl a z), fun a o nb h => ?_, E.own, E.m0, E.anch.trans gv, fun j c hc => ?_⟩
  · have ne : a ≠ l := fun e => by
      rcases E.own i l hm with b | n
      · exact nb (e ▸ b)
      · rw [e, n] at h
        cases h
    rw [upd_ne ne]
    exact E.ext a o nb h
  · rcases set_at hc with ⟨rfl, hk, rfl⟩ | ⟨ne, hc⟩
    · exact ⟨l, ws, hs, hm, upd_same, kvs_grow gv r⟩
    · exact (E.cell j c hc).grow gv fun u m o ho => (upd_ne fun e => ne (E.inj i j l hm (by rw [← e]; exact m))).trans ho
end
section
variable {K : PySem.W.Frag}
theorem s_asgD {i : Nat} : SimS K (tAsg tDNewK (gName i)) (pAsgD i) := fun B Z A H0 M σ H ρ D G E h C p hp => C.nx _ _ _ _ (E.setK h.1 hp) h.2
theorem s_putD {i : Nat} {tk tv : TE} {pk pv : PE'} (sk : Sim K tk pk) (sv : Sim K tv pv) : SimS K (sDPut (tVar i) tk tv) (pPutD i pk pv) := fun B Z A H0 M σ H ρ D G E h C =>
  sv B Z A H0 M σ H ρ _ E h _ fun v d ρ1 H1 h1 E1 d1 => by
    obtain ⟨kvs, hc, h2⟩ := asDct_of h1
    obtain ⟨l, ws, e, m, hl, r⟩ := dct_at E1 hc
    refine ⟨.ref l, e, sk B Z _ H0 M σ H1 ρ1 _ E1.anchor h2 _ fun u k ρ2 H2 h3 E2 d2 => ?_⟩
    obtain ⟨n, rfl, h4⟩ := asI_of h3
    obtain ⟨kvs2, hc2, h5, h6⟩ := asDct_of h4
    obtain ⟨l2, ws2, e2, m2, hl2, r2⟩ := dct_at E2 hc2
    rw [m] at m2
    cases m2
    rw [of_int d2]
    refine ⟨l, _, rfl, DPut.k (k := Sum.inl n) hl2 (Nat.lt_of_lt_of_le (by rw [kvs_len r2]; exact h5) (by decide)), ?_⟩
    exact C.nx M σ _ _ ((E2.weak E1.anch).putKv (by rw [e2]; rfl) m (kvs_put (dp_grow E2.anch _ _ d1) r2)) h6
theorem sim_getD {i : Nat} {tk tx : TE} {pk px : PE'} (sk : Sim K tk pk) (sx : Sim K tx px) : Sim K (tDGet2 (tVar i) tk tx) (pGetD i pk px) := fun B Z A H0 M σ H ρ R E h Q q => by
  obtain ⟨kvs, hc, h⟩ := asDct_of h
  obtain ⟨l, ws, e, m, hl, r⟩ := dct_at E hc
  refine ⟨.ref l, e, l, rfl, .inl ⟨ws, .inl hl⟩, ?_⟩
  refine two sk sx E h fun v w x y ρ2 H2 h2 E2 d1 d2 => ?_
  obtain ⟨n, rfl, h3⟩ := asI_of h2
  obtain ⟨kvs2, hc2, h4⟩ := asDct_of h3
  obtain ⟨l2, ws2, e2, m2, hl2, r2⟩ := dct_at E2 hc2
  rw [m] at m2
  cases m2
  rw [of_int d1]
  refine ⟨valV ws2 (.inl n), DGet.k (k := Sum.inl n) hl2, ?_⟩
  rcases kvs_get (n := n) r2 with ⟨g1, g2⟩ | ⟨d, u, g1, g2, du⟩
  · rw [g2]
    rw [g1] at h4
    exact q _ _ _ _ h4 E2 d2
  · rw [g2]
    rw [g1] at h4
    exact q _ _ _ _ h4 E2 du
theorem sim_itemsD {i : Nat} : Sim K (LiI.tListItems (tVar i)) (pNew (pItemsD i)) := fun B Z A H0 M σ H ρ R E h Q q => by
  obtain ⟨kvs, hc, hz, h⟩ := asDct_of h
  obtain ⟨l, ws, e, m, hl, r⟩ := dct_at E hc
  refine ⟨.ref l, e, l, ws, rfl, hl, fun H' p ts g hp ht np hP hpair => ?_⟩
  have E2 := E.grown g
  refine q _ _ ρ H' h E2 (.lst (veil_on (E.veiled hp) hP) ?_)
  have gv := grow_veil (Z := hid Z M) g
  have go : ∀ {ts : List Addr} {ws : List (Key × V)} {kvs : List (Int × PyData)}, (∀ t ∈ ts, H t = none) → Paired (fun (t : Addr) (q : Key × V) => H' t = some (.tup [kV q.1, q.2])) ts ws → Kvs K (veil (hid Z M) H) ws kvs →
      Dqs K (veil (hid Z M) H') (ts.map V.ref) (kvs.map fun kv => .tuple [.int kv.1, kv.2]) := fun {ts} => by
    induction ts with
    | nil =>
      intro ws kvs _ hp hr
      cases hp
      cases hr
      exact .nil
    | cons t ts ih =>
      intro ws kvs hn hp hr
      cases hp with
      | cons h1 h2 =>
        cases hr with
        | cons hd hr => exact .cons (.tup (.of (veil_on (E.veiled (hn t List.mem_cons_self)) h1)) (.cons (.int _) (.cons (dp_grow gv _ _ hd) .nil))) (ih (fun t m => hn t (List.mem_cons_of_mem _ m)) h2 hr)
  exact go ht hpair r
end

/-! ### sums, all, lcm, min, products -/
def rSum2 (K : PySem.W.Frag) : List V → Hp → VK → Prop := fun vs H Q => ∃ (a : Addr) (ns : List Int), vs = [V.ref a] ∧ (SqL K H a (ns.map V.int) ∨ SqT K H a (ns.map V.int)) ∧ Q (.int ns.sum) H
theorem c_sum {X : Cx} (hc : X.calm = true) : CallR X (.builtin "sum") (rSum2 X.K) := by
  intro pins s σ H vs us Q I r h
  obtain ⟨a, ns, rfl, hs | hs, q⟩ := h
  · exact cr_sum hc pins s σ H _ us Q I r ⟨a, ns, rfl, hs, q⟩
  · obtain ⟨its, rv, ht, _⟩ := I.tuple hs
    rw [Vals.ref1 r]
    have hi := ints_of_vals rv
    obtain ⟨xs, e⟩ := hi.allInts.items
    have hn : PySem.numsOf (intItems xs).toList = ns := by rw [← e]; exact hi.numsOf
    rw [PySem.nums_intItems] at hn
    rw [e] at ht
    refine PySem.W.ktm_sumG (I.ok.hd hc) ht fun h' tk t' hk => ?_
    rw [PySem.preSum_eq, List.take_of_length_le (by simp), hn]
    exact ⟨.int _, H, I.kept hk, ⟨_, rfl⟩, q⟩
def intsOf : List PyData → Option (List Int)
  | [] => some []
  | .int i :: r => (intsOf r).map (i :: ·)
  | _ => none
theorem intsOf_eq : ∀ {ds : List PyData} {ns : List Int}, intsOf ds = some ns → ds = ns.map PyData.int
  | [], ns, h => by cases h; rfl
  | .int i :: r, ns, h => by
    unfold intsOf at h
    cases e : intsOf r with
    | none => rw [e] at h; cases h
    | some ms =>
      rw [e] at h
      cases h
      rw [intsOf_eq e]
      rfl
  | .none :: _, _, h => by cases h
  | .bool _ :: _, _, h => by cases h
  | .str _ :: _, _, h => by cases h
  | .list _ :: _, _, h => by cases h
  | .tuple _ :: _, _, h => by cases h
  | .dict _ :: _, _, h => by cases h
theorem intsOf_map : ∀ ns : List Int, intsOf (ns.map PyData.int) = some ns
  | [] => rfl
  | n :: ns => by
    show (intsOf (ns.map PyData.int)).map (n :: ·) = _
    rw [intsOf_map ns]
    rfl
def fSum : FS := fun ds k => match ds with
  | [d] => asS d fun xs => ∃ ns, intsOf xs = some ns ∧ k (.int ns.sum)
  | _ => False
theorem fSum_of {ds : List PyData} {k : PyData → Prop} (h : fSum ds k) : ∃ ns : List Int, (ds = [.list (ns.map PyData.int)] ∨ ds = [.tuple (ns.map PyData.int)]) ∧ k (.int ns.sum) := by
  unfold fSum at h
  split at h
  · rename_i d
    cases d with
    | list xs =>
      obtain ⟨ns, e, h⟩ := h
      rw [intsOf_eq e]
      exact ⟨ns, .inl rfl, h⟩
    | tuple xs =>
      obtain ⟨ns, e, h⟩ := h
      rw [intsOf_eq e]
      exact ⟨ns, .inr rfl, h⟩
    | _ => exact h.elim
  · exact h.elim
/-- all(xs), xs a list of truth values -/
def boolsOf : List PyData → Option (List Bool)
  | [] => some []
  | .bool i :: r => (boolsOf r).map (i :: ·)
  | _ => none
theorem boolsOf_eq : ∀ {ds : List PyData} {ns : List Bool}, boolsOf ds = some ns → ds = ns.map PyData.bool
  | [], ns, h => by cases h; rfl
  | .bool i :: r, ns, h => by
    unfold boolsOf at h
    cases e : boolsOf r with
    | none => rw [e] at h; cases h
    | some ms =>
      rw [e] at h
      cases h
      rw [boolsOf_eq e]
      rfl
  | .none :: _, _, h => by cases h
  | .int _ :: _, _, h => by cases h
  | .str _ :: _, _, h => by cases h
  | .list _ :: _, _, h => by cases h
  | .tuple _ :: _, _, h => by cases h
  | .dict _ :: _, _, h => by cases h
theorem boolsOf_map : ∀ ns : List Bool, boolsOf (ns.map PyData.bool) = some ns
  | [] => rfl
  | n :: ns => by
    show (boolsOf (ns.map PyData.bool)).map (n :: ·) = _
    rw [boolsOf_map ns]
    rfl
def fAll : FS := fun ds k => match ds with
  | [d] => asL d fun xs => ∃ ns, boolsOf xs = some ns ∧ k (.bool (ns.all id))
  | _ => False
theorem fAll_of {ds : List PyData} {k : PyData → Prop} (h : fAll ds k) : ∃ ns : List Bool, ds = [.list (ns.map PyData.bool)] ∧ k (.bool (ns.all id)) := by
  unfold fAll at h
  split at h
  · rename_i d
    cases d with
    | list xs =>
      obtain ⟨ns, e, h⟩ := h
      rw [boolsOf_eq e]
      exact ⟨ns, rfl, h⟩
    | _ => exact h.elim
  · exact h.elim
/-- lcm of two numbers below 2 ^ 64 -/
def rLcm : List V → Hp → VK → Prop := fun vs H Q => ∃ a b : Int, vs = [.int a, .int b] ∧ a.natAbs < 2 ^ 64 ∧ b.natAbs < 2 ^ 64 ∧ Q (.int ((Nat.lcm a.natAbs b.natAbs : Nat) : Int)) H
theorem lcm_small {m n : Nat} (hm : m < 2 ^ 64) (hn : n < 2 ^ 64) : (Nat.lcm m n).log2 < PySem.bitsLine := by
  have h1 : Nat.lcm m n ≤ m * n := Nat.div_le_self _ _
  have h2 : m * n ≤ 2 ^ 64 * 2 ^ 64 := Nat.mul_le_mul (Nat.le_of_lt hm) (Nat.le_of_lt hn)
  have h3 : Nat.lcm m n < 2 ^ 129 := Nat.lt_of_le_of_lt (Nat.le_trans h1 h2) (by decide)
  have h4 : (129 : Nat) < PySem.bitsLine := by decide
  by_cases z : Nat.lcm m n = 0
  · rw [z]
    exact Nat.lt_of_le_of_lt (by decide) h4
  · exact Nat.lt_trans ((Nat.log2_lt z).mpr h3) h4
theorem c_lcm {X : Cx} : CallR X (.builtin "math.lcm") rLcm := by
  intro pins s σ H vs us Q I r h
  obtain ⟨a, b, rfl, ha, hb, q⟩ := h
  obtain ⟨t, u, rfl⟩ := Vals.int2 r
  refine PySem.W.mg_lcm_v ha hb (c := ((Nat.lcm a.natAbs b.natAbs : Nat) : Int)) (by rw [Nat.lcm_one_left]) (by simpa using lcm_small ha hb) ⟨.int _, H, I.tok _, ⟨_, rfl⟩, q⟩
def fLcm : FS := fun ds k => match ds with
  | [.int a, .int b] => a.natAbs < 2 ^ 64 ∧ b.natAbs < 2 ^ 64 ∧ k (.int ((Nat.lcm a.natAbs b.natAbs : Nat) : Int))
  | _ => False
theorem fLcm_of {ds : List PyData} {k : PyData → Prop} (h : fLcm ds k) : ∃ a b : Int, ds = [.int a, .int b] ∧ a.natAbs < 2 ^ 64 ∧ b.natAbs < 2 ^ 64 ∧ k (.int ((Nat.lcm a.natAbs b.natAbs : Nat) : Int)) := by
  unfold fLcm at h
  split at h
  · exact ⟨_, _, rfl, h⟩
  · exact h.elim
def rMin2 : List V → Hp → VK → Prop := fun xs H Q => ∃ i j, xs = [.int i, .int j] ∧ Q (.int (if j < i then j else i)) H
theorem c_min2 {X : Cx} (hc : X.calm = true) : CallR X (.builtin "min") rMin2 := call_min2 hc
def fMin2 : FS := fun ds k => match ds with
  | [.int a, .int b] => k (.int (if b < a then b else a))
  | _ => False
theorem fMin2_of {ds : List PyData} {k : PyData → Prop} (h : fMin2 ds k) : ∃ a b : Int, ds = [.int a, .int b] ∧ k (.int (if b < a then b else a)) := by
  unfold fMin2 at h
  split at h
  · exact ⟨_, _, rfl, h⟩
  · exact h.elim
/-- * of two ints, of a tuple or a list and an int -/
def rTimes (K : PySem.W.Frag) : R2 := fun x y H Q => rI CMul (fun i j => .int (i * j)) x y H Q ∨ rRepT K x y H Q ∨ rRep x y H Q
theorem op_times {X : Cx} : OpR X (binaryOp .Mult) (rTimes X.K) := either op_mul (either op_repT op_rep)
def timesD (x y : PyData) (k : PyData → Prop) : Prop := match x, y with
  | .int i, .int j => CMul i j ∧ k (.int (i * j))
  | .tuple xs, .int j => xs ≠ [] ∧ 2 ≤ j ∧ j ≤ 1000 ∧ xs.length ≤ 100 ∧ k (.tuple (List.replicate j.toNat xs).flatten)
  | .list xs, .int j => 0 ≤ j ∧ j ≤ 1000 ∧ xs.length ≤ 100 ∧ k (.list (List.replicate j.toNat xs).flatten)
  | _, _ => False
def pTimes (pa pb : PE') : PE' := fun ρ R => pa ρ fun x ρ1 => pb ρ1 fun y ρ2 => timesD x y fun d => R d ρ2
section
variable {K : PySem.W.Frag}
theorem dqs_rep {H : Hp} {vs : List V} {ds : List PyData} (r : Dqs K H vs ds) : ∀ n : Nat, Dqs K H (List.replicate n vs).flatten (List.replicate n ds).flatten
  | 0 => .nil
  | n + 1 => by
    rw [List.replicate_succ, List.replicate_succ, List.flatten_cons, List.flatten_cons]
    exact dqs_app r (dqs_rep r n)
theorem sim_times {ta tb : TE} {pa pb : PE'} (sa : Sim K ta pa) (sb : Sim K tb pb) : Sim K (tOp (rTimes K) ta tb) (pTimes pa pb) := fun B Z A H0 M σ H ρ R E h Q q =>
  two sa sb E h fun v w x y ρ2 H2 h2 E2 d1 d2 => by
    cases x with
    | int i =>
      cases y with
      | int j =>
        rw [of_int d1, of_int d2]
        exact .inl ⟨i, j, rfl, rfl, h2.1, q _ _ _ _ h2.2 E2 (.int _)⟩
      | _ => exact h2.elim
    | tuple xs =>
      cases y with
      | int j =>
        obtain ⟨h3, h4, h5, h6, h7⟩ := h2
        rw [of_int d2]
        cases d1 with
        | @tup a vs _ hl r =>
          refine .inr (.inl ⟨a, j, vs, rfl, rfl, grow_t (veil_grow _ _) hl, fun e => h3 ?_, h4, h5, by rw [dqs_len r]; omega, fun p hp => q _ _ _ _ h7 (E2.grown (grow_new hp)) (.new (E2.veiled hp) hp (dqs_rep r _))⟩)
          subst e
          exact nil_of r
      | _ => exact h2.elim
    | list xs =>
      cases y with
      | int j =>
        obtain ⟨h3, h4, h5, h6⟩ := h2
        rw [of_int d2]
        cases d1 with
        | @lst a vs _ hl r =>
          refine .inr (.inr ⟨a, j, vs, rfl, rfl, veil_grow _ _ _ _ hl, by omega, by omega, sz5 ?_, fun p hp => q _ _ _ _ h6 (E2.grown (grow_new hp)) (.newL (E2.veiled hp) hp (dqs_rep r _))⟩)
          rw [dqs_len r]
          have : xs.length * j.toNat ≤ 100 * 1000 := Nat.mul_le_mul h5 (by omega)
          omega
      | _ => exact h2.elim
    | _ => exact h2.elim
theorem sim_sum {ta : TA} {pa : PA'} (sa : SimA K ta pa) : Sim K (tCB (rSum2 K) ta) (pFn fSum pa) := fun B Z A H0 M σ H ρ R E h Q q =>
  sa B Z A H0 M σ H ρ _ E h _ fun vs ds ρ1 H1 h1 E1 d1 => by
    obtain ⟨ns, rfl | rfl, h2⟩ := fSum_of h1
    · obtain ⟨v, rfl, dv⟩ := one_of d1
      cases dv with
      | lst hl r =>
        have e := dqs_of_ints r
        subst e
        exact ⟨_, ns, rfl, .inl (.of (veil_grow _ _ _ _ hl)), q _ _ _ _ h2 E1 (.int _)⟩
    · obtain ⟨v, rfl, dv⟩ := one_of d1
      cases dv with
      | tup hl r =>
        have e := dqs_of_ints r
        subst e
        exact ⟨_, ns, rfl, .inr (grow_t (veil_grow _ _) hl), q _ _ _ _ h2 E1 (.int _)⟩
theorem dqs_of_bools {H : Hp} : ∀ {vs : List V} {ns : List Bool}, Dqs K H vs (ns.map PyData.bool) → vs = ns.map V.bl
  | _, [], .nil => rfl
  | _, n :: ns, .cons (.bl _) r => congrArg (V.bl n :: ·) (dqs_of_bools r)
theorem sim_all {ta : TA} {pa : PA'} (sa : SimA K ta pa) : Sim K (tCB (rAll K) ta) (pFn fAll pa) := fun B Z A H0 M σ H ρ R E h Q q =>
  sa B Z A H0 M σ H ρ _ E h _ fun vs ds ρ1 H1 h1 E1 d1 => by
    obtain ⟨ns, rfl, h2⟩ := fAll_of h1
    obtain ⟨v, rfl, dv⟩ := one_of d1
    cases dv with
    | lst hl r =>
      have e := dqs_of_bools r
      subst e
      exact ⟨_, ns, rfl, .of (veil_grow _ _ _ _ hl), q _ _ _ _ h2 E1 (.bl _)⟩
theorem two_of {H : Hp} {vs : List V} {d e : PyData} (r : Dqs K H vs [d, e]) : ∃ v w, vs = [v, w] ∧ Dq K H v d ∧ Dq K H w e := by
  cases r with
  | cons h r =>
    obtain ⟨w, rfl, hw⟩ := one_of r
    exact ⟨_, w, rfl, h, hw⟩
theorem sim_lcm {ta : TA} {pa : PA'} (sa : SimA K ta pa) : Sim K (tCB rLcm ta) (pFn fLcm pa) := fun B Z A H0 M σ H ρ R E h Q q =>
  sa B Z A H0 M σ H ρ _ E h _ fun vs ds ρ1 H1 h1 E1 d1 => by
    obtain ⟨a, b, rfl, ha, hb, h2⟩ := fLcm_of h1
    obtain ⟨v, w, rfl, dv, dw⟩ := two_of d1
    rw [of_int dv, of_int dw]
    exact ⟨a, b, rfl, ha, hb, q _ _ _ _ h2 E1 (.int _)⟩
theorem sim_min2 {ta : TA} {pa : PA'} (sa : SimA K ta pa) : Sim K (tCB rMin2 ta) (pFn fMin2 pa) := fun B Z A H0 M σ H ρ R E h Q q =>
  sa B Z A H0 M σ H ρ _ E h _ fun vs ds ρ1 H1 h1 E1 d1 => by
    obtain ⟨a, b, rfl, h2⟩ := fMin2_of h1
    obtain ⟨v, w, rfl, dv, dw⟩ := two_of d1
    rw [of_int dv, of_int dw]
    exact ⟨a, b, rfl, q _ _ _ _ h2 E1 (.int _)⟩
end
end Pu
namespace Pu
open PySem L2
/-! divmod, list of a value, a list's item changed in place, a statement that is not reached -/
def rDivmod : List V → Hp → VK → Prop := fun xs H Q => ∃ i j, xs = [.int i, .int j] ∧ CDiv i j ∧ ∀ p, H p = none → Q (.ref p) (upd H p (.tup [.int (i / j), .int (i % j)]))
theorem c_divmod {X : Cx} : CallR X (.builtin "divmod") rDivmod := call_divmod
def fDivmod : FS := fun ds k => match ds with
  | [.int i, .int j] => CDiv i j ∧ k (.tuple [.int (i / j), .int (i % j)])
  | _ => False
theorem fDivmod_of {ds : List PyData} {k : PyData → Prop} (h : fDivmod ds k) : ∃ a b : Int, ds = [.int a, .int b] ∧ CDiv a b ∧ k (.tuple [.int (a / b), .int (a % b)]) := by
  unfold fDivmod at h
  split at h
  · exact ⟨_, _, rfl, h.1, h.2⟩
  · exact h.elim
/-- any statement, where the reading never comes to it -/
theorem ps_dead {X : Cx} {st : Stmt} : PS X st (fun _ _ _ => False) := ⟨fun _ _ _ _ _ _ z => z.elim⟩
/-- an item of a list, read to be changed -/
theorem get_item {X : Cx} : PGet X (rIxL X.K) := fun pins s σ H o i ov iv Q I ro ri h => by
  obtain ⟨p, xs, k, z, rfl, rfl, hq, hz, q⟩ := h
  cases ro
  obtain ⟨t, rfl⟩ := ri
  obtain ⟨its, r, pl, hs⟩ := I.list hq
  obtain ⟨j, e1, e2, e3, e4, e5⟩ := atI_get hz
  obtain ⟨w, ew, rw'⟩ := r.get e2
  have len := r.length
  have big := line63
  have done : EP X pins σ Q w s := ⟨z, H, I, rw', q⟩
  by_cases k0 : 0 ≤ k
  · have ej : k.toNat = j := Option.some.inj ((seqIndex_of k0 e5).symm.trans e1)
    exact wpAny_getItem_list pl.isList k0 (by omega) (by rw [ej]; simpa using ew) done
  · have ej : (k + (its.toArray.size : Int)).toNat = j := by
      rw [List.size_toArray, ← len]
      exact Option.some.inj ((seqIndex_neg (by omega) e4).symm.trans e1)
    exact wpAny_getItem_list_neg pl.isList (by omega) (by rw [List.size_toArray]; omega) (by omega) (by rw [ej]; simpa using ew) done
section
variable {K : PySem.W.Frag}
theorem sim_divmod {ta : TA} {pa : PA'} (sa : SimA K ta pa) : Sim K (tCB rDivmod ta) (pFn fDivmod pa) := fun B Z A H0 M σ H ρ R E h Q q =>
  sa B Z A H0 M σ H ρ _ E h _ fun vs ds ρ1 H1 h1 E1 d1 => by
    obtain ⟨a, b, rfl, hc, h2⟩ := fDivmod_of h1
    obtain ⟨v, w, rfl, dv, dw⟩ := two_of d1
    rw [of_int dv, of_int dw]
    exact ⟨a, b, rfl, hc, fun p hp => q _ _ _ _ h2 (E1.grown (grow_new hp)) (.new (E1.veiled hp) hp (dqs_ints (ns := [a / b, a % b])))⟩
/-- list(x) of a tuple or of a list -/
def rListOf (K : PySem.W.Frag) : List V → Hp → VK → Prop := fun xs H Q => ∃ p ys, xs = [.ref p] ∧ (SqL K H p ys ∨ SqT K H p ys) ∧ ∀ l, H l = none → Q (.ref l) (upd H l (.lst ys))
theorem c_listOf {X : Cx} : CallR X (.type "list") (rListOf X.K) := call_list_of
def pListOf (pa : PE') : PA' := fun ρ R => pa ρ fun x ρ1 => asS x fun ds => R ds ρ1
theorem sim_listOf {ta : TE} {pa : PE'} (sa : Sim K ta pa) : SimL K (tCB (rListOf K) (tCons ta tNil)) (pListOf pa) := fun B Z A H0 M σ H ρ R E h Q q =>
  sa B Z A H0 M σ H ρ _ E h _ fun v x ρ1 H1 h1 E1 d1 => by
    cases x with
    | list ds =>
      cases d1 with
      | @lst a vs _ hs r => exact ⟨a, vs, rfl, .inl (.of (veil_grow _ _ _ _ hs)), fun l hl => q l vs ds ρ1 H1 h1 E1 hl r⟩
    | tuple ds =>
      cases d1 with
      | @tup a vs _ hs r => exact ⟨a, vs, rfl, .inr (grow_t (veil_grow _ _) hs), fun l hl => q l vs ds ρ1 H1 h1 E1 hl r⟩
    | _ => exact h1.elim
/-- a statement that is not reached -/
def pDead : PS' := fun _ _ => False
theorem s_dead : SimS K (fun _ _ _ => False) pDead := fun _ _ _ _ _ _ _ _ _ _ _ h => h.elim
/-- xs[i] += e of a list of the def's own -/
def pAugI (i : Nat) (f : Int → Int → Int) (pb pv : PE') : PS' := fun G ρ => asOwn (cellAt ρ i) fun _ => pb ρ fun y ρ1 => asI y fun j => asOwn (cellAt ρ1 i) fun ds => asO (atI ds j) fun x => asI x fun a =>
  pv ρ1 fun w ρ2 => asI w fun b => asOwn (cellAt ρ2 i) fun ds2 => ∃ m, ixN ds2.length j = some m ∧ G.nx (cellSet ρ2 i (.own (ds2.set m (.int (f a b)))))
theorem dqs_setA {H : Hp} {v : V} {d : PyData} (h : Dq K H v d) : ∀ {vs : List V} {ds : List PyData} (m : Nat), Dqs K H vs ds → Dqs K H (vs.set m v) (ds.set m d)
  | _, _, _, .nil => .nil
  | _, _, 0, .cons _ r => .cons h r
  | _, _, m + 1, .cons h1 r => .cons h1 (dqs_setA h m r)
theorem s_augI {i : Nat} {tb tv : TE} {pb pv : PE'} {f : Int → Int → Int} (sb : Sim K tb pb) (sv : Sim K tv pv) : SimS K (tAugS (tVar i) tb tv (rIxL K) (ipI f) L2.rSetL) (pAugI i f pb pv) := fun B Z A H0 M σ H ρ D G E h C => by
  obtain ⟨ds, hc, h⟩ := asOwn_of h
  obtain ⟨l, vs, e, m, hl, r⟩ := own_at E hc
  refine ⟨.ref l, e, sb B Z A H0 M σ H ρ _ E h _ fun w y ρ1 H1 h1 E1 d1 => ?_⟩
  obtain ⟨j, rfl, h2⟩ := asI_of h1
  rw [of_int d1]
  obtain ⟨ds1, hc1, h2⟩ := asOwn_of h2
  obtain ⟨l1, vs1, e1, m1, hl1, r1⟩ := own_at E1 hc1
  rw [m] at m1
  cases m1
  obtain ⟨x, hx, h3⟩ := asO_of h2
  obtain ⟨a, rfl, h3⟩ := asI_of h3
  obtain ⟨u, hu, du⟩ := at_dq r1 hx
  rw [of_int du] at hu
  refine ⟨l, vs1, j, .int a, rfl, rfl, .of hl1, hu, sv B Z A H0 M σ H1 ρ1 _ E1 h3 _ fun w2 y2 ρ2 H2 h4 E2 d2 => ?_⟩
  obtain ⟨b, rfl, h5⟩ := asI_of h4
  rw [of_int d2]
  obtain ⟨ds2, hc2, n, hn, h6⟩ := asOwn_of h5
  obtain ⟨l2, vs2, e2, m2, hl2, r2⟩ := own_at E2 hc2
  rw [m] at m2
  cases m2
  refine ⟨a, b, rfl, rfl, l, vs2, j, n, rfl, rfl, hl2, by rw [dqs_len r2]; exact hn, ?_⟩
  exact C.nx M σ _ _ (E2.putO (by rw [e2]; rfl) m (dqs_setA (.int (f a b)) n r2) (by rw [hc2]; intro z; cases z)) h6
end
end Pu
namespace Pu
open PySem L2
/-! dicts as data: returned by a def, read at a key -/
def keyEq : PyData → PyData → Bool
  | .int a, .int b => decide (a = b)
  | .str a, .str b => decide (a = b)
  | _, _ => false
theorem keyEq_key (k l : Key) : keyEq (keyD k) (keyD l) = decide (k = l) := by
  cases k <;> cases l <;> simp [keyD, keyEq]
def findK : List (PyData × PyData) → PyData → Option PyData
  | [], _ => none
  | (k, d) :: r, x => if keyEq k x = true then some d else findK r x
theorem key_of : ∀ {kvs : List (PyData × PyData)} {x d : PyData}, findK kvs x = some d → ∃ k : Key, x = keyD k
  | [], _, _, h => by cases h
  | (k, d) :: r, x, e, h => by
    unfold findK at h
    by_cases z : keyEq k x = true
    · cases k <;> cases x <;> first | exact ⟨.inl _, rfl⟩ | exact ⟨.inr _, rfl⟩ | cases z
    · rw [if_neg z] at h
      exact key_of h
def asK : PyData → (List (PyData × PyData) → Prop) → Prop
  | .dict kvs, k => k kvs
  | _, _ => False
theorem asK_of {d : PyData} {k : List (PyData × PyData) → Prop} (h : asK d k) : ∃ x, d = .dict x ∧ k x := by
  cases d <;> first | exact ⟨_, rfl, h⟩ | exact h.elim
section
variable {K : PySem.W.Frag}
theorem dks_get {H : Hp} {k : Key} {d : PyData} : ∀ {ws : List (Key × V)} {kvs : List (PyData × PyData)}, Dks K H ws kvs → findK kvs (keyD k) = some d → ∃ v, valV ws k = some v ∧ Dq K H v d
  | _, _, .nil, h => by cases h
  | (k0, v0) :: ws, _, .cons h0 r, h => by
    unfold findK at h
    rw [keyEq_key] at h
    unfold valV
    by_cases z : k0 = k
    · rw [if_pos (by simpa using z)] at h
      rw [List.find?_cons_of_pos (by simpa using z)]
      exact ⟨v0, rfl, Option.some.inj h ▸ h0⟩
    · rw [if_neg (by simpa using z)] at h
      rw [List.find?_cons_of_neg (by simpa using z)]
      exact dks_get r h
def pGetK (pa pk : PE') : PE' := fun ρ R => pa ρ fun x ρ1 => pk ρ1 fun y ρ2 => asK x fun kvs => asO (findK kvs y) fun d => R d ρ2
theorem sim_getK {ta tb : TE} {pa pb : PE'} (sa : Sim K ta pa) (sb : Sim K tb pb) : Sim K (tDGet ta tb) (pGetK pa pb) := fun B Z A H0 M σ H ρ R E h Q q =>
  two sa sb E h fun v w x y ρ2 H2 h2 E2 d1 d2 => by
    obtain ⟨kvs, rfl, h3⟩ := asK_of h2
    obtain ⟨d, hd, h4⟩ := asO_of h3
    obtain ⟨k, rfl⟩ := key_of hd
    cases d1 with
    | @dct a ws _ hs r =>
      obtain ⟨u, hu, du⟩ := dks_get r hd
      have ew : w = kV k := by
        cases k with
        | inl n => exact of_int d2
        | inr z => cases d2; rfl
      refine ⟨a, u, rfl, ?_, q _ _ _ _ h4 E2 du⟩
      rw [ew, ← hu]
      exact DGet.k (veil_grow _ _ _ _ hs)
    | ob hc hl r => cases k <;> cases hd
/-- a dict of the def's own, returned -/
def dctD (kvs : List (Int × PyData)) : PyData := .dict (kvs.map fun kv => (.int kv.1, kv.2))
def pRetD (i : Nat) : PS' := fun G ρ => asDct (cellAt ρ i) fun kvs => G.rt (dctD kvs) ρ
theorem kvs_dks {H : Hp} : ∀ {ws : List (Key × V)} {kvs : List (Int × PyData)}, Kvs K H ws kvs → Dks K H ws (kvs.map fun kv => (.int kv.1, kv.2))
  | _, _, .nil => .nil
  | _, _, .cons h r => .cons (k := .inl _) h (kvs_dks r)
theorem s_retD {i : Nat} (hi : i ≠ 0 := by decide) : SimS K (tRet (tVar i)) (pRetD i) := fun B Z A H0 M σ H ρ D G E h C => by
  obtain ⟨kvs, hc, h⟩ := asDct_of h
  obtain ⟨l, ws, e, m, hl, r⟩ := dct_at E hc
  exact ⟨.ref l, e, C.rt M σ H ρ _ _ E h (.dct (veil_on (fun z => z.elim (E.off i l m) fun b => hi (E.inj i 0 l m (E.m0 l b))) hl) (kvs_dks (kvs_grow (hid_zb E) r)))⟩
end
end Pu
namespace Pu
open PySem L2
/-! isinstance(x, T) where it is so; a loop down a range; a key of the def's own dict; an item of the def's own list set -/
def pIsi (T : String) (pa : PE') : PE' := fun ρ R => pa ρ fun x ρ1 => tyN x = T ∧ R (.bool true) ρ1
section
variable {K : PySem.W.Frag}
theorem tyX_of {Z : Addr → Prop} {H : Hp} {v : V} {d : PyData} (h : Dq K (veil Z H) v d) (no : noO d = true) : TyX K H v (.type (tyN d)) := by
  cases h with
  | ob hc hl r => cases no
  | non => exact .base .non
  | bl b => exact .base (.bl b)
  | int i => exact .base (.int i)
  | str x => exact .base (.str x)
  | lst h r => exact .base (.lst (veil_grow _ _ _ _ h))
  | tup h r =>
    rcases grow_t (veil_grow _ _) h with (h | ⟨o, h⟩) | ⟨o, its, n, h1, h2, _⟩
    · exact .base (.tup h)
    · exact .fTuple h
    · exact .kTuple h1 h2
  | dct h r => rw [dks_ty r]; exact .base (.dK (veil_grow _ _ _ _ h))
theorem sim_isi {ta : TE} {pa : PE'} {T : String} (hk : PySem.W.kitOne K (.type T) (.type T) = some true) (sa : Sim K ta pa) (nT : T ≠ "object" := by decide) : Sim K (tCB (rIsi K) (tCons ta (tCons (tC (.ty T)) tNil))) (pIsi T pa) := fun B Z A H0 M σ H ρ R E h Q q =>
  sa B Z A H0 M σ H ρ _ E h _ fun v x ρ1 H1 h1 E1 d1 => ⟨v, .ty T, .type T, .type T, true, rfl, .ty T, h1.1 ▸ tyX_of d1 (noO_of (by rw [h1.1]; exact nT)), hk, q _ _ _ _ h1.2 E1 (.bl true)⟩
/-- for x in reversed(range(a, b)) -/
def pRev (pa pb : PE') (pg : PG') (pd : PS') : PS' := fun G ρ => pa ρ fun x ρ1 => pb ρ1 fun y ρ2 => asI x fun a => asI y fun b => (-(2 ^ 62) ≤ a ∧ a < 2 ^ 62 ∧ -(2 ^ 62) ≤ b ∧ b < 2 ^ 62) ∧
  ∃ I : Nat → En → Prop, I 0 ρ2 ∧ (∀ i ρ, i < (b - a).toNat → I i ρ → pg (.int (a + (((b - a).toNat : Nat) : Int) - 1 + (i : Int) * -1)) ρ fun ρ3 => pd { G with nx := I (i + 1), ct := I (i + 1), bk := G.nx } ρ3) ∧ (∀ ρ, I (b - a).toNat ρ → G.nx ρ)
theorem s_rev {ta tb : TE} {g : TG} {td : TS} {pa pb : PE'} {pg : PG'} {pd : PS'} (sa : Sim K ta pa) (sb : Sim K tb pb) (sg : SimG K g pg) (sd : SimS K td pd) : SimS K (tFor (iRevR (tRg2 ta tb)) g td) (pRev pa pb pg pd) := fun B Z A H0 M σ H ρ D G E h C =>
  two sa sb E h fun v w x y ρ2 H2 h2 E2 d1 d2 => by
    obtain ⟨a, rfl, h3⟩ := asI_of h2
    obtain ⟨b, rfl, hb, I, i0, is, ie⟩ := asI_of h3
    rw [of_int d1, of_int d2]
    refine ⟨a, b, rfl, rfl, hb.1, hb.2.1, hb.2.2.1, hb.2.2.2, for_rangeC (fun i σ' H' => ∃ M' ρ', EnvR K B Z (veil (hid Z M) H2) H0 M' σ' H' ρ' ∧ I i ρ') ⟨M, ρ2, E2.anchor, i0⟩ (fun i σ' H' hlt ⟨M', ρ', E', hI⟩ => ?_)
      fun σ' H' ⟨M', ρ', E', hI⟩ => C.nx M' σ' H' ρ' (E'.weak E2.anch) (ie ρ' hI)⟩
    exact sg B Z _ H0 M' σ' H' ρ' _ _ _ E' (.int _) (is i ρ' (by omega) hI) _ fun σ2 ρ3 hR E3 => sd B Z _ H0 M' σ2 H' ρ3 _ _ E3 hR
      ⟨fun M σ H ρ E h => ⟨M, ρ, E, h⟩, fun M σ H ρ E h => C.nx M σ H ρ (E.weak E2.anch) h, fun M σ H ρ E h => ⟨M, ρ, E, h⟩, fun M σ H ρ v d E h k => C.rt M σ H ρ v d (E.weak E2.anch) h k⟩
/-- d[k] of a dict of the def's own, with an int key that is there -/
def pGetO (i : Nat) (pk : PE') : PE' := fun ρ R => asDct (cellAt ρ i) fun _ => pk ρ fun k ρ1 => asI k fun n => asDct (cellAt ρ1 i) fun kvs => asO (getA kvs n) fun d => R d ρ1
theorem sim_getO {i : Nat} {tk : TE} {pk : PE'} (sk : Sim K tk pk) : Sim K (tDGet (tVar i) tk) (pGetO i pk) := fun B Z A H0 M σ H ρ R E h Q q => by
  obtain ⟨kvs, hc, h⟩ := asDct_of h
  obtain ⟨l, ws, e, m, hl, r⟩ := dct_at E hc
  refine ⟨.ref l, e, sk B Z A H0 M σ H ρ _ E h _ fun w y ρ1 H1 h1 E1 d1 => ?_⟩
  obtain ⟨n, rfl, h2⟩ := asI_of h1
  rw [of_int d1]
  obtain ⟨kvs1, hc1, h3⟩ := asDct_of h2
  obtain ⟨l1, ws1, e1, m1, hl1, r1⟩ := dct_at E1 hc1
  rw [m] at m1
  cases m1
  obtain ⟨d, hd, h4⟩ := asO_of h3
  rcases kvs_get (n := n) r1 with ⟨z, _⟩ | ⟨d2, u, hd2, hu, du⟩
  · rw [z] at hd
    cases hd
  · rw [hd2] at hd
    cases hd
    refine ⟨l, u, rfl, ?_, q _ _ _ _ h4 E1 du⟩
    rw [← hu]
    exact DGet.k (k := .inl n) hl1
/-- xs[i] = e of a list of the def's own -/
def pSetI (i : Nat) (pb pv : PE') : PS' := fun G ρ => pv ρ fun w ρ1 => asOwn (cellAt ρ1 i) fun _ => pb ρ1 fun y ρ2 => asI y fun j => asOwn (cellAt ρ2 i) fun ds => ∃ m, ixN ds.length j = some m ∧ G.nx (cellSet ρ2 i (.own (ds.set m w)))
theorem s_setI {i : Nat} {tb tv : TE} {pb pv : PE'} (sb : Sim K tb pb) (sv : Sim K tv pv) : SimS K (tAsg tv (gSub (tVar i) tb L2.rSetL)) (pSetI i pb pv) := fun B Z A H0 M σ H ρ D G E h C =>
  sv B Z A H0 M σ H ρ _ E h _ fun w d ρ1 H1 h1 E1 d1 => by
    obtain ⟨ds, hc, h2⟩ := asOwn_of h1
    obtain ⟨l, vs, e, m, hl, r⟩ := own_at E1 hc
    refine ⟨.ref l, e, sb B Z _ H0 M σ H1 ρ1 _ E1.anchor h2 _ fun u y ρ2 H2 h3 E2 d2 => ?_⟩
    obtain ⟨j, rfl, h4⟩ := asI_of h3
    rw [of_int d2]
    obtain ⟨ds2, hc2, n, hn, h6⟩ := asOwn_of h4
    obtain ⟨l2, vs2, e2, m2, hl2, r2⟩ := own_at E2 hc2
    rw [m] at m2
    cases m2
    refine ⟨l, vs2, j, n, rfl, rfl, hl2, by rw [dqs_len r2]; exact hn, ?_⟩
    exact C.nx M σ _ _ ((E2.weak E1.anch).putO (by rw [e2]; rfl) m (dqs_setA (dp_grow E2.anch _ _ d1) n r2) (by rw [hc2]; intro z; cases z)) h6
end
end Pu
namespace Pu
open PySem L2
/-- xs.index(y) of a list of ints that has it -/
def pIndex (pa pb : PE') : PE' := fun ρ R => pa ρ fun x ρ1 => asL x fun ds => pb ρ1 fun y ρ2 => ∃ (ns : List Int) (n : Int) (j : Nat), ds = ns.map PyData.int ∧ y = .int n ∧ ns[j]? = some n ∧ (∀ m z, m < j → ns[m]? = some z → ¬ z = n) ∧ R (.int (j : Nat)) ρ2
section
variable {K : PySem.W.Frag}
theorem flat_ints : ∀ ns : List Int, (ns.map V.int).all flatV = true
  | [] => rfl
  | _ :: ns => flat_ints ns
theorem sim_index {ta tb : TE} {pa pb : PE'} (sa : Sim K ta pa) (sb : Sim K tb pb) : Sim K (tBM K "list" (rIndex K) ta (tCons tb tNil)) (pIndex pa pb) := fun B Z A H0 M σ H ρ R E h Q q =>
  sa B Z A H0 M σ H ρ _ E h _ fun v x ρ1 H1 h1 E1 d1 => by
    obtain ⟨ds, rfl, h2⟩ := asL_of h1
    cases d1 with
    | @lst a vs _ hs r =>
      refine ⟨.inl ⟨rfl, vs, .of (veil_grow _ _ _ _ hs)⟩, sb B Z _ H0 M σ H1 ρ1 _ E1.anchor h2 _ fun w y ρ2 H2 h3 E2 d2 => ?_⟩
      obtain ⟨ns, n, j, rfl, rfl, hj, hm, h4⟩ := h3
      have ev := dqs_of_ints r
      subst ev
      rw [of_int d2]
      refine ⟨a, ns.map V.int, .int n, j, .int n, rfl, rfl, .of (veil_grow _ _ _ _ (E2.anch _ _ hs)), rfl, flat_ints ns, by rw [List.getElem?_map, hj]; rfl, by simp [eqV], fun m z' hlt hz => ?_, q _ _ _ _ h4 (E2.weak E1.anch) (.int _)⟩
      rw [List.getElem?_map] at hz
      cases e : ns[m]? with
      | none =>
        rw [e] at hz
        cases hz
      | some z =>
        rw [e] at hz
        have hz : V.int z = z' := Option.some.inj hz
        subst hz
        have ne := hm m z hlt e
        simp [eqV, ne]
theorem sim_lcR2 {ta : TA} {g : TG} {tt : TT} {te : TE} {vs is : List Nat} {pa : PA'} {pg : PG'} {pt : PT'} {pe : PE'} (sa : SimA K ta pa) (sg : SimGV K vs g pg) (st : SimT K tt pt) (se : Sim K te pe) (hn : ∀ ρ R, pa ρ R → pa ρ fun x ρ1 => x.length = 2 ∧ R x ρ1) :
    SimL K (tLc (iRng2 ta) g tt te vs) (pLcR vs is pa pg pt pe) := fun B Z A H0 M σ H ρ R E ⟨hv, h⟩ Q q =>
  sa B Z A H0 M σ H ρ _ E (hn _ _ h) _ fun us x ρ1 H1 ⟨hx, e1, lo, hi, hx2, hb, I, i0, is, ie⟩ E1 d1 => by
    subst e1
    rcases hx2 with ⟨rfl, rfl⟩ | rfl
    · exact absurd hx (by simp)
    · have e : us = [.int lo, .int hi] := dqs_of_ints (ns := [lo, hi]) d1
      subst e
      refine ⟨lo, hi, rfl, hb, fun D hD => ?_⟩
      obtain ⟨h0, nB, nZ⟩ := lc_start E1 hD
      refine lc_range (lo := lo) (n := (hi - lo).toNat) (fun i H' => ∃ va acc, EnvR K B (plus Z D) (veil (hid Z M) H1) H0 M (wipe σ vs) H' ρ1 ∧ H' D = some (.lst va) ∧ Dqs K (veil (hid (plus Z D) M) H') va acc ∧ I i acc) ⟨[], [], E1.enter hv hD, upd_same, .nil, i0⟩
        (fun i H' hlt ⟨va, acc, E', hd', ra, hI⟩ => lc_turn sg st se E' hv hd' h0 nB (.int _) ra wipe_wipe (is i acc (by omega) hI) fun H2 va' acc' E2 h2 r2 y2 => ⟨va', acc', E2, h2, r2, y2⟩) fun H' ⟨va, acc, E', hd', ra, hI⟩ => ?_
      have z := q D va acc ρ1 (wiped H' D) (ie acc hI) (E'.leave E1.anch h0 nZ) wiped_at (dps_grow veil_in _ _ ra)
      rw [wiped_upd hd'] at z
      exact z
end
end Pu
namespace Pu
open PySem L2
/-- a, b = x, y -/
def two2 (ds : List PyData) (k : PyData → PyData → Prop) : Prop := match ds with
  | [x, y] => k x y
  | _ => False
theorem two2_of {ds : List PyData} {k : PyData → PyData → Prop} (h : two2 ds k) : ∃ x y, ds = [x, y] ∧ k x y := by
  unfold two2 at h
  split at h
  · exact ⟨_, _, rfl, h⟩
  · exact h.elim
def pPar (i j : Nat) (pa : PA') : PS' := fun G ρ => pa ρ fun ds ρ1 => two2 ds fun x y => G.nx (cellSet (cellSet ρ1 i (.d x)) j (.d y))
section
variable {K : PySem.W.Frag}
theorem s_par {i j : Nat} {ta : TA} {pa : PA'} (sa : SimA K ta pa) : SimS K (tPar i j ta) (pPar i j pa) := fun B Z A H0 M σ H ρ D G E h C =>
  sa B Z A H0 M σ H ρ _ E h _ fun vs ds ρ1 H1 h1 E1 d1 => by
    obtain ⟨x, y, rfl, h2⟩ := two2_of h1
    obtain ⟨v, w, rfl, dv, dw⟩ := two_of d1
    refine ⟨v, w, rfl, ?_⟩
    exact g_name (i := i) B Z A H0 M σ H1 ρ1 v x (fun ρ2 => ρ2 = cellSet ρ1 i (.d x)) E1 dv rfl (fun σ2 _ => D.nx (σ2.set j (some w)) H1) fun σ2 ρ2 e E2 => by
      subst e
      exact g_name (i := j) B Z A H0 M σ2 H1 _ w y (fun ρ3 => G.nx ρ3) E2 dw h2 (fun σ3 _ => D.nx σ3 H1) fun σ3 ρ3 hR E3 => C.nx M σ3 H1 ρ3 E3 hR
end
end Pu
namespace Pu
open PySem L2
/-! any(xs) of a list of truth values; xs.count(y) of a list of ints -/
def fAny : FS := fun ds k => match ds with
  | [d] => asL d fun xs => ∃ ns, boolsOf xs = some ns ∧ k (.bool (ns.any id))
  | _ => False
theorem fAny_of {ds : List PyData} {k : PyData → Prop} (h : fAny ds k) : ∃ ns : List Bool, ds = [.list (ns.map PyData.bool)] ∧ k (.bool (ns.any id)) := by
  unfold fAny at h
  split at h
  · obtain ⟨xs, rfl, ns, e, h⟩ := asL_of h
    rw [boolsOf_eq e]
    exact ⟨ns, rfl, h⟩
  · exact h.elim
def pCount (pa pb : PE') : PE' := fun ρ R => pa ρ fun x ρ1 => asL x fun ds => pb ρ1 fun y ρ2 => asI y fun n => ∃ ns : List Int, ds = ns.map PyData.int ∧ R (.int (ns.count n : Nat)) ρ2
/-- a slice of a list of the def's own -/
def pCutO (i : Nat) (pl ph : PO') : PE' := fun ρ R => asOwn (cellAt ρ i) fun _ => pl ρ fun l ρ1 => ph ρ1 fun h ρ2 => asOwn (cellAt ρ2 i) fun ds => R (.list (cutP ds l h)) ρ2
section
variable {K : PySem.W.Frag}
theorem sim_cutO {i : Nat} {tl th : TO} {pl ph : PO'} (sl : SimO K tl pl) (sh : SimO K th ph) : Sim K (tSl (rCut K) (tVar i) tl th) (pCutO i pl ph) := fun B Z A H0 M σ H ρ R E h Q q => by
  obtain ⟨ds, hc, h⟩ := asOwn_of h
  obtain ⟨l, vs, e, m, hl, r⟩ := own_at E hc
  refine ⟨.ref l, e, sl B Z A H0 M σ H ρ _ E h _ fun lo ρ1 H1 h1 E1 => sh B Z _ H0 M σ H1 ρ1 _ E1.anchor h1 _ fun hi ρ2 H2 h2 E2 => ?_⟩
  obtain ⟨ds2, hc2, h3⟩ := asOwn_of h2
  obtain ⟨l2, vs2, e2, m2, hl2, r2⟩ := own_at E2 hc2
  rw [m] at m2
  cases m2
  have E4 := E2.weak E1.anch
  exact .inl ⟨l, vs2, rfl, .of hl2, fun p hp => q _ _ _ _ h3 (E4.grown (grow_new hp)) (.newL (E4.veiled hp) hp (cut_dq r2 lo hi))⟩
theorem sim_any {ta : TA} {pa : PA'} (sa : SimA K ta pa) : Sim K (tCB (rAny K) ta) (pFn fAny pa) := fun B Z A H0 M σ H ρ R E h Q q =>
  sa B Z A H0 M σ H ρ _ E h _ fun vs ds ρ1 H1 h1 E1 d1 => by
    obtain ⟨ns, rfl, h2⟩ := fAny_of h1
    obtain ⟨v, rfl, dv⟩ := one_of d1
    cases dv with
    | lst hl r =>
      have e := dqs_of_bools r
      subst e
      exact ⟨_, ns, rfl, .of (veil_grow _ _ _ _ hl), q _ _ _ _ h2 E1 (.bl _)⟩
theorem sim_count {ta tb : TE} {pa pb : PE'} (sa : Sim K ta pa) (sb : Sim K tb pb) : Sim K (tBM K "list" (rCntI K) ta (tCons tb tNil)) (pCount pa pb) := fun B Z A H0 M σ H ρ R E h Q q =>
  sa B Z A H0 M σ H ρ _ E h _ fun v x ρ1 H1 h1 E1 d1 => by
    obtain ⟨ds, rfl, h2⟩ := asL_of h1
    cases d1 with
    | @lst a vs _ hs r =>
      refine ⟨.inl ⟨rfl, vs, .of (veil_grow _ _ _ _ hs)⟩, sb B Z _ H0 M σ H1 ρ1 _ E1.anchor h2 _ fun w y ρ2 H2 h3 E2 d2 => ?_⟩
      obtain ⟨n, rfl, ns, rfl, h4⟩ := asI_of h3
      have ev := dqs_of_ints r
      subst ev
      rw [of_int d2]
      exact ⟨a, ns, n, rfl, rfl, .of (veil_grow _ _ _ _ (E2.anch _ _ hs)), q _ _ _ _ h4 (E2.weak E1.anch) (.int _)⟩
end
end Pu
namespace Pu
open PySem L2
/-! a dict written out, its keys written texts -/
def dispD (ks : List Str) (ds : List PyData) : PyData := .dict ((ks.map PyData.str).zip ds)
def pDisp (ks : List Str) (pa : PA') : PE' := fun ρ R => pa ρ fun ds ρ1 => R (dispD ks ds) ρ1
section
variable {K : PySem.W.Frag}
def SimK (K : PySem.W.Frag) (trs : List (TE × TE)) (ks : List Str) (p : PA') : Prop := ∀ B Z A H0 M σ H ρ R, EnvR K B Z A H0 M σ H ρ → p ρ R →
  ∀ Q : List (V × V) → Hp → Prop, (∀ vs ds ρ' H2, R ds ρ' → EnvR K B Z A H0 M σ H2 ρ' → Dqs K (veil (hid Z M) H2) vs ds → vs.length = ks.length → Q ((ks.map V.str).zip vs) H2) → tPairs trs σ H Q
theorem k_nil : SimK K [] [] pNil := fun B Z A H0 M σ H ρ R E h Q q => q [] [] ρ H h E .nil rfl
theorem k_cons {k : Str} {tv : TE} {trs : List (TE × TE)} {ks : List Str} {pv : PE'} {pr : PA'} (sv : Sim K tv pv) (sr : SimK K trs ks pr) : SimK K ((tC (.str k), tv) :: trs) (k :: ks) (pCons pv pr) := fun B Z A H0 M σ H ρ R E h Q q =>
  sv B Z A H0 M σ H ρ _ E h _ fun v x ρ1 H1 h1 E1 d1 => sr B Z _ H0 M σ H1 ρ1 _ E1.anchor h1 _ fun vs ds ρ2 H2 h2 E2 d2 hl =>
    q _ _ ρ2 H2 h2 (E2.weak E1.anch) (.cons (dp_grow E2.anch _ _ d1) d2) (congrArg (· + 1) hl)
theorem put_new {kvs : List (Key × V)} {k : Key} {v : V} (h : k ∉ kvs.map (·.1)) : putK kvs k v = kvs ++ [(k, v)] := by
  unfold putK
  rw [if_neg]
  intro z
  rw [List.any_eq_true] at z
  obtain ⟨x, hx, e⟩ := z
  exact h (List.mem_map.mpr ⟨x, hx, of_decide_eq_true e⟩)
theorem merge_new : ∀ {more kvs : List (Key × V)}, ((kvs ++ more).map (·.1)).Nodup → mergeK kvs more = kvs ++ more
  | [], kvs, _ => (List.append_nil kvs).symm
  | (k, v) :: r, kvs, h => by
    have h2 : (kvs.map (·.1) ++ k :: r.map (·.1)).Nodup := by simpa using h
    have nk : k ∉ kvs.map (·.1) := fun m => (List.nodup_append.mp h2).2.2 k m k List.mem_cons_self rfl
    show mergeK (putK kvs k v) r = _
    rw [put_new nk, merge_new (more := r) (kvs := kvs ++ [(k, v)]) (by simpa using h)]
    simp
theorem zip_keys : ∀ {ks : List Str} {vs : List V}, vs.length = ks.length → ((ks.map (Sum.inr : Str → Key)).zip vs).map (·.1) = ks.map Sum.inr
  | [], [], _ => rfl
  | k :: ks, v :: vs, h => by
    show Sum.inr k :: ((ks.map (Sum.inr : Str → Key)).zip vs).map (·.1) = _
    rw [zip_keys (ks := ks) (vs := vs) (by simpa using h)]
    rfl
theorem zip_vals : ∀ {ks : List Str} {vs : List V}, (ks.map V.str).zip vs = ((ks.map (Sum.inr : Str → Key)).zip vs).map fun kv => (kV kv.1, kv.2)
  | [], _ => rfl
  | _ :: _, [] => rfl
  | k :: ks, v :: vs => congrArg ((V.str k, v) :: ·) (zip_vals (ks := ks) (vs := vs))
theorem zip_dks {H : Hp} : ∀ {ks : List Str} {vs : List V} {ds : List PyData}, Dqs K H vs ds → Dks K H ((ks.map (Sum.inr : Str → Key)).zip vs) ((ks.map PyData.str).zip ds)
  | [], _, _, _ => .nil
  | _ :: _, _, _, .nil => .nil
  | k :: ks, _, _, .cons h r => .cons (k := .inr k) h (zip_dks r)
theorem wiped_put {H : Hp} {D : Addr} {u : HO} : upd (wiped H D) D u = upd H D u := by
  funext a
  by_cases e : a = D
  · rw [e, upd_same, upd_same]
  · rw [upd_ne e, upd_ne e, wiped_ne e]
theorem sim_disp {trs : List (TE × TE)} {ks : List Str} {pa : PA'} (nd : ks.Nodup) (hl : ks.length ≤ 15) (sa : SimK K trs ks pa) : Sim K (tDisp trs) (pDisp ks pa) := fun B Z A H0 M σ H ρ R E h Q q p hp => by
  obtain ⟨h0, nB, nZ⟩ := lc_start E hp
  have E0 : EnvR K B (plus Z p) (veil (hid Z M) H) H0 M σ (upd H p (.dK [])) ρ := E.enter (vs := []) (fun v hv => absurd hv (List.not_mem_nil)) hp
  have nM : ∀ i l, M i = some l → l ≠ p := fun i l m e => E0.off i l m (.inr e)
  refine sa B (plus Z p) _ _ M σ _ ρ _ (E0.hold upd_same nM) h _ fun vs ds ρ' H2 hR E2 dv hlen => ?_
  have hD : H2 p = some (.dK []) := E2.ext p _ nB upd_same
  refine ⟨hD, (ks.map (Sum.inr : Str → Key)).zip vs, zip_vals, ?_, ?_⟩
  · rw [List.length_zip, List.length_map]
    omega
  have hk : ((ks.map (Sum.inr : Str → Key)).zip vs).map (·.1) = ks.map Sum.inr := zip_keys hlen
  have ndk : (ks.map (Sum.inr : Str → Key)).Nodup := by
    unfold List.Nodup at nd ⊢
    rw [List.pairwise_map]
    exact nd.imp fun hab e => hab (Sum.inr.inj e)
  rw [merge_new (by rw [List.nil_append, hk]; exact ndk), List.nil_append]
  have E3 : EnvR K B Z A H0 M σ (wiped H2 p) ρ' := EnvR.leave (vs := []) (E2.unhold h0 nM) E.anch h0 nZ
  have E4 := E3.grown (grow_new (o := HO.dK ((ks.map (Sum.inr : Str → Key)).zip vs)) wiped_at)
  rw [wiped_put] at E4
  refine q _ _ ρ' _ hR E4 (.dct (veil_on (E3.veiled wiped_at) upd_same) (zip_dks (dqs_up ?_ dv)))
  have g1 : Grow (veil (hid (plus Z p) M) H2) (veil (hid Z M) (wiped H2 p)) := veil_in
  have g2 := grow_veil (Z := hid Z M) (grow_new (o := HO.dK ((ks.map (Sum.inr : Str → Key)).zip vs)) (wiped_at (H := H2) (D := p)))
  rw [wiped_put] at g2
  exact g1.trans g2
end
end Pu
namespace Pu
open PySem PySem.Spec PyProof.Rows L2
/-! sorted(d) of a dict with int keys, of any length -/
def rSortDI : List V → Hp → VK → Prop := fun zs H Q => ∃ (a : Addr) (kvs : List (Key × V)) (ns : List Int), zs = [.ref a] ∧ Rd H a (.dK kvs) ∧ kvs.map (·.1) = ns.map Sum.inl ∧ ns.length ≤ sizeLine ∧
  ∀ (ms : List Int) (p : Addr), ms.Perm ns → ms.Pairwise (· ≤ ·) → H p = none → Q (.ref p) (upd H p (.lst (ms.map V.int)))
theorem c_sortDI {X : Cx} (hc : X.calm = true) : CallR X (.builtin "sorted") rSortDI := by
  intro pins s σ H zs us Q I r h
  obtain ⟨a, kvs, ns, ez, hd, hns, hsz, h⟩ := h
  subst ez
  obtain ⟨u, eu, rx⟩ := vals1 r
  subst eu
  cases rx
  obtain ⟨z, lo, vs, rel, dd⟩ := dk_rd I.hok hd
  obtain ⟨ep, hat⟩ := dd.dictAt
  have kk : vs.map (·.1) = ns.map Sum.inl := rel.keys.symm.trans hns
  have lv : vs.length = ns.length := by simpa using congrArg List.length kk
  refine Calls.call_function_entry PyProof.Rows.kind_sorted
    PyProof.Rows.plain_sorted PyProof.Rows.entry_sorted
    (PyProof.Rows.args_sorted1 _) ?_
  unfold Builtin.«sorted»
  refine wpAny_bind (m := checkCount "sorted" 1 1 _)
    (wpAny_pure ?_)
  refine wpAny_bind (PySem.W.kdu_collect (A := X.A.in1) (PySem.W.kdl_dict
    (knd := mixKind X.prog X.w) (kvs := vs) (ep := ep) lo)
    (I.ok.hd hc) hat (by rw [lv]; exact hsz) fun g tk acc hk ha => ?_)
  have la : acc.toList.length = ns.length := by
    rw [Array.length_toList, ha.1, lv]
  have ia : IntsAre acc.toList ns := ints_each la fun j w e => by
    obtain ⟨k, x, e1, e2⟩ := ha.2 j w (by rw [← Array.getElem?_toList]
                                          exact e)
    have e3 : (vs.map (·.1))[j]? = some k := by rw [List.getElem?_map, e1]
                                                rfl
    rw [kk, List.getElem?_map] at e3
    cases e4 : ns[j]? with
    | none => rw [e4] at e3
              cases e3
    | some y =>
      rw [e4] at e3
      cases (show Sum.inl y = k from Option.some.inj e3)
      rcases keyIs_shape (show keyIs (Sum.inl y) w = true from e2) with ⟨i, t, ek, ew⟩ | ⟨i, t, ek, ew⟩
      · cases ek
        exact ⟨y, t, rfl, ew⟩
      · cases ek
  have J : Inv X pins σ H { s with heap := g, toks := tk } := I.kept hk
  refine wpAny_bind (wpAny_newList ?_ (by rw [la]
                                          exact hsz))
  have at0 : (g.push (seqObj "list" acc.toList.toArray 0)).get? g.objs.size =
      some (seqObj "list" acc.toList.toArray 0) := Heap.get?_push_size _ rfl
  show wpAny _ _ _ _ _ { s with heap := g.push (seqObj "list" acc.toList.toArray 0), toks := tk }
  refine wpAny_bind (wpAny_holding (wpAny_call_entry PyProof.Rows.slot_list_sort ⟨_, at0, rfl⟩
    PyProof.Rows.entry_list_sort (PyProof.Rows.list_sort_treeAny
      (s := { s with heap := g.push (seqObj "list" acc.toList.toArray 0), toks := tk })
      at0 ia (by rw [la]; exact hsz) fun out ms g1 g2 g3 => ⟨_, rfl, ?_⟩)
    (PyProof.Rows.args_list_sort _)))
  obtain ⟨n', hn'⟩ := PyProof.Rows.sortedHeap_at (vs := acc.toList)
    (out := out) at0
  have lm : (ms.map V.int).length ≤ sizeLine := by rw [List.length_map, g2.length_eq]; exact hsz
  refine wpAny_pure ⟨_, rfl, .ref g.objs.size, upd H g.objs.size (.lst (ms.map V.int)),
    J.laid (t' := tk) (fun b o e => ?_) (Nat.le_refl _)
      (show ObjOk X.prog X.w _ _ _ (.lst (ms.map V.int)) from ⟨lm, out.toList, n',
        vals_of_ints g1, by rw [Array.toArray_toList]; exact hn'⟩), rfl,
    h ms _ g2 g3 (J.hok.fresh (Nat.le_refl _))⟩
  have hb : b < g.objs.size := Heap.lt_size e
  rw [PyProof.Rows.sortedHeap_old (Nat.ne_of_lt hb)
    (by rw [size_push']; exact Nat.lt_succ_of_lt hb)]
  exact Heap.get?_push_of_some _ e
def intK : List (PyData × PyData) → Option (List Int)
  | [] => some []
  | (.int i, _) :: r => (intK r).map (i :: ·)
  | _ => none
def pSortK (pa : PE') : PA' := fun ρ R => pa ρ fun x ρ1 => asK x fun kvs => ∃ ns, intK kvs = some ns ∧ ns.length ≤ 100000 ∧ ∀ ms : List Int, ms.Perm ns → ms.Pairwise (· ≤ ·) → R (ms.map PyData.int) ρ1
section
variable {K : PySem.W.Frag}
theorem dks_keys {H : Hp} : ∀ {ws : List (Key × V)} {kvs : List (PyData × PyData)} {ns : List Int}, Dks K H ws kvs → intK kvs = some ns → ws.map (·.1) = ns.map Sum.inl
  | [], _, ns, .nil, e => by
    cases e
    rfl
  | (k, v) :: ws, _, ns, .cons (kvs := kvs) h r, e => by
    cases k with
    | inl n =>
      have e : (intK kvs).map (n :: ·) = some ns := e
      cases q : intK kvs with
      | none => rw [q] at e; cases e
      | some ms =>
        rw [q] at e
        cases e
        rw [List.map_cons, List.map_cons, dks_keys r q]
    | inr z => cases e
theorem sim_sortK {ta : TE} {pa : PE'} (sa : Sim K ta pa) : SimL K (tCB rSortDI (tCons ta tNil)) (pSortK pa) := fun B Z A H0 M σ H ρ R E h Q q =>
  sa B Z A H0 M σ H ρ _ E h _ fun v x ρ1 H1 h1 E1 d1 => by
    obtain ⟨kvs, rfl, ns, hn, hl, h2⟩ := asK_of h1
    cases d1 with
    | @dct a ws _ hs r =>
      exact ⟨a, ws, ns, rfl, .inl (veil_grow _ _ _ _ hs), dks_keys r hn, sz5 hl, fun ms p pm pw hp => q p _ _ ρ1 H1 (h2 ms pm pw) E1 hp dqs_ints⟩
    | ob hc hl r => cases hn
end
end Pu
namespace Pu
open PySem L2
/-! a def that raises: an own class of error, without fields; its raise is read as a break of the body -/
abbrev FSX := List PyData → (PyData → Prop) → Prop → Prop
def spX (K : PySem.W.Frag) (C : Addr) (n : Nat) (S : FSX) : Sp := fun vs H Q E => vs.length = n ∧ ∃ (Z : Addr → Prop) (ds : List PyData) (k : PyData → Prop) (kx : Prop), (∀ a, Z a → H a ≠ none) ∧ Dqs K (veil Z H) vs ds ∧
  S ds k kx ∧ (∀ d v H', k d → Grow H H' → Dq K (veil Z H') v d → Q v H') ∧ (kx → ∀ H', Grow H H' → E (.ref C) none H')
/-- the way out by a raise -/
def tR (C : Addr) (E : XK) : TS := fun _ _ H => E (.ref C) none H
def SimS2 (K : PySem.W.Frag) (Hx : Hp) (C : Addr) (E : XK) (t : TS) (p : PS') : Prop := ∀ Z A M σ H ρ D G, EnvR K (fun _ => False) Z A Hx M σ H ρ → p G ρ →
  (∀ M σ H ρ, EnvR K (fun _ => False) Z A Hx M σ H ρ → G.nx ρ → D.nx σ H) → (∀ M σ H ρ v d, EnvR K (fun _ => False) Z A Hx M σ H ρ → G.rt d ρ → Dq K (veil (fun a => Z a ∨ False) H) v d → D.rt v H) →
  (∀ M σ H ρ, EnvR K (fun _ => False) Z A Hx M σ H ρ → G.bk ρ → E (.ref C) none H) → t D σ H
section
variable {K : PySem.W.Frag} {Hx : Hp} {C : Addr} {E : XK}
theorem s2_raise : SimS2 K Hx C E (tR C E) pBrk := fun Z A M σ H ρ D G e h n r x => x M σ H ρ e h
theorem s2_of {t : TS} {p : PS'} (st : SimS K t p) (hp : ∀ G ρ, p G ρ → p { nx := G.nx, rt := G.rt } ρ) : SimS2 K Hx C E t p := fun Z A M σ H ρ D G e h n r x =>
  st (fun _ => False) Z A Hx M σ H ρ D _ e (hp G ρ h) ⟨n, fun _ _ _ _ _ z => z.elim, fun _ _ _ _ _ z => z.elim, r⟩
theorem s2_seq {t u : TS} {p q : PS'} (st : SimS2 K Hx C E t p) (su : SimS2 K Hx C E u q) : SimS2 K Hx C E (tSeq t u) (pSeq p q) := fun Z A M σ H ρ D G e h n r x =>
  st Z A M σ H ρ _ _ e h (fun M σ H ρ e h => su Z A M σ H ρ D G e h n r x) r x
theorem s2_if {tt : TT} {t u : TS} {pt : PT'} {p q : PS'} (sc : SimT K tt pt) (st : SimS2 K Hx C E t p) (su : SimS2 K Hx C E u q) : SimS2 K Hx C E (tIfS tt t u) (pIfS pt p q) := fun Z A M σ H ρ D G e h n r x =>
  sc (fun _ => False) Z A Hx M σ H ρ _ e h _ fun c ρ1 H1 h1 E1 => by
    cases c with
    | true => exact st Z A M σ H1 ρ1 D G E1 h1 n r x
    | false => exact su Z A M σ H1 ρ1 D G E1 h1 n r x
end
section
variable {P : Program} {w : World} {K : PySem.W.Frag} {mg : Str → Option Value} {base : Heap}
def BodyX (P : Program) (w : World) (K : PySem.W.Frag) (mg : Str → Option Value) (base : Heap) (C : Addr) (N : List Str) (qual : Str) (st : Stmt) (f : Addr) (k : Nat) (go : PS' → Prop) : Prop :=
  ∀ (cdv : Value) (A : Around) (outer : List Env) (s : Shared) (H : Hp) (E : XK), Room k (A.deeper (PyProof.Rows.envOfC qual (defScope st) s.heap.objs.size f cdv)) →
    ∃ t p, PSs (cxOf (L2.CX P w) P w K mg base N qual (defScope st) f cdv A outer s H E) (defBody st) t ∧ SimS2 K H C E t p ∧ go p
theorem ok_PX {x qual : Str} {st : Stmt} {f : Addr} {fd : FuncData} {N ps : List Str} {k n : Nat} {C : Addr} {S : FSX} (F : Fun K x qual st f fd) (Sc : FnScope N ps (defScope st)) (hn : ps.length = n)
    (hb : BodyX P w K mg base C N qual st f k fun p => ∀ ds c kx, ds.length = n → S ds c kx → p ⟨fun _ => c .none, fun d _ => c d, fun _ => kx, fun _ => False⟩ (startE N ds)) : FnOk P w K mg base (L2.CX P w) (k + 1) f fd ps (spX K C n S) := by
  refine F.okX Sc (fun vs H Q E h => by rw [h.1, hn]) (fun cdv A outer s H vs Q E hr h => ?_)
  obtain ⟨hl, Z, ds, c, kx, hz, r, hS, q, qx⟩ := h
  obtain ⟨t, p, ht, hs, hp⟩ := hb cdv A outer s H E hr
  have hnl : ps.length ≤ N.length := by
    have := congrArg List.length Sc.pre
    rw [List.length_take] at this
    omega
  have dl := dqs_len r
  refine ⟨t, ht, hs Z (fun _ => none) (fun _ => none) _ H (startE N ds) _ _ ?_ (hp ds c kx (by omega) hS) (fun M σ H' ρ E' k => q .none .non H' k (fun a o e => E'.ext a o id e) .non) (fun M σ H' ρ v d E' k dv => q d v H' k (fun a o e => E'.ext a o id e) (dp_grow (veil_less fun _ z => .inl z) _ _ dv)) (fun M σ H' ρ E' k => qx k H' (fun a o e => E'.ext a o id e))⟩
  refine ⟨by rw [start_len (by omega), startE_len (by omega)], fun _ _ _ z => (nomatch z), fun _ _ z => (nomatch z), fun _ _ z => (nomatch z), hz, fun _ _ _ h => h, fun _ _ z => (nomatch z), fun _ z => False.elim z, fun _ _ z => (nomatch z), fun i cc hc => ?_⟩
  rcases start_cell r hc with rfl | ⟨v, d, rfl, e, dv⟩
  · trivial
  · refine ⟨v, e, ?_⟩
    rw [no_hid]
    exact dv
end
end Pu
namespace Pu
open PySem L2
/-! an object of the def's own: read, written, made, its methods called -/
def putFd (f : Str) (d : PyData) : List (Str × PyData) → List (Str × PyData)
  | [] => [(f, d)]
  | (g, x) :: r => if g = f then (g, d) :: r else (g, x) :: putFd f d r
def asObj : Cell → (Str → List (Str × PyData) → Prop) → Prop
  | .obj nm fs, k => k nm fs
  | _, _ => False
theorem asObj_of {c : Cell} {k : Str → List (Str × PyData) → Prop} (h : asObj c k) : ∃ nm fs, c = .obj nm fs ∧ k nm fs := by
  cases c <;> first | exact ⟨_, _, rfl, h⟩ | exact h.elim
theorem cls_one {K : PySem.W.Frag} {nm : Str} {C C' : Addr} (h : ClsNm K nm C) (h' : ClsNm K nm C') : C = C' := by
  have e : some (some (Value.ref C)) = some (some (.ref C')) := h.symm.trans h'
  cases e
  rfl
def ObjAt (K : PySem.W.Frag) (Z : Addr → Prop) (H : Hp) (nm : Str) (b : Addr) (fs : List (Str × PyData)) : Prop := ∃ C dx ws, ClsNm K nm C ∧ H b = some (.ins C dx ws) ∧ Fds K (veil Z H) ws fs
section
variable {K : PySem.W.Frag} {H : Hp}
theorem fds_len : ∀ {ws : List (Str × V)} {fs : List (Str × PyData)}, Fds K H ws fs → ws.length = fs.length
  | _, _, .nil => rfl
  | _, _, .cons _ r => congrArg (· + 1) (fds_len r)
theorem fds_get {f : Str} : ∀ {ws : List (Str × V)} {fs : List (Str × PyData)} {d : PyData}, Fds K H ws fs → fs.lookup f = some d → ∃ v, ws.lookup f = some v ∧ Dq K H v d
  | _, _, _, .nil, e => by cases e
  | _, _, _, .cons (f := g) (v := v) h r, e => by
    unfold List.lookup at e ⊢
    split at e
    · cases e
      exact ⟨v, rfl, h⟩
    · exact fds_get r e
theorem fds_none {f : Str} : ∀ {ws : List (Str × V)} {fs : List (Str × PyData)}, Fds K H ws fs → fs.lookup f = none → ws.lookup f = none
  | _, _, .nil, _ => rfl
  | _, _, .cons (f := g) h r, e => by
    unfold List.lookup at e ⊢
    split at e
    · cases e
    · exact fds_none r e
theorem fds_put {f : Str} {v : V} {d : PyData} (h : Dq K H v d) : ∀ {ws : List (Str × V)} {fs : List (Str × PyData)}, Fds K H ws fs → Fds K H (putF f v ws) (putFd f d fs)
  | _, _, .nil => .cons h .nil
  | _, _, .cons (f := g) h' r => by
    unfold putF putFd
    by_cases e : g = f
    · rw [if_pos e, if_pos e]
      exact .cons h r
    · rw [if_neg e, if_neg e]
      exact .cons h' (fds_put h r)
end
section
variable {K : PySem.W.Frag} {B Z : Addr → Prop} {A H0 H H' : Hp} {M : Nat → Option Addr} {σ : L2.St} {ρ : En}
theorem obj_at (E : EnvR K B Z A H0 M σ H ρ) {i : Nat} {nm : Str} {fs : List (Str × PyData)} (h : cellAt ρ i = .obj nm fs) : ∃ l C dx ws, σ[i]? = some (some (.ref l)) ∧ M i = some l ∧ ClsNm K nm C ∧ H l = some (.ins C dx ws) ∧ Fds K (veil (hid Z M) H) ws fs := by
  obtain ⟨l, C, dx, ws, e, m, hc, hl, r⟩ := E.cell i _ (cellAt_some h (by intro z; cases z))
  refine ⟨l, C, dx, ws, ?_, m, hc, hl, r⟩
  cases q : σ[i]? with
  | none =>
    rw [q] at e
    cases e
  | some o =>
    rw [q] at e
    exact congrArg some e
/-- what stands at a place's own object has changed, all else stands -/
theorem EnvR.objCh (E : EnvR K B Z A H0 M σ H ρ) {i : Nat} {b : Addr} {nm nm' : Str} {fs fs' : List (Str × PyData)} (m : M i = some b) (hc : cellAt ρ i = .obj nm fs) (g : ∀ a o, a ≠ b → H a = some o → H' a = some o) (hb : ObjAt K (hid Z M) H' nm' b fs') :
    EnvR K B Z A H0 M σ H' (cellSet ρ i (.obj nm' fs')) := by
  have nb : H' b ≠ none := by
    obtain ⟨C, dx, ws, _, h, _⟩ := hb
    rw [h]
    intro z; cases z
  have nn : ∀ a, H a ≠ none → H' a ≠ none := fun a h => by
    by_cases e : a = b
    · rw [e]; exact nb
    · cases q : H a with
      | none => exact absurd q h
      | some o =>
        rw [g a o e q]
        intro z; cases z
  have gv : Grow (veil (hid Z M) H) (veil (hid Z M) H') := fun a o h => by
    obtain ⟨h1, h2⟩ := veil_off h
    exact veil_on h1 (g a o (fun e => h1 (.inr ⟨i, by rw [e]; exact m⟩)) h2)
  obtain ⟨l, C, dx, ws, e1, m1, _⟩ := obj_at E hc
  rw [m] at m1
  cases m1
  rw [cellSet_eq]
  refine ⟨by rw [List.length_set]; exact E.len, E.inj, fun j u k => nn u (E.live j u k), E.off, fun a z => nn a (E.zl a z), fun a o nB h => ?_, E.own, E.m0, E.anch.trans gv, fun j c h => ?_⟩
  · refine g a o (fun e => ?_) (E.ext a o nB h)
    rcases E.own i b m with x | x
    · exact nB (by rw [e]; exact x)
    · rw [e, x] at h
      cases h
  · rcases set_at h with ⟨rfl, hk, rfl⟩ | ⟨ne, h⟩
    · obtain ⟨C', dx', ws', c1, c2, c3⟩ := hb
      exact ⟨b, C', dx', ws', by rw [e1]; rfl, m, c1, c2, c3⟩
    · exact (E.cell j c h).grow gv fun u mu o ho => g u o (fun z => ne (E.inj i j b m (by rw [← z]; exact mu))) ho
/-- a place gets a new object -/
theorem EnvR.setObj (E : EnvR K B Z A H0 M σ H ρ) {i : Nat} {l : Addr} {nm : Str} {fs : List (Str × PyData)} (hi : i ≠ 0) (hl : H l = none) (g : Grow H H') (hb : ObjAt K (plus (hid Z M) l) H' nm l fs) :
    EnvR K B Z A H0 (fun j => if j = i then some l else M j) (σ.set i (some (.ref l))) H' (cellSet ρ i (.obj nm fs)) := by
  rw [cellSet_eq]
  have nM : ∀ j, M j ≠ some l := fun j m => E.live j l m hl
  have nZ : ¬ Z l := fun z => E.zl l z hl
  have nn : ∀ a, H a ≠ none → H' a ≠ none := fun a h => by
    cases q : H a with
    | none => exact absurd q h
    | some o =>
      rw [g a o q]
      intro z; cases z
  have hsub : ∀ a, hid Z (fun j => if j = i then some l else M j) a → plus (hid Z M) l a := by
    rintro a (z | ⟨j, m⟩)
    · exact .inl (.inl z)
    · have m : (if j = i then some l else M j) = some a := m
      by_cases e : j = i
      · rw [if_pos e] at m
        cases m
        exact .inr rfl
      · rw [if_neg e] at m
        exact .inl (.inr ⟨j, m⟩)
  have gv : Grow (veil (hid Z M) H) (veil (hid Z fun j => if j = i then some l else M j) H') := fun a o h => by
    obtain ⟨h1, h2⟩ := veil_off h
    refine veil_on (fun z => ?_) (g a o h2)
    rcases hsub a z with z | z
    · exact h1 z
    · rw [z, hl] at h2
      cases h2
  have hl' : H' l ≠ none := by
    obtain ⟨C, dx, ws, _, h, _⟩ := hb
    rw [h]
    intro z; cases z
  refine ⟨by rw [List.length_set, List.length_set]; exact E.len, fun a b u h1 h2 => ?_, fun j u m => ?_, fun j u m => ?_, fun a z => nn a (E.zl a z), fun a o nb h => g a o (E.ext a o nb h), fun j u m => ?_, fun b hb => ?_, E.anch.trans gv, fun j c hc => ?_⟩
  · by_cases ea : a = i
    · by_cases eb : b = i
      · rw [ea, eb]
      · rw [if_pos ea] at h1
        rw [if_neg eb] at h2
        cases h1
        exact absurd h2 (nM b)
    · by_cases eb : b = i
      · rw [if_neg ea] at h1
        rw [if_pos eb] at h2
        cases h2
        exact absurd h1 (nM a)
      · rw [if_neg ea] at h1
        rw [if_neg eb] at h2
        exact E.inj a b u h1 h2
  · by_cases e : j = i
    · rw [if_pos e] at m
      cases m
      exact hl'
    · rw [if_neg e] at m
      exact nn u (E.live j u m)
  · by_cases e : j = i
    · rw [if_pos e] at m
      cases m
      exact nZ
    · rw [if_neg e] at m
      exact E.off j u m
  · by_cases e : j = i
    · rw [if_pos e] at m
      cases m
      by_cases nb : B l
      · exact .inl nb
      · refine .inr ?_
        cases q : H0 l with
        | none => rfl
        | some o =>
          rw [E.ext l o nb q] at hl
          cases hl
    · rw [if_neg e] at m
      exact E.own j u m
  · rw [if_neg (Ne.symm hi)]
    exact E.m0 b hb
  · rcases set_at hc with ⟨rfl, hk, rfl⟩ | ⟨ne, hc⟩
    · rw [join_set (by rw [E.len]; exact hk)]
      obtain ⟨C, dx, ws, c1, c2, c3⟩ := hb
      exact ⟨l, C, dx, ws, rfl, if_pos rfl, c1, c2, fds_grow (veil_less hsub) c3⟩
    · rw [join_ne ne]
      have h := E.cell j c hc
      have mj : (fun j => if j = i then some l else M j) j = M j := if_neg (Ne.symm ne)
      cases c with
      | no => trivial
      | d x =>
        obtain ⟨v, e, h⟩ := h
        exact ⟨v, e, dp_grow gv _ _ h⟩
      | own xs =>
        obtain ⟨u, ws, e, m, hu, h⟩ := h
        exact ⟨u, ws, e, mj.trans m, g _ _ hu, dps_grow gv _ _ h⟩
      | dct kvs =>
        obtain ⟨u, ws, e, m, hu, h⟩ := h
        exact ⟨u, ws, e, mj.trans m, g _ _ hu, kvs_grow gv h⟩
      | box =>
        obtain ⟨b, e, m, r, rows, at_, hb, h0, hr, h1, h2, h3⟩ := h
        exact ⟨b, e, mj.trans m, r, rows, at_, g _ _ hb, h0, gv _ _ hr, h1, h2, h3⟩
      | obj nm' fs' =>
        obtain ⟨u, C, dx, ws, e, m, hc, hu, h⟩ := h
        exact ⟨u, C, dx, ws, e, mj.trans m, hc, g _ _ hu, fds_grow gv h⟩
end
/-! the readings -/
def pFldO (i : Nat) (nm f : Str) : PE' := fun ρ R => asObj (cellAt ρ i) fun n fs => n = nm ∧ asO (fs.lookup f) fun d => R d ρ
def pSetF (i : Nat) (nm f : Str) (pv : PE') : PS' := fun G ρ => pv ρ fun d ρ1 => asObj (cellAt ρ1 i) fun n fs => n = nm ∧ fs.length < 1000 ∧ G.nx (cellSet ρ1 i (.obj nm (putFd f d fs)))
def pAugF (i : Nat) (nm f : Str) (op : Int → Int → Int) (pv : PE') : PS' := fun G ρ => asObj (cellAt ρ i) fun n fs => n = nm ∧ asO (fs.lookup f) fun x => asI x fun a => pv ρ fun y ρ1 => asI y fun b =>
  asObj (cellAt ρ1 i) fun n fs => n = nm ∧ fs.length < 1000 ∧ G.nx (cellSet ρ1 i (.obj nm (putFd f (.int (op a b)) fs)))
abbrev FSO := List (Str × PyData) → List PyData → (PyData → List (Str × PyData) → Prop) → Prop
/-- C(..), kept in a place -/
def pMakeO (i : Nat) (nm : Str) (n : Nat) (S : FSO) (pa : PA') : PS' := fun G ρ => i ≠ 0 ∧ pa ρ fun ds ρ1 => ds.length = n ∧ S [] ds fun d fs => d = .none ∧ G.nx (cellSet ρ1 i (.obj nm fs))
def pMethO (i : Nat) (nm m : Str) (n : Nat) (S : FSO) (pa : PA') : PE' := fun ρ R => asObj (cellAt ρ i) fun n1 fs1 => n1 = nm ∧ fs1.lookup m = none ∧ pa ρ fun ds ρ1 => asObj (cellAt ρ1 i) fun n' fs => n' = nm ∧ ds.length = n ∧ S fs ds fun d fs' => R d (cellSet ρ1 i (.obj nm fs'))
def spO (K : PySem.W.Frag) (nm : Str) (n : Nat) (S : FSO) : Sp := fun vs H Q _ => ∃ (b : Addr) (us : List V), vs = .ref b :: us ∧ us.length = n ∧ ∃ (Z : Addr → Prop) (ds : List PyData) (fs : List (Str × PyData)) (k : PyData → List (Str × PyData) → Prop), ¬ Z b ∧ (∀ a, Z a → H a ≠ none) ∧
  ObjAt K (plus Z b) H nm b fs ∧ Dqs K (veil (plus Z b) H) us ds ∧ S fs ds k ∧ ∀ d fs' v H', k d fs' → (∀ a o, a ≠ b → H a = some o → H' a = some o) → ObjAt K (plus Z b) H' nm b fs' → Dq K (veil (plus Z b) H') v d → Q v H'
section
variable {K : PySem.W.Frag}
theorem sim_fldO {i : Nat} {nm f : Str} (hc : ∀ C, ClsNm K nm C → Cls K C ∧ NoAttr K C f) : Sim K (tFld K (tVar i) f) (pFldO i nm f) := fun B Z A H0 M σ H ρ R E h Q q => by
  obtain ⟨n, fs, ec, en, h1⟩ := asObj_of h
  subst en
  obtain ⟨l, C, dx, ws, e, m, c, hl, r⟩ := obj_at E ec
  obtain ⟨d, hd, h2⟩ := asO_of h1
  obtain ⟨v, hv, dv⟩ := fds_get r hd
  exact ⟨.ref l, e, l, C, dx, ws, v, rfl, hl, (hc C c).1, (hc C c).2, hv, q v d ρ H h2 E dv⟩
theorem s_setF {i : Nat} {nm f : Str} {tv : TE} {pv : PE'} (hc : ∀ C, ClsNm K nm C → Cls K C ∧ NoAttr K C f) (sv : Sim K tv pv) : SimS K (sFld K (tVar i) tv f) (pSetF i nm f pv) := fun B Z A H0 M σ H ρ D G E h C =>
  sv B Z A H0 M σ H ρ _ E h _ fun v d ρ1 H1 h1 E1 d1 => by
    obtain ⟨n, fs, ec, rfl, hz, h2⟩ := asObj_of h1
    obtain ⟨l, Cc, dx, ws, e, m, c, hl, r⟩ := obj_at E1 ec
    refine ⟨.ref l, e, l, Cc, dx, ws, rfl, hl, (hc Cc c).1, (hc Cc c).2, by rw [fds_len r]; exact hz, ?_⟩
    have gv : Grow (veil (hid Z M) H1) (veil (hid Z M) (upd H1 l (.ins Cc dx (putF f v ws)))) := fun a o h => by
      obtain ⟨h1, h2⟩ := veil_off h
      exact veil_on h1 ((upd_ne fun e => h1 (.inr ⟨i, by rw [e]; exact m⟩)).trans h2)
    exact C.nx M σ _ _ (E1.objCh m ec (fun a o ne h => (upd_ne ne).trans h) ⟨Cc, dx, _, c, upd_same, fds_put (dp_grow gv _ _ d1) (fds_grow gv r)⟩) h2
theorem s_augF {i : Nat} {nm f : Str} {op : Int → Int → Int} {tv : TE} {pv : PE'} (hc : ∀ C, ClsNm K nm C → Cls K C ∧ NoAttr K C f) (sv : Sim K tv pv) : SimS K (sFldAug K (tVar i) tv (ipI op) f) (pAugF i nm f op pv) := fun B Z A H0 M σ H ρ D G E h C => by
  obtain ⟨n, fs, ec, en, h5⟩ := asObj_of h
  subst en
  obtain ⟨l, Cc, dx, ws, e, m, c, hl, r⟩ := obj_at E ec
  obtain ⟨x, hx, h6⟩ := asO_of h5
  obtain ⟨a, rfl, h7⟩ := asI_of h6
  obtain ⟨v, hv, dv⟩ := fds_get r hx
  rw [of_int dv] at hv
  refine ⟨.ref l, e, l, Cc, dx, ws, .int a, rfl, hl, (hc Cc c).1, (hc Cc c).2, hv, sv B Z A H0 M σ H ρ _ E h7 _ fun w y ρ1 H1 h1 E1 d1 => ?_⟩
  obtain ⟨b, rfl, h8⟩ := asI_of h1
  obtain ⟨n1, fs1, ec1, en, hz, h2⟩ := asObj_of h8
  subst en
  obtain ⟨l1, C1, dx1, ws1, e1, m1, c1, hl1, r1⟩ := obj_at E1 ec1
  rw [m] at m1
  cases m1
  cases cls_one c c1
  rw [of_int d1]
  refine ⟨a, b, rfl, rfl, dx1, ws1, hl1, by rw [fds_len r1]; exact hz, ?_⟩
  have gv : Grow (veil (hid Z M) H1) (veil (hid Z M) (upd H1 l (.ins Cc dx1 (putF f (.int (op a b)) ws1)))) := fun a o h => by
    obtain ⟨h1, h2⟩ := veil_off h
    exact veil_on h1 ((upd_ne fun e => h1 (.inr ⟨i, by rw [e]; exact m⟩)).trans h2)
  exact C.nx M σ _ _ (E1.objCh m ec1 (fun a o ne h => (upd_ne ne).trans h) ⟨Cc, dx1, _, c1, upd_same, fds_put (.int _) (fds_grow gv r1)⟩) h2
theorem s_makeO {i n : Nat} {nm : Str} {C0 : Addr} {S : FSO} {EX : XK} {ta : TA} {pa : PA'} (hn : ClsNm K nm C0) (sa : SimA K ta pa) : SimS K (tAsg (tMake C0 (spO K nm n S) [] EX ta) (gName i)) (pMakeO i nm n S pa) := fun B Z A H0 M σ H ρ D G E h C =>
  sa B Z A H0 M σ H ρ _ E h.2 _ fun vs ds ρ1 H1 h1 E1 d1 x dx hx hdx ne => by
    rw [List.append_nil]
    have ng : Grow H1 (upd (upd H1 dx (.own x)) x (.ins C0 dx [])) := (grow_new hdx).trans (grow_new (by rw [upd_ne (Ne.symm ne)]; exact hx))
    have nh : ¬ hid Z M x := E1.veiled hx
    have live : ∀ a, hid Z M a → (upd (upd H1 dx (.own x)) x (.ins C0 dx [])) a ≠ none := fun a z => by
      have : H1 a ≠ none := z.elim (fun z => E1.zl a z) fun ⟨j, m⟩ => E1.live j a m
      cases q : H1 a with
      | none => exact absurd q this
      | some o =>
        rw [ng a o q]
        intro z; cases z
    have gv : Grow (veil (hid Z M) H1) (veil (plus (hid Z M) x) (upd (upd H1 dx (.own x)) x (.ins C0 dx []))) := fun a o h => by
      obtain ⟨h1, h2⟩ := veil_off h
      refine veil_on (fun z => z.elim h1 fun e => ?_) (ng a o h2)
      rw [e, hx] at h2
      cases h2
    refine ⟨x, vs, rfl, by rw [dqs_len d1]; exact h1.1, hid Z M, ds, [], _, nh, live, ⟨C0, dx, [], hn, upd_same, .nil⟩, dps_grow gv _ _ d1, h1.2, fun d fs' v H' k g hb dv => ?_⟩
    have g1 : Grow H1 H' := fun a o h => g a o (fun e => by rw [e, hx] at h; cases h) (ng a o h)
    obtain ⟨k1, k2⟩ := k
    subst k1
    cases dv
    exact ⟨rfl, C.nx _ _ _ _ (E1.setObj h.1 hx g1 hb) k2⟩
theorem sim_methO {i n : Nat} {nm m : Str} {C0 : Addr} {S : FSO} {EX : XK} {ta : TA} {pa : PA'} (hn : ClsNm K nm C0) (sa : SimA K ta pa) : Sim K (tMeth C0 m (spO K nm n S) [] EX (tVar i) ta) (pMethO i nm m n S pa) := fun B Z A H0 M σ H ρ R EE h Q q => by
  obtain ⟨n1, fs1, ec1, en, hm, h1⟩ := asObj_of h
  subst en
  obtain ⟨l, C, dx, ws, e, hM, c, hl, r⟩ := obj_at EE ec1
  cases cls_one c hn
  refine ⟨.ref l, e, l, dx, ws, rfl, hl, fds_none r hm, sa B Z A H0 M σ H ρ _ EE h1 _ fun vs ds ρ1 H1 h2 E1 d1 => ?_⟩
  obtain ⟨n2, fs2, ec2, en, hlen, h3⟩ := asObj_of h2
  subst en
  obtain ⟨l2, C2, dx2, ws2, e2, m2, c2, hl2, r2⟩ := obj_at E1 ec2
  rw [hM] at m2
  cases m2
  rw [List.append_nil]
  refine ⟨l, vs, rfl, by rw [dqs_len d1]; exact hlen, fun a => hid Z M a ∧ a ≠ l, ds, fs2, _, fun z => z.2 rfl, ?_, by rw [hid_plus hM]; exact ⟨C2, dx2, ws2, c2, hl2, r2⟩, by rw [hid_plus hM]; exact d1, h3, fun d fs' v H' k g hb dv => ?_⟩
  · rintro a ⟨z | ⟨j, mj⟩, _⟩
    · exact E1.zl a z
    · exact E1.live j a mj
  · rw [hid_plus hM] at hb dv
    exact q v d _ H' k (E1.objCh hM ec2 g hb) dv
end
section
variable {P : Program} {w : World} {K : PySem.W.Frag} {mg : Str → Option Value} {base : Heap}
/-- a method whose object changes: self stands in place 0 -/
theorem ok_O {x qual : Str} {st : Stmt} {f : Addr} {fd : FuncData} {N ps : List Str} {k n : Nat} {nm : Str} {S : FSO} (F : Fun K x qual st f fd) (Sc : FnScope N ps (defScope st)) (hn : ps.length = n + 1)
    (hb : Body P w K mg base N qual st f k fun p => ∀ fs ds c, ds.length = n → S fs ds c → p ⟨fun ρ => asObj (cellAt ρ 0) fun m fs' => m = nm ∧ c .none fs', fun d ρ => asObj (cellAt ρ 0) fun m fs' => m = nm ∧ c d fs', fun _ => False, fun _ => False⟩ (.obj nm fs :: startE N.tail ds)) : FnOk P w K mg base CX0 (k + 1) f fd ps (spO K nm n S) := by
  refine F.ok Sc (fun vs H Q E h => ?_) (fun cdv A outer s H vs Q E hr h => ?_)
  · obtain ⟨b, us, rfl, hl, _⟩ := h
    rw [List.length_cons, hl, hn]
  obtain ⟨b, us, rfl, hl, Z, ds, fs, c, nz, hz, ob, r, hS, q⟩ := h
  obtain ⟨t, p, ht, hs, hp⟩ := hb cdv A outer s H E hr
  have hnl : ps.length ≤ N.length := by
    have := congrArg List.length Sc.pre
    rw [List.length_take] at this
    omega
  have dl := dqs_len r
  have nb : H b ≠ none := by
    obtain ⟨C, dx, ws, _, h, _⟩ := ob
    rw [h]
    intro z; cases z
  have s0 : L2.start N (.ref b :: us) = some (.ref b) :: L2.start N.tail us := by
    unfold L2.start
    rw [List.map_cons, List.length_cons, List.length_tail, List.cons_append]
    congr 3
    omega
  have fin : ∀ M σ H' ρ, EnvR K (fun a => a = b) Z (fun _ => none) H M σ H' ρ → ∀ v d, (asObj (cellAt ρ 0) fun m fs' => m = nm ∧ c d fs') → Dq K (veil (plus Z b) H') v d → Q v H' := fun M σ H' ρ E' v d hc dv => by
    obtain ⟨m, fs', ec, em, k⟩ := asObj_of hc
    subst em
    obtain ⟨b', C, dx, ws, e1, m1, cc, hh, rr⟩ := obj_at E' ec
    have m := E'.m0 b rfl
    rw [m] at m1
    cases m1
    refine q d fs' v H' k (fun a o ne e => E'.ext a o ne e) ⟨C, dx, ws, cc, hh, fds_grow (veil_less ?_) rr⟩ dv
    rintro a (z | e)
    · exact .inl z
    · exact .inr ⟨0, by rw [e]; exact m⟩
  refine ⟨t, ht, hs (fun a => a = b) Z (fun _ => none) H (fun i => if i = 0 then some b else none) _ H (.obj nm fs :: startE N.tail ds) _ _ ?_ (hp fs ds c (by omega) hS) ?_⟩
  · rw [s0]
    refine ⟨?_, fun i j l h1 h2 => ?_, fun i l h => ?_, fun i l h => ?_, hz, fun _ _ _ h => h, fun i l h => ?_, fun b' e => (by rw [e]; rfl), fun _ _ z => (nomatch z), fun i cc hc => ?_⟩
    · rw [List.length_cons, List.length_cons, start_len (by rw [List.length_tail]; omega), startE_len (by rw [List.length_tail]; omega)]
    · by_cases ei : i = 0
      · by_cases ej : j = 0
        · rw [ei, ej]
        · rw [if_neg ej] at h2; cases h2
      · rw [if_neg ei] at h1; cases h1
    · by_cases ei : i = 0
      · rw [if_pos ei] at h; cases h; exact nb
      · rw [if_neg ei] at h; cases h
    · by_cases ei : i = 0
      · rw [if_pos ei] at h; cases h; exact nz
      · rw [if_neg ei] at h; cases h
    · by_cases ei : i = 0
      · rw [if_pos ei] at h; cases h; exact .inl rfl
      · rw [if_neg ei] at h; cases h
    · cases i with
      | zero =>
        have e : cc = .obj nm fs := (Option.some.inj hc).symm
        rw [e]
        obtain ⟨C, dx, ws, c1, c2, c3⟩ := ob
        exact ⟨b, C, dx, ws, rfl, rfl, c1, c2, by rw [one_hid]; exact c3⟩
      | succ i =>
        rw [List.getElem?_cons_succ] at hc ⊢
        rcases start_cell r hc with rfl | ⟨v, d, rfl, e, dv⟩
        · trivial
        · refine ⟨v, e, ?_⟩
          rw [one_hid]
          exact dv
  · exact ⟨fun M σ H' ρ E' k => fin M σ H' ρ E' .non .none k .non, fun _ _ _ _ _ z => z.elim, fun _ _ _ _ _ z => z.elim, fun M σ H' ρ v d E' k dv => fin M σ H' ρ E' v d k dv⟩
end
end Pu
namespace Pu
open PySem L2
/-! rows with a star in them; a loop or comprehension over a list or a tuple; two fors; zip; range with a step; max -/
/-- a display's items with one starred ahead -/
def pStar (pa : PE') (pr : PA') : PA' := fun ρ R => pa ρ fun x ρ1 => asS x fun ds => pr ρ1 fun es ρ2 => R (ds ++ es) ρ2
section
variable {X : Cx}
/-- either walk -/
def iOr (w1 w2 : TI) : TI := fun σ H R => w1 σ H R ∨ w2 σ H R
theorem pi_or {tg e : Expr} {w1 w2 : TI} (h1 : PI X tg e w1) (h2 : PI X tg e w2) : PI X tg e (iOr w1 w2) :=
  ⟨fun pins s σ H Q I h => h.elim (h1.run pins s σ H Q I) (h2.run pins s σ H Q I)⟩
end
theorem walkW {J : It} {n : Nat} {Qd : Hp → Prop} {body : (Hp → Prop) → V → Hp → Prop} {Hs : Hp} (Pv : Nat → Hp → Prop) (h0 : Pv 0 Hs) (hs : ∀ H, Pv n H → J.stop n H ∧ Qd H)
    (hg : ∀ i H, i < n → Pv i H → J.go i H ∧ ∀ x H', J.yld i H x H' → body (Pv (i + 1)) x H') :
    ∃ W : Nat → Nat → Hp → Prop, (∃ m, W 0 m Hs) ∧ ∀ i m H, W i m H → J.stop i H ∧ Qd H ∨ J.go i H ∧ ∃ Nx : Hp → Prop, (∀ H', Nx H' → ∃ m', m' < m ∧ W (i + 1) m' H') ∧ ∀ x H', J.yld i H x H' → body Nx x H' :=
  ⟨fun i m H => i + m = n ∧ Pv i H, ⟨n, by omega, h0⟩, fun i m H ⟨e, p⟩ => by
    by_cases hi : i = n
    · subst hi
      exact .inl (hs H p)
    · obtain ⟨h1, h2⟩ := hg i H (by omega) p
      exact .inr ⟨h1, Pv (i + 1), fun H' p' => ⟨m - 1, by omega, by omega, p'⟩, h2⟩⟩
section
variable {K : PySem.W.Frag}
theorem sim_star {ta : TE} {tr : TA} {pa : PE'} {pr : PA'} (sa : Sim K ta pa) (sr : SimA K tr pr) : SimA K (StX.tStar K ta tr) (pStar pa pr) := fun B Z A H0 M σ H ρ R E h Q q =>
  sa B Z A H0 M σ H ρ _ E h _ fun v x ρ1 H1 h1 E1 d1 => by
    cases x with
    | list ds =>
      cases d1 with
      | @lst a vs _ hs r =>
        exact ⟨a, vs, rfl, .inr (.of (veil_grow _ _ _ _ hs)), sr B Z _ H0 M σ H1 ρ1 _ E1.anchor h1 _ fun us es ρ2 H2 h2 E2 d2 => q _ _ ρ2 H2 h2 (E2.weak E1.anch) (dqs_app (dqs_up E2.anch r) d2)⟩
    | tuple ds =>
      cases d1 with
      | @tup a vs _ hs r =>
        exact ⟨a, vs, rfl, .inl (grow_t (veil_grow _ _) hs), sr B Z _ H0 M σ H1 ρ1 _ E1.anchor h1 _ fun us es ρ2 H2 h2 E2 d2 => q _ _ ρ2 H2 h2 (E2.weak E1.anch) (dqs_app (dqs_up E2.anch r) d2)⟩
    | _ => exact h1.elim
/-- range(a, b, c) -/
def pRng3 (pa : PA') (pg : PG') (pb : PS') : PS' := fun G ρ => pa ρ fun x ρ1 => ∃ (lo hi c : Int) (n : Nat), x = [.int lo, .int hi, .int c] ∧ RgC lo hi c n ∧ ∃ I : Nat → En → Prop, I 0 ρ1 ∧
  (∀ (i : Nat) ρ', i < n → I i ρ' → pg (.int (lo + (i : Int) * c)) ρ' fun ρ2 => pb { G with nx := I (i + 1), ct := I (i + 1), bk := G.nx } ρ2) ∧ ∀ ρ', I n ρ' → G.nx ρ'
theorem s_rng3 {ta : TA} {g : TG} {tb : TS} {pa : PA'} {pg : PG'} {pb : PS'} (sa : SimA K ta pa) (sg : SimG K g pg) (sb : SimS K tb pb) : SimS K (tFor (iRng3 ta) g tb) (pRng3 pa pg pb) := fun B Z A H0 M σ H ρ D G E h C =>
  sa B Z A H0 M σ H ρ _ E h _ fun vs x ρ1 H1 ⟨lo, hi, c, n, hx, hb, I, i0, is, ie⟩ E1 d1 => by
    subst hx
    have e : vs = [.int lo, .int hi, .int c] := dqs_of_ints (ns := [lo, hi, c]) d1
    subst e
    refine ⟨lo, hi, c, n, rfl, hb, for_rangeC (lo := lo) (c := c) (n := n) (fun i σ' H' => ∃ M' ρ', EnvR K B Z (veil (hid Z M) H1) H0 M' σ' H' ρ' ∧ I i ρ') ⟨M, ρ1, E1.anchor, i0⟩ (fun i σ' H' hlt ⟨M', ρ', E', hI⟩ => ?_)
      fun σ' H' ⟨M', ρ', E', hI⟩ => C.nx M' σ' H' ρ' (E'.weak E1.anch) (ie ρ' hI)⟩
    exact sg B Z _ H0 M' σ' H' ρ' _ _ _ E' (.int _) (is i ρ' hlt hI) _ fun σ2 ρ2 hR E2 => sb B Z _ H0 M' σ2 H' ρ2 _ _ E2 hR
      ⟨fun M σ H ρ E h => ⟨M, ρ, E, h⟩, fun M σ H ρ E h => C.nx M σ H ρ (E.weak E1.anch) h, fun M σ H ρ E h => ⟨M, ρ, E, h⟩, fun M σ H ρ v d E h k => C.rt M σ H ρ v d (E.weak E1.anch) h k⟩
/-- max of two -/
def fMax2 : FS := fun ds k => match ds with
  | [.int i, .int j] => k (.int (if j > i then j else i))
  | _ => False
theorem fMax2_of {ds : List PyData} {k : PyData → Prop} (h : fMax2 ds k) : ∃ i j, ds = [.int i, .int j] ∧ k (.int (if j > i then j else i)) := by
  unfold fMax2 at h
  split at h
  · exact ⟨_, _, rfl, h⟩
  · exact h.elim
def rMax2 : List V → Hp → VK → Prop := fun xs H Q => ∃ i j, xs = [.int i, .int j] ∧ Q (.int (if j > i then j else i)) H
theorem c_max2 {X : Cx} (hc : X.calm = true) : CallR X (.builtin "max") rMax2 := call_max2 hc
theorem sim_max2 {ta : TA} {pa : PA'} (sa : SimA K ta pa) : Sim K (tCB rMax2 ta) (pFn fMax2 pa) := fun B Z A H0 M σ H ρ R E h Q q =>
  sa B Z A H0 M σ H ρ _ E h _ fun vs ds ρ1 H1 h1 E1 d1 => by
    obtain ⟨i, j, rfl, h2⟩ := fMax2_of h1
    have e : vs = [.int i, .int j] := dqs_of_ints (ns := [i, j]) d1
    exact ⟨i, j, e, q _ _ _ _ h2 E1 (.int _)⟩
/-- [e for a, b in zip(x, y)] of two tuples -/
def pLcZ (vs is : List Nat) (pa : PA') (pg : PG') (pt : PT') (pe : PE') : PA' := fun ρ R => (∀ v ∈ vs, cellAt ρ v = .no) ∧ pa ρ fun x ρ1 => ρ1 = ρ ∧ ∃ xs ys : List PyData, x = [.tuple xs, .tuple ys] ∧ ∃ I : Nat → List PyData → Prop, I 0 [] ∧
  (∀ i c d acc, xs[i]? = some c → ys[i]? = some d → I i acc → pg (.tuple [c, d]) ρ fun ρ2 => pt ρ2 fun b ρ3 => ρ3 = ρ2 ∧ if b = true then pe ρ2 fun y ρ4 => ρ4 = ρ2 ∧ acc.length < 100000 ∧ I (i + 1) (acc ++ [y]) else I (i + 1) acc) ∧ ∀ acc, I (min xs.length ys.length) acc → R acc ρ
theorem pair_of {H : Hp} {vs : List V} {c d : PyData} (r : Dqs K H vs [c, d]) : ∃ v w, vs = [v, w] ∧ Dq K H v c ∧ Dq K H w d := by
  cases r with
  | cons h r =>
    cases r with
    | cons h' r =>
      cases r
      exact ⟨_, _, rfl, h, h'⟩
theorem sim_lcZ {ta : TA} {g : TG} {tt : TT} {te : TE} {vs is : List Nat} {pa : PA'} {pg : PG'} {pt : PT'} {pe : PE'} (sa : SimA K ta pa) (sg : SimGV K vs g pg) (st : SimT K tt pt) (se : Sim K te pe) :
    SimL K (tLc (RZ.iZipA K ta) g tt te vs) (pLcZ vs is pa pg pt pe) := fun B Z A H0 M σ H ρ R E ⟨hv, h⟩ Q q =>
  sa B Z A H0 M σ H ρ _ E h _ fun us x ρ1 H1 ⟨e1, xs, ys, hx, I, i0, is, ie⟩ E1 d1 => by
    subst e1
    subst hx
    obtain ⟨u, w, rfl, du, dw⟩ := pair_of d1
    cases du with
    | @tup a us _ hs r =>
      cases dw with
      | @tup b ws _ hs2 r2 =>
        have l1 := dqs_len r
        have l2 := dqs_len r2
        refine ⟨a, b, us, ws, rfl, .inr ⟨grow_t (veil_grow _ _) hs, grow_t (veil_grow _ _) hs2, fun D hD => ?_⟩⟩
        obtain ⟨h0, nB, nZ⟩ := lc_start E1 hD
        refine walkW (n := min us.length ws.length) (fun i H' => ∃ va acc, EnvR K B (plus Z D) (veil (hid Z M) H1) H0 M (wipe σ vs) H' ρ1 ∧ H' D = some (.lst va) ∧ Dqs K (veil (hid (plus Z D) M) H') va acc ∧ I i acc) ⟨[], [], E1.enter hv hD, upd_same, .nil, i0⟩
          (fun H' ⟨va, acc, E', hd', ra, hI⟩ => ⟨⟨us, ws, grow_t (veil_grow _ _) (grow_t E'.anch hs), grow_t (veil_grow _ _) (grow_t E'.anch hs2), by omega⟩, ?_⟩) (fun i H' hi ⟨va, acc, E', hd', ra, hI⟩ => ?_)
        · have z := q D va acc ρ1 (wiped H' D) (ie acc (by rw [← l1, ← l2]; exact hI)) (E'.leave E1.anch h0 nZ) wiped_at (dps_grow veil_in _ _ ra)
          rw [wiped_upd hd'] at z
          exact z
        · have s1 := grow_t (veil_grow _ _) (grow_t E'.anch hs)
          have s2 := grow_t (veil_grow _ _) (grow_t E'.anch hs2)
          have g1 : us[i]? = some us[i] := List.getElem?_eq_getElem (by omega)
          have g2 : ws[i]? = some ws[i] := List.getElem?_eq_getElem (by omega)
          refine ⟨⟨us, ws, _, _, s1, s2, g1, g2⟩, fun x H2 hy => ?_⟩
          obtain ⟨T, y1, y2, rfl, hT, rfl, k1, k2⟩ := hy
          have e1 := k1 us s1
          have e2 := k2 ws s2
          obtain ⟨c, hc, dc⟩ := dqs_got r e1
          obtain ⟨d, hd, dd⟩ := dqs_got r2 e2
          have nT : D ≠ T := fun e => by rw [← e, hd'] at hT; cases hT
          have gT := grow_new (o := HO.tup [y1, y2]) hT
          have E3 := E'.grown gT
          refine lc_turn sg st se E3 hv ((upd_ne nT).trans hd') h0 nB (.new (E'.veiled hT) hT (.cons (dp_grow E'.anch _ _ dc) (.cons (dp_grow E'.anch _ _ dd) .nil))) (dps_grow (grow_veil gT) _ _ ra) wipe_wipe (is i c d acc hc hd hI) fun H2 va' acc' E2 h2 r2 y2 => ⟨va', acc', E2, h2, r2, y2⟩
theorem wipe_in {σ : St} {vs : List Nat} : ∀ {ws : List Nat}, (∀ v ∈ ws, v ∈ vs) → wipe (wipe σ ws) vs = wipe σ vs
  | [], _ => rfl
  | w :: ws, h => by
    show wipe ((wipe σ ws).set w none) vs = wipe σ vs
    rw [wipe_set (h w List.mem_cons_self), wipe_in fun v m => h v (List.mem_cons_of_mem _ m)]
/-- [e for x in xs for y in ys if t]: xs a list or a tuple, ys a tuple -/
def pLc2 (vs vs1 : List Nat) (pl : PE') (pg : PG') (pl1 : PE') (pg1 : PG') (pt1 : PT') (pe : PE') : PA' := fun ρ R => (∀ v ∈ vs, cellAt ρ v = .no) ∧ pl ρ fun x ρ1 => ρ1 = ρ ∧ asS x fun ds => ∃ I : Nat → List PyData → Prop, I 0 [] ∧
  (∀ i d acc, ds[i]? = some d → I i acc → pg d ρ fun ρ2 => (∀ v ∈ vs1, cellAt ρ2 v = .no) ∧ pl1 ρ2 fun y ρ3 => ρ3 = ρ2 ∧ asT y fun es => ∃ J : Nat → List PyData → Prop, J 0 acc ∧
    (∀ j e acc, es[j]? = some e → J j acc → pg1 e ρ2 fun ρ4 => pt1 ρ4 fun b ρ5 => ρ5 = ρ4 ∧ if b = true then pe ρ4 fun z ρ6 => ρ6 = ρ4 ∧ acc.length < 100000 ∧ J (j + 1) (acc ++ [z]) else J (j + 1) acc) ∧ ∀ acc, J es.length acc → I (i + 1) acc) ∧ ∀ acc, I ds.length acc → R acc ρ
theorem lc2_turn {B Z : Addr → Prop} {A H0 H : Hp} {M : Nat → Option Addr} {σ : St} {ρ : En} {D : Addr} {vs vs1 : List Nat} {g g1 : TG} {pg pg1 : PG'} {tt1 : TT} {pt1 : PT'} {te tl1 : TE} {pe pl1 : PE'} {v : V} {d : PyData} {va : List V} {acc : List PyData} {yes : List PyData → Prop}
    (hin : ∀ v ∈ vs1, v ∈ vs) (sg : SimGV K vs g pg) (sl1 : Sim K tl1 pl1) (sg1 : SimGV K vs1 g1 pg1) (st : SimT K tt1 pt1) (se : Sim K te pe) (E : EnvR K B (plus Z D) A H0 M (wipe σ vs) H ρ) (hv : ∀ v ∈ vs, cellAt ρ v = .no) (hD : H D = some (.lst va)) (h0 : H0 D = none) (nB : ¬ B D) (dv : Dq K (veil (hid (plus Z D) M) H) v d)
    (ra : Dqs K (veil (hid (plus Z D) M) H) va acc)
    (h : pg d ρ fun ρ2 => (∀ v ∈ vs1, cellAt ρ2 v = .no) ∧ pl1 ρ2 fun y ρ3 => ρ3 = ρ2 ∧ asT y fun es => ∃ J : Nat → List PyData → Prop, J 0 acc ∧
      (∀ j e acc, es[j]? = some e → J j acc → pg1 e ρ2 fun ρ4 => pt1 ρ4 fun b ρ5 => ρ5 = ρ4 ∧ if b = true then pe ρ4 fun z ρ6 => ρ6 = ρ4 ∧ acc.length < 100000 ∧ J (j + 1) (acc ++ [z]) else J (j + 1) acc) ∧ ∀ acc, J es.length acc → yes acc) {Pv : Hp → Prop}
    (hP : ∀ H' va' acc', EnvR K B (plus Z D) A H0 M (wipe σ vs) H' ρ → H' D = some (.lst va') → Dqs K (veil (hid (plus Z D) M) H') va' acc' → yes acc' → Pv H') :
    g v (wipe σ vs) H fun σ2 H2 => wipe σ2 vs = wipe σ vs ∧ tYes σ2 H2 fun b H3 => if b = true then iTup K tl1 σ2 H3 fun J1 H4 => ∃ W1 : Nat → Nat → Hp → Prop, (∃ m, W1 0 m H4) ∧ ∀ j k H, W1 j k H → J1.stop j H ∧ Pv H ∨ J1.go j H ∧ ∃ Nx1 : Hp → Prop, (∀ H', Nx1 H' → ∃ k', k' < k ∧ W1 (j + 1) k' H') ∧ ∀ x H', J1.yld j H x H' →
      g1 x (wipe σ2 vs1) H' fun σ3 H5 => wipe σ3 vs1 = wipe σ2 vs1 ∧ tt1 σ3 H5 fun b H6 => if b = true then te σ3 H6 fun y H7 => ∃ acc, H7 D = some (.lst acc) ∧ acc.length < sizeLine ∧ Nx1 (upd H7 D (.lst (acc ++ [y]))) else Nx1 H6 else Pv H3 := by
  have nM : ∀ i l, M i = some l → l ≠ D := fun i l m e => E.off i l m (.inr e)
  have E' := (E.anchor.hold hD nM)
  refine sg B _ _ _ M _ H ρ v d _ E' dv h _ fun σ2 ρ2 h2 E2 w2 l2 o2 => ⟨w2.trans wipe_wipe, ?_⟩
  obtain ⟨hv1, h2⟩ := h2
  refine sl1 B _ _ _ M σ2 H ρ2 _ E2 h2 _ fun u y ρ3 H4 ⟨e3, h3⟩ E4 d4 => ?_
  subst e3
  obtain ⟨es, rfl, J, j0, js, je⟩ := asT_of h3
  have hD4 : H4 D = some (.lst va) := E4.ext D _ nB upd_same
  cases d4 with
  | @tup a us _ hs r =>
    have len := dqs_len r
    have g4 : Grow (veil (hid (plus Z D) M) H) (veil (hid (plus Z D) M) H4) := E4.anch
    have E5 : EnvR K B (plus Z D) (veil (hid (plus Z D) M) H4) H0 M (wipe σ2 vs1) H4 ρ3 := ((E4.anchor.unhold h0 nM)).back (ρ := ρ3) rfl rfl (fun _ _ => rfl) hv1
    refine ⟨a, rfl, ⟨us, grow_t (veil_grow _ _) hs⟩, walkW (n := us.length) (fun j H' => ∃ va acc, EnvR K B (plus Z D) (veil (hid (plus Z D) M) H4) H0 M (wipe σ2 vs1) H' ρ3 ∧ H' D = some (.lst va) ∧ Dqs K (veil (hid (plus Z D) M) H') va acc ∧ J j acc) ⟨va, acc, E5, hD4, dps_grow g4 _ _ ra, j0⟩
      (fun H' ⟨va', acc', E6, hd6, ra6, hJ⟩ => ⟨⟨us, grow_t (veil_grow _ _) (grow_t E6.anch hs), Nat.le_refl _⟩, ?_⟩) (fun j H' hj ⟨va', acc', E6, hd6, ra6, hJ⟩ => ?_)⟩
    · refine hP H' va' acc' (((E6.weak g4).weak E.anch).back ?_ l2 o2 hv) hd6 ra6 (je acc' (len ▸ hJ))
      rw [wipe_in hin]
      exact w2.trans wipe_wipe
    · have s1 := grow_t (veil_grow _ _) (grow_t E6.anch hs)
      have g1 : us[j]? = some us[j] := List.getElem?_eq_getElem (by omega)
      refine ⟨⟨us, _, s1, g1⟩, fun x H2 hy => ?_⟩
      obtain ⟨rfl, k1⟩ := hy
      obtain ⟨c, hc, dc⟩ := dqs_got r (k1 us s1)
      exact lc_turn sg1 st se E6 hv1 hd6 h0 nB (dp_grow E6.anch _ _ dc) ra6 wipe_wipe (js j c acc' hc hJ) fun H2 va' acc' E2 h2 r2 y2 => ⟨va', acc', E2, h2, r2, y2⟩
end
end Pu
namespace Pu
open PySem L2
/-! a walk over a list or a tuple, which of them the value tells -/
def iEi (K : PySem.W.Frag) (tl : TE) : TI := fun σ H R => tl σ H fun x H1 => ∃ a, x = .ref a ∧ (((∃ xs, SqT K H1 a xs) ∧ R (Itt K a) H1) ∨ ((∃ xs, SqL K H1 a xs) ∧ R (Itl K a) H1))
section
variable {X : Cx}
theorem pi_ei {tg l : Expr} {tl : TE} (hp : PE X l tl) : PI X tg l (iEi X.K tl) := ⟨fun pins s σ H R I h => by
  refine wpAny_mono (hp.run pins s σ H _ I h) (fun v s1 ⟨y, H1, I1, ry, a, ey, k⟩ => ?_) (fun _ _ e => e)
  subst ey
  have ev : v = .ref a := ry
  subst ev
  have hf : H1 s1.heap.objs.size = none := HOk.fresh I1.hok (Nat.le_refl _)
  rcases k with ⟨⟨xs, hx⟩, hr⟩ | ⟨⟨xs, hx⟩, hr⟩
  · obtain ⟨its, rv, ht, _⟩ := I1.tuple hx
    refine wpAny_pyIter_tuple ht ?_
    exact ⟨_, [s1.heap.objs.size], _, Itt X.K a, H1, rfl, I1.kept fun b u h => Heap.get?_push_of_some _ h, turn_tuple a _, ⟨_, Heap.get?_push_size _ rfl, rfl, rfl⟩, fun b hb => by
      rw [List.mem_singleton] at hb
      subst hb
      exact I1.fpOk (Nat.le_refl _) hf, hr⟩
  · obtain ⟨its, rv, ht, _⟩ := I1.list hx
    refine wpAny_pyIter_list ht.isList ?_
    exact ⟨_, [s1.heap.objs.size], _, Itl X.K a, H1, rfl, I1.kept fun b u h => Heap.get?_push_of_some _ h, turn_list a _, ⟨_, Heap.get?_push_size _ rfl, rfl, rfl⟩, fun b hb => by
      rw [List.mem_singleton] at hb
      subst hb
      exact I1.fpOk (Nat.le_refl _) hf, hr⟩⟩
end
section
variable {K : PySem.W.Frag}
theorem sim_lc2 {tl tl1 : TE} {g g1 : TG} {tt1 : TT} {te : TE} {vs vs1 : List Nat} {pl pl1 : PE'} {pg pg1 : PG'} {pt1 : PT'} {pe : PE'} (hin : ∀ v ∈ vs1, v ∈ vs) (sl : Sim K tl pl) (sg : SimGV K vs g pg) (sl1 : Sim K tl1 pl1) (sg1 : SimGV K vs1 g1 pg1) (st : SimT K tt1 pt1) (se : Sim K te pe) :
    SimL K (tLc2 (iEi K tl) g tYes (iTup K tl1) g1 tt1 te vs vs1) (pLc2 vs vs1 pl pg pl1 pg1 pt1 pe) := fun B Z A H0 M σ H ρ R E ⟨hv, h⟩ Q q =>
  sl B Z A H0 M σ H ρ _ E h _ fun u x ρ1 H1 ⟨e1, h1⟩ E1 d1 => by
    subst e1
    cases x with
    | list ds =>
      obtain ⟨I, i0, is, ie⟩ := h1
      cases d1 with
      | @lst a us _ hs r =>
        have len := dqs_len r
        refine ⟨a, rfl, .inr ⟨⟨us, .of (veil_grow _ _ _ _ hs)⟩, fun D hD => ?_⟩⟩
        obtain ⟨h0, nB, nZ⟩ := lc_start E1 hD
        refine walkW (n := us.length) (fun i H' => ∃ va acc, EnvR K B (plus Z D) (veil (hid Z M) H1) H0 M (wipe σ vs) H' ρ1 ∧ H' D = some (.lst va) ∧ Dqs K (veil (hid (plus Z D) M) H') va acc ∧ I i acc) ⟨[], [], E1.enter hv hD, upd_same, .nil, i0⟩
          (fun H' ⟨va, acc, E', hd', ra, hI⟩ => ⟨⟨us, .of (veil_grow _ _ _ _ (E'.anch _ _ hs)), Nat.le_refl _⟩, ?_⟩) (fun i H' hi ⟨va, acc, E', hd', ra, hI⟩ => ?_)
        · have z := q D va acc ρ1 (wiped H' D) (ie acc (len ▸ hI)) (E'.leave E1.anch h0 nZ) wiped_at (dps_grow veil_in _ _ ra)
          rw [wiped_upd hd'] at z
          exact z
        · have s1 : SqL K H' a us := .of (veil_grow _ _ _ _ (E'.anch _ _ hs))
          have g1 : us[i]? = some us[i] := List.getElem?_eq_getElem (by omega)
          refine ⟨⟨us, _, s1, g1⟩, fun x H2 hy => ?_⟩
          obtain ⟨rfl, k1⟩ := hy
          obtain ⟨d, hd, dd⟩ := dqs_got r (k1 us s1)
          exact lc2_turn hin sg sl1 sg1 st se E' hv hd' h0 nB (dp_grow E'.anch _ _ dd) ra (is i d acc hd hI) fun H2 va' acc' E2 h2 r2 y2 => ⟨va', acc', E2, h2, r2, y2⟩
    | tuple ds =>
      obtain ⟨I, i0, is, ie⟩ := h1
      cases d1 with
      | @tup a us _ hs r =>
        have len := dqs_len r
        refine ⟨a, rfl, .inl ⟨⟨us, grow_t (veil_grow _ _) hs⟩, fun D hD => ?_⟩⟩
        obtain ⟨h0, nB, nZ⟩ := lc_start E1 hD
        refine walkW (n := us.length) (fun i H' => ∃ va acc, EnvR K B (plus Z D) (veil (hid Z M) H1) H0 M (wipe σ vs) H' ρ1 ∧ H' D = some (.lst va) ∧ Dqs K (veil (hid (plus Z D) M) H') va acc ∧ I i acc) ⟨[], [], E1.enter hv hD, upd_same, .nil, i0⟩
          (fun H' ⟨va, acc, E', hd', ra, hI⟩ => ⟨⟨us, grow_t (veil_grow _ _) (grow_t E'.anch hs), Nat.le_refl _⟩, ?_⟩) (fun i H' hi ⟨va, acc, E', hd', ra, hI⟩ => ?_)
        · have z := q D va acc ρ1 (wiped H' D) (ie acc (len ▸ hI)) (E'.leave E1.anch h0 nZ) wiped_at (dps_grow veil_in _ _ ra)
          rw [wiped_upd hd'] at z
          exact z
        · have s1 : SqT K H' a us := grow_t (veil_grow _ _) (grow_t E'.anch hs)
          have g1 : us[i]? = some us[i] := List.getElem?_eq_getElem (by omega)
          refine ⟨⟨us, _, s1, g1⟩, fun x H2 hy => ?_⟩
          obtain ⟨rfl, k1⟩ := hy
          obtain ⟨d, hd, dd⟩ := dqs_got r (k1 us s1)
          exact lc2_turn hin sg sl1 sg1 st se E' hv hd' h0 nB (dp_grow E'.anch _ _ dd) ra (is i d acc hd hI) fun H2 va' acc' E2 h2 r2 y2 => ⟨va', acc', E2, h2, r2, y2⟩
    | _ => exact h1.elim
end
end Pu
namespace Pu
open PySem L2
/-! t[::-1] of a tuple -/
theorem pick_rev (its : List Value) : (List.filterMap (fun k => its.toArray[((its.length : Int) - 1 + (k : Nat) * (-1)).toNat]?) (List.range its.length)) = its.reverse := by
  have h : ∀ n, n ≤ its.length → List.filterMap (fun k => its.toArray[((its.length : Int) - 1 + (k : Nat) * (-1)).toNat]?) (List.range n) = (its.reverse).take n := by
    intro n
    induction n with
    | zero => intro _; rfl
    | succ n ih =>
      intro hn
      rw [List.range_succ, List.filterMap_append, ih (by omega)]
      have e : ((its.length : Int) - 1 + (n : Nat) * (-1)).toNat = its.length - 1 - n := by omega
      have g : its.toArray[((its.length : Int) - 1 + (n : Nat) * (-1)).toNat]? = some its[its.length - 1 - n] := by
        rw [e, List.getElem?_toArray, List.getElem?_eq_getElem (by omega)]
      rw [List.take_succ]
      congr 1
      rw [List.filterMap_cons, g, List.getElem?_reverse (by omega), List.getElem?_eq_getElem (by omega)]
      rfl
  rw [h its.length (Nat.le_refl _), List.take_of_length_le (by rw [List.length_reverse]; exact Nat.le_refl _)]
theorem get_rev {prog : Program} {w : World} {A : Around} {E : Value → Shared → Prop} {s : Shared} {a sl : Addr} {its : List Value} {tk : Tok} {Q : Value → Shared → Prop} (ht : PyProof.Rows.IsTup s.heap a its.toArray) (hs : s.heap.IsSliceOf sl .none .none (.int (-1) tk)) (hz : its.length ≤ sizeLine)
    (q : Q (.ref s.heap.objs.size) { s with heap := s.heap.push { cls := .type "tuple", data := .seq its.reverse.toArray } }) : wpAny (model prog w) A (getItem (.ref a) (.ref sl)) Q E s := by
  refine getItem_meets (S := fun x R s => PyProof.Rows.IsTup s.heap a its.toArray ∧ s.heap.IsSliceOf sl .none .none (.int (-1) tk) ∧ R (Except.ok (Flow.ret (.ref s.heap.objs.size))) { s with heap := s.heap.push { cls := .type "tuple", data := .seq its.reverse.toArray } }) ht.typeIs rfl PyProof.Rows.slot_tuple_getitem PyProof.Rows.entry_tuple_getitem (PyProof.Rows.args_tuple_getitem _ _) ?_ ⟨ht, hs, q⟩
  intro prog w A R s ⟨ht, hs, q⟩
  obtain ⟨o, ho, hoc, n, hod⟩ := ht
  obtain ⟨z, hz1, hz2, hz3⟩ := hs
  unfold Builtin.«tuple.__getitem__»
  refine wpAny_bind ?_
  show wpAny _ _ (pure (Value.ref a, [Value.ref sl])) _ _ _
  refine wpAny_pure ?_
  show wpAny _ _ _ _ _ _
  dsimp only
  refine wpAny_bind ?_
  unfold Builtin.Tuple.tupleItemsOf
  refine wpAny_bind ?_
  unfold seqItems?
  refine wpAny_bind (wpAny_load ho ?_)
  rw [hod]
  refine wpAny_pure ?_
  dsimp only
  refine wpAny_pure ?_
  refine wpAny_bind (wpAny_typeOf_ref hz1 ?_)
  rw [hz2]
  rw [if_pos (by rfl)]
  unfold Builtin.Slice.sliceApplied
  refine wpAny_bind (wpAny_bind ?_)
  unfold Builtin.Slice.sliceFields
  refine wpAny_bind (wpAny_field hz1 hz3 rfl ?_)
  refine wpAny_bind (wpAny_field hz1 hz3 rfl ?_)
  refine wpAny_bind (wpAny_field hz1 hz3 rfl ?_)
  refine wpAny_pure ?_
  dsimp only
  refine wpAny_bind (HT.slicePart_ (.int (-1) tk) ?_)
  dsimp only [Option.getD]
  rw [if_neg (by decide)]
  refine wpAny_bind (HT.slicePart_ .none ?_)
  refine wpAny_bind (HT.slicePart_ .none ?_)
  refine wpAny_bind (wpAny_pure ?_)
  refine wpAny_pure ?_
  have e1 : (Builtin.Slice.sliceAdjust none none (-1) ↑its.toArray.size).1 = (its.length : Int) - 1 := rfl
  have e2 : (Builtin.Slice.sliceAdjust none none (-1) ↑its.toArray.size).2 = -1 := rfl
  have e3 : Builtin.Slice.slicePlaces ((its.length : Int) - 1) (-1) (-1) = its.length := by
    unfold Builtin.Slice.slicePlaces
    rw [if_neg (by decide)]
    by_cases h : (its.length : Int) - 1 > -1
    · rw [if_pos h]
      have : ((its.length : Int) - 1 - -1 - 1) / (- -1) = (its.length : Int) - 1 := by
        rw [show (- -1 : Int) = 1 from rfl, Int.ediv_one]; omega
      rw [this]; omega
    · rw [if_neg h]
      have : its.length = 0 := by omega
      rw [this]; rfl
  show wpAny _ _ (if ((Builtin.Slice.sliceAdjust none none (-1) ↑its.toArray.size).1 == 0 && (-1 : Int) == 1 && (Builtin.Slice.slicePlaces (Builtin.Slice.sliceAdjust none none (-1) ↑its.toArray.size).1 (Builtin.Slice.sliceAdjust none none (-1) ↑its.toArray.size).2 (-1)) == its.toArray.size) = true then _ else _) _ _ _
  rw [if_neg (by rw [show ((-1 : Int) == 1) = false from rfl, Bool.and_false, Bool.false_and]; decide)]
  dsimp only
  rw [e1, e2, e3, pick_rev]
  refine wpAny_bind ?_
  unfold Builtin.Tuple.tupleExact
  refine wpAny_newObj_type ?_ ?_
  · exact wpAny_pure q
  · show its.reverse.toArray.size ≤ sizeLine
    rw [List.size_toArray, List.length_reverse]
    exact hz
theorem pe_revT {X : Cx} {e : Expr} {te : TE} {k : Nat} {p1 p2 p3 pos : Pos} (hp : PE X e te) (hl : ∀ o r, letTemporaryGo e o r = pure () := by intros; rfl) : PE X (e.Subscript (.Slice none none (some (.UnaryOp .USub (.Constant (.int 1) k p1) p2)) p3) pos)
    (fun σ H Q => te σ H fun x H1 => ∃ a xs, x = V.ref a ∧ SqT X.K H1 a xs ∧ ∀ p, H1 p = none → Q (.ref p) (upd H1 p (.tup xs.reverse))) := ⟨fun pins s σ H Q I h => by
  rw [arm_eval_Subscript]
  refine wpAny_bind (wpAny_mono (hp.run pins s σ H _ I h) (fun v s1 ⟨y, H1, I1, ry, a, xs, ey, hx, q⟩ => ?_) (fun _ _ e => e))
  subst ey
  have ev : v = .ref a := ry
  subst ev
  refine wpAny_bind (wpAny_holding ?_)
  rw [arm_eval_Slice]
  refine wpAny_bind ?_
  show wpAny _ _ (pure Value.none) _ _ _
  refine wpAny_pure (wpAny_bind (wpAny_holding ?_))
  show wpAny _ _ (pure Value.none) _ _ _
  refine wpAny_pure (wpAny_bind (wpAny_holding ?_))
  show wpAny _ _ (eval (.UnaryOp .USub (.Constant (.int 1) k p1) p2) X.env) _ _ _
  have hs : PE X (.UnaryOp .USub (.Constant (.int 1) k p1) p2) _ := pe_un un_neg pe_int
  refine wpAny_mono (hs.run pins s1 σ H1 (fun v H' => v = .int (-1) ∧ H' = H1) I1 ⟨1, rfl, rfl, rfl⟩) (fun u s2 ⟨v, H2, I2, rv, e1, e2⟩ => ?_) (fun _ _ e => e)
  subst e1
  subst e2
  obtain ⟨tk, rfl⟩ := rv
  unfold newFields
  refine wpAny_newObj_type ?_
  refine wpAny_bind (wpAny_standAt ?_)
  have I3 : L2.Inv X pins σ H2 { heap := s2.heap.push { cls := .type "slice", data := .fields [Value.none, Value.none, Value.int (-1) tk].toArray }, gens := s2.gens, drawn := s2.drawn, toks := s2.toks, os := s2.os } := I2.kept fun b u h => Heap.get?_push_of_some _ h
  obtain ⟨its, rv, ht, hz⟩ := I3.tuple hx
  have hl2 : its.length ≤ sizeLine := by rw [← Vals.length rv]; exact hz
  refine PyProof.Rows.subscriptTail_ops (T := "tuple") ht.typeIs PyProof.Rows.slot_tuple_getitem.lookup (get_rev ht (Heap.IsSliceOf.new _ _ _ _) hl2 ?_) (ops := [Value.ref a, Value.ref s2.heap.objs.size]) rfl (hl _)
  have hp0 := HOk.fresh I3.hok (Nat.le_refl _)
  refine ⟨.ref _, _, I3.laid (o := .tup xs.reverse) (fun b u h => Heap.get?_push_of_some _ h) (Nat.le_refl _) ?_, rfl, q _ hp0⟩
  exact ⟨by rw [List.length_reverse]; exact hz, its.reverse, Vals.reverse rv, _, Heap.get?_push_size _ rfl, rfl, _, rfl⟩⟩
/-- t[::-1] of a tuple -/
def tRevT (K : PySem.W.Frag) (te : TE) : TE := fun σ H Q => te σ H fun x H1 => ∃ a xs, x = V.ref a ∧ SqT K H1 a xs ∧ ∀ p, H1 p = none → Q (.ref p) (upd H1 p (.tup xs.reverse))
theorem pe_rvT {X : Cx} {e : Expr} {te : TE} {k : Nat} {p1 p2 p3 pos : Pos} (hp : PE X e te) (hl : ∀ o r, letTemporaryGo e o r = pure () := by intros; rfl) : PE X (e.Subscript (.Slice none none (some (.UnaryOp .USub (.Constant (.int 1) k p1) p2)) p3) pos) (tRevT X.K te) := pe_revT hp hl
def pRevT (pa : PE') : PE' := fun ρ R => pa ρ fun x ρ1 => asT x fun ds => R (.tuple ds.reverse) ρ1
theorem dqs_rev {K : PySem.W.Frag} {H : Hp} : ∀ {vs : List V} {ds : List PyData}, Dqs K H vs ds → Dqs K H vs.reverse ds.reverse
  | _, _, .nil => .nil
  | _, _, .cons h r => by
    rw [List.reverse_cons, List.reverse_cons]
    exact dqs_app (dqs_rev r) (.cons h .nil)
theorem sim_revT {K : PySem.W.Frag} {ta : TE} {pa : PE'} (sa : Sim K ta pa) : Sim K (tRevT K ta) (pRevT pa) := fun B Z A H0 M σ H ρ R E h Q q =>
  sa B Z A H0 M σ H ρ _ E h _ fun v x ρ1 H1 h1 E1 d1 => by
    obtain ⟨ds, rfl, h2⟩ := asT_of h1
    cases d1 with
    | @tup a vs _ hs r =>
      exact ⟨a, vs, rfl, grow_t (veil_grow _ _) hs, fun p hp => q _ _ _ _ h2 (E1.grown (grow_new hp)) (.new (E1.veiled hp) hp (dqs_rev r))⟩
end Pu
namespace Pu
open PySem L2
/-! list(range(a, b)) -/
def rgD (a b : Int) : List PyData := (List.range (b - a).toNat).map fun i => PyData.int (a + ((i : Nat) : Int))
def pLstRg (pa pb : PE') : PA' := fun ρ R => pa ρ fun x ρ1 => pb ρ1 fun y ρ2 => asI x fun a => asI y fun b => RgOk a b ∧ R (rgD a b) ρ2
theorem dqs_rg {K : PySem.W.Frag} {H : Hp} {a b : Int} : Dqs K H (rgV a b) (rgD a b) := by
  unfold rgV rgD
  generalize List.range (b - a).toNat = l
  induction l with
  | nil => exact .nil
  | cons x l ih => exact .cons (.int _) ih
theorem sim_lstRg {K : PySem.W.Frag} {ta tb : TE} {pa pb : PE'} (sa : Sim K ta pa) (sb : Sim K tb pb) : SimL K (tLstRg (tRg2 ta tb)) (pLstRg pa pb) := fun B Z A H0 M σ H ρ R E h Q q =>
  two sa sb E h fun v w x y ρ2 H2 h2 E2 d1 d2 => by
    obtain ⟨a, rfl, h3⟩ := asI_of h2
    obtain ⟨b, rfl, h4, h5⟩ := asI_of h3
    exact ⟨a, b, of_int d1, of_int d2, h4, fun p hp => q p _ _ _ _ h5 E2 hp dqs_rg⟩
end Pu
/-! list(zip(xs, ys)) of two lists -/
namespace ZL
open PySem PySem.W PySem.Calls PyProof.Rows PyProof.V PySem.Spec
abbrev IsZipO (h : Heap) (z TI TO T : Addr) (f : Bool) : Prop :=
  h.get? z = some { cls := .type "zip", dict := none, data := .fields #[rawInt T, .bool f, .bool false, .ref TI, .ref TO], slots := #[] }
section
variable {prog : Program} {w : World} {A : Around} {E : Value → Shared → Prop} {s : Shared}
theorem zo_alive {a : Addr} {o : Obj} {Q : Option Obj → Shared → Prop} (ho : s.heap.get? a = some o) (h : Q (some o) s) : wpAny (model prog w) A (loadIfAlive a) Q E s := by
  have h' : Q (s.heap.get? a) s := by rw [ho]; exact h
  exact fun _ _ _ => h'
theorem zo_free {z TI TO T : Addr} {f : Bool} {oT : Obj} {Q : Bool → Shared → Prop} (hz : IsZipO s.heap z TI TO T f) (hT : s.heap.get? T = some oT)
    (hQ : ∀ h', IsZipO h' z TI TO T true → Heap.SameBut z s.heap h' → Q false { s with heap := h' }) : wpAny (model prog w) A (Builtin.SmallTypes.ownedTupleIsFree (.ref z)) Q E s := by
  unfold Builtin.SmallTypes.ownedTupleIsFree
  refine wpAny_bind (wpAny_field hz rfl (x := rawInt T) rfl ?_)
  show wpAny _ _ (loadIfAlive ((T : Int).toNat) >>= _) _ _ _
  rw [Int.toNat_natCast]
  refine wpAny_bind (zo_alive hT ?_)
  simp only [Option.isNone_some, Bool.false_eq_true, if_false]
  refine wpAny_bind (wpAny_field hz rfl (x := .bool f) rfl ?_)
  cases f with
  | true =>
    rw [if_neg (show ¬ ((Value.bool true != Value.bool true) = true) from Bool.false_ne_true)]
    exact wpAny_pure (hQ s.heap hz (Heap.SameBut.refl _ _))
  | false =>
    rw [if_pos (show (Value.bool false != Value.bool true) = true from rfl)]
    refine wpAny_bind (wpAny_setField_rec hz (by simp) fun h₃ he₃ hs₃ => ?_)
    exact wpAny_pure (hQ h₃ he₃ hs₃)
theorem zo_next_item {z TI TO i1 i2 l1 l2 T : Addr} {f : Bool} {oT : Obj} {k1 k2 : Nat} {xs ys : Array Value} {x y : Value} {Q : Value → Shared → Prop} (D : ZipApart z TI TO i1 i2 l1 l2)
    (hz : IsZipO s.heap z TI TO T f) (hTI : IsPair s.heap TI (.ref i1) (.ref i2)) (hT : s.heap.get? T = some oT)
    (h1 : s.heap.IsListIter i1 l1 k1) (h2 : s.heap.IsListIter i2 l2 k2) (hl1 : s.heap.IsList l1 xs) (hl2 : s.heap.IsList l2 ys) (hx : xs[k1]? = some x) (hy : ys[k2]? = some y)
    (hQ : ∀ h', IsZipO h' z TI TO T true → h'.IsListIter i1 l1 (k1 + 1) → h'.IsListIter i2 l2 (k2 + 1) → IsPair h' s.heap.objs.size x y → h'.objs.size = s.heap.objs.size + 1 →
      (∀ c o, c ≠ z → c ≠ i1 → c ≠ i2 → s.heap.get? c = some o → h'.get? c = some o) → Q (.ref s.heap.objs.size) { s with heap := h' }) :
    wpAny (model prog w) A (Builtin.«zip.__next__» ⟨[.ref z], []⟩) (fun fin s' => ∃ v, fin = .done (.ret v) ∧ Q v s') E s := by
  show wpAny _ _ (field (.ref z) 2 >>= _) _ _ _
  refine wpAny_bind (wpAny_field hz rfl (x := .bool false) rfl ?_)
  show wpAny _ _ (field (.ref z) 3 >>= _) _ _ _
  refine wpAny_bind (wpAny_field hz rfl (x := .ref TI) rfl ?_)
  refine wpAny_bind (wpAny_seqItems hTI rfl ?_)
  show wpAny _ _ (Builtin.SmallTypes.ownedTupleIsFree (.ref z) >>= _) _ _ _
  refine wpAny_bind (zo_free hz hT fun h₁ hz₁ hs₁ => ?_)
  simp only [Bool.false_eq_true, if_false]
  refine wpAny_bind ?_
  simp only [List.forIn_toArray, List.forIn_cons, List.forIn_nil]
  refine wpAny_bind (wpAny_bind (wpAny_holding ?_))
  show wpAny _ _ (Builtin.SmallTypes.nextOf (.ref i1) >>= _) _ _ _
  refine wpAny_bind (wpAny_nextOf_list_item (h1.extBut hs₁.extBut D.i1z) (hl1.extBut hs₁.extBut D.l1z) hx fun h₂ h1₂ hs₂ => wpAny_pure ?_)
  refine wpAny_pure ?_
  dsimp only
  refine wpAny_bind (wpAny_bind (wpAny_holding ?_))
  show wpAny _ _ (Builtin.SmallTypes.nextOf (.ref i2) >>= _) _ _ _
  refine wpAny_bind (wpAny_nextOf_list_item ((h2.extBut hs₁.extBut D.i2z).extBut hs₂.extBut D.i12.symm)
    ((hl2.extBut hs₁.extBut D.l2z).extBut hs₂.extBut D.l2i1) hy fun h₄ h2₄ hs₄ => wpAny_pure ?_)
  refine wpAny_pure ?_
  dsimp only
  refine wpAny_pure ?_
  dsimp only
  refine wpAny_bind (wpAny_newTuple ?_ (by show 2 ≤ sizeLine; decide))
  have hsz : h₄.objs.size = s.heap.objs.size := by rw [hs₄.1, hs₂.1, hs₁.1]
  have up : ∀ c o, c ≠ z → c ≠ i1 → c ≠ i2 → s.heap.get? c = some o → h₄.get? c = some o := fun c o c1 c3 c4 e =>
    hs₄.extBut _ _ c4 (hs₂.extBut _ _ c3 (hs₁.extBut _ _ c1 e))
  refine wpAny_pure ⟨_, rfl, ?_⟩
  show Q (.ref h₄.objs.size) _
  rw [hsz]
  refine hQ _ (Heap.get?_push_of_some _ (hs₄.extBut _ _ D.i2z.symm (hs₂.extBut _ _ D.i1z.symm hz₁))) ((h1₂.extBut hs₄.extBut D.i12).at fun o e => Heap.get?_push_of_some _ e) (h2₄.at fun o e => Heap.get?_push_of_some _ e) ?_ (by show (h₄.push _).objs.size = _; rw [Heap.size_push, hsz]) fun c o c1 c3 c4 e => Heap.get?_push_of_some _ (up c o c1 c3 c4 e)
  show (h₄.push _).get? s.heap.objs.size = _
  rw [← hsz]
  exact Heap.get?_push_size _ rfl
theorem zo_next_end {z TI TO i1 i2 l1 l2 T : Addr} {f : Bool} {oT : Obj} {k1 k2 : Nat} {xs ys : Array Value} {Q : Fin → Shared → Prop} (hh : A.handled = none) (D : ZipApart z TI TO i1 i2 l1 l2)
    (hz : IsZipO s.heap z TI TO T f) (hTI : IsPair s.heap TI (.ref i1) (.ref i2)) (hT : s.heap.get? T = some oT)
    (h1 : s.heap.IsListIter i1 l1 k1) (h2 : s.heap.IsListIter i2 l2 k2) (hl1 : s.heap.IsList l1 xs) (hl2 : s.heap.IsList l2 ys) (hend : xs[k1]? = none ∨ ys[k2]? = none)
    (hE : ∀ h' e, (∀ c o, c ≠ z → c ≠ i1 → c ≠ i2 → s.heap.get? c = some o → h'.get? c = some o) → (∃ o, h'.get? e = some o ∧ o.cls = .type "StopIteration") → E (.ref e) { s with heap := h' }) :
    wpAny (model prog w) A (Builtin.«zip.__next__» ⟨[.ref z], []⟩) Q E s := by
  show wpAny _ _ (field (.ref z) 2 >>= _) _ _ _
  refine wpAny_bind (wpAny_field hz rfl (x := .bool false) rfl ?_)
  show wpAny _ _ (field (.ref z) 3 >>= _) _ _ _
  refine wpAny_bind (wpAny_field hz rfl (x := .ref TI) rfl ?_)
  refine wpAny_bind (wpAny_seqItems hTI rfl ?_)
  show wpAny _ _ (Builtin.SmallTypes.ownedTupleIsFree (.ref z) >>= _) _ _ _
  refine wpAny_bind (zo_free hz hT fun h₁ hz₁ hs₁ => ?_)
  simp only [Bool.false_eq_true, if_false]
  refine wpAny_bind ?_
  simp only [List.forIn_toArray, List.forIn_cons, List.forIn_nil]
  refine wpAny_bind (wpAny_bind (wpAny_holding ?_))
  show wpAny _ _ (Builtin.SmallTypes.nextOf (.ref i1) >>= _) _ _ _
  cases hx : xs[k1]? with
  | none =>
    exact wpAny_bind (wpAny_nextOf_list_end hh (h1.extBut hs₁.extBut D.i1z) (hl1.extBut hs₁.extBut D.l1z) hx fun h₂ e hs₂ he => hE h₂ e (fun c o c1 c3 c4 x => hs₂ _ _ c3 (hs₁.extBut _ _ c1 x)) he)
  | some x =>
    have hy : ys[k2]? = none := by rcases hend with h | h; rw [hx] at h; cases h; exact h
    refine wpAny_bind (wpAny_nextOf_list_item (h1.extBut hs₁.extBut D.i1z) (hl1.extBut hs₁.extBut D.l1z) hx fun h₂ h1₂ hs₂ => wpAny_pure ?_)
    refine wpAny_pure ?_
    dsimp only
    refine wpAny_bind (wpAny_bind (wpAny_holding ?_))
    show wpAny _ _ (Builtin.SmallTypes.nextOf (.ref i2) >>= _) _ _ _
    exact wpAny_bind (wpAny_nextOf_list_end hh ((h2.extBut hs₁.extBut D.i2z).extBut hs₂.extBut D.i12.symm) ((hl2.extBut hs₁.extBut D.l2z).extBut hs₂.extBut D.l2i1) hy fun h₄ e hs₄ he =>
      hE h₄ e (fun c o c1 c3 c4 x => hs₄ _ _ c4 (hs₂.extBut _ _ c3 (hs₁.extBut _ _ c1 x))) he)
/-- the state of the walk -/
def ZSt (h : Heap) (z TI TO i1 i2 S : Addr) (i : Nat) : Prop :=
  (i = 0 ∧ IsZip h z TI TO .none ∧ ∃ a b, IsPair h TO a b) ∨ ∃ T f oT, IsZipO h z TI TO T f ∧ h.get? T = some oT ∧ T ≠ z ∧ T ≠ i1 ∧ T ≠ i2 ∧ T ≠ S
theorem ZSt.keep {h h' : Heap} {z TI TO i1 i2 S : Addr} {i : Nat} (x : ZSt h z TI TO i1 i2 S i) (hk : ∀ b o, b ≠ S → h.get? b = some o → h'.get? b = some o) (hz : z ≠ S) (hTO : TO ≠ S) : ZSt h' z TI TO i1 i2 S i := by
  rcases x with ⟨e, a, b, c, d⟩ | ⟨T, f, oT, a, b, c, d, e, g⟩
  · exact .inl ⟨e, hk _ _ hz a, b, c, hk _ _ hTO d⟩
  · exact .inr ⟨T, f, oT, hk _ _ hz a, hk _ _ g b, c, d, e, g⟩
theorem z_item {z TI TO i1 i2 l1 l2 S : Addr} {i : Nat} {xs ys : Array Value} {x y : Value} {Q : Option Value → Shared → Prop} (D : ZipApart z TI TO i1 i2 l1 l2) (hst : ZSt s.heap z TI TO i1 i2 S i) (hS : S < s.heap.objs.size)
    (hTI : IsPair s.heap TI (.ref i1) (.ref i2)) (h1 : s.heap.IsListIter i1 l1 i) (h2 : s.heap.IsListIter i2 l2 i) (hl1 : s.heap.IsList l1 xs) (hl2 : s.heap.IsList l2 ys) (hx : xs[i]? = some x) (hy : ys[i]? = some y)
    (hQ : ∀ h', ZSt h' z TI TO i1 i2 S (i + 1) → h'.IsListIter i1 l1 (i + 1) → h'.IsListIter i2 l2 (i + 1) → IsPair h' s.heap.objs.size x y → h'.objs.size = s.heap.objs.size + 1 →
      (∀ c o, c ≠ z → c ≠ TO → c ≠ i1 → c ≠ i2 → s.heap.get? c = some o → h'.get? c = some o) → Q (some (.ref s.heap.objs.size)) { s with heap := h' }) :
    wpAny (model prog w) A (pyNext (.ref z)) Q E s := by
  have i1l : i1 < s.heap.objs.size := by obtain ⟨_, e, _⟩ := h1; exact Heap.lt_size e
  have i2l : i2 < s.heap.objs.size := by obtain ⟨_, e, _⟩ := h2; exact Heap.lt_size e
  rcases hst with ⟨rfl, hz, a, b, hTO⟩ | ⟨T, f, oT, hz, hT, t1, t2, t3, t4⟩
  · exact wpAny_pyNext_zip_item D hz hTI hTO h1 h2 hl1 hl2 hx hy fun h' a1 a2 a3 a4 a5 a6 a7 => hQ h' (.inr ⟨_, false, _, a1, a5, Nat.ne_of_gt (Heap.lt_size hz), Nat.ne_of_gt i1l, Nat.ne_of_gt i2l, Nat.ne_of_gt hS⟩) a3 a4 a5 a6 a7
  · have hTy : s.TypeIs (.ref z) "zip" := ⟨_, hz, rfl⟩
    unfold pyNext
    exact wpAny_bind (wpAny_attempt (wpAny_callSpecial?_slot (name := Str.ofString "__next__") hTy F.slot_zip_next
      (wpAny_call_entry F.slot_zip_next hTy F.entry_zip_next
        (zo_next_item D hz hTI hT h1 h2 hl1 hl2 hx hy fun h' a1 a3 a4 a5 a6 a7 => wpAny_pure (hQ h' (.inr ⟨T, true, oT, a1, a7 _ _ t1 t2 t3 hT, t1, t2, t3, t4⟩) a3 a4 a5 a6 fun c o c1 _ c3 c4 e => a7 c o c1 c3 c4 e)) (F.args_zip_next_1 _))))
theorem z_end {z TI TO i1 i2 l1 l2 S : Addr} {i : Nat} {xs ys : Array Value} {Q : Option Value → Shared → Prop} (hh : A.handled = none) (D : ZipApart z TI TO i1 i2 l1 l2) (hst : ZSt s.heap z TI TO i1 i2 S i)
    (hTI : IsPair s.heap TI (.ref i1) (.ref i2)) (h1 : s.heap.IsListIter i1 l1 i) (h2 : s.heap.IsListIter i2 l2 i) (hl1 : s.heap.IsList l1 xs) (hl2 : s.heap.IsList l2 ys) (hend : xs[i]? = none ∨ ys[i]? = none)
    (hQ : ∀ h', (∀ c o, c ≠ z → c ≠ TO → c ≠ i1 → c ≠ i2 → s.heap.get? c = some o → h'.get? c = some o) → Q none { s with heap := h' }) : wpAny (model prog w) A (pyNext (.ref z)) Q E s := by
  rcases hst with ⟨rfl, hz, a, b, hTO⟩ | ⟨T, f, oT, hz, hT, t1, t2, t3, t4⟩
  · exact wpAny_pyNext_zip_end hh D hz hTI hTO h1 h2 hl1 hl2 hend hQ
  · have hTy : s.TypeIs (.ref z) "zip" := ⟨_, hz, rfl⟩
    unfold pyNext
    refine wpAny_bind (wpAny_attempt (wpAny_callSpecial?_slot (name := Str.ofString "__next__") hTy F.slot_zip_next
      (wpAny_call_entry F.slot_zip_next hTy F.entry_zip_next (zo_next_end hh D hz hTI hT h1 h2 hl1 hl2 hend fun h' e hk he => ?_) (F.args_zip_next_1 _))))
    obtain ⟨o, ho, hc⟩ := he
    refine wpAny_bind (wpAny_isInstance (T := "StopIteration") (b := true) ⟨o, ho, hc⟩ isSubtype_stop ?_)
    exact wpAny_pure (hQ _ fun c o c1 _ c3 c4 e => hk c o c1 c3 c4 e)
/-- the pairs so far -/
structure ZG (xs ys : Array Value) (lo : Addr) (h : Heap) (as : List Addr) : Prop where
  rise : as.Pairwise (· < ·)
  above : ∀ a ∈ as, lo < a
  pairs : ∀ (j : Nat) (a : Addr), as[j]? = some a → ∃ x y, xs[j]? = some x ∧ ys[j]? = some y ∧ IsPair h a x y
theorem ZG.there {xs ys : Array Value} {lo : Addr} {h : Heap} {as : List Addr} (g : ZG xs ys lo h as) {a : Addr} (ha : a ∈ as) : a < h.objs.size := by
  obtain ⟨j, hj⟩ := List.mem_iff_getElem?.mp ha
  obtain ⟨_, _, _, _, e⟩ := g.pairs j a hj
  exact Heap.lt_size e
end
section
variable {prog : Program} {w : World} {A : Around} {s : Shared} {R : Result → Shared → Prop} {xs ys : Array Value}
theorem off_lo {a lo z : Addr} (h : lo < a) (k : z ≤ lo) : a ≠ z := Nat.ne_of_gt (Nat.lt_of_le_of_lt k h)
/-- the five addresses of a zip lie from lo to lo + 4 -/
theorem z_loop {S z TI TO i1 i2 l1 l2 lo : Addr} (hh : A.handled = none) (D : ZipApart z TI TO i1 i2 l1 l2) (up5 : z ≤ lo ∧ TI ≤ lo ∧ TO ≤ lo ∧ i1 ≤ lo ∧ i2 ≤ lo) (nS : S ≠ z ∧ S ≠ TI ∧ S ≠ TO ∧ S ≠ i1 ∧ S ≠ i2 ∧ S ≠ l1 ∧ S ≠ l2) (hSlo : S ≤ lo)
    {n : Nat} (en : n = min xs.size ys.size) (hn : n ≤ sizeLine) (res : Value) {h₁ : Heap}
    (hR : ∀ h' tk acc c as, (∀ b o, b ≠ S → b ≠ z → b ≠ TO → b ≠ i1 → b ≠ i2 → h₁.get? b = some o → h'.get? b = some o) → h'.get? S = some { cls := .type "list", dict := none, data := .seq acc c, slots := #[] } → as.length = n → ZG xs ys lo h' as →
      acc.toList = as.map Value.ref → R (.ok (.ret res)) { s with heap := h', toks := tk }) :
    ∀ (k i : Nat) (h : Heap) (tk c : Nat) (acc : Array Value) (as : List Addr), n - i = k → i ≤ n → ZSt h z TI TO i1 i2 S i → IsPair h TI (.ref i1) (.ref i2) → h.IsListIter i1 l1 i → h.IsListIter i2 l2 i → h.IsList l1 xs → h.IsList l2 ys →
      (∀ b o, b ≠ S → b ≠ z → b ≠ TO → b ≠ i1 → b ≠ i2 → h₁.get? b = some o → h.get? b = some o) →
      h.get? S = some { cls := .type "list", dict := none, data := .seq acc c, slots := #[] } → acc.toList = as.map Value.ref → as.length = i → ZG xs ys lo h as → lo < h.objs.size →
      codeAny (model prog w) A (.builtin "list.extend.loop" ⟨[.ref S, .ref z, res], []⟩) R { s with heap := h, toks := tk } := by
  obtain ⟨n1, n2, n3, n4, n5, n6, n7⟩ := nS
  intro k
  induction k with
  | zero =>
    intro i h tk c acc as hk hi hst hTI h1 h2 hl1 hl2 hkeep hS hacc hal hG hIs
    have hin : i = n := by omega
    refine codeAny_builtin PySem.F.entry_extend_loop ?_
    rw [Around.under_plainId PySem.F.plain_extend_loop _]
    show wpAny _ A.in1 (pyNext (.ref z) >>= _) _ _ _
    have he : xs[i]? = none ∨ ys[i]? = none := by
      rcases Nat.le_total xs.size ys.size with h | h
      · exact .inl (Array.getElem?_eq_none (by omega))
      · exact .inr (Array.getElem?_eq_none (by omega))
    refine wpAny_bind (z_end (s := { s with heap := h, toks := tk }) (A := A.in1) hh D hst hTI h1 h2 hl1 hl2 he fun h' hk' => ?_)
    refine wpAny_pure (hR h' tk acc c as (fun b o a1 a2 a3 a4 a5 e => hk' b o a2 a3 a4 a5 (hkeep b o a1 a2 a3 a4 a5 e)) (hk' S _ n1 n3 n4 n5 hS) (by omega) ⟨hG.rise, hG.above, fun j a hj => ?_⟩ hacc)
    obtain ⟨x, y, e1, e2, e3⟩ := hG.pairs j a hj
    have := hG.above a (List.mem_of_getElem? hj)
    exact ⟨x, y, e1, e2, hk' a _ (off_lo this up5.1) (off_lo this up5.2.2.1) (off_lo this up5.2.2.2.1) (off_lo this up5.2.2.2.2) e3⟩
  | succ k ih =>
    intro i h tk c acc as hk hi hst hTI h1 h2 hl1 hl2 hkeep hS hacc hal hG hIs
    have hlt : i < n := by omega
    have hix : i < xs.size := by omega
    have hiy : i < ys.size := by omega
    have hsz : acc.size = i := by rw [← Array.length_toList, hacc, List.length_map, hal]
    refine codeAny_builtin PySem.F.entry_extend_loop ?_
    rw [Around.under_plainId PySem.F.plain_extend_loop _]
    show wpAny _ A.in1 (pyNext (.ref z) >>= _) _ _ _
    have hSl : S < h.objs.size := Heap.lt_size hS
    refine wpAny_bind (z_item (s := { s with heap := h, toks := tk }) D hst hSl hTI h1 h2 hl1 hl2 (Array.getElem?_eq_getElem hix) (Array.getElem?_eq_getElem hiy) fun h' hst' h1' h2' ht hz hkp => ?_)
    dsimp only at ht hz hkp ⊢
    have hS' := hkp S _ n1 n3 n4 n5 hS
    have up : ∀ b o, b ≠ S → h'.get? b = some o → (h'.update S (Obj.mapSeq (·.push (Value.ref h.objs.size)))).get? b = some o := fun b o hb e => (Heap.get?_update_other _ _ (Ne.symm hb)).trans e
    show wpAny _ A.in1 (updateSeq S (·.push (Value.ref h.objs.size)) >>= _) _ _ _
    refine wpAny_bind ?_
    refine wpAny_updateSeq hS' rfl (wpAny_pure ⟨plainId_quiet PySem.F.plain_extend_loop _, ih (i + 1) _ tk _ (acc.push (Value.ref h.objs.size)) (as ++ [h.objs.size]) (by omega) hlt (hst'.keep up (Ne.symm n1) (Ne.symm n3)) (up _ _ (Ne.symm n2) (hkp _ _ D.TIz D.TITO D.TIi1 D.TIi2 hTI))
      (h1'.at fun o e => up _ o (Ne.symm n4) e) (h2'.at fun o e => up _ o (Ne.symm n5) e) (hl1.at fun o e => up _ o (Ne.symm n6) (hkp _ o D.l1z D.l1TO D.l1i1 D.l1i2 e)) (hl2.at fun o e => up _ o (Ne.symm n7) (hkp _ o D.l2z D.l2TO D.l2i1 D.l2i2 e))
      (fun b o a1 a2 a3 a4 a5 e => up b o a1 (hkp b o a2 a3 a4 a5 (hkeep b o a1 a2 a3 a4 a5 e))) (Heap.get?_update_self _ hS' rfl) (by rw [Array.toList_push, hacc, List.map_append]; rfl) (by rw [List.length_append, hal]; rfl) ⟨?_, ?_, ?_⟩ ?_⟩) (by rw [hsz]; omega) (by show (acc.push (Value.ref h.objs.size)).size ≤ sizeLine + 1; rw [Array.size_push, hsz]; omega)
    · refine List.pairwise_append.mpr ⟨hG.rise, List.pairwise_singleton _ _, fun a ha b hb => ?_⟩
      rw [List.mem_singleton.mp hb]
      exact hG.there ha
    · intro a ha
      rcases List.mem_append.mp ha with ha | ha
      · exact hG.above a ha
      · rw [List.mem_singleton.mp ha]; exact hIs
    · intro j b hj
      rcases Nat.lt_trichotomy j as.length with q1 | q1 | q1
      · rw [List.getElem?_append_left q1] at hj
        obtain ⟨x', y', e1, e2, e3⟩ := hG.pairs j b hj
        have hb := hG.above b (List.mem_of_getElem? hj)
        exact ⟨x', y', e1, e2, up b _ (off_lo hb hSlo) (hkp b _ (off_lo hb up5.1) (off_lo hb up5.2.2.1) (off_lo hb up5.2.2.2.1) (off_lo hb up5.2.2.2.2) e3)⟩
      · subst q1
        have hb : h.objs.size = b := by simpa using hj
        subst hb
        exact ⟨xs[i], ys[i], by rw [hal]; exact Array.getElem?_eq_getElem hix, by rw [hal]; exact Array.getElem?_eq_getElem hiy, up _ _ (Nat.ne_of_gt hSl) ht⟩
      · have hnone : (as ++ [h.objs.size])[j]? = none := List.getElem?_eq_none (by rw [List.length_append, List.length_singleton]; omega)
        rw [hnone] at hj; cases hj
    · have e : (h'.update S (Obj.mapSeq (·.push (Value.ref h.objs.size)))).get? h.objs.size = _ := up _ _ (Nat.ne_of_gt hSl) ht
      exact Nat.lt_trans hIs (Heap.lt_size e)
end
theorem nolen_zip : typeLookup (.type "zip") "__len__" = pure none := by rw [typeLookup_type, builtinLookup_eq_fast]; kernel_rfl
theorem nohint_zip : typeLookup (.type "zip") "__length_hint__" = pure none := by rw [typeLookup_type, builtinLookup_eq_fast]; kernel_rfl
section
variable {prog : Program} {w : World} {A : Around} {E : Value → Shared → Prop} {s : Shared} {xs ys : Array Value}
theorem z_hint {z : Addr} (hT : s.TypeIs (.ref z) "zip") {Q : Bool → Shared → Prop} (h : Q true s) : wpAny (model prog w) A (Builtin.List.listLengthHint (.ref z)) Q E s := by
  unfold Builtin.List.listLengthHint
  refine wpAny_bind (wpAny_specialOf hT nolen_zip ?_)
  show wpAny _ A (specialOf (Value.ref z) (Str.ofString "__length_hint__") >>= _) _ _ _
  refine wpAny_bind (wpAny_specialOf hT nohint_zip ?_)
  exact wpAny_pure h
/-- a zip that was just made -/
structure ZNew (h : Heap) (z TI TO i1 i2 l1 l2 : Addr) (xs ys : Array Value) : Prop where
  ap : ZipApart z TI TO i1 i2 l1 l2
  zip : IsZip h z TI TO .none
  ti : IsPair h TI (.ref i1) (.ref i2)
  to_ : IsPair h TO .none .none
  h1 : h.IsListIter i1 l1 0
  h2 : h.IsListIter i2 l2 0
  a1 : h.IsList l1 xs
  a2 : h.IsList l2 ys
theorem ZNew.at {h h' : Heap} {z TI TO i1 i2 l1 l2 : Addr} (N : ZNew h z TI TO i1 i2 l1 l2 xs ys) (k : ∀ b o, h.get? b = some o → b = z ∨ b = TI ∨ b = TO ∨ b = i1 ∨ b = i2 ∨ b = l1 ∨ b = l2 → h'.get? b = some o) : ZNew h' z TI TO i1 i2 l1 l2 xs ys :=
  ⟨N.ap, k _ _ N.zip (by simp), k _ _ N.ti (by simp), k _ _ N.to_ (by simp), N.h1.at fun o e => k _ o e (by simp), N.h2.at fun o e => k _ o e (by simp), N.a1.at fun o e => k _ o e (by simp), N.a2.at fun o e => k _ o e (by simp)⟩
theorem z_extend {R : Result → Shared → Prop} {z TI TO i1 i2 l1 l2 S : Addr} (hh : A.handled = none) (N : ZNew s.heap z TI TO i1 i2 l1 l2 xs ys) (up5 : z ≤ s.heap.objs.size ∧ TI ≤ s.heap.objs.size ∧ TO ≤ s.heap.objs.size ∧ i1 ≤ s.heap.objs.size ∧ i2 ≤ s.heap.objs.size)
    (nS : S ≠ z ∧ S ≠ TI ∧ S ≠ TO ∧ S ≠ i1 ∧ S ≠ i2 ∧ S ≠ l1 ∧ S ≠ l2) (res : Value) (c₀ : Nat) (hS : s.heap.get? S = some { cls := .type "list", data := .seq #[] c₀ }) {lo : Addr} (up6 : z ≤ lo ∧ TI ≤ lo ∧ TO ≤ lo ∧ i1 ≤ lo ∧ i2 ≤ lo) (hSlo : S ≤ lo) (hlo : lo < s.heap.objs.size) (hn : min xs.size ys.size ≤ sizeLine)
    (hR : ∀ h' tk acc c as, (∀ b o, b ≠ S → b ≠ z → b ≠ TO → b ≠ i1 → b ≠ i2 → s.heap.get? b = some o → h'.get? b = some o) → h'.get? S = some { cls := .type "list", dict := none, data := .seq acc c, slots := #[] } → as.length = min xs.size ys.size → ZG xs ys lo h' as →
      acc.toList = as.map Value.ref → R (.ok (.ret res)) { s with heap := h', toks := tk }) :
    wpAny (model prog w) A.in1 (Builtin.List.listExtendWith (.ref S) (.ref z) res)
      (fun fin s' => match fin with | .done f => R (.ok f) s' | .again c' => c'.quiet = true ∧ codeAny (model prog w) A c' R s') (fun e s' => R (.error e) s') s := by
  obtain ⟨n1, n2, n3, n4, n5, n6, n7⟩ := id nS
  have hT : s.TypeIs (.ref z) "zip" := ⟨_, N.zip, rfl⟩
  unfold Builtin.List.listExtendWith
  refine wpAny_bind (wpAny_typeOf (T := "zip") hT ?_)
  have h1 : Builtin.List.listSameRef (.ref S) (.ref z) = false := by simp [Builtin.List.listSameRef, n1]
  have h2 : (Value.type "zip" == Value.type "list") = false := by decide
  have h3 : (Value.type "zip" == Value.type "tuple") = false := by decide
  simp only [h1, h2, h3, Bool.or_false, Bool.false_eq_true, if_false]
  refine wpAny_bind (wpAny_pyIter_zip N.zip ?_)
  refine wpAny_bind (wpAny_holding (z_hint hT ?_))
  refine wpAny_ite_split (fun _ => ?_) (fun q => absurd rfl q)
  refine wpAny_bind (wpAny_rule ?_)
  refine wpAny_bind ?_
  show wpAny _ _ (updateSeq S (·.push .none) >>= fun _ => updateSeq S (·.pop)) _ _ _
  refine wpAny_bind (wpAny_updateSeq hS rfl ?_)
  have hS₂ := Heap.get?_update_self (Obj.mapSeq (·.push Value.none)) hS rfl
  refine wpAny_updateSeq (hz := by seq_fits) hS₂ rfl ?_
  have hS₃ := Heap.get?_update_self (Obj.mapSeq (·.pop)) hS₂ rfl
  have oth : ∀ b o, b ≠ S → s.heap.get? b = some o → ((s.heap.update S (Obj.mapSeq (·.push Value.none))).update S (Obj.mapSeq (·.pop))).get? b = some o := fun b o hb e =>
    (Heap.get?_update_other _ _ (Ne.symm hb)).trans ((Heap.get?_update_other _ _ (Ne.symm hb)).trans e)
  have N2 := N.at fun b o e q => oth b o (by rcases q with q | q | q | q | q | q | q <;> rw [q] <;> exact Ne.symm ‹_›) e
  refine wpAny_pure ⟨plainId_quiet PySem.F.plain_extend_loop _, ?_⟩
  refine z_loop (s := s) (h₁ := s.heap) hh N.ap up6 nS hSlo rfl hn res hR _ 0 _ _ _ #[] [] (Nat.sub_zero _) (Nat.zero_le _) (.inl ⟨rfl, N2.zip, _, _, N2.to_⟩) N2.ti N2.h1 N2.h2 N2.a1 N2.a2 (fun b o hb _ _ _ _ e => oth b o hb e) hS₃ rfl rfl
    ⟨List.Pairwise.nil, (fun _ ha => nomatch ha), (fun j a hj => by simp at hj)⟩ ?_
  show lo < ((s.heap.update S (Obj.mapSeq (·.push Value.none))).update S (Obj.mapSeq (·.pop))).objs.size
  rw [(Heap.SameBut.update ..).1, (Heap.SameBut.update ..).1]
  exact hlo
theorem z_init {R : Result → Shared → Prop} {z TI TO i1 i2 l1 l2 S : Addr} (hh : A.handled = none) (N : ZNew s.heap z TI TO i1 i2 l1 l2 xs ys)
    (nS : S ≠ z ∧ S ≠ TI ∧ S ≠ TO ∧ S ≠ i1 ∧ S ≠ i2 ∧ S ≠ l1 ∧ S ≠ l2) (hS : s.heap.get? S = some { cls := .type "list", data := .seq #[] }) {lo : Addr} (up6 : z ≤ lo ∧ TI ≤ lo ∧ TO ≤ lo ∧ i1 ≤ lo ∧ i2 ≤ lo) (hSlo : S ≤ lo) (hlo : lo < s.heap.objs.size) (hn : min xs.size ys.size ≤ sizeLine)
    (hR : ∀ h' tk acc c as, (∀ b o, b ≠ S → b ≠ z → b ≠ TO → b ≠ i1 → b ≠ i2 → s.heap.get? b = some o → h'.get? b = some o) → h'.get? S = some { cls := .type "list", dict := none, data := .seq acc c, slots := #[] } → as.length = min xs.size ys.size → ZG xs ys lo h' as →
      acc.toList = as.map Value.ref → R (.ok (.ret .none)) { s with heap := h', toks := tk }) :
    wpAny (model prog w) A.in1 (Builtin.«list.__init__» ⟨[.ref S, .ref z], []⟩)
      (fun fin s' => match fin with | .done f => R (.ok f) s' | .again c' => c'.quiet = true ∧ codeAny (model prog w) A c' R s') (fun e s' => R (.error e) s') s := by
  obtain ⟨n1, n2, n3, n4, n5, n6, n7⟩ := id nS
  show wpAny _ _ (do let old ← Builtin.List.listItems (.ref S); Builtin.List.listUpdate (.ref S) (fun _ => #[]); letGo old.toList.reverse; Builtin.List.listExtendWith (.ref S) (.ref z) .none) _ _ s
  refine wpAny_bind ?_
  unfold Builtin.List.listItems
  refine wpAny_bind (wpAny_seqItems hS rfl (wpAny_pure ?_))
  show wpAny _ _ (updateSeq S (fun _ => #[]) >>= fun _ => letGo (#[] : Array Value).toList.reverse >>= fun _ => Builtin.List.listExtendWith (.ref S) (.ref z) .none) _ _ s
  refine wpAny_bind (wpAny_updateSeq hS rfl ?_)
  have hS₂ := Heap.get?_update_self (Obj.mapSeq (fun _ => (#[] : Array Value))) hS rfl
  have oth : ∀ b o, b ≠ S → s.heap.get? b = some o → (s.heap.update S (Obj.mapSeq (fun _ => (#[] : Array Value)))).get? b = some o :=
    fun b o hb e => (Heap.get?_update_other _ _ (Ne.symm hb)).trans e
  refine wpAny_bind (wpAny_letGo ?_)
  have N2 := N.at fun b o e q => oth b o (by rcases q with q | q | q | q | q | q | q <;> rw [q] <;> exact Ne.symm ‹_›) e
  have hsz : (s.heap.update S (Obj.mapSeq (fun _ => (#[] : Array Value)))).objs.size = s.heap.objs.size := (Heap.SameBut.update ..).1
  have lt : ∀ {a : Addr}, a ≤ lo → a ≤ (s.heap.update S (Obj.mapSeq (fun _ => (#[] : Array Value)))).objs.size := fun h => by rw [hsz]; exact Nat.le_of_lt (Nat.lt_of_le_of_lt h hlo)
  refine z_extend (s := { s with heap := s.heap.update S (Obj.mapSeq (fun _ => (#[] : Array Value))) }) hh N2 ⟨lt up6.1, lt up6.2.1, lt up6.2.2.1, lt up6.2.2.2.1, lt up6.2.2.2.2⟩ nS .none _ hS₂ up6 hSlo (by show lo < (s.heap.update S _).objs.size; rw [hsz]; exact hlo) hn (fun h' tk acc c as hk hS' hl hG hacc => ?_)
  exact hR h' tk acc c as (fun b o a1 a2 a3 a4 a5 e => hk b o a1 a2 a3 a4 a5 (oth b o a1 e)) hS' hl hG hacc
theorem z_call {Q : Value → Shared → Prop} {z TI TO i1 i2 l1 l2 : Addr} (hh : A.handled = none) (N : ZNew s.heap z TI TO i1 i2 l1 l2 xs ys) (hn : min xs.size ys.size ≤ sizeLine)
    (hQ : ∀ h' tk acc c as, (∀ b o, b ≠ z → b ≠ TO → b ≠ i1 → b ≠ i2 → s.heap.get? b = some o → h'.get? b = some o) → h'.get? s.heap.objs.size = some { cls := .type "list", dict := none, data := .seq acc c, slots := #[] } → as.length = min xs.size ys.size → ZG xs ys s.heap.objs.size h' as →
      acc.toList = as.map Value.ref → Q (.ref s.heap.objs.size) { s with heap := h', toks := tk }) :
    wpAny (model prog w) A (call (.type "list") [.ref z]) Q E s := by
  refine callType_codes (Q₁ := fun obj s₁ => obj = .ref s.heap.objs.size ∧ s₁ = { s with heap := s.heap.push { cls := .type "list", data := .seq #[] } }) PySem.F.called_list (PySem.F.typeCall_list_1 _) PySem.F.entry_list_init
    (code_list_new _ ⟨rfl, rfl⟩) fun obj s₁ h₁ => ?_
  obtain ⟨rfl, rfl⟩ := h₁
  have hS : (s.heap.push { cls := .type "list", data := .seq #[] }).get? s.heap.objs.size = some { cls := .type "list", data := .seq #[] } := Heap.get?_push_size _ rfl
  have q1 : z < s.heap.objs.size := Heap.lt_size N.zip
  have q2 : TI < s.heap.objs.size := Heap.lt_size N.ti
  have q3 : TO < s.heap.objs.size := Heap.lt_size N.to_
  have q4 : i1 < s.heap.objs.size := let ⟨_, e, _⟩ := N.h1; Heap.lt_size e
  have q5 : i2 < s.heap.objs.size := let ⟨_, e, _⟩ := N.h2; Heap.lt_size e
  have q6 : l1 < s.heap.objs.size := let ⟨_, e, _⟩ := N.a1; Heap.lt_size e
  have q7 : l2 < s.heap.objs.size := let ⟨_, e, _⟩ := N.a2; Heap.lt_size e
  refine ⟨⟨_, hS, rfl⟩, PySem.F.args_list_init_2 _ _, z_init (A := A.in1) (s := { s with heap := s.heap.push { cls := .type "list", data := .seq #[] } }) hh (N.at fun b o e _ => Heap.get?_push_of_some _ e)
    ⟨Nat.ne_of_gt q1, Nat.ne_of_gt q2, Nat.ne_of_gt q3, Nat.ne_of_gt q4, Nat.ne_of_gt q5, Nat.ne_of_gt q6, Nat.ne_of_gt q7⟩ hS (lo := s.heap.objs.size) ⟨Nat.le_of_lt q1, Nat.le_of_lt q2, Nat.le_of_lt q3, Nat.le_of_lt q4, Nat.le_of_lt q5⟩ (Nat.le_refl _) (by show s.heap.objs.size < (s.heap.push _).objs.size; rw [Heap.size_push]; exact Nat.lt_succ_self _) hn (fun h' tk acc c as hk hS' hl hG hacc => ?_)⟩
  exact ⟨rfl, hQ h' tk acc c as (fun b o a2 a3 a4 a5 e => hk b o (Nat.ne_of_lt (Heap.lt_size e)) a2 a3 a4 a5 (Heap.get?_push_of_some _ e)) hS' hl hG hacc⟩
end
open L2
/-- the pairs tracked at their addresses -/
def putP : Hp → List Addr → List (V × V) → Hp
  | H, a :: as, p :: kvs => putP (upd H a (.tup [p.1, p.2])) as kvs
  | H, _, _ => H
theorem putP_off {b : Addr} : ∀ (as : List Addr) (kvs : List (V × V)) (H : Hp), b ∉ as → putP H as kvs b = H b
  | [], _, _, _ => rfl
  | _ :: _, [], _, _ => rfl
  | a :: as, p :: kvs, H, h => by
    show putP (upd H a (.tup [p.1, p.2])) as kvs b = H b
    rw [putP_off as kvs _ (fun z => h (List.mem_cons_of_mem _ z)), upd_ne (fun z => h (by rw [z]; exact List.mem_cons_self))]
theorem putP_at : ∀ (as : List Addr) (kvs : List (V × V)) (H : Hp), as.length = kvs.length → as.Nodup → Paired (fun (t : Addr) (p : V × V) => putP H as kvs t = some (.tup [p.1, p.2])) as kvs
  | [], [], _, _, _ => .nil
  | [], _ :: _, _, h, _ => by cases h
  | _ :: _, [], _, h, _ => by cases h
  | a :: as, p :: kvs, H, h, hn => by
    have hn' := List.nodup_cons.mp hn
    have ih := putP_at as kvs (upd H a (.tup [p.1, p.2])) (Nat.succ.inj h) hn'.2
    refine .cons ?_ ih
    show putP (upd H a (.tup [p.1, p.2])) as kvs a = some (.tup [p.1, p.2])
    rw [putP_off as kvs _ hn'.1, upd_same]
section
variable {X : Cx}
theorem pairs_laid {pins : List (Addr × Obj)} {σ : L2.St} {H : Hp} {s : Shared} {h' : Heap} {tk : Nat} {vs ws : List V} {us ts : List Value} {acc : Array Value} {c : Nat} {S : Addr} {as : List Addr} (I : L2.Inv X pins σ H s) (r1 : Vals vs us) (r2 : Vals ws ts) (hz : min vs.length ws.length ≤ sizeLine)
    (hS0 : s.heap.objs.size ≤ S) (hk : ∀ b o, s.heap.get? b = some o → h'.get? b = some o) (hS : h'.get? S = some { cls := .type "list", dict := none, data := .seq acc c, slots := #[] }) (hl : as.length = min us.length ts.length) (hG : ZG us.toArray ts.toArray S h' as) (hacc : acc.toList = as.map Value.ref) :
    ∃ H' : Hp, (∀ b o, H b = some o → H' b = some o) ∧ H S = none ∧ (∀ t ∈ as, H t = none) ∧ S ∉ as ∧ as.Nodup ∧ H' S = some (.lst (as.map V.ref)) ∧ Paired (fun (t : Addr) (q : V × V) => H' t = some (.tup [q.1, q.2])) as (vs.zip ws) ∧ L2.Inv X pins σ H' { s with heap := h', toks := tk } := by
  have lk : (vs.zip ws).length = as.length := by rw [List.length_zip, Vals.length r1, Vals.length r2, hl]
  have hSn : S ∉ as := fun z => Nat.lt_irrefl _ (hG.above _ z)
  have nd : as.Nodup := List.Pairwise.imp (fun {a b} (h : a < b) => Nat.ne_of_lt h) hG.rise
  have new : ∀ t ∈ as, H t = none := fun t ht => I.hok.fresh (Nat.le_of_lt (Nat.lt_of_le_of_lt hS0 (hG.above t ht)))
  have newS : H S = none := I.hok.fresh hS0
  have atP := putP_at as (vs.zip ws) (upd H S (.lst (as.map V.ref))) (by omega) nd
  have off : ∀ b, b ∉ as → b ≠ S → putP (upd H S (.lst (as.map V.ref))) as (vs.zip ws) b = H b := fun b h1 h2 => by rw [putP_off as _ _ h1, upd_ne h2]
  have low : ∀ b o, s.heap.get? b = some o → b ∉ as ∧ b ≠ S := fun b o e => ⟨fun z => absurd (Heap.lt_size e) (Nat.not_lt.mpr (Nat.le_of_lt (Nat.lt_of_le_of_lt hS0 (hG.above b z)))), Nat.ne_of_lt (Nat.lt_of_lt_of_le (Heap.lt_size e) hS0)⟩
  have kp : ∀ b u, H b = some u → (putP (upd H S (.lst (as.map V.ref))) as (vs.zip ws)) b = some u := fun b u e => by
    rw [off b (fun z => by rw [new b z] at e; cases e) (fun z => by rw [z, newS] at e; cases e)]
    exact e
  have eS : putP (upd H S (.lst (as.map V.ref))) as (vs.zip ws) S = some (.lst (as.map V.ref)) := by rw [putP_off as _ _ hSn, upd_same]
  refine ⟨putP (upd H S (.lst (as.map V.ref))) as (vs.zip ws), kp, newS, new, hSn, nd, eS, atP, ?_⟩
  refine I.call' (ch := []) rfl ⟨fun b o q _ _ _ => hk b o q, fun b o q _ _ _ => ⟨o.slots, hk b o q⟩, fun b o q n _ => ?_, fun b o q _ => ⟨o, hk b o q⟩, fun b xs q => kp b _ q, fun b o u q => kp b _ q, fun b ps q => ⟨#[], by rw [kp b _ q]; simp⟩⟩ (fun b u q => ?_) I.bare fun b z => by simp at z
  · obtain ⟨z1, z2⟩ := low b o q
    rw [off b z1 z2]
    exact n
  · by_cases hb : b ∈ as
    · obtain ⟨j, pk, e1, e2, e3⟩ := LiI.paired_ix atP hb
      rw [e3] at q
      cases q
      obtain ⟨x, y, f1, f2, f3⟩ := hG.pairs j b e1
      rw [List.getElem?_zip_eq_some] at e2
      obtain ⟨u1, g1, k1⟩ := r1.get e2.1
      obtain ⟨u2, g2, k2⟩ := r2.get e2.2
      have f1' : us[j]? = some x := by simpa using f1
      have f2' : ts[j]? = some y := by simpa using f2
      rw [g1] at f1'
      rw [g2] at f2'
      cases f1'
      cases f2'
      exact ⟨by show 2 ≤ sizeLine; decide, [x, y], .cons k1 (.cons k2 .nil), ⟨_, f3, rfl, _, rfl⟩⟩
    · by_cases hb2 : b = S
      · rw [hb2] at q ⊢
        rw [eS] at q
        cases q
        refine ⟨by rw [List.length_map, hl, ← Vals.length r1, ← Vals.length r2]; exact hz, acc.toList, c, by rw [hacc]; exact LiI.vals_refs as, ?_⟩
        rw [Array.toArray_toList]
        exact hS
      · rw [off b hb hb2] at q
        exact (I.hok b u q).stay (fun d v _ y => hk d v y) (fun d y => kp d _ y) fun d xs y => kp d _ y
/-- list(zip(xs, ys)) of two lists -/
def tListZip (K : PySem.W.Frag) (ta : TA) : TE := fun σ H Q => ta σ H fun us H1 => ∃ (a b : Addr) (xs ys : List V), us = [.ref a, .ref b] ∧ SqL K H1 a xs ∧ SqL K H1 b ys ∧
  ∀ (H' : Hp) (p : Addr) (ts : List Addr), (∀ b o, H1 b = some o → H' b = some o) → H1 p = none → (∀ t ∈ ts, H1 t = none) → p ∉ ts → ts.Nodup → H' p = some (.lst (ts.map V.ref)) → Paired (fun (t : Addr) (q : V × V) => H' t = some (.tup [q.1, q.2])) ts (xs.zip ys) → Q (.ref p) H'
theorem pe_listZip {e e2 : Expr} {ta : TA} {p p2 pos pos2 : Pos} (hc : X.calm = true) (hg : Gl X "list") (hm : X.mg "list" = none) (hg2 : Gl X "zip") (hm2 : X.mg "zip" = none) (ha : PA X [e, e2] ta)
    (hs2 : starEach [.Call (.Name "zip" p2) [e, e2] [] pos2] X.env = (false, eval (.Call (.Name "zip" p2) [e, e2] [] pos2) X.env) :: starEach [] X.env := by rfl)
    (hs : starEach [e, e2] X.env = (false, eval e X.env) :: starEach [e2] X.env := by rfl) (hpl : (backTo pos2 (starEach [e2] X.env)).any (·.1) = false := by rfl) :
    PE X (.Call (.Name "list" p) [.Call (.Name "zip" p2) [e, e2] [] pos2] [] pos) (tListZip X.K ta) := by
  refine ⟨fun pins s σ H Q I h => ?_⟩
  refine Call_ (ld_blt I hg hm boot_list (PyProof.Rows.callWith_type1 (args_cons (Call_ (ld_blt I hg2 hm2 PyProof.Rows.boot_zip (PyProof.Rows.callWith_type1 (thn (ha.run pos2 pins s σ H _ I h) fun us s1 ⟨vs, H1, I1, r1, q1⟩ => ?_) hs hpl))) hs2) hs2 rfl))
  obtain ⟨a, b, xs, ys, ex, hqx, hqy, q⟩ := q1
  subst ex
  cases r1 with
  | cons r rr =>
    cases rr with
    | cons r' rr =>
      cases rr
      cases r
      cases r'
      obtain ⟨its, rv, p1, hz1⟩ := I1.list hqx
      obtain ⟨its2, rv2, p2', hz2⟩ := I1.list hqy
      refine call_zip_2 p1.isList p2'.isList fun h' hz hTI hTO h1 h2 hsz hk => args_nil ?_
      have N : ZNew h' (s1.heap.objs.size + 4) (s1.heap.objs.size + 2) (s1.heap.objs.size + 3) s1.heap.objs.size (s1.heap.objs.size + 1) a b its.toArray its2.toArray :=
        ⟨PySem.W.ktu_apart s1.heap.objs.size a b p1.lt p2'.lt, hz, hTI, hTO, h1, h2, p1.isList.at fun o e => hk _ o e, p2'.isList.at fun o e => hk _ o e⟩
      have hl1 := Vals.length rv
      have hl2 := Vals.length rv2
      have hmin : min its.toArray.size its2.toArray.size ≤ sizeLine := by rw [List.size_toArray, List.size_toArray]; omega
      refine z_call (s := { s1 with heap := h' }) (I1.ok.hd hc) N hmin fun h2' tk acc c as hk2 hS hl hG hacc => ?_
      have hk3 : ∀ b o, s1.heap.get? b = some o → h2'.get? b = some o := fun b o e => by
        have lt := Heap.lt_size e
        exact hk2 b o (Nat.ne_of_lt (Nat.lt_of_lt_of_le lt (Nat.le_add_right _ _))) (Nat.ne_of_lt (Nat.lt_of_lt_of_le lt (Nat.le_add_right _ _))) (Nat.ne_of_lt lt) (Nat.ne_of_lt (Nat.lt_of_lt_of_le lt (Nat.le_add_right _ _))) (hk b o e)
      obtain ⟨H', k1, k2, k3, k4, k5, k6, k7, J⟩ := pairs_laid (tk := tk) I1 rv rv2 (by omega) (S := h'.objs.size) (by rw [hsz]; exact Nat.le_add_right _ _) hk3 hS (by rw [hl, List.size_toArray, List.size_toArray]) hG hacc
      exact ⟨.ref _, H', J, rfl, q H' _ as k1 k2 k3 k4 k5 k6 k7⟩
end
end ZL
namespace Pu
open PySem L2
section
variable {K : PySem.W.Frag}
def pairD (p : PyData × PyData) : PyData := .tuple [p.1, p.2]
def fZip : List PyData → (List PyData → Prop) → Prop := fun ds k => match ds with
  | [.list xs, .list ys] => k ((xs.zip ys).map pairD)
  | _ => False
theorem fZip_of {ds : List PyData} {k : List PyData → Prop} (h : fZip ds k) : ∃ xs ys, ds = [.list xs, .list ys] ∧ k ((xs.zip ys).map pairD) := by
  unfold fZip at h
  split at h
  · exact ⟨_, _, rfl, h⟩
  · exact h.elim
/-- list(zip(xs, ys)) -/
def pListZip (pa : PA') : PA' := fun ρ R => pa ρ fun ds ρ1 => fZip ds fun xs => R xs ρ1
theorem dqs_zip {H1 H2 : Hp} (g : ∀ v d, Dq K H1 v d → Dq K H2 v d) : ∀ {vs ws : List V} {ds es : List PyData} {ts : List Addr}, Dqs K H1 vs ds → Dqs K H1 ws es → Paired (fun (t : Addr) (q : V × V) => H2 t = some (.tup [q.1, q.2])) ts (vs.zip ws) → Dqs K H2 (ts.map V.ref) ((ds.zip es).map pairD)
  | _, _, _, _, _, .nil, _, h => by
    cases h
    exact .nil
  | _, _, _, _, _, .cons _ _, .nil, h => by
    cases h
    exact .nil
  | _, _, _, _, _, .cons a r, .cons b r2, h => by
    cases h with
    | cons h t => exact .cons (.tup (.of h) (.cons (g _ _ a) (.cons (g _ _ b) .nil))) (dqs_zip g r r2 t)
theorem paired_map {α β : Type} {F G : α → β → Prop} : ∀ {xs : List α} {ys : List β}, Paired F xs ys → (∀ a ∈ xs, ∀ b, F a b → G a b) → Paired G xs ys
  | _, _, .nil, _ => .nil
  | _, _, .cons h t, k => .cons (k _ List.mem_cons_self _ h) (paired_map t fun a m b => k a (List.mem_cons_of_mem _ m) b)
theorem sim_listZip {ta : TA} {pa : PA'} (sa : SimA K ta pa) : SimL K (ZL.tListZip K ta) (pListZip pa) := fun B Z A H0 M σ H ρ R E h Q q =>
  sa B Z A H0 M σ H ρ _ E h _ fun vs ds ρ1 H1 h1 E1 d1 => by
    obtain ⟨xs, ys, rfl, h2⟩ := fZip_of h1
    obtain ⟨v, w, rfl, dv, dw⟩ := two_of d1
    cases dv with
    | @lst a us _ hl r =>
    cases dw with
    | @lst b us2 _ hl2 r2 =>
    refine ⟨a, b, us, us2, rfl, .of (veil_grow _ _ _ _ hl), .of (veil_grow _ _ _ _ hl2), fun H' p ts k1 k2 k3 k4 k5 k6 k7 => ?_⟩
    have g : Grow H1 (wiped H' p) := fun c o e => by
      rw [wiped_ne (ne_of_none e k2)]
      exact k1 c o e
    have E2 := E1.grown g
    have gv : Grow (veil (hid Z M) H1) (veil (hid Z M) (wiped H' p)) := fun c o e => veil_on (veil_off e).1 (g _ _ (veil_off e).2)
    have e := wiped_upd (H := H') k6
    have := q p (ts.map V.ref) _ ρ1 (wiped H' p) h2 E2 wiped_at (dqs_zip (fun v d => dp_grow gv d v) r r2 (paired_map k7 fun t m pq ht => by
      refine veil_on (E1.veiled (k3 t m)) ?_
      rw [wiped_ne (fun z => k4 (by rw [← z]; exact m))]
      exact ht))
    rw [e] at this
    exact this

/-! *xs of a list of the def's own -/
def pStarO (i : Nat) (pr : PA') : PA' := fun ρ R => asOwn (cellAt ρ i) fun ds => pr ρ fun xs ρ1 => R (ds ++ xs) ρ1
theorem sim_starO {i : Nat} {tr : TA} {pr : PA'} (sr : SimA K tr pr) : SimA K (StX.tStar K (tVar i) tr) (pStarO i pr) := fun B Z A H0 M σ H ρ R E h Q q => by
  obtain ⟨ds, hc, h⟩ := asOwn_of h
  obtain ⟨l, vs, e, m, hl, r⟩ := own_at E hc
  exact ⟨.ref l, e, l, vs, rfl, .inr (.of hl), sr B Z _ H0 M σ H ρ _ E.anchor h _ fun us es ρ2 H2 h2 E2 d2 => q _ _ ρ2 H2 h2 (E2.weak E.anch) (dqs_app (dqs_up E2.anch r) d2)⟩
/-- xs.extend(ys) of a list of the def's own -/
def pExt (i : Nat) (pa : PE') : PS' := fun G ρ => asOwn (cellAt ρ i) fun _ => pa ρ fun x ρ1 => asL x fun es => asOwn (cellAt ρ1 i) fun ds => ds.length + es.length ≤ 100000 ∧ G.nx (cellSet ρ1 i (.own (ds ++ es)))
theorem s_ext {i : Nat} {te : TE} {pa : PE'} (sa : Sim K te pa) : SimS K (tDrop (tBM K "list" rExtend (tVar i) (tCons te tNil))) (pExt i pa) := fun B Z A H0 M σ H ρ D G E h C => by
  obtain ⟨ds, hc, h⟩ := asOwn_of h
  obtain ⟨l, vs, e, m, hl, r⟩ := own_at E hc
  refine ⟨.ref l, e, .inl ⟨rfl, vs, .of hl⟩, sa B Z A H0 M σ H ρ _ E h _ fun v d ρ1 H1 h1 E1 d1 => ?_⟩
  obtain ⟨es, rfl, h1⟩ := asL_of h1
  obtain ⟨ds1, hc1, h2, h3⟩ := asOwn_of h1
  obtain ⟨l1, vs1, e1, m1, hl1, r1⟩ := own_at E1 hc1
  rw [m] at m1
  cases m1
  cases d1 with
  | @lst b us _ hb r2 =>
  refine ⟨l, b, vs1, us, rfl, rfl, hl1, (veil_off hb).2, Nat.le_trans (by rw [dqs_len r1, dqs_len r2]; exact h2) (by decide), ?_⟩
  refine C.nx M σ _ _ (E1.putO (by rw [e1]; rfl) m (dqs_app r1 r2) (by rw [hc1]; intro z; cases z)) h3
/-- a list made by one of two ways -/
def pIfL (pt : PT') (pa pb : PA') : PA' := fun ρ R => pt ρ fun c ρ1 => if c = true then pa ρ1 R else pb ρ1 R
theorem sim_ifL {tt : TT} {ta tb : TE} {pt : PT'} {pa pb : PA'} (st : SimT K tt pt) (sa : SimL K ta pa) (sb : SimL K tb pb) : SimL K (tIf tt ta tb) (pIfL pt pa pb) := fun B Z A H0 M σ H ρ R E h Q q =>
  st B Z A H0 M σ H ρ _ E h _ fun c ρ1 H1 h1 E1 => by
    cases c with
    | true => exact sa B Z A H0 M σ H1 ρ1 _ E1 h1 _ q
    | false => exact sb B Z A H0 M σ H1 ρ1 _ E1 h1 _ q
/-- min(xs), max(xs) of one list of ints -/
def fMin1 : FS := fun ds k => match ds with
  | [.list xs] => match intsOf xs with
    | some ns => 0 < ns.length ∧ ∀ m, m ∈ ns → (∀ y, y ∈ ns → m ≤ y) → k (.int m)
    | none => False
  | _ => False
def fMax1 : FS := fun ds k => match ds with
  | [.list xs] => match intsOf xs with
    | some ns => 0 < ns.length ∧ ∀ m, m ∈ ns → (∀ y, y ∈ ns → y ≤ m) → k (.int m)
    | none => False
  | _ => False
theorem fMin1_of {ds : List PyData} {k : PyData → Prop} (h : fMin1 ds k) : ∃ ns : List Int, ds = [.list (ns.map PyData.int)] ∧ 0 < ns.length ∧ ∀ m, m ∈ ns → (∀ y, y ∈ ns → m ≤ y) → k (.int m) := by
  unfold fMin1 at h
  split at h
  · split at h
    · rename_i e
      exact ⟨_, by rw [intsOf_eq e], h⟩
    · exact h.elim
  · exact h.elim
theorem fMax1_of {ds : List PyData} {k : PyData → Prop} (h : fMax1 ds k) : ∃ ns : List Int, ds = [.list (ns.map PyData.int)] ∧ 0 < ns.length ∧ ∀ m, m ∈ ns → (∀ y, y ∈ ns → y ≤ m) → k (.int m) := by
  unfold fMax1 at h
  split at h
  · split at h
    · rename_i e
      exact ⟨_, by rw [intsOf_eq e], h⟩
    · exact h.elim
  · exact h.elim
theorem sim_min1 {ta : TA} {pa : PA'} (sa : SimA K ta pa) : Sim K (tCB (rMin K) ta) (pFn fMin1 pa) := fun B Z A H0 M σ H ρ R E h Q q =>
  sa B Z A H0 M σ H ρ _ E h _ fun vs ds ρ1 H1 h1 E1 d1 => by
    obtain ⟨ns, rfl, h0, h2⟩ := fMin1_of h1
    obtain ⟨v, rfl, dv⟩ := one_of d1
    cases dv with
    | @lst a us _ hl r =>
    have e := dqs_of_ints r
    subst e
    exact ⟨a, ns, rfl, .of (veil_grow _ _ _ _ hl), h0, fun m m1 m2 => q _ _ ρ1 H1 (h2 m m1 m2) E1 (.int _)⟩
theorem sim_max1 {ta : TA} {pa : PA'} (sa : SimA K ta pa) : Sim K (tCB (rMax K) ta) (pFn fMax1 pa) := fun B Z A H0 M σ H ρ R E h Q q =>
  sa B Z A H0 M σ H ρ _ E h _ fun vs ds ρ1 H1 h1 E1 d1 => by
    obtain ⟨ns, rfl, h0, h2⟩ := fMax1_of h1
    obtain ⟨v, rfl, dv⟩ := one_of d1
    cases dv with
    | @lst a us _ hl r =>
    have e := dqs_of_ints r
    subst e
    exact ⟨a, ns, rfl, .of (veil_grow _ _ _ _ hl), h0, fun m m1 m2 => q _ _ ρ1 H1 (h2 m m1 m2) E1 (.int _)⟩
end
/-! ### slices with a step, of a list -/
def pickV {α : Type} (xs : List α) (lo hi st : Option Int) : List α :=
  (sliceRange (sliceBounds lo hi st xs.length).1 (sliceBounds lo hi st xs.length).2.1 (sliceBounds lo hi st xs.length).2.2).filterMap (xs[·]?)
theorem vals_pick {xs : List V} {us : List Value} (r : Vals xs us) : ∀ l : List Nat, Vals (l.filterMap (xs[·]?)) (l.filterMap (us[·]?))
  | [] => .nil
  | i :: l => by
    have ih := vals_pick r l
    have hl := Vals.length r
    rw [List.filterMap_cons, List.filterMap_cons]
    by_cases h : i < xs.length
    · obtain ⟨u, hu, ru⟩ := r.get (List.getElem?_eq_getElem h)
      rw [List.getElem?_eq_getElem h, hu]
      exact .cons ru ih
    · rw [List.getElem?_eq_none (by omega), List.getElem?_eq_none (by omega)]
      exact ih
theorem dqs_pick {K : PySem.W.Frag} {H : Hp} {vs : List V} {ds : List PyData} (r : Dqs K H vs ds) : ∀ l : List Nat, Dqs K H (l.filterMap (vs[·]?)) (l.filterMap (ds[·]?))
  | [] => .nil
  | i :: l => by
    have ih := dqs_pick r l
    have hl := dqs_len r
    rw [List.filterMap_cons, List.filterMap_cons]
    by_cases h : i < ds.length
    · obtain ⟨u, hu, ru⟩ := dqs_get r (List.getElem?_eq_getElem h)
      rw [List.getElem?_eq_getElem h, hu]
      exact .cons ru ih
    · rw [List.getElem?_eq_none (by omega), List.getElem?_eq_none (by omega)]
      exact ih
def tSlS (K : PySem.W.Frag) (te : TE) (tl th ts : TO) : TE := fun σ H Q => te σ H fun x H1 => tl σ H1 fun l H2 => th σ H2 fun u H3 => ts σ H3 fun o H4 => ∃ a xs, x = V.ref a ∧ SqL K H4 a xs ∧ o ≠ some 0 ∧ (pickV xs l u o).length ≤ sizeLine ∧ ∀ p, H4 p = none → Q (.ref p) (upd H4 p (.lst (pickV xs l u o)))
theorem pe_sliceS {X : Cx} {e se : Expr} {lo hi : Option Expr} {te : TE} {tl th ts : TO} {p3 pos : Pos} (he : PE X e te) (hlo : PO X lo tl) (hhi : PO X hi th) (hst : PO X (some se) ts) (hlt : ∀ o r, letTemporaryGo e o r = pure () := by intros; rfl) : PE X (.Subscript e (.Slice lo hi (some se) p3) pos) (tSlS X.K te tl th ts) := by
  refine ⟨fun pins s σ H Q I h => ?_⟩
  refine PyProof.Rows.Subscript_ (thn (he.run pins s σ H _ I h) fun v s1 ⟨x, H1, I1, r1, q1⟩ => ?_)
  refine wpAny_Slice (thn (hlo.run pins s1 σ H1 _ I1 q1) fun vl s2 ⟨l, H2, I2, pl, q2⟩ => ?_)
  refine thn (hhi.run pins s2 σ H2 _ I2 q2) fun vu s3 ⟨u, H3, I3, pu, q3⟩ => ?_
  refine thn (hst.run pins s3 σ H3 _ I3 q3) fun vs s4 ⟨o, H4, I4, ps, q4⟩ => ?_
  obtain ⟨a, xs, ex, hx, ho, hz4, q⟩ := q4
  subst ex
  cases r1
  have I5 : L2.Inv X pins σ H4 { s4 with heap := s4.heap.push { cls := .type "slice", data := .fields #[vl, vu, vs] } } := I4.kept (t' := s4.toks) fun b ob q => Heap.get?_push_of_some _ q
  obtain ⟨its, r, ht, hz⟩ := I5.list hx
  have hlen := Vals.length r
  show wpAny (model X.prog X.w) X.A (PyProof.Rows.subscriptTail e (.Slice lo hi (some se) p3) (.ref a) (.ref s4.heap.objs.size)) (EP X pins σ Q) X.xe { s4 with heap := s4.heap.push { cls := .type "slice", data := .fields #[vl, vu, vs] } }
  refine PyProof.Rows.tail_any (ops := [.ref a, .ref s4.heap.objs.size]) ht.isList.typeIs (PySem.slot_list_getitem.lookup) ?_ (by with_unfolding_all rfl)
  refine wpAny_getItem_list_slice ht.isList (Heap.IsSliceOf.new _ vl vu vs) pl pu ps ho ?_ (by rw [List.size_toArray]; omega)
  have e1 : slicePick its.toArray l u o = (pickV its l u o).toArray := by
    unfold slicePick pickV
    rw [List.size_toArray]
    congr 2
    funext i
    rw [List.getElem?_toArray]
  rw [e1]
  refine ⟨.ref _, _, I5.laid (t' := s4.toks) (o := .lst (pickV xs l u o)) (fun b ob q => Heap.get?_push_of_some _ q) (Nat.le_refl _) ?_, rfl, q _ (I5.hok.fresh (Nat.le_refl _))⟩
  refine ⟨hz4, pickV its l u o, 0, ?_, Heap.get?_push_size _ rfl⟩
  unfold pickV
  rw [← hlen]
  exact vals_pick r _
section
variable {K : PySem.W.Frag}
def pPickO (i : Nat) (pl ph ps : PO') : PA' := fun ρ R => asOwn (cellAt ρ i) fun _ => pl ρ fun l ρ1 => ph ρ1 fun h ρ2 => ps ρ2 fun s ρ3 => asOwn (cellAt ρ3 i) fun ds => s ≠ some 0 ∧ (pickV ds l h s).length ≤ 100000 ∧ R (pickV ds l h s) ρ3
theorem sim_pickO {i : Nat} {tl th ts : TO} {pl ph ps : PO'} (sl : SimO K tl pl) (sh : SimO K th ph) (ss : SimO K ts ps) : SimL K (tSlS K (tVar i) tl th ts) (pPickO i pl ph ps) := fun B Z A H0 M σ H ρ R E h Q q => by
  obtain ⟨ds, hc, h⟩ := asOwn_of h
  obtain ⟨l, vs, e, m, hl, r⟩ := own_at E hc
  refine ⟨.ref l, e, sl B Z A H0 M σ H ρ _ E h _ fun lo ρ1 H1 h1 E1 => sh B Z A H0 M σ H1 ρ1 _ E1 h1 _ fun hi ρ2 H2 h2 E2 => ss B Z A H0 M σ H2 ρ2 _ E2 h2 _ fun st ρ3 H3 h3 E3 => ?_⟩
  obtain ⟨ds3, hc3, h30, h31, h32⟩ := asOwn_of h3
  obtain ⟨l3, vs3, e3, m3, hl3, r3⟩ := own_at E3 hc3
  rw [m] at m3
  cases m3
  have er : Dqs K (veil (hid Z M) H3) (pickV vs3 lo hi st) (pickV ds3 lo hi st) := by
    unfold pickV
    rw [dqs_len r3]
    exact dqs_pick r3 _
  exact ⟨l, vs3, rfl, .of hl3, h30, by rw [dqs_len er]; exact sz5 h31, fun p hp => q p _ _ ρ3 H3 h32 E3 hp er⟩
/-- every second one -/
def evens {α : Type} : List α → List α
  | a :: _ :: r => a :: evens r
  | [a] => [a]
  | [] => []
theorem sl_range2 (a : Nat) (m : Nat) (n : Nat) (h : (m : Int) = ((n : Int) - a + 2 - 1) / 2) (hn : a ≤ n) : sliceRange (a : Int) (n : Int) 2 = (List.range m).map fun k => a + 2 * k := by
  unfold sliceRange
  simp only [show (2 : Int) > 0 from by decide, if_true]
  have e : (if (a : Int) < n then ((n : Int) - a + 2 - 1) / 2 else 0).toNat = m := by
    split
    · omega
    · omega
  rw [e]
  apply List.map_congr_left
  intro k _
  omega
theorem pick_even {α : Type} : ∀ (xs : List α) (pre : List α), ((List.range ((xs.length + 1) / 2)).map fun k => pre.length + 2 * k).filterMap ((pre ++ xs)[·]?) = evens xs
  | [], pre => by simp [evens]
  | [a], pre => by
    rw [show ((([a] : List α).length + 1) / 2) = 1 from by simp]
    show (List.filterMap (fun x => (pre ++ [a])[x]?) ((List.range 1).map fun k => pre.length + 2 * k)) = [a]
    simp [List.range_succ]
  | a :: b :: r, pre => by
    have ih := pick_even r (pre ++ [a, b])
    have e : ((a :: b :: r).length + 1) / 2 = (r.length + 1) / 2 + 1 := by
      simp only [List.length_cons]
      omega
    rw [e, List.range_succ_eq_map, List.map_cons, List.filterMap_cons, List.map_map]
    have e2 : (pre ++ a :: b :: r)[pre.length + 2 * 0]? = some a := by
      rw [Nat.mul_zero, Nat.add_zero, List.getElem?_append_right (Nat.le_refl _), Nat.sub_self]
      rfl
    rw [e2]
    show a :: _ = a :: evens r
    congr 1
    rw [← ih]
    have e3 : (pre ++ [a, b]) ++ r = pre ++ a :: b :: r := by simp
    rw [e3]
    congr 1
    apply List.map_congr_left
    intro k _
    show pre.length + 2 * (k + 1) = (pre ++ [a, b]).length + 2 * k
    rw [List.length_append]
    show _ = pre.length + 2 + 2 * k
    omega
theorem pickV_even {α : Type} (xs : List α) : pickV xs none none (some 2) = evens xs := by
  unfold pickV
  have e : sliceBounds none none (some 2) xs.length = (0, (xs.length : Int), 2) := rfl
  rw [e]
  show (sliceRange ((0 : Nat) : Int) (xs.length : Int) 2).filterMap (xs[·]?) = _
  rw [sl_range2 0 ((xs.length + 1) / 2) xs.length (by omega) (Nat.zero_le _)]
  exact pick_even xs []
theorem pickV_odd {α : Type} (xs : List α) : pickV xs (some 1) none (some 2) = evens (xs.drop 1) := by
  cases xs with
  | nil => rfl
  | cons a r =>
    unfold pickV
    have e : sliceBounds (some 1) none (some 2) (a :: r).length = (1, ((r.length + 1 : Nat) : Int), 2) := by
      show ((max 0 (min 1 (((r.length + 1 : Nat) : Int)))), _, _) = _
      congr 1
      omega
    rw [e]
    show (sliceRange ((1 : Nat) : Int) ((r.length + 1 : Nat) : Int) 2).filterMap ((a :: r)[·]?) = _
    rw [sl_range2 1 ((r.length + 1) / 2) (r.length + 1) (by omega) (by omega)]
    exact pick_even r [a]
end
end Pu
namespace Pu
open PySem L2
/-! a def that returns a list that it made itself -/
def spF (K : PySem.W.Frag) (n : Nat) (S : FS) : Sp := fun vs H Q _ => vs.length = n ∧ ∃ (Z : Addr → Prop) (ds : List PyData) (k : PyData → Prop), (∀ a, Z a → H a ≠ none) ∧ Dqs K (veil Z H) vs ds ∧
  S ds k ∧ ∀ xs l us H', k (.list xs) → Grow H H' → H l = none → H' l = some (.lst us) → Dqs K (veil (plus Z l) H') us xs → Q (.ref l) H'
def pCallF (n : Nat) (S : FS) (pa : PA') : PA' := fun ρ R => pa ρ fun ds ρ1 => ds.length = n ∧ S ds fun d => asL d fun xs => R xs ρ1
structure CompF (K : PySem.W.Frag) (Z : Addr → Prop) (A H0 : Hp) (D : Ends) (G : PEnds) : Prop where
  nx : ∀ M σ H ρ, EnvR K (fun _ => False) Z A H0 M σ H ρ → G.nx ρ → D.nx σ H
  bk : ∀ M σ H ρ, EnvR K (fun _ => False) Z A H0 M σ H ρ → G.bk ρ → D.bk σ H
  ct : ∀ M σ H ρ, EnvR K (fun _ => False) Z A H0 M σ H ρ → G.ct ρ → D.ct σ H
  rt : ∀ M σ H ρ l us xs, EnvR K (fun _ => False) Z A H0 M σ H ρ → G.rt (.list xs) ρ → H0 l = none → H l = some (.lst us) → Dqs K (veil (plus Z l) H) us xs → D.rt (.ref l) H
def SimSF (K : PySem.W.Frag) (ts : TS) (p : PS') : Prop := ∀ Z A H0 M σ H ρ D G, EnvR K (fun _ => False) Z A H0 M σ H ρ → p G ρ → CompF K Z A H0 D G → ts D σ H
section
variable {K : PySem.W.Frag}
theorem sim_callF {n : Nat} {S : FS} {E : XK} {ta : TA} {pa : PA'} (sa : SimA K ta pa) : SimL K (tCall (spF K n S) [] E ta) (pCallF n S pa) := fun B Z A H0 M σ H ρ R EE h Q q =>
  sa B Z A H0 M σ H ρ _ EE h _ fun vs ds ρ1 H1 h1 E1 d1 => by
    rw [List.append_nil]
    refine ⟨by rw [dqs_len d1]; exact h1.1, hid Z M, ds, _, ?_, d1, h1.2, fun xs l us H' k g hl hl2 dv => ?_⟩
    · rintro a (z | ⟨i, m⟩)
      · exact E1.zl a z
      · exact E1.live i a m
    · have k : R xs ρ1 := k
      have g2 : Grow H1 (wiped H' l) := fun c o e => by
        rw [wiped_ne (ne_of_none e hl)]
        exact g c o e
      have gv : Grow (veil (plus (hid Z M) l) H') (veil (hid Z M) (wiped H' l)) := fun c o e => by
        obtain ⟨e1, e2⟩ := veil_off e
        refine veil_on (fun z => e1 (.inl z)) ?_
        rw [wiped_ne (fun z => e1 (.inr z))]
        exact e2
      have := q l us xs ρ1 (wiped H' l) k (E1.grown g2) wiped_at (dps_grow gv _ _ dv)
      rw [wiped_upd hl2] at this
      exact this
theorem sF_of {t : TS} {p : PS'} (st : SimS K t p) (hp : ∀ G ρ, p G ρ → p { nx := G.nx, bk := G.bk, ct := G.ct, rt := fun _ _ => False } ρ) : SimSF K t p := fun Z A H0 M σ H ρ D G e h C =>
  st (fun _ => False) Z A H0 M σ H ρ D _ e (hp G ρ h) ⟨C.nx, C.bk, C.ct, fun _ _ _ _ _ _ _ z => z.elim⟩
theorem sF_seq {t u : TS} {p q : PS'} (st : SimSF K t p) (su : SimSF K u q) : SimSF K (tSeq t u) (pSeq p q) := fun Z A H0 M σ H ρ D G E h C =>
  st Z A H0 M σ H ρ _ _ E h ⟨fun M σ H ρ E h => su Z A H0 M σ H ρ D G E h C, C.bk, C.ct, C.rt⟩
theorem sF_if {tt : TT} {t u : TS} {pt : PT'} {p q : PS'} (sc : SimT K tt pt) (st : SimSF K t p) (su : SimSF K u q) : SimSF K (tIfS tt t u) (pIfS pt p q) := fun Z A H0 M σ H ρ D G E h C =>
  sc (fun _ => False) Z A H0 M σ H ρ _ E h _ fun c ρ1 H1 h1 E1 => by
    cases c with
    | true => exact st Z A H0 M σ H1 ρ1 D G E1 h1 C
    | false => exact su Z A H0 M σ H1 ρ1 D G E1 h1 C
theorem sF_retO {i : Nat} : SimSF K (tRet (tVar i)) (pRetO i) := fun Z A H0 M σ H ρ D G E h C => by
  obtain ⟨ds, hc, h⟩ := asOwn_of h
  obtain ⟨l, vs, e, m, hl, r⟩ := own_at E hc
  refine ⟨.ref l, e, C.rt M σ H ρ l vs ds E h ((E.own i l m).elim (fun z => z.elim) id) hl (dps_grow (veil_less fun a z => ?_) _ _ r)⟩
  rcases z with z | z
  · exact .inl z
  · exact .inr ⟨i, by rw [z]; exact m⟩
def pRetNew (pa : PA') : PS' := fun G ρ => pa ρ fun ds ρ1 => G.rt (.list ds) ρ1
theorem sF_retL {te : TE} {pa : PA'} (sa : SimL K te pa) : SimSF K (tRet te) (pRetNew pa) := fun Z A H0 M σ H ρ D G E h C =>
  sa (fun _ => False) Z A H0 M σ H ρ _ E h _ fun l vs ds ρ1 H1 h1 E1 hl d1 => by
    have g : Grow (veil (hid Z M) H1) (veil (plus Z l) (upd H1 l (.lst vs))) := fun c o e => by
      obtain ⟨e1, e2⟩ := veil_off e
      have n := ne_of_none e2 hl
      refine veil_on ?_ ?_
      · rintro (z | z)
        · exact e1 (.inl z)
        · exact n z
      · rw [upd_ne n]
        exact e2
    refine C.rt M σ _ ρ1 l vs ds (E1.grown (grow_new hl)) h1 ?_ upd_same (dps_grow g _ _ d1)
    cases q : H0 l with
    | none => rfl
    | some o =>
      have := E1.ext l o id q
      rw [hl] at this
      cases this
theorem sF_while {tt : TT} {tb : TS} {pt : PT'} {pb : PS'} (st : SimT K tt pt) (sb : SimSF K tb pb) : SimSF K (tWhile tt tb) (pWhile pt pb) := fun Z A H0 M σ H ρ D G E ⟨W, ⟨m, w0⟩, ws⟩ C => by
  refine ⟨fun n σ' H' => ∃ M' ρ', EnvR K (fun _ => False) Z A H0 M' σ' H' ρ' ∧ W n ρ', ⟨m, M, ρ, E, w0⟩, fun n σ' H' ⟨M', ρ', E', w⟩ => ?_⟩
  refine st (fun _ => False) Z A H0 M' σ' H' ρ' _ E' (ws n ρ' w) _ fun c ρ1 H1 h1 E1 => ?_
  cases c with
  | false => exact C.nx M' σ' H1 ρ1 E1 h1
  | true =>
    refine ⟨fun σ2 H2 => ∃ m', m' < n ∧ ∃ M' ρ', EnvR K (fun _ => False) Z A H0 M' σ2 H2 ρ' ∧ W m' ρ', fun _ _ h => h, ?_⟩
    exact sb Z A H0 M' σ' H1 ρ1 _ _ E1 h1 ⟨fun M σ H ρ E ⟨m', l, w⟩ => ⟨m', l, M, ρ, E, w⟩, fun M σ H ρ E h => C.nx M σ H ρ E h, fun M σ H ρ E ⟨m', l, w⟩ => ⟨m', l, M, ρ, E, w⟩, C.rt⟩
end
section
variable {P : Program} {w : World} {K : PySem.W.Frag} {mg : Str → Option Value} {base : Heap}
def BodyF (P : Program) (w : World) (K : PySem.W.Frag) (mg : Str → Option Value) (base : Heap) (N : List Str) (qual : Str) (st : Stmt) (f : Addr) (k : Nat) (go : PS' → Prop) : Prop :=
  ∀ (cdv : Value) (A : Around) (outer : List Env) (s : Shared) (H : Hp) (E : XK), Room k (A.deeper (PyProof.Rows.envOfC qual (defScope st) s.heap.objs.size f cdv)) →
    ∃ t p, PSs (cxOf CX0 P w K mg base N qual (defScope st) f cdv A outer s H E).nox (defBody st) t ∧ SimSF K t p ∧ go p
theorem ok_F {x qual : Str} {st : Stmt} {f : Addr} {fd : FuncData} {N ps : List Str} {k n : Nat} {S : FS} (F : Fun K x qual st f fd) (Sc : FnScope N ps (defScope st)) (hn : ps.length = n)
    (hb : BodyF P w K mg base N qual st f k fun p => ∀ ds c, ds.length = n → S ds c → p ⟨fun _ => False, fun d _ => c d, fun _ => False, fun _ => False⟩ (startE N ds)) : FnOk P w K mg base CX0 (k + 1) f fd ps (spF K n S) := by
  refine F.ok Sc (fun vs H Q E h => by rw [h.1, hn]) (fun cdv A outer s H vs Q E hr h => ?_)
  obtain ⟨hl, Z, ds, c, hz, r, hS, q⟩ := h
  obtain ⟨t, p, ht, hs, hp⟩ := hb cdv A outer s H E hr
  have hnl : ps.length ≤ N.length := by
    have := congrArg List.length Sc.pre
    rw [List.length_take] at this
    omega
  have dl := dqs_len r
  refine ⟨t, ht, hs Z (fun _ => none) H (fun _ => none) _ H (startE N ds) _ _ ?_ (hp ds c (by omega) hS) ?_⟩
  · refine ⟨by rw [start_len (by omega), startE_len (by omega)], fun _ _ _ z => (nomatch z), fun _ _ z => (nomatch z), fun _ _ z => (nomatch z), hz, fun _ _ _ h => h, fun _ _ z => (nomatch z), fun _ z => False.elim z, fun _ _ z => (nomatch z), fun i cc hc => ?_⟩
    rcases start_cell r hc with rfl | ⟨v, d, rfl, e, dv⟩
    · trivial
    · refine ⟨v, e, ?_⟩
      rw [no_hid]
      exact dv
  · refine ⟨fun _ _ _ _ _ z => z.elim, fun _ _ _ _ _ z => z.elim, fun _ _ _ _ _ z => z.elim, fun M σ H' ρ l us xs E' k hl1 hl2 dv => q xs l us H' k (fun a o e => E'.ext a o id e) hl1 hl2 dv⟩
end
end Pu
/-! list(reversed(xs)) of a list -/
namespace RL
open PySem PySem.W PySem.Calls PyProof.Rows PyProof.V PySem.Spec
section
variable {prog : Program} {w : World} {A : Around} {E : Value → Shared → Prop} {s : Shared}
theorem r_extend {R : Result → Shared → Prop} {it l S : Addr} {items : Array Value} (hh : A.handled = none) (hit : s.heap.IsRevIter it l ((items.size : Int) - 1)) (hl : s.heap.IsList l items) (hne : l ≠ it) (hn : items.size ≤ sizeLine)
    (hSi : S ≠ it) (hSl : S ≠ l) (res : Value) (c₀ : Nat) (hS : s.heap.get? S = some { cls := .type "list", data := .seq #[] c₀ })
    (hR : ∀ (h' : Heap) (tk : Nat) (acc : Array Value) (c : Nat), (∀ b o, b ≠ S → b ≠ it → s.heap.get? b = some o → h'.get? b = some o) → h'.get? S = some { cls := .type "list", dict := none, data := .seq acc c, slots := #[] } → ItemsOf (fun i v => items[items.size - 1 - i]? = some v) acc items.size → R (.ok (.ret res)) { s with heap := h', toks := tk }) :
    wpAny (model prog w) A.in1 (Builtin.List.listExtendWith (.ref S) (.ref it) res)
      (fun fin s' => match fin with | .done f => R (.ok f) s' | .again c' => c'.quiet = true ∧ codeAny (model prog w) A c' R s') (fun e s' => R (.error e) s') s := by
  have W := (Walks.listRev (prog := prog) (w := w) (A := A.in1) hh it l hne items).toS
  have hSf : S ∉ [it, l] := by simp only [List.mem_cons, List.not_mem_nil, or_false, not_or]; exact ⟨hSi, hSl⟩
  have hT : s.TypeIs (.ref it) "list_reverseiterator" := hit.typeIs
  unfold Builtin.List.listExtendWith
  refine wpAny_bind (wpAny_typeOf hT ?_)
  have h1 : Builtin.List.listSameRef (.ref S) (.ref it) = false := by simp [Builtin.List.listSameRef, hSi]
  rw [if_neg (by rw [h1]; decide)]
  refine wpAny_bind (wpAny_pyIter_revIter hit ?_)
  refine wpAny_bind (wpAny_holding ?_)
  unfold Builtin.List.listLengthHint
  refine wpAny_bind (wpAny_specialOf hT RT.nolen_lri ?_)
  show wpAny _ A.in1 (specialOf (Value.ref it) (Str.ofString "__length_hint__") >>= _) _ _ _
  refine wpAny_bind (wpAny_specialOf hT RT.hint_lri ?_)
  generalize hid : ("list_reverseiterator.__length_hint__" : String) = id0
  wp_delta
  rw [show splitId id0 = some ("list_reverseiterator", "__length_hint__") from by subst hid; decide +kernel]
  subst hid
  refine wpAny_bind (wpAny_isInstance (b := true) hT (by rw [isSubtype_type]; kernel_rfl) ?_)
  refine wpAny_pure ?_
  rw [if_neg (by decide)]
  have e0 : ((items.size : Nat) : Int) - 1 - ((0 : Nat) : Int) = (items.size : Int) - 1 := by omega
  refine wpAny_pure ⟨plainId_quiet F.plain_extend_loop _, codeAny_extend_loopS W hn _ hSf _ items.size 0 _ _ _ rfl (Nat.zero_le _) ⟨Nat.zero_le _, by rw [e0]; exact hit, hl⟩ hS (ItemsOf.nil _) fun s' acc' c' hm hS' hacc => ?_⟩
  rw [Moved.eq_with hm]
  refine hR s'.heap s'.toks acc' c' (fun b o hb hb2 e => hm.heap b o (fun hmem => ?_) e) hS' hacc
  rcases List.mem_cons.mp hmem with e' | hmem
  · exact hb e'
  · exact hb2 (List.mem_singleton.mp hmem)
theorem r_init {R : Result → Shared → Prop} {it l S : Addr} {items : Array Value} (hh : A.handled = none) (hit : s.heap.IsRevIter it l ((items.size : Int) - 1)) (hl : s.heap.IsList l items) (hne : l ≠ it) (hn : items.size ≤ sizeLine)
    (hSi : S ≠ it) (hSl : S ≠ l) (hS : s.heap.get? S = some { cls := .type "list", data := .seq #[] })
    (hR : ∀ (h' : Heap) (tk : Nat) (acc : Array Value) (c : Nat), (∀ b o, b ≠ S → b ≠ it → s.heap.get? b = some o → h'.get? b = some o) → h'.get? S = some { cls := .type "list", dict := none, data := .seq acc c, slots := #[] } → ItemsOf (fun i v => items[items.size - 1 - i]? = some v) acc items.size → R (.ok (.ret .none)) { s with heap := h', toks := tk }) :
    wpAny (model prog w) A.in1 (Builtin.«list.__init__» ⟨[.ref S, .ref it], []⟩)
      (fun fin s' => match fin with | .done f => R (.ok f) s' | .again c' => c'.quiet = true ∧ codeAny (model prog w) A c' R s') (fun e s' => R (.error e) s') s := by
  show wpAny _ _ (do let old ← Builtin.List.listItems (.ref S); Builtin.List.listUpdate (.ref S) (fun _ => #[]); letGo old.toList.reverse; Builtin.List.listExtendWith (.ref S) (.ref it) .none) _ _ s
  refine wpAny_bind ?_
  unfold Builtin.List.listItems
  refine wpAny_bind (wpAny_seqItems hS rfl (wpAny_pure ?_))
  show wpAny _ _ (updateSeq S (fun _ => #[]) >>= fun _ => letGo (#[] : Array Value).toList.reverse >>= fun _ => Builtin.List.listExtendWith (.ref S) (.ref it) .none) _ _ s
  refine wpAny_bind (wpAny_updateSeq hS rfl ?_)
  have hS₂ := Heap.get?_update_self (Obj.mapSeq (fun _ => (#[] : Array Value))) hS rfl
  have oth : ∀ b o, b ≠ S → s.heap.get? b = some o → (s.heap.update S (Obj.mapSeq (fun _ => (#[] : Array Value)))).get? b = some o :=
    fun b o hb e => (Heap.get?_update_other _ _ (Ne.symm hb)).trans e
  refine wpAny_bind (wpAny_letGo ?_)
  refine r_extend (s := { s with heap := s.heap.update S (Obj.mapSeq (fun _ => (#[] : Array Value))) }) hh (hit.at fun o e => oth _ o (Ne.symm hSi) e) (hl.at fun o e => oth _ o (Ne.symm hSl) e) hne hn hSi hSl .none _ hS₂ (fun h' tk acc c hk hS' hacc => ?_)
  exact hR h' tk acc c (fun b o hb hb2 e => hk b o hb hb2 (oth b o hb e)) hS' hacc
theorem r_call {Q : Value → Shared → Prop} {it l : Addr} {items : Array Value} (hh : A.handled = none) (hit : s.heap.IsRevIter it l ((items.size : Int) - 1)) (hl : s.heap.IsList l items) (hne : l ≠ it) (hn : items.size ≤ sizeLine)
    (hQ : ∀ (h' : Heap) (tk : Nat) (acc : Array Value) (c : Nat), (∀ b o, b ≠ it → s.heap.get? b = some o → h'.get? b = some o) → h'.get? s.heap.objs.size = some { cls := .type "list", dict := none, data := .seq acc c, slots := #[] } → ItemsOf (fun i v => items[items.size - 1 - i]? = some v) acc items.size → Q (.ref s.heap.objs.size) { s with heap := h', toks := tk }) :
    wpAny (model prog w) A (call (.type "list") [.ref it]) Q E s := by
  refine callType_codes (Q₁ := fun obj s₁ => obj = .ref s.heap.objs.size ∧ s₁ = { s with heap := s.heap.push { cls := .type "list", data := .seq #[] } }) PySem.F.called_list (PySem.F.typeCall_list_1 _) PySem.F.entry_list_init
    (code_list_new _ ⟨rfl, rfl⟩) fun obj s₁ h₁ => ?_
  obtain ⟨rfl, rfl⟩ := h₁
  have hS : (s.heap.push { cls := .type "list", data := .seq #[] }).get? s.heap.objs.size = some { cls := .type "list", data := .seq #[] } := Heap.get?_push_size _ rfl
  have q1 : it < s.heap.objs.size := let ⟨_, e, _⟩ := hit; Heap.lt_size e
  have q2 : l < s.heap.objs.size := let ⟨_, e, _⟩ := hl; Heap.lt_size e
  refine ⟨⟨_, hS, rfl⟩, PySem.F.args_list_init_2 _ _, r_init (A := A.in1) (s := { s with heap := s.heap.push { cls := .type "list", data := .seq #[] } }) hh (hit.at fun o e => Heap.get?_push_of_some _ e) (hl.push _) hne hn (Nat.ne_of_gt q1) (Nat.ne_of_gt q2) hS (fun h' tk acc c hk hS' hacc => ?_)⟩
  exact ⟨rfl, hQ h' tk acc c (fun b o hb e => hk b o (Nat.ne_of_lt (Heap.lt_size e)) hb (Heap.get?_push_of_some _ e)) hS' hacc⟩
end
open L2
/-- list(reversed(x)), x a list: a new list -/
def tListRev (K : PySem.W.Frag) (te : TE) : TE := fun σ H Q => te σ H fun v H1 => ∃ (a : Addr) (xs : List V), v = .ref a ∧ SqL K H1 a xs ∧ ∀ q, H1 q = none → Q (.ref q) (upd H1 q (.lst xs.reverse))
theorem pe_listRev {X : Cx} {e : Expr} {te : TE} {p p2 pos pos2 : Pos} (hc : X.calm = true) (hg : Gl X "list") (hm : X.mg "list" = none) (hg2 : Gl X "reversed") (hm2 : X.mg "reversed" = none) (he : PE X e te)
    (hs : starEach [e] X.env = (false, eval e X.env) :: starEach [] X.env := by rfl)
    (hs2 : starEach [.Call (.Name "reversed" p2) [e] [] pos2] X.env = (false, eval (.Call (.Name "reversed" p2) [e] [] pos2) X.env) :: starEach [] X.env := by rfl) :
    PE X (.Call (.Name "list" p) [.Call (.Name "reversed" p2) [e] [] pos2] [] pos) (tListRev X.K te) := by
  refine ⟨fun pins s σ H Q I h => ?_⟩
  refine Call_ (ld_blt I hg hm boot_list (PyProof.Rows.callWith_type1 (args_cons (Call_ (ld_blt I hg2 hm2 PyProof.Rows.boot_reversed (PyProof.Rows.callWith_type1 (args_cons (thn (he.run pins s σ H _ I h) fun u s1 ⟨v, H1, I1, r1, q1⟩ => args_nil ?_) hs) hs rfl))) hs2) hs2 rfl))
  obtain ⟨a, xs, ev, hq, q⟩ := q1
  subst ev
  obtain rfl : u = Value.ref a := r1
  obtain ⟨its, rv, p', hz⟩ := I1.list hq
  refine call_reversed_list p'.isList (args_nil ?_)
  have hl := p'.isList
  obtain ⟨ol, hol, _⟩ := id hl
  have hne : a ≠ s1.heap.objs.size := Nat.ne_of_lt (Heap.lt_size hol)
  have hn : its.toArray.size ≤ sizeLine := by rw [List.size_toArray, ← Vals.length rv]; exact hz
  refine r_call (s := { s1 with heap := s1.heap.push (revObj a ((its.toArray.size : Int) - 1)) }) (I1.ok.hd hc) ⟨_, Heap.get?_push_size _ rfl, rfl, rfl⟩ (hl.push _) hne hn fun h' tk acc c hk hS hi => ?_
  have hk3 : ∀ b o, s1.heap.get? b = some o → h'.get? b = some o := fun b o e => hk b o (Nat.ne_of_lt (Heap.lt_size e)) (Heap.get?_push_of_some _ e)
  have sz : s1.heap.objs.size ≤ (s1.heap.push (revObj a ((its.toArray.size : Int) - 1))).objs.size := by rw [Heap.size_push]; exact Nat.le_succ _
  refine ⟨.ref _, upd H1 _ (.lst xs.reverse), I1.laid (t' := tk) hk3 sz (show ObjOk X.prog X.w _ _ _ (.lst xs.reverse) from ⟨by rw [List.length_reverse]; exact hz, acc.toList, c, RT.vals_rev rv hi, ?_⟩), rfl, q _ (I1.hok.fresh sz)⟩
  rw [Array.toArray_toList]
  exact hS
end RL
namespace Pu
open PySem L2
section
variable {K : PySem.W.Frag}
def pListRev (pa : PE') : PA' := fun ρ R => pa ρ fun x ρ1 => asL x fun ds => R ds.reverse ρ1
theorem dqs_revs {H : Hp} : ∀ {vs : List V} {ds : List PyData}, Dqs K H vs ds → Dqs K H vs.reverse ds.reverse
  | _, _, .nil => .nil
  | _, _, .cons h r => by
    rw [List.reverse_cons, List.reverse_cons]
    exact dqs_app (dqs_revs r) (.cons h .nil)
theorem sim_listRev {te : TE} {pa : PE'} (sa : Sim K te pa) : SimL K (RL.tListRev K te) (pListRev pa) := fun B Z A H0 M σ H ρ R E h Q q =>
  sa B Z A H0 M σ H ρ _ E h _ fun v d ρ1 H1 h1 E1 d1 => by
    obtain ⟨ds, rfl, h2⟩ := asL_of h1
    cases d1 with
    | @lst a us _ hl r =>
    exact ⟨a, us, rfl, .of (veil_grow _ _ _ _ hl), fun p hp => q p _ _ ρ1 H1 h2 E1 hp (dqs_revs r)⟩
end
end Pu
namespace Pu
open PySem L2
section
variable {K : PySem.W.Frag}
/-- [e for a, b in zip(x, y)] of two lists -/
def pLcZL (vs is : List Nat) (pa : PA') (pg : PG') (pt : PT') (pe : PE') : PA' := fun ρ R => (∀ v ∈ vs, cellAt ρ v = .no) ∧ pa ρ fun x ρ1 => ρ1 = ρ ∧ ∃ xs ys : List PyData, x = [.list xs, .list ys] ∧ ∃ I : Nat → List PyData → Prop, I 0 [] ∧
  (∀ i c d acc, xs[i]? = some c → ys[i]? = some d → I i acc → pg (.tuple [c, d]) ρ fun ρ2 => pt ρ2 fun b ρ3 => ρ3 = ρ2 ∧ if b = true then pe ρ2 fun y ρ4 => ρ4 = ρ2 ∧ acc.length < 100000 ∧ I (i + 1) (acc ++ [y]) else I (i + 1) acc) ∧ ∀ acc, I (min xs.length ys.length) acc → R acc ρ
theorem sim_lcZL {ta : TA} {g : TG} {tt : TT} {te : TE} {vs is : List Nat} {pa : PA'} {pg : PG'} {pt : PT'} {pe : PE'} (sa : SimA K ta pa) (sg : SimGV K vs g pg) (st : SimT K tt pt) (se : Sim K te pe) :
    SimL K (tLc (RZ.iZipA K ta) g tt te vs) (pLcZL vs is pa pg pt pe) := fun B Z A H0 M σ H ρ R E ⟨hv, h⟩ Q q =>
  sa B Z A H0 M σ H ρ _ E h _ fun us x ρ1 H1 ⟨e1, xs, ys, hx, I, i0, is, ie⟩ E1 d1 => by
    subst e1
    subst hx
    obtain ⟨u, w, rfl, du, dw⟩ := pair_of d1
    cases du with
    | @lst a us _ hs r =>
      cases dw with
      | @lst b ws _ hs2 r2 =>
        have l1 := dqs_len r
        have l2 := dqs_len r2
        refine ⟨a, b, us, ws, rfl, .inl ⟨.of (veil_grow _ _ _ _ hs), .of (veil_grow _ _ _ _ hs2), fun D hD => ?_⟩⟩
        obtain ⟨h0, nB, nZ⟩ := lc_start E1 hD
        refine walkW (n := min us.length ws.length) (fun i H' => ∃ va acc, EnvR K B (plus Z D) (veil (hid Z M) H1) H0 M (wipe σ vs) H' ρ1 ∧ H' D = some (.lst va) ∧ Dqs K (veil (hid (plus Z D) M) H') va acc ∧ I i acc) ⟨[], [], E1.enter hv hD, upd_same, .nil, i0⟩
          (fun H' ⟨va, acc, E', hd', ra, hI⟩ => ⟨⟨us, ws, .of (veil_grow _ _ _ _ (E'.anch _ _ hs)), .of (veil_grow _ _ _ _ (E'.anch _ _ hs2)), by omega⟩, ?_⟩) (fun i H' hi ⟨va, acc, E', hd', ra, hI⟩ => ?_)
        · have z := q D va acc ρ1 (wiped H' D) (ie acc (by rw [← l1, ← l2]; exact hI)) (E'.leave E1.anch h0 nZ) wiped_at (dps_grow veil_in _ _ ra)
          rw [wiped_upd hd'] at z
          exact z
        · have s1 : SqL K H' a us := .of (veil_grow _ _ _ _ (E'.anch _ _ hs))
          have s2 : SqL K H' b ws := .of (veil_grow _ _ _ _ (E'.anch _ _ hs2))
          have g1 : us[i]? = some us[i] := List.getElem?_eq_getElem (by omega)
          have g2 : ws[i]? = some ws[i] := List.getElem?_eq_getElem (by omega)
          refine ⟨⟨us, ws, _, _, s1, s2, g1, g2⟩, fun x H2 hy => ?_⟩
          obtain ⟨T, y1, y2, rfl, hT, rfl, k1, k2⟩ := hy
          have e1 := k1 us s1
          have e2 := k2 ws s2
          obtain ⟨c, hc, dc⟩ := dqs_got r e1
          obtain ⟨d, hd, dd⟩ := dqs_got r2 e2
          have nT : D ≠ T := fun e => by rw [← e, hd'] at hT; cases hT
          have gT := grow_new (o := HO.tup [y1, y2]) hT
          have E3 := E'.grown gT
          refine lc_turn sg st se E3 hv ((upd_ne nT).trans hd') h0 nB (.new (E'.veiled hT) hT (.cons (dp_grow E'.anch _ _ dc) (.cons (dp_grow E'.anch _ _ dd) .nil))) (dps_grow (grow_veil gT) _ _ ra) wipe_wipe (is i c d acc hc hd hI) fun H2 va' acc' E2 h2 r2 y2 => ⟨va', acc', E2, h2, r2, y2⟩
end
end Pu
namespace Pu
open PySem L2
/-! a < b of two ints, or of two tuples of ints -/
def rLtA (K : PySem.W.Frag) : R2 := fun x y H Q => rI0 (fun i j => .bl (decide (i < j))) x y H Q ∨ rLtT K x y H Q
theorem op_ltA {X : Cx} (hu : X.A.units + 64 < cLine) : OpR X (compareOp .Lt) (rLtA X.K) := either op_lt (op_ltT (by omega))
def ltD (x y : PyData) (k : Bool → Prop) : Prop := match x, y with
  | .int i, .int j => k (decide (i < j))
  | .tuple xs, .tuple ys => match intsOf xs, intsOf ys with
    | some ns, some ms => k (HT.lexLt ns ms)
    | _, _ => False
  | _, _ => False
theorem ltD_of {x y : PyData} {k : Bool → Prop} (h : ltD x y k) : (∃ i j, x = .int i ∧ y = .int j ∧ k (decide (i < j))) ∨ ∃ ns ms : List Int, x = .tuple (ns.map PyData.int) ∧ y = .tuple (ms.map PyData.int) ∧ k (HT.lexLt ns ms) := by
  unfold ltD at h
  split at h
  · exact .inl ⟨_, _, rfl, rfl, h⟩
  · split at h
    · rename_i e1 e2
      exact .inr ⟨_, _, by rw [intsOf_eq e1], by rw [intsOf_eq e2], h⟩
    · exact h.elim
  · exact h.elim
def pLtA (pa pb : PE') : PE' := fun ρ R => pa ρ fun x ρ1 => pb ρ1 fun y ρ2 => ltD x y fun b => R (.bool b) ρ2
theorem sim_ltA {K : PySem.W.Frag} {ta tb : TE} {pa pb : PE'} (sa : Sim K ta pa) (sb : Sim K tb pb) : Sim K (tOp (rLtA K) ta tb) (pLtA pa pb) := fun B Z A H0 M σ H ρ R E h Q q =>
  two sa sb E h fun v w x y ρ2 H2 h2 E2 d1 d2 => by
    rcases ltD_of h2 with ⟨i, j, rfl, rfl, h3⟩ | ⟨ns, ms, rfl, rfl, h3⟩
    · rw [of_int d1, of_int d2]
      exact .inl ⟨i, j, rfl, rfl, q _ _ _ _ h3 E2 (.bl _)⟩
    · cases d1 with
      | @tup a us _ hl r =>
      cases d2 with
      | @tup b ws _ hl2 r2 =>
      have e1 := dqs_of_ints r
      have e2 := dqs_of_ints r2
      subst e1
      subst e2
      exact .inr ⟨a, b, ns, ms, rfl, rfl, grow_t (veil_grow _ _) hl, grow_t (veil_grow _ _) hl2, q _ _ _ _ h3 E2 (.bl _)⟩
end Pu
namespace Pu
open PySem L2
section
variable {K : PySem.W.Frag}
/-- bool(xs) of a list of the def's own -/
def rBoolL (K : PySem.W.Frag) : List V → Hp → VK → Prop := fun xs H Q => ∃ (a : Addr) (zs : List V), xs = [.ref a] ∧ SqL K H a zs ∧ Q (.bl (!zs.isEmpty)) H
theorem c_boolL {X : Cx} : CallR X (.type "bool") (rBoolL X.K) := call_boolL
def pBoolO (i : Nat) : PE' := fun ρ R => asOwn (cellAt ρ i) fun ds => R (.bool (!ds.isEmpty)) ρ
theorem sim_boolO {i : Nat} : Sim K (tCB (rBoolL K) (tCons (tVar i) tNil)) (pBoolO i) := fun B Z A H0 M σ H ρ R E h Q q => by
  obtain ⟨ds, hc, h⟩ := asOwn_of h
  obtain ⟨l, vs, e, m, hl, r⟩ := own_at E hc
  refine ⟨.ref l, e, l, vs, rfl, .of hl, ?_⟩
  have : (!vs.isEmpty) = !ds.isEmpty := by cases r <;> rfl
  rw [this]
  exact q _ _ ρ H h E (.bl _)
/-- xs[a:b] of a list of the def's own, as a new list -/
def pCutL (i : Nat) (pl ph : PO') : PA' := fun ρ R => asOwn (cellAt ρ i) fun _ => pl ρ fun l ρ1 => ph ρ1 fun h ρ2 => asOwn (cellAt ρ2 i) fun ds => R (cutP ds l h) ρ2
theorem sim_cutL {i : Nat} {tl th : TO} {pl ph : PO'} (sl : SimO K tl pl) (sh : SimO K th ph) : SimL K (tSl (rCut K) (tVar i) tl th) (pCutL i pl ph) := fun B Z A H0 M σ H ρ R E h Q q => by
  obtain ⟨ds, hc, h⟩ := asOwn_of h
  obtain ⟨l, vs, e, m, hl, r⟩ := own_at E hc
  refine ⟨.ref l, e, sl B Z A H0 M σ H ρ _ E h _ fun lo ρ1 H1 h1 E1 => sh B Z _ H0 M σ H1 ρ1 _ E1.anchor h1 _ fun hi ρ2 H2 h2 E2 => ?_⟩
  obtain ⟨ds2, hc2, h3⟩ := asOwn_of h2
  obtain ⟨l2, vs2, e2, m2, hl2, r2⟩ := own_at E2 hc2
  rw [m] at m2
  cases m2
  have E4 := E2.weak E1.anch
  exact .inl ⟨l, vs2, rfl, .of hl2, fun p hp => q p _ _ ρ2 H2 h3 E4 hp (cut_dq r2 lo hi)⟩
/-- xs.pop() -/
def pPop (i : Nat) : PS' := fun G ρ => asOwn (cellAt ρ i) fun ds => ds ≠ [] ∧ G.nx (cellSet ρ i (.own ds.dropLast))
theorem dqs_init {H : Hp} : ∀ {vs : List V} {ds : List PyData}, Dqs K H vs ds → Dqs K H vs.dropLast ds.dropLast
  | _, _, .nil => .nil
  | _, _, .cons h .nil => .nil
  | _, _, .cons h (.cons h2 r) => .cons h (dqs_init (.cons h2 r))
theorem s_pop {i : Nat} : SimS K (tDrop (tBM0 K "list" rPop (tVar i))) (pPop i) := fun B Z A H0 M σ H ρ D G E h C => by
  obtain ⟨ds, hc, hne, h⟩ := asOwn_of h
  obtain ⟨l, vs, e, m, hl, r⟩ := own_at E hc
  have hv : vs ≠ [] := fun z => hne (by subst z; exact nil_of r)
  obtain ⟨i0, y, ey⟩ : ∃ i0 y, vs = i0 ++ [y] := by
    rcases List.eq_nil_or_concat vs with z | ⟨a, b, z⟩
    · exact absurd z hv
    · exact ⟨a, b, by rw [z, List.concat_eq_append]⟩
  refine ⟨.ref l, e, .inl ⟨rfl, vs, .of hl⟩, l, vs, y, rfl, rfl, hl, ?_, ?_⟩
  · rw [ey]
    simp
  · exact C.nx M σ _ _ (E.putO (by rw [e]; rfl) m (dqs_init r) (by rw [hc]; intro z; cases z)) h
end
end Pu
namespace Pu
open PySem L2
/-! a dict of the def's own that it lends -/
abbrev FSD := List (Int × PyData) → List PyData → (PyData → List (Int × PyData) → Prop) → Prop
def DctAt (K : PySem.W.Frag) (Z : Addr → Prop) (H : Hp) (b : Addr) (kvs : List (Int × PyData)) : Prop := ∃ ws, H b = some (.dK ws) ∧ Kvs K (veil Z H) ws kvs
def pExp (pe : PE') : PS' := fun G ρ => pe ρ fun _ ρ1 => G.nx ρ1
def pCallD (n : Nat) (S : FSD) (i : Nat) (pa : PA') : PE' := fun ρ R => asDct (cellAt ρ i) fun _ => pa ρ fun ds ρ1 => asDct (cellAt ρ1 i) fun kvs => ds.length = n ∧ S kvs ds fun d kvs' => R d (cellSet ρ1 i (.dct kvs'))
def spD (K : PySem.W.Frag) (n : Nat) (S : FSD) : Sp := fun vs H Q _ => ∃ (b : Addr) (us : List V), vs = .ref b :: us ∧ us.length = n ∧ ∃ (Z : Addr → Prop) (ds : List PyData) (kvs : List (Int × PyData)) (k : PyData → List (Int × PyData) → Prop), ¬ Z b ∧ (∀ a, Z a → H a ≠ none) ∧
  DctAt K (plus Z b) H b kvs ∧ Dqs K (veil (plus Z b) H) us ds ∧ S kvs ds k ∧ ∀ d kvs' v H', k d kvs' → (∀ a o, a ≠ b → H a = some o → H' a = some o) → DctAt K (plus Z b) H' b kvs' → Dq K (veil (plus Z b) H') v d → Q v H'
section
variable {K : PySem.W.Frag}
theorem s_exp {te : TE} {pe : PE'} (se : Sim K te pe) : SimS K (tDrop te) (pExp pe) := fun B Z A H0 M σ H ρ D G E h C =>
  se B Z A H0 M σ H ρ _ E h _ fun v d ρ1 H1 h1 E1 d1 => C.nx M σ _ _ E1 h1
section
variable {B Z : Addr → Prop} {A H0 H H' : Hp} {M : Nat → Option Addr} {σ : St} {ρ : En}
theorem EnvR.dctCh (E : EnvR K B Z A H0 M σ H ρ) {i : Nat} {b : Addr} {fs fs' : List (Int × PyData)} (m : M i = some b) (hc : cellAt ρ i = .dct fs) (g : ∀ a o, a ≠ b → H a = some o → H' a = some o) (hb : DctAt K (hid Z M) H' b fs') :
    EnvR K B Z A H0 M σ H' (cellSet ρ i (.dct fs')) := by
  have nb : H' b ≠ none := by
    obtain ⟨ws, h, _⟩ := hb
    rw [h]
    intro z; cases z
  have nn : ∀ a, H a ≠ none → H' a ≠ none := fun a h => by
    by_cases e : a = b
    · rw [e]; exact nb
    · cases q : H a with
      | none => exact absurd q h
      | some o =>
        rw [g a o e q]
        intro z; cases z
  have gv : Grow (veil (hid Z M) H) (veil (hid Z M) H') := fun a o h => by
    obtain ⟨h1, h2⟩ := veil_off h
    exact veil_on h1 (g a o (fun e => h1 (.inr ⟨i, by rw [e]; exact m⟩)) h2)
  obtain ⟨l, ws, e1, m1, _⟩ := dct_at E hc
  rw [m] at m1
  cases m1
  rw [cellSet_eq]
  refine ⟨by rw [List.length_set]; exact E.len, E.inj, fun j u k => nn u (E.live j u k), E.off, fun a z => nn a (E.zl a z), fun a o nB h => ?_, E.own, E.m0, E.anch.trans gv, fun j c h => ?_⟩
  · refine g a o (fun e => ?_) (E.ext a o nB h)
    rcases E.own i b m with x | x
    · exact nB (by rw [e]; exact x)
    · rw [e, x] at h
      cases h
  · rcases set_at h with ⟨rfl, hk, rfl⟩ | ⟨ne, h⟩
    · obtain ⟨ws', c2, c3⟩ := hb
      exact ⟨b, ws', by rw [e1]; rfl, m, c2, c3⟩
    · exact (E.cell j c h).grow gv fun u mu o ho => g u o (fun z => ne (E.inj i j b m (by rw [← z]; exact mu))) ho
end
theorem sim_callD {n i : Nat} {S : FSD} {EX : XK} {ta : TA} {pa : PA'} (sa : SimA K ta pa) : Sim K (tCall (spD K n S) [] EX (tCons (tVar i) ta)) (pCallD n S i pa) := fun B Z A H0 M σ H ρ R EE h Q q => by
  obtain ⟨kvs1, ec1, h1⟩ := asDct_of h
  obtain ⟨l, ws, e, hM, hl, r⟩ := dct_at EE ec1
  refine ⟨.ref l, e, sa B Z A H0 M σ H ρ _ EE h1 _ fun vs ds ρ1 H1 h2 E1 d1 => ?_⟩
  obtain ⟨kvs2, ec2, hlen, h3⟩ := asDct_of h2
  obtain ⟨l2, ws2, e2, m2, hl2, r2⟩ := dct_at E1 ec2
  rw [hM] at m2
  cases m2
  rw [List.append_nil]
  refine ⟨l, vs, rfl, by rw [dqs_len d1]; exact hlen, fun a => hid Z M a ∧ a ≠ l, ds, kvs2, _, fun z => z.2 rfl, ?_, by rw [hid_plus hM]; exact ⟨ws2, hl2, r2⟩, by rw [hid_plus hM]; exact d1, h3, fun d fs' v H' k g hb dv => ?_⟩
  · rintro a ⟨z | ⟨j, mj⟩, _⟩
    · exact E1.zl a z
    · exact E1.live j a mj
  · rw [hid_plus hM] at hb dv
    exact q v d _ H' k (E1.dctCh hM ec2 g hb) dv
def pSortKO (i : Nat) : PA' := fun ρ R => asDct (cellAt ρ i) fun kvs => kvs.length ≤ 100000 ∧ ∀ ms : List Int, ms.Perm (kvs.map (·.1)) → ms.Pairwise (· ≤ ·) → R (ms.map PyData.int) ρ
theorem kvs_keys {H : Hp} : ∀ {ws : List (Key × V)} {kvs : List (Int × PyData)}, Kvs K H ws kvs → ws.map (·.1) = (kvs.map (·.1)).map Sum.inl
  | _, _, .nil => rfl
  | _, _, .cons _ r => by rw [List.map_cons, List.map_cons, List.map_cons, kvs_keys r]
theorem sim_sortKO {i : Nat} : SimL K (tCB rSortDI (tCons (tVar i) tNil)) (pSortKO i) := fun B Z A H0 M σ H ρ R E h Q q => by
  obtain ⟨kvs, hc, hl, h2⟩ := asDct_of h
  obtain ⟨l, ws, e, m, hw, r⟩ := dct_at E hc
  exact ⟨.ref l, e, l, ws, kvs.map (·.1), rfl, .inl hw, kvs_keys r, sz5 (by rw [List.length_map]; exact hl), fun ms p pm pw hp => q p _ _ ρ H (h2 ms pm pw) E hp dqs_ints⟩
end
section
variable {P : Program} {w : World} {K : PySem.W.Frag} {mg : Str → Option Value} {base : Heap}
/-- a def to which a dict is lent: it stands in place 0 -/
theorem ok_D {x qual : Str} {st : Stmt} {f : Addr} {fd : FuncData} {N ps : List Str} {k n : Nat} {S : FSD} (F : Fun K x qual st f fd) (Sc : FnScope N ps (defScope st)) (hn : ps.length = n + 1)
    (hb : Body P w K mg base N qual st f k fun p => ∀ fs ds c, ds.length = n → S fs ds c → p ⟨fun ρ => asDct (cellAt ρ 0) fun fs' => c .none fs', fun d ρ => asDct (cellAt ρ 0) fun fs' => c d fs', fun _ => False, fun _ => False⟩ (.dct fs :: startE N.tail ds)) : FnOk P w K mg base CX0 (k + 1) f fd ps (spD K n S) := by
  refine F.ok Sc (fun vs H Q E h => ?_) (fun cdv A outer s H vs Q E hr h => ?_)
  · obtain ⟨b, us, rfl, hl, _⟩ := h
    rw [List.length_cons, hl, hn]
  obtain ⟨b, us, rfl, hl, Z, ds, fs, c, nz, hz, ob, r, hS, q⟩ := h
  obtain ⟨t, p, ht, hs, hp⟩ := hb cdv A outer s H E hr
  have hnl : ps.length ≤ N.length := by
    have := congrArg List.length Sc.pre
    rw [List.length_take] at this
    omega
  have dl := dqs_len r
  have nb : H b ≠ none := by
    obtain ⟨ws, h, _⟩ := ob
    rw [h]
    intro z; cases z
  have s0 : L2.start N (.ref b :: us) = some (.ref b) :: L2.start N.tail us := by
    unfold L2.start
    rw [List.map_cons, List.length_cons, List.length_tail, List.cons_append]
    congr 3
    omega
  have fin : ∀ M σ H' ρ, EnvR K (fun a => a = b) Z (fun _ => none) H M σ H' ρ → ∀ v d, (asDct (cellAt ρ 0) fun fs' => c d fs') → Dq K (veil (plus Z b) H') v d → Q v H' := fun M σ H' ρ E' v d hc dv => by
    obtain ⟨fs', ec, k⟩ := asDct_of hc
    obtain ⟨b', ws, e1, m1, hh, rr⟩ := dct_at E' ec
    have m := E'.m0 b rfl
    rw [m] at m1
    cases m1
    refine q d fs' v H' k (fun a o ne e => E'.ext a o ne e) ⟨ws, hh, kvs_grow (veil_less ?_) rr⟩ dv
    rintro a (z | e)
    · exact .inl z
    · exact .inr ⟨0, by rw [e]; exact m⟩
  refine ⟨t, ht, hs (fun a => a = b) Z (fun _ => none) H (fun i => if i = 0 then some b else none) _ H (.dct fs :: startE N.tail ds) _ _ ?_ (hp fs ds c (by omega) hS) ?_⟩
  · rw [s0]
    refine ⟨?_, fun i j l h1 h2 => ?_, fun i l h => ?_, fun i l h => ?_, hz, fun _ _ _ h => h, fun i l h => ?_, fun b' e => (by rw [e]; rfl), fun _ _ z => (nomatch z), fun i cc hc => ?_⟩
    · rw [List.length_cons, List.length_cons, start_len (by rw [List.length_tail]; omega), startE_len (by rw [List.length_tail]; omega)]
    · by_cases ei : i = 0
      · by_cases ej : j = 0
        · rw [ei, ej]
        · rw [if_neg ej] at h2; cases h2
      · rw [if_neg ei] at h1; cases h1
    · by_cases ei : i = 0
      · rw [if_pos ei] at h; cases h; exact nb
      · rw [if_neg ei] at h; cases h
    · by_cases ei : i = 0
      · rw [if_pos ei] at h; cases h; exact nz
      · rw [if_neg ei] at h; cases h
    · by_cases ei : i = 0
      · rw [if_pos ei] at h; cases h; exact .inl rfl
      · rw [if_neg ei] at h; cases h
    · cases i with
      | zero =>
        have e : cc = .dct fs := (Option.some.inj hc).symm
        rw [e]
        obtain ⟨ws, c2, c3⟩ := ob
        exact ⟨b, ws, rfl, rfl, c2, by rw [one_hid]; exact c3⟩
      | succ i =>
        rw [List.getElem?_cons_succ] at hc ⊢
        rcases start_cell r hc with rfl | ⟨v, d, rfl, e, dv⟩
        · trivial
        · refine ⟨v, e, ?_⟩
          rw [one_hid]
          exact dv
  · exact ⟨fun M σ H' ρ E' k => fin M σ H' ρ E' .non .none k .non, fun _ _ _ _ _ z => z.elim, fun _ _ _ _ _ z => z.elim, fun M σ H' ρ v d E' k dv => fin M σ H' ρ E' v d k dv⟩
end
end Pu
namespace Pu
open PySem L2
/-! [e for a in range(lo, hi, c) for b in t] -/
def pLc2R (vs vs1 : List Nat) (pa : PA') (pg : PG') (pl1 : PE') (pg1 : PG') (pt1 : PT') (pe : PE') : PA' := fun ρ R => (∀ v ∈ vs, cellAt ρ v = .no) ∧ pa ρ fun x ρ1 => ρ1 = ρ ∧ ∃ (lo hi c : Int) (n : Nat), x = [.int lo, .int hi, .int c] ∧ RgC lo hi c n ∧ ∃ I : Nat → List PyData → Prop, I 0 [] ∧
  (∀ (i : Nat) acc, i < n → I i acc → pg (.int (lo + (i : Int) * c)) ρ fun ρ2 => (∀ v ∈ vs1, cellAt ρ2 v = .no) ∧ pl1 ρ2 fun y ρ3 => ρ3 = ρ2 ∧ asT y fun es => ∃ J : Nat → List PyData → Prop, J 0 acc ∧
    (∀ j e acc, es[j]? = some e → J j acc → pg1 e ρ2 fun ρ4 => pt1 ρ4 fun b ρ5 => ρ5 = ρ4 ∧ if b = true then pe ρ4 fun z ρ6 => ρ6 = ρ4 ∧ acc.length < 100000 ∧ J (j + 1) (acc ++ [z]) else J (j + 1) acc) ∧ ∀ acc, J es.length acc → I (i + 1) acc) ∧ ∀ acc, I n acc → R acc ρ
section
variable {K : PySem.W.Frag}
theorem sim_lc2R {ta : TA} {tl1 : TE} {g g1 : TG} {tt1 : TT} {te : TE} {vs vs1 : List Nat} {pa : PA'} {pl1 : PE'} {pg pg1 : PG'} {pt1 : PT'} {pe : PE'} (hin : ∀ v ∈ vs1, v ∈ vs) (sa : SimA K ta pa) (sg : SimGV K vs g pg) (sl1 : Sim K tl1 pl1) (sg1 : SimGV K vs1 g1 pg1) (st : SimT K tt1 pt1) (se : Sim K te pe) :
    SimL K (tLc2 (iRng3 ta) g tYes (iTup K tl1) g1 tt1 te vs vs1) (pLc2R vs vs1 pa pg pl1 pg1 pt1 pe) := fun B Z A H0 M σ H ρ R E ⟨hv, h⟩ Q q =>
  sa B Z A H0 M σ H ρ _ E h _ fun us x ρ1 H1 ⟨e1, lo, hi, c, n, hx, hb, I, i0, is, ie⟩ E1 d1 => by
    subst e1
    subst hx
    have e : us = [.int lo, .int hi, .int c] := dqs_of_ints (ns := [lo, hi, c]) d1
    subst e
    refine ⟨lo, hi, c, n, rfl, hb, fun D hD => ?_⟩
    obtain ⟨h0, nB, nZ⟩ := lc_start E1 hD
    refine walkW (n := n) (fun i H' => ∃ va acc, EnvR K B (plus Z D) (veil (hid Z M) H1) H0 M (wipe σ vs) H' ρ1 ∧ H' D = some (.lst va) ∧ Dqs K (veil (hid (plus Z D) M) H') va acc ∧ I i acc) ⟨[], [], E1.enter hv hD, upd_same, .nil, i0⟩
      (fun H' ⟨va, acc, E', hd', ra, hI⟩ => ⟨Nat.le_refl _, ?_⟩) (fun i H' hi ⟨va, acc, E', hd', ra, hI⟩ => ?_)
    · have z := q D va acc ρ1 (wiped H' D) (ie acc hI) (E'.leave E1.anch h0 nZ) wiped_at (dps_grow veil_in _ _ ra)
      rw [wiped_upd hd'] at z
      exact z
    · refine ⟨hi, fun x H2 hy => ?_⟩
      obtain ⟨rfl, rfl⟩ := hy
      exact lc2_turn hin sg sl1 sg1 st se E' hv hd' h0 nB (.int _) ra (is i acc hi hI) fun H2 va' acc' E2 h2 r2 y2 => ⟨va', acc', E2, h2, r2, y2⟩
/-- abs -/
def fAbs : FS := fun ds k => match ds with
  | [.int i] => k (.int (if i < 0 then -i else i))
  | _ => False
theorem fAbs_of {ds : List PyData} {k : PyData → Prop} (h : fAbs ds k) : ∃ i, ds = [.int i] ∧ k (.int (if i < 0 then -i else i)) := by
  unfold fAbs at h
  split at h
  · exact ⟨_, rfl, h⟩
  · exact h.elim
theorem sim_abs {ta : TA} {pa : PA'} (sa : SimA K ta pa) : Sim K (tCB (fun xs H Q => ∃ i, xs = [V.int i] ∧ Q (V.int (if i < 0 then -i else i)) H) ta) (pFn fAbs pa) := fun B Z A H0 M σ H ρ R E h Q q =>
  sa B Z A H0 M σ H ρ _ E h _ fun vs ds ρ1 H1 h1 E1 d1 => by
    obtain ⟨i, rfl, h2⟩ := fAbs_of h1
    have e : vs = [.int i] := dqs_of_ints (ns := [i]) d1
    exact ⟨i, e, q _ _ _ _ h2 E1 (.int _)⟩
/-- repr of a list or tuple without dicts -/
def rRepr (K : PySem.W.Frag) : List V → Hp → VK → Prop := fun xs H Q => ∃ (a : Addr) (d : PyData), xs = [.ref a] ∧ Dp K H (.ref a) d ∧ d.showable = true ∧ d.hasDict = false ∧ d.depth < 60 ∧ d.shown.length ≤ sizeLine ∧ Q (.str d.shown) H
/-- repr wants to know that no repr is under way (guards): what stands around a def does not tell it in this layer -/
theorem c_repr {X : Cx} (hu : X.A.units + 64 < cLine) (hg : X.A.guards = some []) : CallR X (.builtin "repr") (rRepr X.K) := by
  intro pins s σ H xs us Q I r h
  obtain ⟨a, d, ez, hd, sh, nd, dp, ln, h⟩ := h
  subst ez
  obtain ⟨u, eu, rx⟩ := vals1 r
  subst eu
  have rx2 : RelV (.ref a) u := rx
  obtain ⟨as, hr⟩ := L2.Dp.reads I d (.ref a) u hd rx2
  cases rx
  exact repr_of_reads' hr sh (fun z => by rw [nd] at z; cases z) hg (by omega) (fun _ _ h => h) (fun h' u tk g => ⟨.str d.shown, H, I.kept g, ⟨u, rfl⟩, h⟩) ln
def isSq : PyData → Bool
  | .list _ => true
  | .tuple _ => true
  | _ => false
def fRepr : FS := fun ds k => match ds with
  | [d] => isSq d = true ∧ noD d = true ∧ d.showable = true ∧ d.hasDict = false ∧ d.depth < 60 ∧ d.shown.length ≤ sizeLine ∧ k (.str d.shown)
  | _ => False
theorem sim_repr {ta : TA} {pa : PA'} (sa : SimA K ta pa) : Sim K (tCB (rRepr K) ta) (pFn fRepr pa) := fun B Z A H0 M σ H ρ R E h Q q =>
  sa B Z A H0 M σ H ρ _ E h _ fun vs ds ρ1 H1 h1 E1 d1 => by
    cases d1 with
    | nil => exact h1.elim
    | cons d2 d3 =>
      cases d3 with
      | cons _ _ => exact h1.elim
      | nil =>
        obtain ⟨e, n, sh, nd, dp, ln, k⟩ := h1
        have d4 := dp_grow (veil_grow _ _) _ _ d2
        have hd := dq_dp _ _ n d4
        cases d2 with
        | lst _ _ => exact ⟨_, _, rfl, hd, sh, nd, dp, ln, q _ _ ρ1 H1 k E1 (.str _)⟩
        | tup _ _ => exact ⟨_, _, rfl, hd, sh, nd, dp, ln, q _ _ ρ1 H1 k E1 (.str _)⟩
        | _ => cases e
end
end Pu
/-! zip of a tuple and a list -/
namespace ZM
open PySem PySem.W PySem.Calls PyProof.Rows PyProof.V PySem.Spec ZL
section
variable {prog : Program} {w : World} {A : Around} {E : Value → Shared → Prop} {s : Shared}
theorem zm_next_item {z TI TO i1 i2 l1 l2 : Addr} {k1 k2 : Nat} {xs ys : Array Value} {x y a b : Value} {Q : Value → Shared → Prop} (D : ZipApart z TI TO i1 i2 l1 l2)
    (hz : IsZip s.heap z TI TO .none) (hTI : IsPair s.heap TI (.ref i1) (.ref i2)) (hTO : IsPair s.heap TO a b)
    (h1 : s.heap.IsTupleIter i1 l1 k1) (h2 : s.heap.IsListIter i2 l2 k2) (hl1 : s.heap.IsTuple l1 xs) (hl2 : s.heap.IsList l2 ys) (hx : xs[k1]? = some x) (hy : ys[k2]? = some y)
    (hQ : ∀ h', IsZip h' z TI TO (rawInt ↑s.heap.objs.size) → IsPair h' TO x y → h'.IsTupleIter i1 l1 (k1 + 1) → h'.IsListIter i2 l2 (k2 + 1) → IsPair h' s.heap.objs.size x y → h'.objs.size = s.heap.objs.size + 1 →
      (∀ c o, c ≠ z → c ≠ TO → c ≠ i1 → c ≠ i2 → s.heap.get? c = some o → h'.get? c = some o) → Q (.ref s.heap.objs.size) { s with heap := h' }) :
    wpAny (model prog w) A (Builtin.«zip.__next__» ⟨[.ref z], []⟩) (fun fin s' => ∃ v, fin = .done (.ret v) ∧ Q v s') E s := by
  show wpAny _ _ (field (.ref z) 2 >>= _) _ _ _
  refine wpAny_bind (wpAny_field hz rfl (x := .bool false) rfl ?_)
  show wpAny _ _ (field (.ref z) 3 >>= _) _ _ _
  refine wpAny_bind (wpAny_field hz rfl (x := .ref TI) rfl ?_)
  refine wpAny_bind (wpAny_seqItems hTI rfl ?_)
  show wpAny _ _ (Builtin.SmallTypes.ownedTupleIsFree (.ref z) >>= _) _ _ _
  refine wpAny_bind ?_
  unfold Builtin.SmallTypes.ownedTupleIsFree
  refine wpAny_bind (wpAny_field hz rfl (x := .none) rfl ?_)
  refine wpAny_pure ?_
  simp only [if_true]
  refine wpAny_bind (wpAny_rule ?_)
  refine wpAny_bind (wpAny_field hz rfl (x := .ref TO) rfl ?_)
  show wpAny _ _ (setField (.ref z) 0 .ellipsis >>= _) _ _ _
  refine wpAny_bind (wpAny_setField_rec hz (by simp) fun h₁ hz₁ hs₁ => ?_)
  refine wpAny_bind ?_
  show wpAny _ _ (forIn [(Value.ref i1, 0), (Value.ref i2, 1)] _ _) _ _ _
  simp only [List.forIn_cons, List.forIn_nil]
  have hTO₁ : IsPair h₁ TO a b := hs₁.extBut _ _ D.TOz hTO
  refine wpAny_bind (wpAny_bind (wpAny_onRaise ?_))
  show wpAny _ _ (Builtin.SmallTypes.nextOf (.ref i1) >>= _) _ _ _
  refine wpAny_bind (RZ.nextOf_tuple_item (h1.extBut hs₁.extBut D.i1z) (hl1.extBut hs₁.extBut D.l1z) hx fun h₂ h1₂ hs₂ => wpAny_pure ?_)
  dsimp only
  have hTO₂ : IsPair h₂ TO a b := hs₂.extBut _ _ D.TOi1 hTO₁
  refine wpAny_bind (wpAny_seqItems hTO₂ rfl ?_)
  dsimp only
  refine wpAny_bind (wpAny_updateSeq_pair hTO₂ fun h₃ hTO₃ hs₃ => ?_)
  refine wpAny_bind (wpAny_letGo ?_)
  refine wpAny_pure ?_
  dsimp only
  have hTO₃' : IsPair h₃ TO x b := hTO₃
  have h2₃ : h₃.IsListIter i2 l2 k2 := ((h2.extBut hs₁.extBut D.i2z).extBut hs₂.extBut D.i12.symm).extBut hs₃.extBut D.TOi2.symm
  have hl2₃ : h₃.IsList l2 ys := ((hl2.extBut hs₁.extBut D.l2z).extBut hs₂.extBut D.l2i1).extBut hs₃.extBut D.l2TO
  refine wpAny_bind (wpAny_bind (wpAny_onRaise ?_))
  show wpAny _ _ (Builtin.SmallTypes.nextOf (.ref i2) >>= _) _ _ _
  refine wpAny_bind (wpAny_nextOf_list_item h2₃ hl2₃ hy fun h₄ h2₄ hs₄ => wpAny_pure ?_)
  dsimp only
  have hTO₄ : IsPair h₄ TO x b := hs₄.extBut _ _ D.TOi2 hTO₃'
  refine wpAny_bind (wpAny_seqItems hTO₄ rfl ?_)
  dsimp only
  refine wpAny_bind (wpAny_updateSeq_pair hTO₄ fun h₅ hTO₅ hs₅ => ?_)
  refine wpAny_bind (wpAny_letGo ?_)
  refine wpAny_pure ?_
  dsimp only
  have hTO₅' : IsPair h₅ TO x y := hTO₅
  refine wpAny_pure ?_
  dsimp only
  refine wpAny_bind (wpAny_seqItems hTO₅' rfl ?_)
  dsimp only
  refine wpAny_bind (wpAny_newTuple ?_ (by show 2 ≤ sizeLine; decide))
  have hsz : h₅.objs.size = s.heap.objs.size := by rw [hs₅.1, hs₄.1, hs₃.1, hs₂.1, hs₁.1]
  have up : ∀ c o, c ≠ z → c ≠ TO → c ≠ i1 → c ≠ i2 → s.heap.get? c = some o → h₅.get? c = some o := fun c o c1 c2 c3 c4 e =>
    hs₅.extBut _ _ c2 (hs₄.extBut _ _ c4 (hs₃.extBut _ _ c2 (hs₂.extBut _ _ c3 (hs₁.extBut _ _ c1 e))))
  have hz₅ : h₅.get? z = some { cls := .type "zip", data := .fields #[.ellipsis, .bool false, .bool false, .ref TI, .ref TO] } :=
    hs₅.extBut _ _ D.TOz.symm (hs₄.extBut _ _ D.i2z.symm (hs₃.extBut _ _ D.TOz.symm (hs₂.extBut _ _ D.i1z.symm hz₁)))
  dsimp only
  show wpAny _ _ ((setField (.ref z) 0 (rawInt ↑h₅.objs.size) >>= fun _ => setField (.ref z) 1 (.bool false)) >>= fun _ => ret (.ref h₅.objs.size)) _ _ _
  refine wpAny_bind (wpAny_bind (wpAny_setField_rec (Heap.get?_push_of_some _ hz₅) (by simp) fun h₇ hz₇ hs₇ => ?_))
  refine wpAny_setField_rec hz₇ (by simp) fun h₈ hz₈ hs₈ => ?_
  refine wpAny_pure ⟨_, rfl, ?_⟩
  have hz₈' : IsZip h₈ z TI TO (rawInt ↑h₅.objs.size) := hz₈
  rw [hsz] at hz₈' ⊢
  have nz : s.heap.objs.size ≠ z := Nat.ne_of_gt (Heap.lt_size hz)
  have hP : IsPair (h₅.push { cls := .type "tuple", data := .seq #[x, y] }) s.heap.objs.size x y := by
    show (h₅.push _).get? s.heap.objs.size = _
    rw [← hsz]
    exact Heap.get?_push_size _ rfl
  refine hQ h₈ hz₈' (hs₈.extBut _ _ D.TOz (hs₇.extBut _ _ D.TOz (Heap.get?_push_of_some _ hTO₅')))
    ((((((h1₂.extBut hs₃.extBut D.TOi1.symm).extBut hs₄.extBut D.i12).extBut hs₅.extBut D.TOi1.symm).at fun o e => Heap.get?_push_of_some _ e).extBut hs₇.extBut D.i1z).extBut hs₈.extBut D.i1z)
    ((((h2₄.extBut hs₅.extBut D.TOi2.symm).at fun o e => Heap.get?_push_of_some _ e).extBut hs₇.extBut D.i2z).extBut hs₈.extBut D.i2z)
    (hs₈.extBut _ _ nz (hs₇.extBut _ _ nz hP)) (by rw [hs₈.1, hs₇.1]; show (h₅.push _).objs.size = _; rw [Heap.size_push, hsz])
    fun c o c1 c2 c3 c4 e => hs₈.extBut _ _ c1 (hs₇.extBut _ _ c1 (Heap.get?_push_of_some _ (up c o c1 c2 c3 c4 e)))
theorem zm_stop {z TI TO e : Addr} {f0 : Value} {h h' : Heap} (hz : h.get? z = some { cls := .type "zip", data := .fields #[f0, .bool false, .bool false, .ref TI, .ref TO] })
    (he : ∃ o, h.get? e = some o ∧ o.cls = .type "StopIteration") (hs : Heap.SameBut z h h') : ∃ o, h'.get? e = some o ∧ o.cls = .type "StopIteration" := by
  obtain ⟨o, ho, hc⟩ := he
  have ne : e ≠ z := fun q => by
    rw [q, hz] at ho
    cases ho
    injection hc with q
    exact absurd q (by decide)
  exact ⟨o, hs.extBut _ _ ne ho, hc⟩
theorem zm_next_end {z TI TO i1 i2 l1 l2 : Addr} {k1 k2 : Nat} {xs ys : Array Value} {a b : Value} {Q : Fin → Shared → Prop} (hh : A.handled = none) (D : ZipApart z TI TO i1 i2 l1 l2)
    (hz : IsZip s.heap z TI TO .none) (hTI : IsPair s.heap TI (.ref i1) (.ref i2)) (hTO : IsPair s.heap TO a b)
    (h1 : s.heap.IsTupleIter i1 l1 k1) (h2 : s.heap.IsListIter i2 l2 k2) (hl1 : s.heap.IsTuple l1 xs) (hl2 : s.heap.IsList l2 ys) (hend : xs[k1]? = none ∨ ys[k2]? = none)
    (hE : ∀ h' e, (∀ c o, c ≠ z → c ≠ TO → c ≠ i1 → c ≠ i2 → s.heap.get? c = some o → h'.get? c = some o) → (∃ o, h'.get? e = some o ∧ o.cls = .type "StopIteration") → E (.ref e) { s with heap := h' }) :
    wpAny (model prog w) A (Builtin.«zip.__next__» ⟨[.ref z], []⟩) Q E s := by
  show wpAny _ _ (field (.ref z) 2 >>= _) _ _ _
  refine wpAny_bind (wpAny_field hz rfl (x := .bool false) rfl ?_)
  show wpAny _ _ (field (.ref z) 3 >>= _) _ _ _
  refine wpAny_bind (wpAny_field hz rfl (x := .ref TI) rfl ?_)
  refine wpAny_bind (wpAny_seqItems hTI rfl ?_)
  show wpAny _ _ (Builtin.SmallTypes.ownedTupleIsFree (.ref z) >>= _) _ _ _
  refine wpAny_bind ?_
  unfold Builtin.SmallTypes.ownedTupleIsFree
  refine wpAny_bind (wpAny_field hz rfl (x := .none) rfl ?_)
  refine wpAny_pure ?_
  simp only [if_true]
  refine wpAny_bind (wpAny_rule ?_)
  refine wpAny_bind (wpAny_field hz rfl (x := .ref TO) rfl ?_)
  show wpAny _ _ (setField (.ref z) 0 .ellipsis >>= _) _ _ _
  refine wpAny_bind (wpAny_setField_rec hz (by simp) fun h₁ hz₁ hs₁ => ?_)
  refine wpAny_bind ?_
  show wpAny _ _ (forIn [(Value.ref i1, 0), (Value.ref i2, 1)] _ _) _ _ _
  simp only [List.forIn_cons, List.forIn_nil]
  have hTO₁ : IsPair h₁ TO a b := hs₁.extBut _ _ D.TOz hTO
  have hz₁' : h₁.get? z = some { cls := .type "zip", data := .fields #[.ellipsis, .bool false, .bool false, .ref TI, .ref TO] } := hz₁
  refine wpAny_bind (wpAny_bind (wpAny_onRaise ?_))
  show wpAny _ _ (Builtin.SmallTypes.nextOf (.ref i1) >>= _) _ _ _
  cases hx : xs[k1]? with
  | none =>
    refine wpAny_bind (RZ.nextOf_tuple_end hh (h1.extBut hs₁.extBut D.i1z) (hl1.extBut hs₁.extBut D.l1z) hx fun h₂ e hs₂ he => ?_)
    have hz₂ := hs₂ _ _ D.i1z.symm hz₁'
    exact wpAny_setField_rec hz₂ (by simp) fun h₃ hz₃ hs₃ => hE h₃ e (fun c o c1 c2 c3 c4 x => hs₃.extBut _ _ c1 (hs₂ _ _ c3 (hs₁.extBut _ _ c1 x))) (zm_stop hz₂ he hs₃)
  | some x =>
    have hy : ys[k2]? = none := by rcases hend with h | h; rw [hx] at h; cases h; exact h
    refine wpAny_bind (RZ.nextOf_tuple_item (h1.extBut hs₁.extBut D.i1z) (hl1.extBut hs₁.extBut D.l1z) hx fun h₂ h1₂ hs₂ => wpAny_pure ?_)
    dsimp only
    have hTO₂ : IsPair h₂ TO a b := hs₂.extBut _ _ D.TOi1 hTO₁
    have hz₂ := hs₂.extBut _ _ D.i1z.symm hz₁'
    refine wpAny_bind (wpAny_seqItems hTO₂ rfl ?_)
    dsimp only
    refine wpAny_bind (wpAny_updateSeq_pair hTO₂ fun h₃ hTO₃ hs₃ => ?_)
    refine wpAny_bind (wpAny_letGo ?_)
    refine wpAny_pure ?_
    dsimp only
    have hz₃ := hs₃.extBut _ _ D.TOz.symm hz₂
    have h2₃ : h₃.IsListIter i2 l2 k2 := ((h2.extBut hs₁.extBut D.i2z).extBut hs₂.extBut D.i12.symm).extBut hs₃.extBut D.TOi2.symm
    have hl2₃ : h₃.IsList l2 ys := ((hl2.extBut hs₁.extBut D.l2z).extBut hs₂.extBut D.l2i1).extBut hs₃.extBut D.l2TO
    refine wpAny_bind (wpAny_bind (wpAny_onRaise ?_))
    show wpAny _ _ (Builtin.SmallTypes.nextOf (.ref i2) >>= _) _ _ _
    refine wpAny_bind (wpAny_nextOf_list_end hh h2₃ hl2₃ hy fun h₄ e hs₄ he => ?_)
    have hz₄ := hs₄ _ _ D.i2z.symm hz₃
    exact wpAny_setField_rec hz₄ (by simp) fun h₅ hz₅ hs₅ => hE h₅ e (fun c o c1 c2 c3 c4 x => hs₅.extBut _ _ c1 (hs₄ _ _ c4 (hs₃.extBut _ _ c2 (hs₂.extBut _ _ c3 (hs₁.extBut _ _ c1 x))))) (zm_stop hz₄ he hs₅)
theorem pyNext_zm_item {z TI TO i1 i2 l1 l2 : Addr} {k1 k2 : Nat} {xs ys : Array Value} {x y a b : Value} {Q : Option Value → Shared → Prop} (D : ZipApart z TI TO i1 i2 l1 l2)
    (hz : IsZip s.heap z TI TO .none) (hTI : IsPair s.heap TI (.ref i1) (.ref i2)) (hTO : IsPair s.heap TO a b)
    (h1 : s.heap.IsTupleIter i1 l1 k1) (h2 : s.heap.IsListIter i2 l2 k2) (hl1 : s.heap.IsTuple l1 xs) (hl2 : s.heap.IsList l2 ys) (hx : xs[k1]? = some x) (hy : ys[k2]? = some y)
    (hQ : ∀ h', IsZip h' z TI TO (rawInt ↑s.heap.objs.size) → IsPair h' TO x y → h'.IsTupleIter i1 l1 (k1 + 1) → h'.IsListIter i2 l2 (k2 + 1) → IsPair h' s.heap.objs.size x y → h'.objs.size = s.heap.objs.size + 1 →
      (∀ c o, c ≠ z → c ≠ TO → c ≠ i1 → c ≠ i2 → s.heap.get? c = some o → h'.get? c = some o) → Q (some (.ref s.heap.objs.size)) { s with heap := h' }) :
    wpAny (model prog w) A (pyNext (.ref z)) Q E s := by
  have hTy : s.TypeIs (.ref z) "zip" := ⟨_, hz, rfl⟩
  unfold pyNext
  exact wpAny_bind (wpAny_attempt (wpAny_callSpecial?_slot (name := Str.ofString "__next__") hTy F.slot_zip_next
    (wpAny_call_entry F.slot_zip_next hTy F.entry_zip_next
      (zm_next_item D hz hTI hTO h1 h2 hl1 hl2 hx hy fun h' a1 a2 a3 a4 a5 a6 a7 => wpAny_pure (hQ h' a1 a2 a3 a4 a5 a6 a7)) (F.args_zip_next_1 _))))
theorem pyNext_zm_end {z TI TO i1 i2 l1 l2 : Addr} {k1 k2 : Nat} {xs ys : Array Value} {a b : Value} {Q : Option Value → Shared → Prop} (hh : A.handled = none) (D : ZipApart z TI TO i1 i2 l1 l2)
    (hz : IsZip s.heap z TI TO .none) (hTI : IsPair s.heap TI (.ref i1) (.ref i2)) (hTO : IsPair s.heap TO a b)
    (h1 : s.heap.IsTupleIter i1 l1 k1) (h2 : s.heap.IsListIter i2 l2 k2) (hl1 : s.heap.IsTuple l1 xs) (hl2 : s.heap.IsList l2 ys) (hend : xs[k1]? = none ∨ ys[k2]? = none)
    (hQ : ∀ h', (∀ c o, c ≠ z → c ≠ TO → c ≠ i1 → c ≠ i2 → s.heap.get? c = some o → h'.get? c = some o) → Q none { s with heap := h' }) :
    wpAny (model prog w) A (pyNext (.ref z)) Q E s := by
  have hTy : s.TypeIs (.ref z) "zip" := ⟨_, hz, rfl⟩
  unfold pyNext
  refine wpAny_bind (wpAny_attempt (wpAny_callSpecial?_slot (name := Str.ofString "__next__") hTy F.slot_zip_next
    (wpAny_call_entry F.slot_zip_next hTy F.entry_zip_next (zm_next_end hh D hz hTI hTO h1 h2 hl1 hl2 hend fun h' e hk he => ?_) (F.args_zip_next_1 _))))
  obtain ⟨o, ho, hc⟩ := he
  refine wpAny_bind (wpAny_isInstance (T := "StopIteration") (b := true) ⟨o, ho, hc⟩ isSubtype_stop ?_)
  exact wpAny_pure (hQ _ hk)
theorem newClass_zip (a b : Value) : Builtin.SmallTypes.newClass "zip" { pos := [Value.type "zip", a, b] } = pure (Value.type "zip", [a, b]) := by
  unfold Builtin.SmallTypes.newClass
  have h1 : isType (Value.type "zip") = pure true := by rfl
  simp only [h1, F.called_zip.sub, pure_bind]
  rfl
abbrev zipM1 (h : Heap) (l1 : Addr) : Heap := h.push { cls := .type "tuple_iterator", data := .fields #[.ref l1, .int 0 0] }
abbrev zipM2 (h : Heap) (l1 l2 : Addr) : Heap := (zipM1 h l1).push { cls := .type "list_iterator", data := .fields #[.ref l2, .int 0 0] }
abbrev zipM3 (h : Heap) (l1 l2 : Addr) : Heap := (zipM2 h l1 l2).push { cls := .type "tuple", data := .seq #[.ref h.objs.size, .ref (zipM1 h l1).objs.size] }
abbrev zipM4 (h : Heap) (l1 l2 : Addr) : Heap := (zipM3 h l1 l2).push { cls := .type "tuple", data := .seq #[.none, .none] }
abbrev zipM5 (h : Heap) (l1 l2 : Addr) : Heap := (zipM4 h l1 l2).push { cls := .type "zip", data := .fields #[.none, .bool false, .bool false, .ref (zipM2 h l1 l2).objs.size, .ref (zipM3 h l1 l2).objs.size] }
theorem meets_zipM_new (l1 l2 : Addr) (xs ys : Array Value) : Meets (Builtin.«zip.__new__» { pos := [.type "zip", .ref l1, .ref l2] }) fun _ R s =>
    s.heap.IsTuple l1 xs ∧ s.heap.IsList l2 ys ∧ R (Except.ok (Flow.ret (.ref (zipM4 s.heap l1 l2).objs.size))) { s with heap := zipM5 s.heap l1 l2 } := by
  intro prog w A R s ⟨h1, h2, hR⟩
  unfold Builtin.«zip.__new__»
  rw [newClass_zip]
  simp only [pure_bind]
  show wpAny _ _ (Builtin.SmallTypes.iterAll [.ref l1, .ref l2] >>= _) _ _ _
  refine wpAny_bind ?_
  unfold Builtin.SmallTypes.iterAll
  simp only [List.forIn_cons, List.forIn_nil]
  refine wpAny_bind (wpAny_bind (wpAny_bind (wpAny_holding (wpAny_pyIter_tuple h1 ?_))))
  refine wpAny_pure ?_
  dsimp only
  refine wpAny_bind (wpAny_bind (wpAny_holding (wpAny_pyIter_list (h2.push _) ?_)))
  refine wpAny_pure ?_
  dsimp only
  refine wpAny_pure ?_
  refine wpAny_pure ?_
  refine wpAny_bind (wpAny_newTuple ?_ (by show 2 ≤ sizeLine; decide))
  refine wpAny_bind (wpAny_newTuple ?_ (by show 2 ≤ sizeLine; decide))
  show wpAny _ _ (newObj (.type "zip") (.fields #[.none, .bool false, .bool false, .ref (zipM2 s.heap l1 l2).objs.size, .ref (zipM3 s.heap l1 l2).objs.size]) >>= _) _ _ _
  refine wpAny_bind (wpAny_newObj_type ?_ (by show 5 ≤ sizeLine + 2; decide))
  exact wpAny_pure hR
theorem call_zipM {l1 l2 : Addr} {xs ys : Array Value} {Q : Value → Shared → Prop} (h1 : s.heap.IsTuple l1 xs) (h2 : s.heap.IsList l2 ys)
    (hQ : ∀ h', IsZip h' (s.heap.objs.size + 4) (s.heap.objs.size + 2) (s.heap.objs.size + 3) .none → IsPair h' (s.heap.objs.size + 2) (.ref s.heap.objs.size) (.ref (s.heap.objs.size + 1)) → IsPair h' (s.heap.objs.size + 3) .none .none →
      h'.IsTupleIter s.heap.objs.size l1 0 → h'.IsListIter (s.heap.objs.size + 1) l2 0 → h'.objs.size = s.heap.objs.size + 5 → (∀ c o, s.heap.get? c = some o → h'.get? c = some o) → Q (.ref (s.heap.objs.size + 4)) { s with heap := h' }) :
    wpAny (model prog w) A (call (.type "zip") [.ref l1, .ref l2]) Q E s := by
  have z1 : (zipM1 s.heap l1).objs.size = s.heap.objs.size + 1 := Heap.size_push ..
  have z2 : (zipM2 s.heap l1 l2).objs.size = s.heap.objs.size + 2 := by rw [Heap.size_push, z1]
  have z3 : (zipM3 s.heap l1 l2).objs.size = s.heap.objs.size + 3 := by rw [Heap.size_push, z2]
  have z4 : (zipM4 s.heap l1 l2).objs.size = s.heap.objs.size + 4 := by rw [Heap.size_push, z3]
  have z5 : (zipM5 s.heap l1 l2).objs.size = s.heap.objs.size + 5 := by rw [Heap.size_push, z4]
  have g1 : (zipM5 s.heap l1 l2).get? s.heap.objs.size = some { cls := .type "tuple_iterator", data := .fields #[.ref l1, .int 0 0] } :=
    Heap.get?_push_of_some _ (Heap.get?_push_of_some _ (Heap.get?_push_of_some _ (Heap.get?_push_of_some _ (Heap.get?_push_size _ rfl))))
  have g2 : (zipM5 s.heap l1 l2).get? (s.heap.objs.size + 1) = some { cls := .type "list_iterator", data := .fields #[.ref l2, .int 0 0] } := by
    rw [← z1]
    exact Heap.get?_push_of_some _ (Heap.get?_push_of_some _ (Heap.get?_push_of_some _ (Heap.get?_push_size _ rfl)))
  have g3 : IsPair (zipM5 s.heap l1 l2) (s.heap.objs.size + 2) (.ref s.heap.objs.size) (.ref (s.heap.objs.size + 1)) := by
    have q : (zipM5 s.heap l1 l2).get? (zipM2 s.heap l1 l2).objs.size = some { cls := .type "tuple", data := .seq #[.ref s.heap.objs.size, .ref (zipM1 s.heap l1).objs.size] } :=
      Heap.get?_push_of_some _ (Heap.get?_push_of_some _ (Heap.get?_push_size _ rfl))
    rw [z2, z1] at q
    exact q
  have g4 : IsPair (zipM5 s.heap l1 l2) (s.heap.objs.size + 3) .none .none := by
    rw [← z3]
    exact Heap.get?_push_of_some _ (Heap.get?_push_size _ rfl)
  have g5 : IsZip (zipM5 s.heap l1 l2) (s.heap.objs.size + 4) (s.heap.objs.size + 2) (s.heap.objs.size + 3) .none := by
    have q : (zipM5 s.heap l1 l2).get? (zipM4 s.heap l1 l2).objs.size = some { cls := .type "zip", data := .fields #[.none, .bool false, .bool false, .ref (zipM2 s.heap l1 l2).objs.size, .ref (zipM3 s.heap l1 l2).objs.size] } :=
      Heap.get?_push_size _ rfl
    rw [z4, z2, z3] at q
    exact q
  refine callType_new F.called_zip (by decide) (F.typeCall_zip_2 _ _) ?ck (fun obj => F.args_object_init_3 _ _ _) F.entry_zip_new (meets_zipM_new l1 l2 xs ys) ⟨h1, h2, ?_⟩
  case ck => exact F.newCall_zip_2 _ _
  rw [z4]
  exact ⟨⟨_, g5, rfl⟩, hQ _ g5 g3 g4 ⟨_, g1, rfl, rfl⟩ ⟨_, g2, rfl, rfl⟩ z5 fun c o e => Heap.get?_push_of_some _ (Heap.get?_push_of_some _ (Heap.get?_push_of_some _ (Heap.get?_push_of_some _ (Heap.get?_push_of_some _ e))))⟩
end
end ZM
namespace ZM
open PySem PySem.W PySem.Calls PyProof.Rows PyProof.V PySem.Spec ZL L2
def ItzM (K : PySem.W.Frag) (a b : Addr) : It where
  go := fun i H => ∃ xs ys x y, SqT K H a xs ∧ SqL K H b ys ∧ xs[i]? = some x ∧ ys[i]? = some y
  yld := fun i H v H' => ∃ T x y, v = V.ref T ∧ H T = none ∧ H' = upd H T (HO.tup [x, y]) ∧ (∀ xs : List V, SqT K H a xs → xs[i]? = some x) ∧ ∀ ys : List V, SqL K H b ys → ys[i]? = some y
  stop := fun i H => ∃ xs ys, SqT K H a xs ∧ SqL K H b ys ∧ (xs.length ≤ i ∨ ys.length ≤ i)
section
variable {P : Program} {w : World} {K : PySem.W.Frag}
theorem turn_zipM {elts : List Expr} {kk : Nat} {tpos : Pos} {a b z TI TO i1 i2 : Addr} (D : ZipApart z TI TO i1 i2 a b) : Turn P w K (Expr.Tuple elts kk tpos) (ItzM K a b) [z, TI, TO, i1, i2] z fun i h =>
    IsZip h z TI TO .none ∧ IsPair h TI (.ref i1) (.ref i2) ∧ (∃ x y, IsPair h TO x y) ∧ h.IsTupleIter i1 a i ∧ h.IsListIter i2 b i where
  mem := by simp
  obj := fun i h ⟨hz, hTI, ⟨x, y, hTO⟩, ⟨o1, e1, _, d1⟩, ⟨o2, e2, _, d2⟩⟩ c hc => by
    simp only [List.mem_cons, List.mem_nil_iff, or_false] at hc
    rcases hc with rfl | rfl | rfl | rfl | rfl
    · exact ⟨_, hz, fun v q => by cases q⟩
    · exact ⟨_, hTI, fun v q => by cases q⟩
    · exact ⟨_, hTO, fun v q => by cases q⟩
    · exact ⟨_, e1, fun v q => by rw [d1] at q; cases q⟩
    · exact ⟨_, e2, fun v q => by rw [d2] at q; cases q⟩
  keep := fun i h h' ⟨hz, hTI, ⟨x, y, hTO⟩, ⟨o1, e1, c1, d1⟩, ⟨o2, e2, c2, d2⟩⟩ k =>
    ⟨k _ (by simp) _ hz, k _ (by simp) _ hTI, ⟨x, y, k _ (by simp) _ hTO⟩, ⟨o1, k _ (by simp) _ e1, c1, d1⟩, ⟨o2, k _ (by simp) _ e2, c2, d2⟩⟩
  item := fun X hp hw hK hc i pins s σ H E I hfp ⟨hz, hTI, ⟨x0, y0, hTO⟩, h1, h2⟩ ⟨xs, ys, x, y, hx, hy, gx, gy⟩ => by
    subst hp
    subst hw
    subst hK
    obtain ⟨its, rv, ht, _⟩ := I.tuple hx
    obtain ⟨its2, rv2, pl, _⟩ := I.list hy
    obtain ⟨u, gu, ru⟩ := rv.get gx
    obtain ⟨t, gt, rt⟩ := rv2.get gy
    refine pyNext_zm_item D hz hTI hTO h1 h2 ht pl.isList (x := u) (y := t) (by simpa using gu) (by simpa using gt) fun h' a1 a2 a3 a4 a5 a6 a7 => ⟨_, rfl, ?_⟩
    refine wpAny_letOwnedTupleGo_zip a1 fun h'' b1 b2 => ?_
    have lz : z < s.heap.objs.size := Heap.lt_size hz
    have lTI : TI < s.heap.objs.size := Heap.lt_size hTI
    have lTO : TO < s.heap.objs.size := Heap.lt_size hTO
    have l1 : i1 < s.heap.objs.size := let ⟨_, e, _⟩ := h1; Heap.lt_size e
    have l2 : i2 < s.heap.objs.size := let ⟨_, e, _⟩ := h2; Heap.lt_size e
    have nT : H s.heap.objs.size = none := I.hok.fresh (Nat.le_refl _)
    have pT : IsPair h'' s.heap.objs.size u t := b2.extBut _ _ (Nat.ne_of_gt lz) a5
    refine ⟨.ref s.heap.objs.size, upd H s.heap.objs.size (.tup [x, y]), ?_, rfl, ⟨_, x, y, rfl, nT, rfl, fun xs' h => ?_, fun ys' h => ?_⟩, ⟨b1, ?_, ⟨u, t, b2.extBut _ _ D.TOz a2⟩, a3.extBut b2.extBut D.i1z, a4.extBut b2.extBut D.i2z⟩, fun c hc => ?_⟩
    · show L2.Inv _ _ _ _ { s with heap := h'' }
      refine L2.Inv.turnedNew (s := s) (ch := [z, TO, i1, i2]) I (fun c o nc e => ?_) (fun c hc => hfp c ?_) (Nat.le_refl _) ⟨by show 2 ≤ sizeLine; decide, [u, t], .cons ru (.cons rt .nil), ⟨_, pT, rfl, _, rfl⟩⟩
      · simp only [List.mem_cons, List.mem_nil_iff, or_false, not_or] at nc
        exact b2.extBut _ _ nc.1 (a7 c o nc.1 nc.2.1 nc.2.2.1 nc.2.2.2 e)
      · simp only [List.mem_cons, List.mem_nil_iff, or_false] at hc ⊢
        rcases hc with q | q | q | q
        · exact .inl q
        · exact .inr (.inr (.inl q))
        · exact .inr (.inr (.inr (.inl q)))
        · exact .inr (.inr (.inr (.inr q)))
    · rw [I.tuple_inj h hx]; exact gx
    · rw [I.list_inj h hy]; exact gy
    · exact b2.extBut _ _ D.TIz (a7 _ _ D.TIz D.TITO D.TIi1 D.TIi2 hTI)
    · have lc : c < s.heap.objs.size := by
        simp only [List.mem_cons, List.mem_nil_iff, or_false] at hc
        rcases hc with rfl | rfl | rfl | rfl | rfl <;> assumption
      rw [upd_ne (Nat.ne_of_lt lc)]
      exact (hfp c hc).1
  done := fun X hp hw hK hc i pins s σ H E I hfp ⟨hz, hTI, ⟨x0, y0, hTO⟩, h1, h2⟩ ⟨xs, ys, hx, hy, he⟩ => by
    subst hp
    subst hw
    subst hK
    obtain ⟨its, rv, ht, _⟩ := I.tuple hx
    obtain ⟨its2, rv2, pl, _⟩ := I.list hy
    have e1 := Vals.length rv
    have e2 := Vals.length rv2
    refine pyNext_zm_end (I.ok.hd hc) D hz hTI hTO h1 h2 ht pl.isList ?_ fun h' k => ⟨rfl, ?_⟩
    · rcases he with q | q
      · exact .inl (by rw [Array.getElem?_eq_none_iff, List.size_toArray]; omega)
      · exact .inr (by rw [Array.getElem?_eq_none_iff, List.size_toArray]; omega)
    · refine L2.Inv.turnedL (ch := [z, TO, i1, i2]) I (fun c o nc e => ?_) (fun c hc => hfp c ?_)
      · simp only [List.mem_cons, List.mem_nil_iff, or_false, not_or] at nc
        exact k c o nc.1 nc.2.1 nc.2.2.1 nc.2.2.2 e
      · simp only [List.mem_cons, List.mem_nil_iff, or_false] at hc ⊢
        rcases hc with q | q | q | q
        · exact .inl q
        · exact .inr (.inr (.inl q))
        · exact .inr (.inr (.inr (.inl q)))
        · exact .inr (.inr (.inr (.inr q)))
  self := fun A i s Q E ⟨hz, _⟩ q => by
    exact wpAny_pyIter_zip hz q
end
def iZipM (K : PySem.W.Frag) (ta : TA) : TI := fun σ H R => ta σ H fun vs H1 => ∃ a b xs ys, vs = [V.ref a, V.ref b] ∧ SqT K H1 a xs ∧ SqL K H1 b ys ∧ R (ItzM K a b) H1
section
variable {X : Cx}
theorem pi_zipM {e e2 : Expr} {ta : TA} {p pos tpos : Pos} {elts : List Expr} {kk : Nat} (hg : Gl X "zip") (hm : X.mg "zip" = none) (ha : PA X [e, e2] ta)
    (hs : starEach [e, e2] X.env = (false, eval e X.env) :: starEach [e2] X.env := by rfl) (hpl : (backTo pos (starEach [e2] X.env)).any (·.1) = false := by rfl) :
    PI X (.Tuple elts kk tpos) (.Call (.Name "zip" p) [e, e2] [] pos) (iZipM X.K ta) := by
  refine ⟨fun pins s σ H R I h => ?_⟩
  refine Call_ (ld_blt I hg hm PyProof.Rows.boot_zip (PyProof.Rows.callWith_type1 (thn (ha.run pos pins s σ H _ I h) fun us s1 ⟨vs, H1, I1, r1, q1⟩ => ?_) hs hpl))
  obtain ⟨a, b, xs, ys, ex, hqx, hqy, q⟩ := q1
  subst ex
  cases r1 with
  | cons r rr =>
    cases rr with
    | cons r' rr =>
      cases rr
      cases r
      cases r'
      obtain ⟨its, rv, ht, _⟩ := I1.tuple hqx
      obtain ⟨its2, rv2, pl, _⟩ := I1.list hqy
      have la : a < s1.heap.objs.size := let ⟨_, e, _⟩ := ht; Heap.lt_size e
      refine call_zipM ht pl.isList fun h' hz hTI hTO h1 h2 hsz hk => ?_
      have fr : ∀ c, s1.heap.objs.size ≤ c → FpOk X pins H1 c := fun c hc => I1.fpOk hc (I1.hok.fresh hc)
      refine wpAny_pyIter_zip hz ⟨_, [s1.heap.objs.size + 4, s1.heap.objs.size + 2, s1.heap.objs.size + 3, s1.heap.objs.size, s1.heap.objs.size + 1], _, ItzM X.K a b, H1, rfl, I1.kept hk,
        turn_zipM (PySem.W.ktu_apart s1.heap.objs.size a b la pl.lt), ⟨hz, hTI, ⟨_, _, hTO⟩, h1, h2⟩, fun c hc => fr c ?_, q⟩
      simp only [List.mem_cons, List.mem_nil_iff, or_false] at hc
      rcases hc with rfl | rfl | rfl | rfl | rfl <;> omega
end
end ZM
namespace Pu
open PySem L2
section
variable {K : PySem.W.Frag}
/-- [e for a, b in zip(x, y)] of a tuple and a list -/
def pLcZM (vs is : List Nat) (pa : PA') (pg : PG') (pt : PT') (pe : PE') : PA' := fun ρ R => (∀ v ∈ vs, cellAt ρ v = .no) ∧ pa ρ fun x ρ1 => ρ1 = ρ ∧ ∃ xs ys : List PyData, x = [.tuple xs, .list ys] ∧ ∃ I : Nat → List PyData → Prop, I 0 [] ∧
  (∀ i c d acc, xs[i]? = some c → ys[i]? = some d → I i acc → pg (.tuple [c, d]) ρ fun ρ2 => pt ρ2 fun b ρ3 => ρ3 = ρ2 ∧ if b = true then pe ρ2 fun y ρ4 => ρ4 = ρ2 ∧ acc.length < 100000 ∧ I (i + 1) (acc ++ [y]) else I (i + 1) acc) ∧ ∀ acc, I (min xs.length ys.length) acc → R acc ρ
theorem sim_lcZM {ta : TA} {g : TG} {tt : TT} {te : TE} {vs is : List Nat} {pa : PA'} {pg : PG'} {pt : PT'} {pe : PE'} (sa : SimA K ta pa) (sg : SimGV K vs g pg) (st : SimT K tt pt) (se : Sim K te pe) :
    SimL K (tLc (ZM.iZipM K ta) g tt te vs) (pLcZM vs is pa pg pt pe) := fun B Z A H0 M σ H ρ R E ⟨hv, h⟩ Q q =>
  sa B Z A H0 M σ H ρ _ E h _ fun us x ρ1 H1 ⟨e1, xs, ys, hx, I, i0, is, ie⟩ E1 d1 => by
    subst e1
    subst hx
    obtain ⟨u, w, rfl, du, dw⟩ := pair_of d1
    cases du with
    | @tup a us _ hs r =>
      cases dw with
      | @lst b ws _ hs2 r2 =>
        have l1 := dqs_len r
        have l2 := dqs_len r2
        refine ⟨a, b, us, ws, rfl, grow_t (veil_grow _ _) hs, .of (veil_grow _ _ _ _ hs2), fun D hD => ?_⟩
        obtain ⟨h0, nB, nZ⟩ := lc_start E1 hD
        refine walkW (n := min us.length ws.length) (fun i H' => ∃ va acc, EnvR K B (plus Z D) (veil (hid Z M) H1) H0 M (wipe σ vs) H' ρ1 ∧ H' D = some (.lst va) ∧ Dqs K (veil (hid (plus Z D) M) H') va acc ∧ I i acc) ⟨[], [], E1.enter hv hD, upd_same, .nil, i0⟩
          (fun H' ⟨va, acc, E', hd', ra, hI⟩ => ⟨⟨us, ws, grow_t (veil_grow _ _) (grow_t E'.anch hs), .of (veil_grow _ _ _ _ (E'.anch _ _ hs2)), by omega⟩, ?_⟩) (fun i H' hi ⟨va, acc, E', hd', ra, hI⟩ => ?_)
        · have z := q D va acc ρ1 (wiped H' D) (ie acc (by rw [← l1, ← l2]; exact hI)) (E'.leave E1.anch h0 nZ) wiped_at (dps_grow veil_in _ _ ra)
          rw [wiped_upd hd'] at z
          exact z
        · have s1 := grow_t (veil_grow _ _) (grow_t E'.anch hs)
          have s2 : SqL K H' b ws := .of (veil_grow _ _ _ _ (E'.anch _ _ hs2))
          have g1 : us[i]? = some us[i] := List.getElem?_eq_getElem (by omega)
          have g2 : ws[i]? = some ws[i] := List.getElem?_eq_getElem (by omega)
          refine ⟨⟨us, ws, _, _, s1, s2, g1, g2⟩, fun x H2 hy => ?_⟩
          obtain ⟨T, y1, y2, rfl, hT, rfl, k1, k2⟩ := hy
          have e1 := k1 us s1
          have e2 := k2 ws s2
          obtain ⟨c, hc, dc⟩ := dqs_got r e1
          obtain ⟨d, hd, dd⟩ := dqs_got r2 e2
          have nT : D ≠ T := fun e => by rw [← e, hd'] at hT; cases hT
          have gT := grow_new (o := HO.tup [y1, y2]) hT
          have E3 := E'.grown gT
          refine lc_turn sg st se E3 hv ((upd_ne nT).trans hd') h0 nB (.new (E'.veiled hT) hT (.cons (dp_grow E'.anch _ _ dc) (.cons (dp_grow E'.anch _ _ dd) .nil))) (dps_grow (grow_veil gT) _ _ ra) wipe_wipe (is i c d acc hc hd hI) fun H2 va' acc' E2 h2 r2 y2 => ⟨va', acc', E2, h2, r2, y2⟩
/-- a target in a target: (..), i -/
def pgP (pg : PG') (i : Nat) : PG' := fun d ρ R => asT d fun ds => ∃ c e, ds = [c, e] ∧ pg c ρ fun ρ1 => R (cellSet ρ1 i (.d e))
theorem gv_pair {vs : List Nat} {g : TG} {pg : PG'} {i : Nat} (sg : SimGV K vs g pg) (h : i ∈ vs) : SimGV K vs (gTup K 2 (gCons g (gCons (gName i) gNil))) (pgP pg i) := fun B Z A H0 M σ H ρ v d R E hd hh Q q => by
  obtain ⟨ds, rfl, c, e, rfl, hp⟩ := asT_of hh
  cases hd with
  | tup ht r =>
    obtain ⟨u, w, rfl, du, dw⟩ := pair_of r
    refine ⟨_, _, rfl, grow_t (veil_grow _ _) ht, rfl, u, [w], rfl, ?_⟩
    refine sg B Z _ H0 M σ H ρ u c _ E.anchor du hp _ fun σ' ρ' hR E' w1 l1 o1 => ⟨w, [], rfl, rfl, ?_⟩
    have E2 := (E'.weak E.anch)
    exact q _ _ hR (E2.setD dw) ((wipe_set h).trans w1) (cellSet_len.trans l1) fun j hj => (cellSet_ne fun e => hj (by rw [← e]; exact h)).trans (o1 j hj)
end
end Pu
namespace Pu
open PySem L2
section
variable {K : PySem.W.Frag}
/-- a list of the def's own, compared with a value -/
def pEqO (neg : Bool) (i : Nat) (pb : PE') : PE' := fun ρ R => asOwn (cellAt ρ i) fun _ => pb ρ fun y ρ1 => asOwn (cellAt ρ1 i) fun xs => shq (.list xs) = true ∧ shq y = true ∧ R (.bool (flipB neg (PyData.eqv (.list xs) y))) ρ1
theorem own_dp {B Z : Addr → Prop} {A H0 H : Hp} {M : Nat → Option Addr} {σ : St} {ρ : En} (E : EnvR K B Z A H0 M σ H ρ) {l : Addr} {vs : List V} {xs : List PyData} (hl : H l = some (.lst vs)) (r : Dqs K (veil (hid Z M) H) vs xs) (h : shq (.list xs) = true) : Dp K H (.ref l) (.list xs) :=
  .lst (.of hl) (dqs_dps _ _ (shq_of h).1 (dps_grow (veil_grow _ _) _ _ r))
theorem sim_eqO {i : Nat} {tb : TE} {pb : PE'} (sb : Sim K tb pb) : Sim K (tOp (rEqD K) (tVar i) tb) (pEqO false i pb) := fun B Z A H0 M σ H ρ R E h Q q => by
  obtain ⟨ds, hc, h⟩ := asOwn_of h
  obtain ⟨l, vs, e, m, hl, r⟩ := own_at E hc
  refine ⟨.ref l, e, sb B Z A H0 M σ H ρ _ E h _ fun w y ρ1 H1 h1 E1 d1 => ?_⟩
  obtain ⟨xs, hc1, s1, s2, h2⟩ := asOwn_of h1
  obtain ⟨l1, vs1, e1, m1, hl1, r1⟩ := own_at E1 hc1
  rw [m] at m1
  cases m1
  exact ⟨.list xs, y, own_dp E1 hl1 r1 s1, veil_dp (shq_of s2).1 d1, (shq_of s1).2, (shq_of s2).2, q _ _ _ _ h2 E1 (.bl _)⟩
/-- xs + e of a list of the def's own: a new list -/
def pCatO (i : Nat) (pb : PE') : PA' := fun ρ R => asOwn (cellAt ρ i) fun _ => pb ρ fun y ρ1 => asL y fun es => asOwn (cellAt ρ1 i) fun xs => (xs ++ es).length ≤ 100000 ∧ R (xs ++ es) ρ1
theorem sim_catO {i : Nat} {tb : TE} {pb : PE'} (sb : Sim K tb pb) : SimL K (tOp rCat (tVar i) tb) (pCatO i pb) := fun B Z A H0 M σ H ρ R E h Q q => by
  obtain ⟨ds, hc, h⟩ := asOwn_of h
  obtain ⟨l, vs, e, m, hl, r⟩ := own_at E hc
  refine ⟨.ref l, e, sb B Z A H0 M σ H ρ _ E h _ fun w y ρ1 H1 h1 E1 d1 => ?_⟩
  obtain ⟨es, rfl, h2⟩ := asL_of h1
  obtain ⟨xs, hc1, hz, h3⟩ := asOwn_of h2
  obtain ⟨l1, vs1, e1, m1, hl1, r1⟩ := own_at E1 hc1
  rw [m] at m1
  cases m1
  cases d1 with
  | @lst b us _ hs r2 =>
    have hz2 : vs1.length + us.length ≤ 100000 := by rw [dqs_len r1, dqs_len r2, ← List.length_append]; exact hz
    exact ⟨l, b, vs1, us, rfl, rfl, hl1, veil_grow _ _ _ _ hs, sz5 hz2, fun p hp => q p _ _ ρ1 H1 h3 E1 hp (dqs_app r1 r2)⟩
end
end Pu
namespace Pu
open PySem L2
/-! a < b < c < d -/
def tChain3 (r1 r2 r3 : R2) (ta tb tc td : TE) : TE := fun σ H Q => ta σ H fun x H1 => tb σ H1 fun y H2 => r1 x y H2 fun z H3 => ∃ k, z = V.bl k ∧ if k = true then tc σ H3 fun w H4 => r2 y w H4 fun z2 H5 => ∃ k2, z2 = V.bl k2 ∧ if k2 = true then td σ H5 fun u H6 => r3 w u H6 Q else Q (.bl false) H5 else Q (.bl false) H3
section
variable {X : Cx}
theorem pe_chain3 {a b c d : Expr} {ta tb tc td : TE} {pos : Pos} {op1 op2 op3 : CmpOp} {r1 r2 r3 : R2} (o1 : OpR X (compareOp op1) r1) (o2 : OpR X (compareOp op2) r2) (o3 : OpR X (compareOp op3) r3)
    (ha : PE X a ta) (hb : PE X b tb) (hc : PE X c tc) (hd : PE X d td) (hl : lastMarks [op1, op2, op3] [b, c, d] = false := by rfl) : PE X (.Compare a [op1, op2, op3] [b, c, d] pos) (tChain3 r1 r2 r3 ta tb tc td) := by
  refine ⟨fun pins s σ H Q I h => PyProof.Rows.Compare_chain (thn (ha.run pins s σ H _ I h) fun v s1 ⟨x, H1, I1, e1, q1⟩ => ?_) hl⟩
  rw [compareChain.eq_def]
  dsimp only
  refine wpAny_bind (wpAny_holding (thn (hb.run pins s1 σ H1 _ I1 q1) fun u s2 ⟨y, H2, I2, e2, q2⟩ => ?_))
  refine wpAny_bind (wpAny_standAt ?_)
  refine wpAny_bind (wpAny_holding (thn (o1 pins s2 σ H2 x y v u _ I2 e1 e2 q2) fun t s3 ⟨z, H3, I3, e3, k, ez, q3⟩ => ?_))
  subst ez
  cases (show t = Value.bool k from e3)
  refine wpAny_bind (wpAny_release ?_)
  refine wpAny_bind (wpAny_holding (wpAny_truthy_bool ?_))
  cases k with
  | false => exact wpAny_pure ⟨.bl false, H3, I3, rfl, q3⟩
  | true =>
    have q3 := q3
    rw [if_pos rfl] at q3 ⊢
    rw [compareChain.eq_def]
    dsimp only
    refine wpAny_bind (wpAny_holding (thn (hc.run pins s3 σ H3 _ I3 q3) fun u2 s4 ⟨y2, H4, I4, e4, q4⟩ => ?_))
    refine wpAny_bind (wpAny_standAt ?_)
    refine wpAny_bind (wpAny_holding (thn (o2 pins s4 σ H4 y y2 u u2 _ I4 e2 e4 q4) fun t2 s5 ⟨z2, H5, I5, e5, k2, ez2, q5⟩ => ?_))
    subst ez2
    cases (show t2 = Value.bool k2 from e5)
    refine wpAny_bind (wpAny_release ?_)
    refine wpAny_bind (wpAny_holding (wpAny_truthy_bool ?_))
    cases k2 with
    | false => exact wpAny_pure ⟨.bl false, H5, I5, rfl, q5⟩
    | true =>
      have q5 := q5
      rw [if_pos rfl] at q5 ⊢
      rw [compareChain.eq_def]
      refine wpAny_bind (wpAny_holding (thn (hd.run pins s5 σ H5 _ I5 q5) fun u3 s6 ⟨y3, H6, I6, e6, q6⟩ => ?_))
      refine wpAny_bind (wpAny_standAt ?_)
      exact wpAny_operateT (o3 pins s6 σ H6 y2 y3 u2 u3 _ I6 e4 e6 q6)
end
section
variable {K : PySem.W.Frag}
def pChain3 (f g h : Int → Int → Bool) (pa pb pc pd : PE') : PE' := fun ρ R => pa ρ fun x ρ1 => pb ρ1 fun y ρ2 => asI x fun i => asI y fun j => if f i j = true then pc ρ2 fun z ρ3 => asI z fun k => if g j k = true then pd ρ3 fun u ρ4 => asI u fun l => R (.bool (h k l)) ρ4 else R (.bool false) ρ3 else R (.bool false) ρ2
theorem sim_chain3 {f g h : Int → Int → Bool} {ta tb tc td : TE} {pa pb pc pd : PE'} (sa : Sim K ta pa) (sb : Sim K tb pb) (sc : Sim K tc pc) (sd : Sim K td pd) :
    Sim K (tChain3 (rI0 fun i j => .bl (f i j)) (rI0 fun i j => .bl (g i j)) (rI0 fun i j => .bl (h i j)) ta tb tc td) (pChain3 f g h pa pb pc pd) := fun B Z A H0 M σ H ρ R E hh Q q =>
  two sa sb E hh fun v w x y ρ2 H2 h2 E2 d1 d2 => by
    obtain ⟨i, rfl, h3⟩ := asI_of h2
    obtain ⟨j, rfl, h4⟩ := asI_of h3
    clear h2 h3
    have h2 := h4
    rw [of_int d1, of_int d2]
    refine ⟨i, j, rfl, rfl, f i j, rfl, ?_⟩
    cases hf : f i j with
    | true =>
      rw [if_pos hf] at h2
      rw [if_pos rfl]
      refine sc B Z A H0 M σ H2 ρ2 _ E2 h2 _ fun v3 z ρ3 H3 h3 E3 d3 => ?_
      obtain ⟨k, rfl, h5⟩ := asI_of h3
      clear h3
      have h3 := h5
      clear h5
      rw [of_int d3]
      refine ⟨j, k, rfl, rfl, g j k, rfl, ?_⟩
      cases hg : g j k with
      | true =>
        rw [if_pos hg] at h3
        rw [if_pos rfl]
        refine sd B Z A H0 M σ H3 ρ3 _ E3 h3 _ fun v4 u ρ4 H4 h4 E4 d4 => ?_
        obtain ⟨l, rfl, h4⟩ := asI_of h4
        rw [of_int d4]
        exact ⟨k, l, rfl, rfl, q _ _ _ _ h4 E4 (.bl _)⟩
      | false =>
        rw [hg, if_neg Bool.false_ne_true] at h3
        rw [if_neg Bool.false_ne_true]
        exact q _ _ _ _ h3 E3 (.bl _)
    | false =>
      rw [hf, if_neg Bool.false_ne_true] at h2
      rw [if_neg Bool.false_ne_true]
      exact q _ _ _ _ h2 E2 (.bl _)
end
end Pu
namespace Pu
open PySem L2
/-- list(range(n)) -/
def pLstRg1 (pb : PE') : PA' := fun ρ R => pb ρ fun y ρ2 => asI y fun b => RgOk 0 b ∧ R (rgD 0 b) ρ2
theorem sim_lstRg1 {K : PySem.W.Frag} {tb : TE} {pb : PE'} (sb : Sim K tb pb) : SimL K (tLstRg (tRg1 tb)) (pLstRg1 pb) := fun B Z A H0 M σ H ρ R E h Q q =>
  sb B Z A H0 M σ H ρ _ E h _ fun w y ρ2 H2 h2 E2 d2 => by
    obtain ⟨b, rfl, h4, h5⟩ := asI_of h2
    exact ⟨b, of_int d2, h4, fun p hp => q p _ _ _ _ h5 E2 hp dqs_rg⟩
end Pu
namespace Pu
open PySem L2
section
variable {X : Cx}
theorem pt_chain3 {a b c d : Expr} {ta tb tc td : TE} {pos : Pos} {op1 op2 op3 : CmpOp} {r1 r2 r3 : R2} (o1 : OpR X (compareOp op1) r1) (o2 : OpR X (compareOp op2) r2) (o3 : OpR X (compareOp op3) r3)
    (ha : PE X a ta) (hb : PE X b tb) (hc : PE X c tc) (hd : PE X d td) (hl : lastMarks [op1, op2, op3] [b, c, d] = false := by rfl) : PT X (.Compare a [op1, op2, op3] [b, c, d] pos) (tTest (tChain3 r1 r2 r3 ta tb tc td)) := by
  refine ⟨fun pins s σ H Q I h => PyProof.Rows.isTrue_chain (thn (ha.run pins s σ H _ I h) fun v s1 ⟨x, H1, I1, e1, q1⟩ => ?_) hl⟩
  rw [testChain.eq_def]
  dsimp only
  refine wpAny_bind (wpAny_holding (thn (hb.run pins s1 σ H1 _ I1 q1) fun u s2 ⟨y, H2, I2, e2, q2⟩ => ?_))
  refine wpAny_bind (wpAny_standAt ?_)
  refine wpAny_bind (wpAny_holding (thn (o1 pins s2 σ H2 x y v u _ I2 e1 e2 q2) fun t s3 ⟨z, H3, I3, e3, k, ez, q3⟩ => ?_))
  subst ez
  cases (show t = Value.bool k from e3)
  refine wpAny_bind (wpAny_release ?_)
  refine wpAny_bind (wpAny_holding (wpAny_truthy_bool ?_))
  cases k with
  | false =>
    obtain ⟨k', e', q'⟩ := q3
    cases e'
    exact wpAny_pure ⟨H3, I3, q'⟩
  | true =>
    have q3 := q3
    rw [if_pos rfl] at q3 ⊢
    rw [testChain.eq_def]
    dsimp only
    refine wpAny_bind (wpAny_holding (thn (hc.run pins s3 σ H3 _ I3 q3) fun u2 s4 ⟨y2, H4, I4, e4, q4⟩ => ?_))
    refine wpAny_bind (wpAny_standAt ?_)
    refine wpAny_bind (wpAny_holding (thn (o2 pins s4 σ H4 y y2 u u2 _ I4 e2 e4 q4) fun t2 s5 ⟨z2, H5, I5, e5, k2, ez2, q5⟩ => ?_))
    subst ez2
    cases (show t2 = Value.bool k2 from e5)
    refine wpAny_bind (wpAny_release ?_)
    refine wpAny_bind (wpAny_holding (wpAny_truthy_bool ?_))
    cases k2 with
    | false =>
      obtain ⟨k', e', q'⟩ := q5
      cases e'
      exact wpAny_pure ⟨H5, I5, q'⟩
    | true =>
      have q5 := q5
      rw [if_pos rfl] at q5 ⊢
      rw [testChain.eq_def]
      refine wpAny_bind (wpAny_holding (thn (hd.run pins s5 σ H5 _ I5 q5) fun u3 s6 ⟨y3, H6, I6, e6, q6⟩ => ?_))
      refine wpAny_bind (wpAny_standAt ?_)
      refine wpAny_bind (wpAny_operateT (thn (o3 pins s6 σ H6 y2 y3 u2 u3 _ I6 e4 e6 q6) fun t3 s7 ⟨z3, H7, I7, e7, k3, ez3, q7⟩ => ?_))
      subst ez3
      cases (show t3 = Value.bool k3 from e7)
      exact wpAny_holding (wpAny_truthy_bool ⟨H7, I7, q7⟩)
end
end Pu
namespace Pu
open PySem L2
/-! places forgotten (a comprehension's name that a loop of the def has used) -/
def forgetC : En → List Nat → En
  | ρ, [] => ρ
  | ρ, i :: is => forgetC (cellSet ρ i .no) is
def pFgt (is : List Nat) (p : PS') : PS' := fun G ρ => p G (forgetC ρ is)
section
variable {K : PySem.W.Frag}
theorem env_no {B Z : Addr → Prop} {A H0 H : Hp} {M : Nat → Option Addr} {σ : St} {ρ : En} (E : EnvR K B Z A H0 M σ H ρ) (i : Nat) : EnvR K B Z A H0 M σ H (cellSet ρ i .no) := by
  rw [cellSet_eq]
  refine { E with len := by rw [List.length_set]; exact E.len, cell := fun j c h => ?_ }
  rw [List.getElem?_set] at h
  by_cases e : i = j
  · rw [if_pos e] at h
    by_cases l : i < ρ.length
    · rw [if_pos l] at h
      cases h
      trivial
    · rw [if_neg l] at h
      cases h
  · rw [if_neg e] at h
    exact E.cell j c h
theorem env_forget {B Z : Addr → Prop} {A H0 H : Hp} {M : Nat → Option Addr} {σ : St} : ∀ (is : List Nat) {ρ : En}, EnvR K B Z A H0 M σ H ρ → EnvR K B Z A H0 M σ H (forgetC ρ is)
  | [], _, E => E
  | i :: is, _, E => env_forget is (env_no E i)
theorem s_fgt {is : List Nat} {ts : TS} {p : PS'} (s : SimS K ts p) : SimS K ts (pFgt is p) := fun B Z A H0 M σ H ρ D G E h C =>
  s B Z A H0 M σ H _ D G (env_forget is E) h C
theorem s2_fgt {Hx : Hp} {C : Addr} {X : XK} {is : List Nat} {ts : TS} {p : PS'} (s : SimS2 K Hx C X ts p) : SimS2 K Hx C X ts (pFgt is p) := fun Z A M σ H ρ D G E h a b c =>
  s Z A M σ H _ D G (env_forget is E) h a b c
theorem sF_fgt {is : List Nat} {ts : TS} {p : PS'} (s : SimSF K ts p) : SimSF K ts (pFgt is p) := fun Z A H0 M σ H ρ D G E h C =>
  s Z A H0 M σ H _ D G (env_forget is E) h C
end
end Pu
namespace Pu
open PySem PySem.Spec PyProof.Rows L2
/-! set(t), t a tuple of ints; sorted of it; set of what stands either way -/
section
variable {P : Program} {w : World} {A : Around} {E : Value → Shared → Prop} {s : Shared}
set_option maxHeartbeats 3200000 in
theorem call_set_tup {l : Addr} {xs : Array Value} (ns : List Int) {Q : Value → Shared → Prop} (hA : A.handled = none) (hl : s.heap.IsTuple l xs) (hi : IntsAre xs.toList ns) (room : ns.length + 1 < scanBound)
    (h : ∀ (g : Heap) (tk c : Nat), SetR w g s.heap.objs.size (fun j => decide (j ∈ ns)) c → c ≤ ns.length → (∀ b o, s.heap.get? b = some o → g.get? b = some o) → Q (.ref s.heap.objs.size) { s with heap := g, toks := tk }) :
    wpAny (model P w) A (call (.type "set") [.ref l]) Q E s := by
  have hz : xs.size = ns.length := by simpa using IntsAre.length hi
  obtain ⟨_, _, m1⟩ := F.called_set.mro
  have m2 := F.called_set.made
  have m3 := F.called_set.sub
  have m4 := F.called_set.notType
  have m5 := F.called_set.canCreate
  have m6 := F.typeCall_set_1 (.ref l)
  refine wpAny_call <| codeAny_of_tree ?_
  show wpAny _ _ (callAny (.type "set") _) _ _ _
  refine wpAny_pure ⟨Code.quiet_builtin _ (by decide +kernel), codeAny_builtin F.entry_type_call ?_⟩
  rw [Around.under_plain (weight_type_call_type "set" [.ref l] []) rfl]
  repeat any_goals first | assumption | wp_step
  refine codeAny_mono (code_set_led1 (.ref l) (E := E)
    (Q₁ := fun r t => r = .ref s.heap.objs.size ∧ t = { s with heap := s.heap.push (bare w) }) ⟨rfl, rfl⟩) fun r t ht => ?_
  cases r with
  | error _ => exact ht
  | ok fl =>
    cases fl with
    | ret _ =>
      obtain ⟨rfl, rfl⟩ := ht
      have at0 : (s.heap.push (bare w)).get? s.heap.objs.size = some (bare w) := Heap.get?_push_size _ rfl
      have ty0 : Shared.TypeIs { s with heap := s.heap.push (bare w) } (.ref s.heap.objs.size) "set" := ⟨_, at0, rfl⟩
      have i1 := F.called_set.init.lookup
      have i2 := F.called_set.init.bind (.ref s.heap.objs.size)
      repeat any_goals first | assumption | wp_step
      refine codeAny_mono (codeAny_call_builtin (R := wants (Laid w s.heap.objs.size ns s) E) F.called_set.init.plain F.entry_set_init (check_set_init_1 ty0 ?_)) fun r2 t2 ht2 => ?_
      · have l1 : (s.heap.push (bare w)).IsTuple l xs := hl.push _
        obtain ⟨⟨k1, k2, k3, k4⟩, ho, kc, n, kd⟩ := hl
        obtain rfl : k1 = .type "tuple" := kc
        obtain rfl : k3 = .seq xs n := kd
        have ho1 : (s.heap.push (bare w)).get? l = some { cls := .type "tuple", dict := k2, data := .seq xs n, slots := k4 } := Heap.get?_push_of_some _ ho
        have q1 := F.sub_tuple_set
        have q2 := F.sub_tuple_frozenset
        have q3 : (Value.type "tuple" == Value.type "dict") = false := by decide
        unfold Builtin.«set.__init__» noKeywords Builtin.Frozenset.updateFrom
        generalize hIt : pyIter = IT
        wp_walk
        subst hIt
        refine wpAny_pyIter_tuple l1 (wpAny_bind (wpAny_runValue ?_))
        have l0 : l < s.heap.objs.size := Heap.lt_size ho
        have hA3 : A.in1.in1.in1.handled = none := by simp [hA]
        have z1 : (s.heap.push (bare w)).objs.size = s.heap.objs.size + 1 := Heap.size_push ..
        have neI : l ≠ (s.heap.push (bare w)).objs.size := Nat.ne_of_lt (z1 ▸ Nat.lt_succ_of_lt l0)
        have off : s.heap.objs.size ∉ [(s.heap.push (bare w)).objs.size, l] := by
          intro m
          rcases List.mem_cons.mp m with e | m
          · exact Nat.ne_of_lt (z1 ▸ Nat.lt_succ_self _) e
          · exact Nat.ne_of_gt l0 (List.mem_singleton.mp m)
        refine set_update_ints (Walks.tuple hA3 _ l neI xs).toS s.heap.objs.size off ns hz room (in_lst hi) (xs.size - 0) 0 _ (by omega) (Nat.zero_le _) ⟨⟨_, Heap.get?_push_size _ rfl, rfl, rfl⟩, l1.push _⟩ ?begin ?finish
        case begin => exact ⟨0, Nat.le_refl 0, setR_new_at (Heap.get?_push_of_some _ at0)⟩
        case finish =>
          rintro ⟨g, gs, dr, tk, os⟩ c mv hc hS
          obtain rfl : gs = s.gens := mv.gens
          obtain rfl : dr = s.drawn := mv.drawn
          obtain rfl : os = s.os := mv.os
          show wpAny _ _ _ _ _ _
          refine wpAny_pure ?_
          show wpAny _ _ (ret Value.none) _ _ _
          refine wpAny_pure ⟨rfl, g, tk, c, rfl, hS, hz ▸ hc, fun b o e => ?_⟩
          have b0 : b < s.heap.objs.size := Heap.lt_size e
          refine mv.heap b o (fun m => ?_) (Heap.get?_push_of_some _ (Heap.get?_push_of_some _ e))
          rcases List.mem_cons.mp m with e | m
          · exact Nat.ne_of_lt b0 e
          · exact Nat.ne_of_lt (z1 ▸ Nat.lt_succ_of_lt b0) (List.mem_singleton.mp m)
      · cases r2 with
        | error _ => exact ht2
        | ok fl2 =>
          cases fl2 with
          | ret _ =>
            obtain ⟨rfl, g, tk, c, rfl, hS, hc, hk⟩ := ht2
            repeat any_goals first | assumption | wp_step
            exact h g tk c hS hc hk
          | _ => exact ht2.elim
    | _ => exact ht.elim
end
/-- set(t) -/
def rSetT (K : PySem.W.Frag) (w : World) : List V → Hp → VK → Prop := fun vs H Q => ∃ (p : Addr) (ns : List Int), vs = [.ref p] ∧ SqT K H p (ns.map V.int) ∧ ns.length + 1 < scanBound ∧
  ∀ (a : Addr) (c : Nat), c ≤ ns.length → H a = none → Q (.ref a) (upd H a (SetO w a (fun j => decide (j ∈ ns)) c))
theorem c_setT {X : Cx} (hc : X.calm = true) : CallR X (.type "set") (rSetT X.K X.w) := by
  intro pins s σ H vs us Q I r h
  obtain ⟨p, ns, rfl, hp, hl, q⟩ := h
  rw [Vals.ref1 r]
  obtain ⟨its, rv, pl, _⟩ := I.tuple hp
  refine call_set_tup ns (I.ok.hd hc) pl (ints_of_vals rv) hl fun g tk c R1 hcn k => ?_
  exact ⟨.ref _, _, I.laid (t' := tk) k (Nat.le_refl _) (setO_new R1), rfl, q _ c hcn (I.hok.fresh (Nat.le_refl _))⟩
/-- set(x), x a list or a tuple of ints -/
def rSetA (K : PySem.W.Frag) (w : World) : List V → Hp → VK → Prop := fun vs H Q => rSetL K w vs H Q ∨ rSetT K w vs H Q
theorem c_setA {X : Cx} (hc : X.calm = true) : CallR X (.type "set") (rSetA X.K X.w) := by
  intro pins s σ H vs us Q I r h
  rcases h with h | h
  · exact c_setL hc _ _ _ _ _ _ _ I r h
  · exact c_setT hc _ _ _ _ _ _ _ I r h
def pSortSetA (pa : PA') : PA' := fun ρ R => pa ρ fun ds ρ1 => ∃ ns : List Int, (ds = [.list (ns.map PyData.int)] ∨ ds = [.tuple (ns.map PyData.int)]) ∧ ns.length < 60 ∧
    ∀ ns' : List Int, ns'.Pairwise (· < ·) → (∀ k, k ∈ ns' ↔ k ∈ ns) → ns'.length ≤ ns.length → R (ns'.map PyData.int) ρ1
section
variable {K : PySem.W.Frag}
theorem sim_sortSetA {w : World} {ta : TA} {pa : PA'} (sa : SimA K ta pa) : SimL K (tCB (rSortedSet w) (tCons (tCB (rSetA K w) ta) tNil)) (pSortSetA pa) := fun B Z A H0 M σ H ρ R E h Q q =>
  sa B Z A H0 M σ H ρ _ E h _ fun vs ds ρ1 H1 ⟨ns, e, hl, h2⟩ E1 d1 => by
    rcases e with rfl | rfl
    · obtain ⟨v, rfl, dv⟩ := one_of d1
      cases dv with
      | lst hl0 r =>
        have e := dqs_of_ints r
        subst e
        refine .inl ⟨_, ns, rfl, .of (veil_grow _ _ _ _ hl0), hl, fun a c hc ha => ⟨a, _, c, rfl, upd_same, by omega, fun ns' p pw mem len hp => ?_⟩⟩
        exact q p _ _ ρ1 _ (h2 ns' pw (fun k => (mem k).trans decide_eq_true_iff) (by omega)) (E1.grown (grow_new ha)) hp dqs_ints
    · obtain ⟨v, rfl, dv⟩ := one_of d1
      cases dv with
      | tup hl0 r =>
        have e := dqs_of_ints r
        subst e
        refine .inr ⟨_, ns, rfl, grow_t (veil_grow _ _) hl0, by unfold scanBound; omega, fun a c hc ha => ⟨a, _, c, rfl, upd_same, by omega, fun ns' p pw mem len hp => ?_⟩⟩
        exact q p _ _ ρ1 _ (h2 ns' pw (fun k => (mem k).trans decide_eq_true_iff) (by omega)) (E1.grown (grow_new ha)) hp dqs_ints
end
end Pu
namespace Pu
open PySem L2
/-! objects that are not changed any more, as data: made, their fields read, their methods called -/
def asOb : PyData → (Str → List PyData → Prop) → Prop
  | .dict [(.list [], .tuple (.str nm :: fs))], k => k nm fs
  | _, _ => False
def lookD (f : Str) : List PyData → Option PyData
  | .tuple [.str g, d] :: r => if f == g then some d else lookD f r
  | _ => none
theorem lookD_fs {f : Str} : ∀ {fs : List (Str × PyData)}, lookD f (fs.map fdD) = fs.lookup f
  | [] => rfl
  | (g, d) :: r => by
    show (if f == g then some d else lookD f (r.map fdD)) = List.lookup f ((g, d) :: r)
    unfold List.lookup
    cases h : f == g with
    | true => rfl
    | false => exact lookD_fs
def pFldD (pa : PE') (nm f : Str) : PE' := fun ρ R => pa ρ fun x ρ1 => asOb x fun n fs => n = nm ∧ asO (lookD f fs) fun d => R d ρ1
/-- C(..), an object that is not changed from then on -/
def pMakeD (nm : Str) (n : Nat) (S : FSO) (pa : PA') : PE' := fun ρ R => pa ρ fun ds ρ1 => ds.length = n ∧ S [] ds fun d fs => d = .none ∧ R (obD nm fs) ρ1
def pMethD (pr : PE') (nm m : Str) (n : Nat) (S : FS) (pa : PA') : PE' := fun ρ R => pr ρ fun x ρ1 => asOb x fun n1 fs1 => n1 = nm ∧ lookD m fs1 = none ∧ pa ρ1 fun ds ρ2 => ds.length = n ∧ S (x :: ds) fun d => R d ρ2
section
variable {K : PySem.W.Frag}
theorem asOb_of {x : PyData} {k : Str → List PyData → Prop} (h : asOb x k) : ∃ nm fs, x = .dict [(.list [], .tuple (.str nm :: fs))] ∧ k nm fs := by
  unfold asOb at h
  split at h
  · exact ⟨_, _, rfl, h⟩
  · exact h.elim
theorem dks_head {H : Hp} {ws : List (Key × V)} {kvs : List (PyData × PyData)} (h : Dks K H ws kvs) : ∀ x d r, kvs = (x, d) :: r → ∃ k : Key, x = keyD k := by
  cases h with
  | nil => intro x d r e; cases e
  | cons h r => intro x d r e; cases e; exact ⟨_, rfl⟩
theorem ob_inv {H : Hp} {v : V} {nm : Str} {gs : List PyData} (h : Dq K H v (.dict [(.list [], .tuple (.str nm :: gs))])) : ∃ a C dx ws fs, v = .ref a ∧ gs = fs.map fdD ∧ ClsNm K nm C ∧ H a = some (.ins C dx ws) ∧ Fds K H ws fs := by
  cases h with
  | dct hl r =>
    obtain ⟨k, e⟩ := dks_head r _ _ _ rfl
    cases k <;> cases e
  | ob hc hl r => exact ⟨_, _, _, _, _, rfl, rfl, hc, hl, r⟩
theorem sim_fldD {te : TE} {pa : PE'} {nm f : Str} (hc : ∀ C, ClsNm K nm C → Cls K C ∧ NoAttr K C f) (sa : Sim K te pa) : Sim K (tFld K te f) (pFldD pa nm f) := fun B Z A H0 M σ H ρ R E h Q q =>
  sa B Z A H0 M σ H ρ _ E h _ fun v x ρ1 H1 h1 E1 d1 => by
    obtain ⟨n, gs, rfl, rfl, h2⟩ := asOb_of h1
    obtain ⟨a, C, dx, ws, fs, rfl, rfl, c, hl, r⟩ := ob_inv d1
    obtain ⟨d, hd, h3⟩ := asO_of h2
    rw [lookD_fs] at hd
    obtain ⟨u, hu, du⟩ := fds_get r hd
    exact ⟨a, C, dx, ws, u, rfl, veil_grow _ _ _ _ hl, (hc C c).1, (hc C c).2, hu, q u d ρ1 H1 h3 E1 du⟩
theorem sim_makeD {n : Nat} {nm : Str} {C0 : Addr} {S : FSO} {EX : XK} {ta : TA} {pa : PA'} (hn : ClsNm K nm C0) (sa : SimA K ta pa) : Sim K (tMake C0 (spO K nm n S) [] EX ta) (pMakeD nm n S pa) := fun B Z A H0 M σ H ρ R E h Q q =>
  sa B Z A H0 M σ H ρ _ E h _ fun vs ds ρ1 H1 h1 E1 d1 x dx hx hdx ne => by
    rw [List.append_nil]
    have ng : Grow H1 (upd (upd H1 dx (.own x)) x (.ins C0 dx [])) := (grow_new hdx).trans (grow_new (by rw [upd_ne (Ne.symm ne)]; exact hx))
    have nh : ¬ hid Z M x := E1.veiled hx
    have live : ∀ a, hid Z M a → (upd (upd H1 dx (.own x)) x (.ins C0 dx [])) a ≠ none := fun a z => by
      have : H1 a ≠ none := z.elim (fun z => E1.zl a z) fun ⟨j, m⟩ => E1.live j a m
      cases q : H1 a with
      | none => exact absurd q this
      | some o =>
        rw [ng a o q]
        intro z; cases z
    have gv : Grow (veil (hid Z M) H1) (veil (plus (hid Z M) x) (upd (upd H1 dx (.own x)) x (.ins C0 dx []))) := fun a o h => by
      obtain ⟨h1, h2⟩ := veil_off h
      refine veil_on (fun z => z.elim h1 fun e => ?_) (ng a o h2)
      rw [e, hx] at h2
      cases h2
    refine ⟨x, vs, rfl, by rw [dqs_len d1]; exact h1.1, hid Z M, ds, [], _, nh, live, ⟨C0, dx, [], hn, upd_same, .nil⟩, dps_grow gv _ _ d1, h1.2, fun d fs' v H' k g hb dv => ?_⟩
    have g1 : Grow H1 H' := fun a o h => g a o (fun e => by rw [e, hx] at h; cases h) (ng a o h)
    obtain ⟨k1, k2⟩ := k
    subst k1
    cases dv
    obtain ⟨C, dx', ws, c1, c2, c3⟩ := hb
    exact ⟨rfl, q _ _ ρ1 H' k2 (E1.grown g1) (.ob c1 (veil_on nh c2) (fds_grow (veil_less fun a z => .inl z) c3))⟩
theorem sim_methD {n : Nat} {nm m : Str} {C0 : Addr} {S : FS} {EX : XK} {tr : TE} {pr : PE'} {ta : TA} {pa : PA'} (hn : ClsNm K nm C0) (sr : Sim K tr pr) (sa : SimA K ta pa) : Sim K (tMeth C0 m (spP K (n + 1) S) [] EX tr ta) (pMethD pr nm m n S pa) := fun B Z A H0 M σ H ρ R EE h Q q =>
  sr B Z A H0 M σ H ρ _ EE h _ fun v x ρ1 H1 h1 E1 d1 => by
    obtain ⟨n1, gs, rfl, rfl, hm, h2⟩ := asOb_of h1
    obtain ⟨a, C, dx, ws, fs, rfl, rfl, c, hl, r⟩ := ob_inv d1
    cases cls_one c hn
    rw [lookD_fs] at hm
    refine ⟨a, dx, ws, rfl, veil_grow _ _ _ _ hl, fds_none r hm, sa B Z _ H0 M σ H1 ρ1 _ E1.anchor h2 _ fun vs ds ρ2 H2 h3 E2 d2 => ?_⟩
    rw [List.append_nil]
    have d1' := dp_grow E2.anch _ _ d1
    refine ⟨by rw [List.length_cons, dqs_len d2, h3.1], hid Z M, _ :: ds, _, fun a z => z.elim (fun z => E2.zl a z) fun ⟨j, m⟩ => E2.live j a m, .cons d1' d2, h3.2, fun d v H' k g dv => ?_⟩
    exact q v d ρ2 H' k ((E2.weak E1.anch).grown g) dv
end
end Pu
namespace Pu
open PySem L2
/-! a field as one of several targets -/
def gFld (K : PySem.W.Frag) (to : TE) (f : Str) : TG := fun v σ H Q => to σ H fun x H1 => ∃ a C dx fs, x = .ref a ∧ H1 a = some (.ins C dx fs) ∧ Cls K C ∧ NoAttr K C f ∧ fs.length < 1000 ∧ Q σ (upd H1 a (.ins C dx (putF f v fs)))
theorem pg_fld {X : Cx} {o : Expr} {to : TE} {f : Str} {pos : Pos} (ho : PE X o to) : PG X (.Attribute o f pos) (gFld X.K to f) := by
  refine ⟨fun pins s σ H v u Q I r h => ?_⟩
  rw [assign_Attribute]
  refine wpAny_bind (wpAny_holding (thn (ho.run pins s σ H _ I h) fun ov s1 ⟨x, H1, I1, rx, a, C, dx, fs, ex, ea, c, n, l, q⟩ => ?_))
  subst ex
  obtain rfl : ov = Value.ref a := rx
  refine wpAny_bind (wpAny_standAt (wpAny_bind (wpAny_holding (setattr_ok I1 ea c n l r fun s3 I3 => ?_))))
  exact wpAny_release ⟨σ, _, I3, q⟩
abbrev PGs' := List PyData → En → (En → Prop) → Prop
def SimH (K : PySem.W.Frag) (g : TG) (pg : PG') : Prop := ∀ B Z A H0 M σ H ρ v d R, EnvR K B Z A H0 M σ H ρ → Dq K (veil (hid Z M) H) v d → pg d ρ R →
  ∀ Q : St → Hp → Prop, (∀ σ' ρ' H', R ρ' → EnvR K B Z A H0 M σ' H' ρ' → Grow (veil (hid Z M) H) (veil (hid Z M) H') → Q σ' H') → g v σ H Q
def SimHs (K : PySem.W.Frag) (g : TGs) (pg : PGs') : Prop := ∀ B Z A H0 M σ H ρ vs ds R, EnvR K B Z A H0 M σ H ρ → Dqs K (veil (hid Z M) H) vs ds → pg ds ρ R →
  ∀ Q : St → Hp → Prop, (∀ σ' ρ' H', R ρ' → EnvR K B Z A H0 M σ' H' ρ' → Grow (veil (hid Z M) H) (veil (hid Z M) H') → Q σ' H') → g vs σ H Q
def pgsN : PGs' := fun ds ρ R => ds = [] ∧ R ρ
def pgsC (pg : PG') (pr : PGs') : PGs' := fun ds ρ R => match ds with
  | d :: r => pg d ρ fun ρ1 => pr r ρ1 R
  | [] => False
def pgTH (n : Nat) (pr : PGs') : PG' := fun d ρ R => asT d fun ds => ds.length = n ∧ pr ds ρ R
def pgF (i : Nat) (nm f : Str) : PG' := fun d ρ R => asObj (cellAt ρ i) fun n fs => n = nm ∧ fs.length < 1000 ∧ R (cellSet ρ i (.obj nm (putFd f d fs)))
section
variable {K : PySem.W.Frag}
theorem gh_name {i : Nat} : SimH K (gName i) (pgN i) := fun B Z A H0 M σ H ρ v d R E hd h Q q => q _ _ H h (E.setD hd) (Grow.refl _)
theorem gh_fld {i : Nat} {nm f : Str} (hc : ∀ C, ClsNm K nm C → Cls K C ∧ NoAttr K C f) : SimH K (gFld K (tVar i) f) (pgF i nm f) := fun B Z A H0 M σ H ρ v d R E hd h Q q => by
  obtain ⟨n, fs, ec, rfl, hz, h2⟩ := asObj_of h
  obtain ⟨l, Cc, dx, ws, e, m, c, hl, r⟩ := obj_at E ec
  refine ⟨.ref l, e, l, Cc, dx, ws, rfl, hl, (hc Cc c).1, (hc Cc c).2, by rw [fds_len r]; exact hz, ?_⟩
  have gv : Grow (veil (hid Z M) H) (veil (hid Z M) (upd H l (.ins Cc dx (putF f v ws)))) := fun a o h => by
    obtain ⟨h1, h2⟩ := veil_off h
    exact veil_on h1 ((upd_ne fun e => h1 (.inr ⟨i, by rw [e]; exact m⟩)).trans h2)
  exact q _ _ _ h2 (E.objCh m ec (fun a o ne h => (upd_ne ne).trans h) ⟨Cc, dx, _, c, upd_same, fds_put (dp_grow gv _ _ hd) (fds_grow gv r)⟩) gv
theorem ghs_nil : SimHs K gNil pgsN := fun B Z A H0 M σ H ρ vs ds R E r h Q q => by
  obtain ⟨rfl, h⟩ := h
  cases r
  exact ⟨rfl, q _ _ _ h E (Grow.refl _)⟩
theorem ghs_cons {g : TG} {u : TGs} {pg : PG'} {pr : PGs'} (sg : SimH K g pg) (su : SimHs K u pr) : SimHs K (gCons g u) (pgsC pg pr) := fun B Z A H0 M σ H ρ vs ds R E r h Q q => by
  cases r with
  | nil => exact h.elim
  | cons hd r =>
    refine ⟨_, _, rfl, sg B Z A H0 M σ H ρ _ _ _ E hd h _ fun σ1 ρ1 H1 h1 E1 g1 => ?_⟩
    exact su B Z A H0 M σ1 H1 ρ1 _ _ _ E1 (dps_grow g1 _ _ r) h1 _ fun σ2 ρ2 H2 h2 E2 g2 => q _ _ _ h2 E2 (g1.trans g2)
theorem gh_tup {n : Nat} {u : TGs} {pr : PGs'} (su : SimHs K u pr) : SimH K (gTup K n u) (pgTH n pr) := fun B Z A H0 M σ H ρ v d R E hd h Q q => by
  obtain ⟨ds, rfl, hl, h⟩ := asT_of h
  cases hd with
  | tup ht r => exact ⟨_, _, rfl, grow_t (veil_grow _ _) ht, by rw [dqs_len r, hl], su B Z A H0 M σ H ρ _ ds _ E r h Q q⟩
theorem s_asgH {te : TE} {pa : PE'} {g : TG} {pg : PG'} (sa : Sim K te pa) (sg : SimH K g pg) : SimS K (tAsg te g) (pAsg pa pg) := fun B Z A H0 M σ H ρ D G E h C =>
  sa B Z A H0 M σ H ρ _ E h _ fun v d ρ1 H1 h1 E1 d1 => sg B Z A H0 M σ H1 ρ1 v d _ E1 d1 h1 _ fun σ' ρ' H' hR E' _ => C.nx M σ' H' ρ' E' hR
end
end Pu
namespace Pu
open PySem L2
/-- not x, x of any kind that has a truth here -/
def pNotT (pa : PE') : PE' := fun ρ R => pa ρ fun x ρ1 => ∃ b, truD x = some b ∧ R (.bool (!b)) ρ1
theorem sim_notT {K : PySem.W.Frag} {ta : TE} {pa : PE'} (sa : Sim K ta pa) : Sim K (tNotT K ta) (pNotT pa) := fun B Z A H0 M σ H ρ R E h Q q =>
  sa B Z A H0 M σ H ρ _ E h _ fun v x ρ1 H1 ⟨b, hb, h1⟩ E1 d1 => by
    refine ⟨b, ?_, q _ _ _ _ h1 E1 (.bl _)⟩
    cases d1 with
    | non => cases hb; rfl
    | bl c => cases hb; rfl
    | int i => cases hb; rfl
    | str z => cases hb
    | @lst a vs ds hl r =>
      cases hb
      refine .inl ⟨vs, .of (veil_grow _ _ _ _ hl), ?_⟩
      cases r <;> rfl
    | @tup a vs ds hl r =>
      cases hb
      refine .inr (.inl ⟨vs, grow_t (veil_grow _ _) hl, ?_⟩)
      cases r <;> rfl
    | dct hl r => cases hb
    | ob hc hl r => cases hb
end Pu
/-! a law's own def, entered where the claim enters it: what stands around it is told there (no repr is under way) -/
namespace Pu
open PySem PySem.Spec PyProof.Rows L2
section
variable {prg : Program} {wo : World} {Kf : PySem.W.Frag} {gm : Str → Option Value} {ground : Heap}
/-- the promise of a def, at the claim's own call -/
structure AtTop (prg : Program) (wo : World) (Kf : PySem.W.Frag) (gm : Str → Option Value) (ground : Heap) (kk : Nat) (ad : Addr) (fdt : FuncData) (prs : List Str) (pro : Sp) : Prop where
  many : ∀ {xs : List V} {H : Hp} {Q : VK} {E : XK}, pro xs H Q E → xs.length = prs.length
  go : ∀ {sh : Shared} {H : Hp} {gs : List Value} {xs : List V} {Q : VK} {E : XK}, Room kk callerA → Env0 prg wo Kf gm ground callerA [] sh H → BindsTo sh fdt ⟨gs, []⟩ (prs.zip gs) → Vals xs gs → pro xs H Q E →
    codeAny (model prg wo) callerA (.call (.ref ad) ⟨gs, []⟩) (CR CX0 [] prg wo H sh Q E) sh
theorem atTop {nm ql : Str} {stm : Stmt} {ad : Addr} {fdt : FuncData} {Ns prs : List Str} {kk : Nat} {pro : Sp} (Fu : Fun Kf nm ql stm ad fdt) (Sc : FnScope Ns prs (defScope stm)) (many : ∀ {xs : List V} {H : Hp} {Q : VK} {E : XK}, pro xs H Q E → xs.length = prs.length)
    (bod : ∀ (cd : Value) (sh : Shared) (H : Hp) (xs : List V) (Q : VK) (E : XK), Room kk (callerA.deeper (envOfC ql (defScope stm) sh.heap.objs.size ad cd)) → pro xs H Q E →
      ∃ tt, PSs (cxOf CX0 prg wo Kf gm ground Ns ql (defScope stm) ad cd callerA [] sh H E).nox (defBody stm) tt ∧ tt { nx := fun _ G => Q .non G, rt := Q } (start Ns xs) H) : AtTop prg wo Kf gm ground (kk + 1) ad fdt prs pro := by
  obtain ⟨oc, od, kV, doc, pm, an, cd, ct, osl, rfl, look, code⟩ := Fu.ex
  refine ⟨many, fun {sh H gs xs Q E} room env bnd vals hp => ?_⟩
  have cnt := many hp
  have back : ∀ b o, ground.get? b = some o → sh.heap.get? b = some o := fun b o e => (env.bs b o e).1
  have Kin := env.mod.kin.keeps back
  refine codeAny_call_function room.depth (Kin _ _ look) rfl Sc.co Sc.gen rfl (W.codeRec_of Kin code) (bnd _ _ _ _ ?_)
  refine wpAny_newFunctionEnv_cells Sc.kind (fun y hy => ?_) fun fr efr sh1 inn => ?_
  · cases Sc.par y.1 (List.of_mem_zip (show (y.1, y.2) ∈ prs.zip gs from hy)).1 with
    | inl z => exact Or.inl z
    | inr z => exact Or.inr ⟨z, W.cellsFrom_some _ _ _ (Or.inl z)⟩
  · cases efr
    refine ⟨(env.mod.nolimit.keeps back).keeps inn.toInCall.keep, codeAny_func ?_⟩
    obtain ⟨tt, run, hq⟩ := bod cd sh H xs Q E (room.deeper _) hp
    have J0 : Inv (cxOf CX0 prg wo Kf gm ground Ns ql (defScope stm) ad cd callerA [] sh H E) [] (start Ns xs) H sh1 :=
      inv_start Sc room.hd env cnt vals inn
    refine wpAny_mono (run.nox.run [] sh1 _ H _ J0 hq) (fun out sh2 post => ?_) (fun _ _ post => post)
    match out, post with
    | .ret _, ⟨v, _, H2, J, rv, q⟩ => exact ⟨v, H2, J.os, J.bare, J.base, J.hok, rv, q⟩
    | .next, ⟨_, H2, J, q⟩ => exact ⟨.non, H2, J.os, J.bare, J.base, J.hok, rfl, q⟩
    | .brk, ⟨_, _, _, q⟩ => exact q.elim
    | .cont, ⟨_, _, _, q⟩ => exact q.elim
/-- the claim's own call of such a def, with a list of inz that nobody has touched -/
theorem top_call {bn : Str → Option Value} {kk : Nat} {ad al : Addr} {fdt : FuncData} {nm : Str} {pro : Sp} {sh : Shared} {gs : List Value} {zs : List Int} (kin : Kf.In sh.heap) (ng : sh.heap.Ns mainGlobals gm) (nb : sh.heap.Ns builtinsNs bn)
    (boot : ∀ y : Str, y ≠ "__name__" → bn y = bootBuiltins y) (nol : sh.heap.NoLimit) (gen : sh.gens = #[]) (obj : sh.heap.get? al = some { cls := .type "list", data := .seq gs.toArray }) (inz : IntsAre gs zs) (few : zs.length ≤ sizeLine)
    (room : Room kk callerA) (Pr : ∀ g : Heap, Kf.In g → g.Ns mainGlobals gm → AtTop prg wo Kf gm g kk ad fdt [nm] pro) (bnd : ∀ (t : Shared) (v : Value), BindsTo t fdt ⟨[v], []⟩ [(nm, v)])
    (hp : ∀ H : Hp, Only H → SqL Kf H al (zs.map V.int) → pro [.ref al] H (fun v _ => v = .bl true) fun _ _ _ => False) :
    codeAny (model prg wo) callerA (.call (.ref ad) ⟨[.ref al], []⟩) (fun r t => r = .ok (.ret (.bool true)) ∧ OldK sh.heap t.heap ∧ t.os = sh.os ∧ AllBare t.gens) sh := by
  have vz := vals_ints inz
  have cnt : (zs.map V.int).length ≤ sizeLine := by rw [List.length_map]; exact few
  let ob : Obj := { cls := .type "list", data := .seq gs.toArray }
  let H : Hp := fun b => if b = al ∧ Kf.lookup al = none then some (.frz ob (.lst (zs.map V.int))) else none
  have at1 : ∀ {b : Addr} {u : HO}, H b = some u → (b = al ∧ Kf.lookup al = none) ∧ u = .frz ob (.lst (zs.map V.int)) := fun {b u} e => by
    have e : (if b = al ∧ Kf.lookup al = none then some (HO.frz ob (.lst (zs.map V.int))) else none) = some u := e
    by_cases c : b = al ∧ Kf.lookup al = none
    · rw [if_pos c] at e
      exact ⟨c, (Option.some.inj e).symm⟩
    · rw [if_neg c] at e
      cases e
  have kept : ∀ {b : Addr} {o : Obj}, sh.heap.get? b = some o → b ≠ al → (hidT sh.heap H).get? b = some o := fun {b o} e n => hidT_get e (by
    cases q : H b with
    | none => rfl
    | some u => exact absurd (at1 q).1.1 n)
  have space : ∀ {b : Addr} {m : Str → Option Value}, sh.heap.Ns b m → (hidT sh.heap H).Ns b m := fun {b m} ⟨o, es, ep, e, d, r⟩ => ⟨o, es, ep, kept e (fun z => by
    subst z
    rw [obj] at e
    cases e
    cases (d : Data.seq gs.toArray _ = Data.dict es ep)), d, r⟩
  have kinH : Kf.In (hidT sh.heap H) := fun b o e => hidT_get (kin b o e) (by
    cases q : H b with
    | none => rfl
    | some u =>
      have z := (at1 q).1
      rw [z.1, z.2] at e
      cases e)
  have sq : SqL Kf H al (zs.map V.int) := by
    cases q : Kf.lookup al with
    | none => exact Or.inl (Or.inr ⟨ob, if_pos ⟨rfl, q⟩⟩)
    | some o =>
      have e := kin al o q
      rw [obj] at e
      cases e
      exact Or.inr ⟨_, gs.toArray, _, q, rfl, rfl, rfl, by rw [List.size_toArray, inz.length]; exact few, by simpa using vz⟩
  have only : Only H := fun b => by
    cases q : H b with
    | none => exact Or.inl rfl
    | some u => exact Or.inr ⟨_, _, congrArg some (at1 q).2⟩
  have hok : HOk prg wo H sh.heap := fun b u e => by
    obtain ⟨⟨e1, _⟩, e2⟩ := at1 e
    rw [e1, e2]
    exact ⟨obj, cnt, gs, _, vz, obj⟩
  have md : Mod Kf gm (hidT sh.heap H) := ⟨kinH, space ng, ⟨bn, space nb, boot⟩, let ⟨mc, n1, n2⟩ := nol; ⟨mc, space n1, n2⟩⟩
  have env : Env0 prg wo Kf gm (hidT sh.heap H) callerA [] sh H := ⟨rfl, md, fun _ _ e => of_hidT e, Nat.le_of_eq (hidT_size _ _), trivial, fun _ z => (nomatch z), hok, AllBare.of_eq gen⟩
  refine codeAny_mono ((Pr _ kinH (space ng)).go room env (bnd sh (.ref al)) (show Vals [V.ref al] [Value.ref al] from .cons rfl .nil) (hp H only sq)) fun r t post => ?_
  match r, post with
  | .error e, z => exact (show False from z).elim
  | .ok .next, z => exact z.elim
  | .ok .brk, z => exact z.elim
  | .ok .cont, z => exact z.elim
  | .ok (.ret u), ⟨v, H2, os, bare, un, hok2, rv, q⟩ =>
    have q : v = .bl true := q
    rw [q] at rv
    have rv : u = Value.bool true := rv
    refine ⟨by rw [rv], OldK.of_keep fun b o e => ?_, os, bare⟩
    cases c : H b with
    | none => exact un.keep b o e c (fun z => nomatch z) (fun z => nomatch z)
    | some x =>
      have e2 := (at1 c).2
      rw [e2] at c
      have n1 := hok b _ c
      have n2 := hok2 b _ (un.frzs b _ _ c)
      have e3 : o = ob := Option.some.inj (e.symm.trans n1.1)
      rw [e3]
      exact n2.1
end
/-- the walk of a row whose law is told at the claim's call -/
theorem walk_top {ol : W.OpenLaw} {most kk : Nat} {pg : Program} {lo : List Str} {xp : (Str → Option Value) → Heap → Prop} {yp : World → Heap → Prop} {dr : DefRec} {Kp : Params → W.Frag} {pro : World → Sp} {nm : Str} (hm : ol.most = some most) (few : most ≤ sizeLine)
    (nod : dr.params.defaults = []) (room : Room kk callerA) (kin : ∀ (wo : World) (g : Heap), yp wo g → (Kp wo.params).In g)
    (Fd : ∀ (wo : World) (gm : Str → Option Value) (ad : Addr) (g : Heap), (Kp wo.params).In g → g.Ns mainGlobals gm → gm dr.name = some (.ref ad) →
      ∃ fdt : FuncData, (∀ (t : Shared) (v : Value), BindsTo t fdt ⟨[v], []⟩ [(nm, v)]) ∧ ∀ gr : Heap, (Kp wo.params).In gr → gr.Ns mainGlobals gm → AtTop ol.prog wo (Kp wo.params) gm gr kk ad fdt [nm] (pro wo))
    (hp : ∀ (wo : World) (H : Hp) (al : Addr) (zs : List Int), zs.length ≤ most → Only H → SqL (Kp wo.params) H al (zs.map V.int) → pro wo [.ref al] H (fun v _ => v = .bl true) fun _ _ _ => False) :
    W.WalkO pg lo xp yp ol.row.toRowW dr [] (fun f vs => PySem.call f vs) := by
  refine Att.attach_callB hm nod fun wo s0 sh gm bn ad o pm cd doc al gs zs G Y _ _ _ here obj inz len _ gen => ?_
  have kn := kin wo _ Y
  obtain ⟨fdt, bnd, Fp⟩ := Fd wo gm ad _ kn G.T.g here
  exact top_call kn G.T.g G.T.b G.T.builtins G.T.nolimit gen obj inz (Nat.le_trans len few) room Fp bnd fun H only sq => hp wo H al zs len only sq
end Pu
namespace Pu
open PySem PySem.Spec PyProof.Rows L2
/-- == and != of two texts, of whatever signs -/
def asStr : PyData → (Str → Prop) → Prop
  | .str x, k => k x
  | _, _ => False
theorem asStr_of {d : PyData} {k : Str → Prop} (h : asStr d k) : ∃ x, d = .str x ∧ k x := by
  cases d <;> first | exact ⟨_, rfl, h⟩ | exact h.elim
def pEqS (neg : Bool) (pa pb : PE') : PE' := fun ρ R => pa ρ fun x ρ1 => pb ρ1 fun y ρ2 => asStr x fun i => asStr y fun j => R (.bool (flipB neg (decide (i = j)))) ρ2
theorem of_str {K : PySem.W.Frag} {H : Hp} {v : V} {x : Str} (h : Dq K H v (.str x)) : v = .str x := by cases h; rfl
theorem dec_strs (i j : Str) : decide (V.str i = V.str j) = decide (i = j) := by
  by_cases h : i = j
  · rw [h]; simp
  · rw [decide_eq_false h, decide_eq_false fun z => h (V.str.inj z)]
theorem sim_neS {K : PySem.W.Frag} {ta tb : TE} {pa pb : PE'} (sa : Sim K ta pa) (sb : Sim K tb pb) : Sim K (tOp rNe ta tb) (pEqS true pa pb) := fun B Z A H0 M σ H ρ R E h Q q =>
  two sa sb E h fun v w x y ρ2 H2 h2 E2 d1 d2 => by
    obtain ⟨i, ei, h3⟩ := asStr_of h2
    subst ei
    obtain ⟨j, ej, h4⟩ := asStr_of h3
    subst ej
    rw [of_str d1, of_str d2]
    refine ⟨rfl, ?_⟩
    rw [dec_strs]
    exact q _ _ _ _ h4 E2 (.bl _)
theorem sim_eqS {K : PySem.W.Frag} {ta tb : TE} {pa pb : PE'} (sa : Sim K ta pa) (sb : Sim K tb pb) : Sim K (tOp rEq ta tb) (pEqS false pa pb) := fun B Z A H0 M σ H ρ R E h Q q =>
  two sa sb E h fun v w x y ρ2 H2 h2 E2 d1 d2 => by
    obtain ⟨i, ei, h3⟩ := asStr_of h2
    subst ei
    obtain ⟨j, ej, h4⟩ := asStr_of h3
    subst ej
    rw [of_str d1, of_str d2]
    refine ⟨rfl, ?_⟩
    rw [dec_strs]
    exact q _ _ _ _ h4 E2 (.bl _)
end Pu
namespace Pu
open PySem PySem.Spec PyProof.Rows L2
/-! set(t), t a tuple of tuples of ints; len of a set; sorted of a set of pairs of ints -/
/-! ### how many there are -/
theorem nodup_few {α : Type} [DecidableEq α] : ∀ (l D : List α), l.Nodup → (∀ x ∈ l, x ∈ D) → l.length ≤ D.length
  | [], _, _, _ => Nat.zero_le _
  | x :: l, D, hn, hs => by
    obtain ⟨h1, h2⟩ := List.nodup_cons.mp hn
    have hx : x ∈ D := hs x List.mem_cons_self
    have ih := nodup_few l (D.erase x) h2 fun y hy => (List.mem_erase_of_ne (fun e : y = x => h1 (by rw [← e]; exact hy))).2 (hs y (List.mem_cons_of_mem _ hy))
    have e := List.length_erase_of_mem hx
    have hp : 0 < D.length := List.length_pos_of_mem hx
    rw [List.length_cons]
    omega
theorem full_nodup {α : Type} [DecidableEq α] : ∀ (D l : List α), l.Nodup → (∀ x ∈ l, x ∈ D) → D.length ≤ l.length → D.Nodup
  | [], _, _, _, _ => List.nodup_nil
  | x :: D, l, hn, hs, hl => by
    rw [List.length_cons] at hl
    have hx : x ∉ D := fun hx => by
      have := nodup_few l D hn fun y hy => by
        rcases List.mem_cons.mp (hs y hy) with e | m
        · rw [e]; exact hx
        · exact m
      omega
    refine List.nodup_cons.mpr ⟨hx, full_nodup D (l.erase x) (hn.erase x) (fun y hy => ?_) ?_⟩
    · obtain ⟨ne, m⟩ := (List.Nodup.mem_erase_iff hn).mp hy
      rcases List.mem_cons.mp (hs y m) with e | k
      · exact absurd e ne
      · exact k
    · by_cases h : x ∈ l
      · rw [List.length_erase_of_mem h]; omega
      · rw [List.erase_of_not_mem h]; omega
/-- a row without doubles, with the members of another one: as long as that one just if it has no doubles either -/
theorem len_iff {α : Type} [DecidableEq α] {l D : List α} (hn : l.Nodup) (h1 : ∀ x ∈ l, x ∈ D) (h2 : ∀ x ∈ D, x ∈ l) : l.length = D.length ↔ D.Nodup := by
  refine ⟨fun e => full_nodup D l hn h1 (by omega), fun d => ?_⟩
  have a := nodup_few l D hn h1
  have b := nodup_few D l d h2
  omega
section
variable {P : Program} {w : World} {A : Around} {E : Value → Shared → Prop} {s : Shared}
def LaidT (P : Program) (w : World) (S : Addr) (ks : List (Addr × List Int)) (s₀ : Shared) (r : Value) (s' : Shared) : Prop := r = .none ∧ ∃ (g : Heap) (tk : Nat) (L : List (Addr × List Int)) (es : Array (Int × Value)) (ep : Nat) (t : SetTable), s' = { s₀ with heap := g, toks := tk } ∧
  SetTR P w g S L es ep t ∧ Got ks ks.length L ∧ ∀ b o, s₀.heap.get? b = some o → g.get? b = some o
set_option maxHeartbeats 3200000 in
theorem call_set_tupT {l : Addr} {xs : Array Value} (ks : List (Addr × List Int)) {Q : Value → Shared → Prop} (hA : A.handled = none) (hl : s.heap.IsTuple l xs) (hi : xs.toList = ks.map fun p => Value.ref p.1)
    (hk : ∀ p ∈ ks, IsT P w s.heap p.2 p.1) (few : ks.length < 64) (un : A.units + 3 < cLine)
    (h : ∀ (g : Heap) (tk : Nat) (L : List (Addr × List Int)) (es : Array (Int × Value)) (ep : Nat) (t : SetTable), SetTR P w g s.heap.objs.size L es ep t → Got ks ks.length L → (∀ b o, s.heap.get? b = some o → g.get? b = some o) → Q (.ref s.heap.objs.size) { s with heap := g, toks := tk }) :
    wpAny (model P w) A (call (.type "set") [.ref l]) Q E s := by
  have hz : xs.size = ks.length := by simpa using congrArg List.length hi
  obtain ⟨_, _, m1⟩ := F.called_set.mro
  have m2 := F.called_set.made
  have m3 := F.called_set.sub
  have m4 := F.called_set.notType
  have m5 := F.called_set.canCreate
  have m6 := F.typeCall_set_1 (.ref l)
  refine wpAny_call <| codeAny_of_tree ?_
  show wpAny _ _ (callAny (.type "set") _) _ _ _
  refine wpAny_pure ⟨Code.quiet_builtin _ (by decide +kernel), codeAny_builtin F.entry_type_call ?_⟩
  rw [Around.under_plain (weight_type_call_type "set" [.ref l] []) rfl]
  repeat any_goals first | assumption | wp_step
  refine codeAny_mono (code_set_led1 (.ref l) (E := E)
    (Q₁ := fun r t => r = .ref s.heap.objs.size ∧ t = { s with heap := s.heap.push (bare w) }) ⟨rfl, rfl⟩) fun r t ht => ?_
  cases r with
  | error _ => exact ht
  | ok fl =>
    cases fl with
    | ret _ =>
      obtain ⟨rfl, rfl⟩ := ht
      have at0 : (s.heap.push (bare w)).get? s.heap.objs.size = some (bare w) := Heap.get?_push_size _ rfl
      have ty0 : Shared.TypeIs { s with heap := s.heap.push (bare w) } (.ref s.heap.objs.size) "set" := ⟨_, at0, rfl⟩
      have i1 := F.called_set.init.lookup
      have i2 := F.called_set.init.bind (.ref s.heap.objs.size)
      repeat any_goals first | assumption | wp_step
      refine codeAny_mono (codeAny_call_builtin (R := wants (LaidT P w s.heap.objs.size ks s) E) F.called_set.init.plain F.entry_set_init (check_set_init_1 ty0 ?_)) fun r2 t2 ht2 => ?_
      · have l1 : (s.heap.push (bare w)).IsTuple l xs := hl.push _
        obtain ⟨⟨k1, k2, k3, k4⟩, ho, kc, n, kd⟩ := hl
        obtain rfl : k1 = .type "tuple" := kc
        obtain rfl : k3 = .seq xs n := kd
        have ho1 : (s.heap.push (bare w)).get? l = some { cls := .type "tuple", dict := k2, data := .seq xs n, slots := k4 } := Heap.get?_push_of_some _ ho
        have q1 := F.sub_tuple_set
        have q2 := F.sub_tuple_frozenset
        have q3 : (Value.type "tuple" == Value.type "dict") = false := by decide
        unfold Builtin.«set.__init__» noKeywords Builtin.Frozenset.updateFrom
        generalize hIt : pyIter = IT
        wp_walk
        subst hIt
        refine wpAny_pyIter_tuple l1 (wpAny_bind (wpAny_runValue ?_))
        have l0 : l < s.heap.objs.size := Heap.lt_size ho
        have hA3 : A.in1.in1.in1.handled = none := by simp [hA]
        have z1 : (s.heap.push (bare w)).objs.size = s.heap.objs.size + 1 := Heap.size_push ..
        have neI : l ≠ (s.heap.push (bare w)).objs.size := Nat.ne_of_lt (z1 ▸ Nat.lt_succ_of_lt l0)
        have off : s.heap.objs.size ∉ [(s.heap.push (bare w)).objs.size, l] := by
          intro m
          rcases List.mem_cons.mp m with e | m
          · exact Nat.ne_of_lt (z1 ▸ Nat.lt_succ_self _) e
          · exact Nat.ne_of_gt l0 (List.mem_singleton.mp m)
        have val : ∀ (i : Nat) (v : Value), xs[i]? = some v → ∃ p, ks[i]? = some p ∧ v = .ref p.1 := fun i v hv => by
          have q : xs.toList[i]? = some v := by simpa using hv
          rw [hi, List.getElem?_map] at q
          cases e : ks[i]? with
          | none => rw [e] at q; cases q
          | some p => rw [e] at q; exact ⟨p, rfl, (Option.some.inj q).symm⟩
        have free : ∀ b, s.heap.objs.size ≤ b → s.heap.get? b = none := fun b hb => by
          cases q : s.heap.get? b with
          | none => rfl
          | some o => exact absurd (Heap.lt_size q) (Nat.not_lt.mpr hb)
        refine set_update_tups (Walks.tuple hA3 _ l neI xs).toS s.heap.objs.size off ks hz few val s.heap hk (free _ (Nat.le_refl _)) (fun b hb => free b (by rw [List.mem_singleton.mp hb, z1]; exact Nat.le_succ _)) un (xs.size - 0) 0 _ (by omega) (Nat.zero_le _)
          ⟨⟨_, Heap.get?_push_size _ rfl, rfl, rfl⟩, l1.push _⟩ (fun b o e => Heap.get?_push_of_some _ (Heap.get?_push_of_some _ e)) ⟨[], #[], 0, _, setTR_fresh (Heap.get?_push_of_some _ at0), Got.zero ks⟩ ?finish
        case finish =>
          rintro ⟨g, gs, dr, tk, os⟩ L es ep t mv hS gt kp
          obtain rfl : gs = s.gens := mv.gens
          obtain rfl : dr = s.drawn := mv.drawn
          obtain rfl : os = s.os := mv.os
          show wpAny _ _ _ _ _ _
          refine wpAny_pure ?_
          show wpAny _ _ (ret Value.none) _ _ _
          exact wpAny_pure ⟨rfl, g, tk, L, es, ep, t, rfl, hS, hz ▸ gt, kp⟩
      · cases r2 with
        | error _ => exact ht2
        | ok fl2 =>
          cases fl2 with
          | ret _ =>
            obtain ⟨rfl, g, tk, L, es, ep, t, rfl, hS, gt, hk⟩ := ht2
            repeat any_goals first | assumption | wp_step
            exact h g tk L es ep t hS gt hk
          | _ => exact ht2.elim
    | _ => exact ht.elim
/-- sorted of a set of pairs of ints -/
theorem sorted_setP {a : Addr} {L : List (Addr × List Int)} {es : Array (Int × Value)} {ep : Nat} {t : SetTable} {Q : Value → Shared → Prop} (R : SetTR P w s.heap a L es ep t) (hh : A.handled = none)
    (h2 : ∀ p ∈ L, ∃ x y, p.2 = [x, y])
    (hQ : ∀ s' p (out : Array Value) (c : Nat) (L' : List (Addr × List Int)), (∀ b o, s.heap.get? b = some o → s'.heap.get? b = some o) → s'.gens = s.gens → s'.os = s.os → s.heap.objs.size ≤ p →
      s'.heap.get? p = some (seqObj "list" out c) → out.toList = L'.map (fun q => Value.ref q.1) → L'.Perm L → Q (.ref p) s') :
    wpAny (model P w) A (call (.builtin "sorted") [.ref a]) Q E s := by
  obtain ⟨o, ho, hex, hd⟩ := R.ob
  have sz := R.size
  have few := R.few
  refine Calls.call_function_entry PyProof.Rows.kind_sorted
    PyProof.Rows.plain_sorted PyProof.Rows.entry_sorted
    (PyProof.Rows.args_sorted1 _) ?_
  unfold Builtin.«sorted»
  refine wpAny_bind (m := checkCount "sorted" 1 1 _)
    (wpAny_pure ?_)
  refine wpAny_bind (collect_set (A := A.in1) hh ⟨o, ho, hex.1, hd⟩ R.fits
    (by unfold scanBound; omega) R.tab.ris R.led fun s1 vs k1 hz g1 o1 pm => ?_)
  have rs : es.toList.map (·.2) = L.map fun q => Value.ref q.1 := by
    rw [R.rows]
    unfold rowsOf
    rw [List.map_map] <;> rfl
  rw [rs] at pm
  have one : ∀ q ∈ L, ∀ r ∈ L, q.1 = r.1 → q = r := fun q hq r hr e => by
    have a1 := R.tup q hq
    rw [e] at a1
    exact Prod.ext e (a1.inj (R.tup r hr))
  have nL : L.Nodup := nodup_of_map R.nd
  have nref : (L.map fun q => Value.ref q.1).Nodup := List.pairwise_map.mpr (List.Pairwise.imp_of_mem (fun {q r} hq hr hne e => by
    injection e with e
    exact hne (one q hq r hr e)) nL)
  -- the values are the addresses of the rows, in some order
  have back : ∀ vs : List Value, vs.Perm (L.map fun q => Value.ref q.1) → ∃ L1 : List (Addr × List Int), vs = L1.map (fun q => Value.ref q.1) ∧ L1.Perm L := fun vs pv => by
    have ex : ∀ vs : List Value, (∀ v ∈ vs, v ∈ L.map fun q => Value.ref q.1) → ∃ L1 : List (Addr × List Int), vs = L1.map (fun q => Value.ref q.1) ∧ ∀ q ∈ L1, q ∈ L := fun vs => by
      induction vs with
      | nil => exact fun _ => ⟨[], rfl, fun q hq => nomatch hq⟩
      | cons v vs ih =>
        intro hv
        obtain ⟨q, hq, e⟩ := List.mem_map.mp (hv v List.mem_cons_self)
        obtain ⟨L1, e1, m1⟩ := ih fun u hu => hv u (List.mem_cons_of_mem _ hu)
        exact ⟨q :: L1, by rw [List.map_cons, e, e1], fun r hr => (List.mem_cons.mp hr).elim (fun z => z ▸ hq) (m1 r)⟩
    obtain ⟨L1, e1, m1⟩ := ex vs fun v hv => pv.mem_iff.mp hv
    refine ⟨L1, e1, (List.perm_ext_iff_of_nodup (nodup_of_map (f := fun q : Addr × List Int => Value.ref q.1) (by rw [← e1]; exact pv.nodup_iff.mpr nref)) nL).mpr fun q => ⟨m1 q, fun hq => ?_⟩⟩
    have hm : Value.ref q.1 ∈ vs := pv.mem_iff.mpr (List.mem_map.mpr ⟨q, hq, rfl⟩)
    rw [e1] at hm
    obtain ⟨r, hr, e⟩ := List.mem_map.mp hm
    injection e with e
    rw [← one r (m1 r hr) q hq e]
    exact hr
  have vl : vs.length < 64 := by rw [pm.length_eq, List.length_map]; exact few
  refine wpAny_bind (wpAny_newList ?_ (by rw [sizeLine_eq]; omega))
  have hoL : (s1.heap.push (seqObj "list" vs.toArray 0)).get? s1.heap.objs.size = some (seqObj "list" vs.toArray 0) := Heap.get?_push_size _ rfl
  let kk : Value → Int × Int := fun v => match v with
    | .ref b => match L.find? (fun q => q.1 == b) with
      | some q => (q.2.getD 0 0, q.2.getD 1 0)
      | none => (0, 0)
    | _ => (0, 0)
  have kkq : ∀ q ∈ L, kk (.ref q.1) = (q.2.getD 0 0, q.2.getD 1 0) := fun q hq => by
    have e : L.find? (fun r => r.1 == q.1) = some q := by
      cases z : L.find? (fun r => r.1 == q.1) with
      | none =>
        have := List.find?_eq_none.mp z q hq
        simp at this
      | some r =>
        have h1 := List.find?_some z
        have h2 := List.mem_of_find?_eq_some z
        rw [one r h2 q hq (by simpa using h1)]
    show (match L.find? (fun r => r.1 == q.1) with
      | some q => (q.2.getD 0 0, q.2.getD 1 0)
      | none => ((0 : Int), (0 : Int))) = _
    rw [e]
  have prs : ∀ v ∈ vs, Srt.IsPair (s1.heap.push (seqObj "list" vs.toArray 0)) v (kk v).1 (kk v).2 := fun v hv => by
    obtain ⟨q, hq, e⟩ := List.mem_map.mp (pm.mem_iff.mp hv)
    obtain ⟨x, y, exy⟩ := h2 q hq
    subst e
    obtain ⟨b, its, ev, ⟨ob, hob, hcb, n, hdb⟩, hi⟩ := tupInts_of (P := P) (w := w) (isT_keep (R.tup q hq) fun b u e => Heap.get?_push_of_some _ (k1 b u e))
    injection ev with ev
    subst ev
    rw [exy] at hi
    have e2 : ∃ t u, its = #[Value.int x t, Value.int y u] := by
      obtain ⟨it⟩ := its
      have hi : IntsAre it [x, y] := hi
      cases hi with
      | cons _ t r =>
        cases r with
        | cons _ u r =>
          cases r
          exact ⟨t, u, rfl⟩
    obtain ⟨t, u, rfl⟩ := e2
    rw [kkq q hq, exy]
    exact ⟨q.1, ob, t, u, n, rfl, hob, hcb, hdb⟩
  refine wpAny_bind (wpAny_holding (wpAny_call_entry PyProof.Rows.slot_list_sort ⟨_, hoL, rfl⟩ PyProof.Rows.entry_list_sort
    (SrtO.list_sort_ord (s := { s1 with heap := s1.heap.push (seqObj "list" vs.toArray 0) }) (SrtO.swo_lex kk) hoL (by rw [sizeLine_eq]; omega) (fun h3 => SrtO.pairs_sortableO (by omega) prs fun o' e => ?_) fun out a1 a2 => ⟨_, rfl, ?_⟩) (PyProof.Rows.args_list_sort _)))
  · have e' : some o' = some (seqObj "list" vs.toArray 0) := e.symm.trans hoL
    cases e'
    intro c
    exact absurd (Value.type.inj c) (by decide)
  · obtain ⟨c, hc⟩ := PyProof.Rows.sortedHeap_at (vs := vs) (out := out.toArray) hoL
    obtain ⟨L', e', pL⟩ := back out (a2.perm.trans pm)
    refine wpAny_pure ⟨_, rfl, hQ _ s1.heap.objs.size out.toArray c L' (fun b u e => ?_) g1 o1 hz hc (by rw [← e']) pL⟩
    have q := k1 b u e
    have lt := Heap.lt_size q
    show (sortedHeap (s1.heap.push (seqObj "list" vs.toArray 0)) s1.heap.objs.size vs out.toArray).get? b = some u
    rw [PyProof.Rows.sortedHeap_old (Nat.ne_of_lt lt) (by rw [size_push']; exact Nat.lt_succ_of_lt lt)]
    exact Heap.get?_push_of_some _ q
end
/-- set(t), t a tuple of tuples of ints -/
def rSetTT (K : PySem.W.Frag) (P : Program) (w : World) : List V → Hp → VK → Prop := fun xs H Q => ∃ (l : Addr) (ks : List (Addr × List Int)), xs = [V.ref l] ∧ (SqT K H l (ks.map fun p => V.ref p.1) ∨ SqL K H l (ks.map fun p => V.ref p.1)) ∧ (∀ p ∈ ks, SqT K H p.1 (p.2.map V.int)) ∧ ks.length < 64 ∧
  ∀ a (L : List (Addr × List Int)), H a = none → (∀ p ∈ L, p ∈ ks) → (∀ p ∈ ks, p.2 ∈ L.map (·.2)) → (L.map (·.2)).Nodup → Q (.ref a) (upd H a (SetTO P w a L))
section
variable {X : Cx}
theorem c_setTT (hc : X.calm = true) (hu : X.A.units + 64 < cLine) : CallR X (.type "set") (rSetTT X.K X.prog X.w) := by
  intro pins s σ H xs us Q I r h
  obtain ⟨l, ks, rfl, hl, hk, hf, q⟩ := h
  rw [Vals.ref1 r]
  have fin : ∀ (g : Heap) (tk : Nat) (L : List (Addr × List Int)) (es : Array (Int × Value)) (ep : Nat) (t : SetTable), SetTR X.prog X.w g s.heap.objs.size L es ep t → Got ks ks.length L → (∀ b o, s.heap.get? b = some o → g.get? b = some o) →
      EP X pins σ Q (.ref s.heap.objs.size) { s with heap := g, toks := tk } := fun g tk L es ep t R gt k =>
    ⟨.ref _, _, I.laid (t' := tk) k (Nat.le_refl _) (setTO_new R.t0), rfl, q _ L (I.hok.fresh (Nat.le_refl _)) (fun p hp => List.mem_of_mem_take (gt.sub p hp)) (fun p hp => gt.all p (by rw [List.take_length]; exact hp)) R.nd⟩
  rcases hl with hl | hl
  · obtain ⟨its, rv, pl, hz⟩ := I.tuple hl
    exact call_set_tupT (P := X.prog) (w := X.w) ks (I.ok.hd hc) pl (by simpa using refs_of_vals rv) (fun p hp => I.isT (hk p hp)) hf (by omega) fin
  · obtain ⟨its, rv, pl, hz⟩ := I.list hl
    exact call_set_tups (P := X.prog) (w := X.w) ks (I.ok.hd hc) pl.isList (by simpa using refs_of_vals rv) (fun p hp => I.isT (hk p hp)) hf (by omega) fin
/-- set of what stands either way, ints or tuples of ints -/
def rSetW (K : PySem.W.Frag) (P : Program) (w : World) : List V → Hp → VK → Prop := fun vs H Q => rSetA K w vs H Q ∨ rSetTT K P w vs H Q
theorem c_setW (hc : X.calm = true) (hu : X.A.units + 64 < cLine) : CallR X (.type "set") (rSetW X.K X.prog X.w) := by
  intro pins s σ H vs us Q I r h
  rcases h with h | h
  · exact c_setA hc _ _ _ _ _ _ _ I r h
  · exact c_setTT hc hu _ _ _ _ _ _ _ I r h
/-- len of such a set: its members counted once -/
def rLenW (K : PySem.W.Frag) (P : Program) (w : World) : List V → Hp → VK → Prop := fun vs H Q => (∃ (a : Addr) (ns : List Int) (c : Nat), vs = [.ref a] ∧ H a = some (SetO w a (fun j => decide (j ∈ ns)) c) ∧ ((c = ns.length ↔ ns.Nodup) → Q (.int (c : Nat)) H)) ∨
  ∃ (a : Addr) (L : List (Addr × List Int)), vs = [.ref a] ∧ H a = some (SetTO P w a L) ∧ (∀ p ∈ L, SqT K H p.1 (p.2.map V.int)) ∧ Q (.int (L.length : Nat)) H
theorem c_lenW : CallR X (.builtin "len") (rLenW X.K X.prog X.w) := by
  intro pins s σ H vs us Q I r h
  rcases h with ⟨a, ns, c, rfl, ha, q⟩ | ⟨a, L, rfl, ha, hk, q⟩
  · rw [Vals.ref1 r]
    obtain ⟨o, es, ep, t, ho, hex, hd, g, nd, hm, hb, hf, hn, hr, hl⟩ := setO_get I ha
    have e : (c = ns.length ↔ ns.Nodup) := by
      have z := len_iff (l := es.toList.map keyOf) (D := ns) nd (fun k hk => of_decide_eq_true ((hm k).mpr hk)) fun k hk => (hm k).mp (decide_eq_true hk)
      rw [List.length_map, Array.length_toList, hn] at z
      exact z
    refine call_len_set ho hex hd hf (by unfold scanBound at hb; omega) ⟨.int (c : Nat), H, I.tok _, ⟨_, by rw [hn]⟩, q e⟩
  · rw [Vals.ref1 r]
    obtain ⟨es, ep, t, R⟩ := (show SetT0 X.prog X.w s.heap a L from (I.hok a _ ha).1).full fun p hp => I.isT (hk p hp)
    obtain ⟨o, ho, hex, hd⟩ := R.ob
    have few := R.few
    refine call_len_set ho hex hd R.fits (by rw [R.size]; omega) ⟨.int (L.length : Nat), H, I.tok _, ⟨_, by rw [R.size]⟩, q⟩
/-- sorted of a set of pairs -/
def rSortedP (K : PySem.W.Frag) (P : Program) (w : World) : List V → Hp → VK → Prop := fun vs H Q => ∃ (a : Addr) (L : List (Addr × List Int)), vs = [V.ref a] ∧ H a = some (SetTO P w a L) ∧ (∀ p ∈ L, SqT K H p.1 (p.2.map V.int)) ∧ (∀ p ∈ L, ∃ x y, p.2 = [x, y]) ∧
  ∀ (L' : List (Addr × List Int)) (p : Addr), L'.Perm L → H p = none → Q (.ref p) (upd H p (.lst (L'.map fun q => V.ref q.1)))
theorem c_sortedP (hc : X.calm = true) : CallR X (.builtin "sorted") (rSortedP X.K X.prog X.w) := by
  intro pins s σ H vs us Q I r h
  obtain ⟨a, L, rfl, ha, hk, h2, q⟩ := h
  have R0 : SetT0 X.prog X.w s.heap a L := (I.hok a _ ha).1
  obtain ⟨es, ep, t, R⟩ := R0.full fun p hp => I.isT (hk p hp)
  rw [Vals.ref1 r]
  refine sorted_setP R (I.ok.hd hc) h2 fun s' p out c L' k g o hp hg hout pm => ?_
  have few : L'.length < 64 := by rw [pm.length_eq]; exact R.few
  have len : (L'.map fun q => V.ref q.1).length ≤ sizeLine := by rw [List.length_map, sizeLine_eq]; omega
  have hn : H p = none := I.hok.fresh hp
  have J : Inv X pins σ (upd H p (.lst (L'.map fun q => V.ref q.1))) { s with heap := s'.heap, gens := s'.gens, drawn := s'.drawn, toks := s'.toks } :=
    I.call (ch := []) (Un.laid k hp hn) (I.hok.laid k hp ⟨len, out.toList, c, by rw [hout]; exact vals_of_refs L', hg⟩) (by rw [g]; exact I.bare) (fun _ z => nomatch z)
  have es' : s' = { s with heap := s'.heap, gens := s'.gens, drawn := s'.drawn, toks := s'.toks } := by
    cases s'; cases s; cases o; rfl
  rw [es']
  exact ⟨.ref p, _, J, rfl, q L' p pm hn⟩
end
end Pu
namespace Pu
open PySem PySem.Spec PyProof.Rows L2
/-! len(set(x)), sorted(set(x)) of pairs, t.index(x) of a tuple of texts, tuple(range(a, b)) -/
def tupD (k : List Int) : PyData := .tuple (k.map PyData.int)
def pairI (k : Int × Int) : PyData := .tuple [.int k.1, .int k.2]
def pLenW (pa : PA') : PE' := fun ρ R => pa ρ fun ds ρ1 => ∃ es, (ds = [.list es] ∨ ds = [.tuple es]) ∧ es.length < 60 ∧
  ((∃ ns : List Int, es = ns.map PyData.int ∧ ∀ n : Nat, (n = ns.length ↔ ns.Nodup) → R (.int (n : Nat)) ρ1) ∨ ∃ ks : List (List Int), es = ks.map tupD ∧ ∀ n : Nat, (n = ks.length ↔ ks.Nodup) → R (.int (n : Nat)) ρ1)
def pSortSetP (pa : PA') : PA' := fun ρ R => pa ρ fun ds ρ1 => ∃ ks : List (Int × Int), ds = [.list (ks.map pairI)] ∧ ks.length < 60 ∧
  ∀ ms : List (Int × Int), ms.Nodup → (∀ k, k ∈ ms ↔ k ∈ ks) → ms.length ≤ ks.length → R (ms.map pairI) ρ1
def pIndexT (pa pb : PE') : PE' := fun ρ R => pa ρ fun x ρ1 => asT x fun ds => pb ρ1 fun y ρ2 => ∃ (ys : List Str) (z : Str) (j : Nat), ds = ys.map PyData.str ∧ y = .str z ∧ ys[j]? = some z ∧ (∀ m, m < j → ys[m]? ≠ some z) ∧ R (.int (j : Nat)) ρ2
def pTupRg (pa pb : PE') : PE' := fun ρ R => pa ρ fun x ρ1 => pb ρ1 fun y ρ2 => asI x fun a => asI y fun b => RgOk a b ∧ R (.tuple (rgD a b)) ρ2
theorem len_le_of {L : List (Addr × List Int)} {ks : List (Addr × List Int)} (nd : (L.map (·.2)).Nodup) (h1 : ∀ p ∈ L, p ∈ ks) (h2 : ∀ p ∈ ks, p.2 ∈ L.map (·.2)) : L.length = ks.length ↔ (ks.map (·.2)).Nodup := by
  have z := len_iff (l := L.map (·.2)) (D := ks.map (·.2)) nd (fun k hk => by
    obtain ⟨p, hp, e⟩ := List.mem_map.mp hk
    exact List.mem_map.mpr ⟨p, h1 p hp, e⟩) fun k hk => by
    obtain ⟨p, hp, e⟩ := List.mem_map.mp hk
    rw [← e]
    exact h2 p hp
  rw [List.length_map, List.length_map] at z
  exact z
section
variable {K : PySem.W.Frag}
theorem tup_ints {Z : Addr → Prop} {H : Hp} {v : V} {k : List Int} (h : Dq K (veil Z H) v (tupD k)) : ∃ a, v = .ref a ∧ SqT K (veil Z H) a (k.map V.int) := by
  cases h with
  | tup h r =>
    have e := dqs_of_ints r
    subst e
    exact ⟨_, rfl, h⟩
theorem tups_of {Z : Addr → Prop} {H : Hp} : ∀ {ks : List (List Int)} {vs : List V}, Dqs K (veil Z H) vs (ks.map tupD) → ∃ kas : List (Addr × List Int), vs = kas.map (fun p => V.ref p.1) ∧ kas.map (·.2) = ks ∧ ∀ p ∈ kas, SqT K (veil Z H) p.1 (p.2.map V.int)
  | [], _, .nil => ⟨[], rfl, rfl, fun _ z => nomatch z⟩
  | k :: ks, _, .cons h r => by
    obtain ⟨a, rfl, ha⟩ := tup_ints h
    obtain ⟨kas, rfl, e, hk⟩ := tups_of r
    exact ⟨(a, k) :: kas, rfl, by rw [List.map_cons, e], fun p hp => (List.mem_cons.mp hp).elim (fun z => by rw [z]; exact ha) (hk p)⟩
theorem sim_lenW {P : Program} {w : World} {ta : TA} {pa : PA'} (sa : SimA K ta pa) : Sim K (tCB (rLenW K P w) (tCons (tCB (rSetW K P w) ta) tNil)) (pLenW pa) := fun B Z A H0 M σ H ρ R E h Q q =>
  sa B Z A H0 M σ H ρ _ E h _ fun vs ds ρ1 H1 ⟨es, e, hl, h2⟩ E1 d1 => by
    have g : Grow (veil (hid Z M) H1) H1 := veil_grow _ _
    rcases h2 with ⟨ns, rfl, h2⟩ | ⟨ks, rfl, h2⟩
    · rw [List.length_map] at hl
      rcases e with rfl | rfl
      · obtain ⟨v, rfl, dv⟩ := one_of d1
        cases dv with
        | lst hl0 r =>
          have e := dqs_of_ints r
          subst e
          exact .inl (.inl ⟨_, ns, rfl, .of (g _ _ hl0), hl, fun a c hc ha => .inl ⟨a, ns, c, rfl, upd_same, fun i => q _ _ ρ1 _ (h2 c i) (E1.grown (grow_new ha)) (.int _)⟩⟩)
      · obtain ⟨v, rfl, dv⟩ := one_of d1
        cases dv with
        | tup hl0 r =>
          have e := dqs_of_ints r
          subst e
          exact .inl (.inr ⟨_, ns, rfl, grow_t g hl0, by unfold scanBound; omega, fun a c hc ha => .inl ⟨a, ns, c, rfl, upd_same, fun i => q _ _ ρ1 _ (h2 c i) (E1.grown (grow_new ha)) (.int _)⟩⟩)
    · rw [List.length_map] at hl
      have go : ∀ (v : V) (l : Addr) (us : List V), Dqs K (veil (hid Z M) H1) us (ks.map tupD) → (SqT K H1 l us ∨ SqL K H1 l us) → v = .ref l → tCB (rLenW K P w) (tCons (fun σ H Q => rSetW K P w [v] H Q) tNil) σ H1 Q := fun v l us r hl0 ev => by
        subst ev
        obtain ⟨kas, rfl, ek, hk⟩ := tups_of r
        have e1 : kas.length = ks.length := by rw [← ek, List.length_map]
        refine .inr ⟨l, kas, rfl, hl0, fun p hp => grow_t g (hk p hp), by omega, fun a L ha i1 i2 nd => .inr ⟨a, L, rfl, upd_same, fun p hp => grow_t (grow_new ha) (grow_t g (hk p (i1 p hp))), ?_⟩⟩
        refine q _ _ ρ1 _ (h2 L.length ?_) (E1.grown (grow_new ha)) (.int _)
        rw [← ek, List.length_map]
        exact len_le_of nd i1 i2
      rcases e with rfl | rfl
      · obtain ⟨v, rfl, dv⟩ := one_of d1
        cases dv with
        | lst hl0 r => exact go _ _ _ r (.inr (.of (g _ _ hl0))) rfl
      · obtain ⟨v, rfl, dv⟩ := one_of d1
        cases dv with
        | tup hl0 r => exact go _ _ _ r (.inl (grow_t g hl0)) rfl
theorem pairI_tup (k : Int × Int) : pairI k = tupD [k.1, k.2] := rfl
theorem sim_sortSetP {P : Program} {w : World} {ta : TA} {pa : PA'} (sa : SimA K ta pa) : SimL K (tCB (rSortedP K P w) (tCons (tCB (rSetW K P w) ta) tNil)) (pSortSetP pa) := fun B Z A H0 M σ H ρ R E h Q q =>
  sa B Z A H0 M σ H ρ _ E h _ fun vs ds ρ1 H1 ⟨ks, e, hl, h2⟩ E1 d1 => by
    subst e
    have g : Grow (veil (hid Z M) H1) H1 := veil_grow _ _
    obtain ⟨v, rfl, dv⟩ := one_of d1
    cases dv with
    | lst hl0 r =>
      have em : ks.map pairI = (ks.map fun k => [k.1, k.2]).map tupD := by rw [List.map_map]; rfl
      rw [em] at r
      obtain ⟨kas, rfl, ek, hk⟩ := tups_of r
      have e1 : kas.length = ks.length := by
        have := congrArg List.length ek
        simpa using this
      have two2 : ∀ p ∈ kas, ∃ k ∈ ks, p.2 = [k.1, k.2] := fun p hp => by
        have : p.2 ∈ kas.map (·.2) := List.mem_map.mpr ⟨p, hp, rfl⟩
        rw [ek] at this
        obtain ⟨k, hk, e⟩ := List.mem_map.mp this
        exact ⟨k, hk, e.symm⟩
      refine .inr ⟨_, kas, rfl, .inr (.of (g _ _ hl0)), fun p hp => grow_t g (hk p hp), by omega, fun a L ha i1 i2 nd => ⟨a, L, rfl, upd_same, fun p hp => grow_t (grow_new ha) (grow_t g (hk p (i1 p hp))), fun p hp => ?_, fun L' b pm hb => ?_⟩⟩
      · obtain ⟨k, _, e⟩ := two2 p (i1 p hp)
        exact ⟨k.1, k.2, e⟩
      · have back : ∀ L' : List (Addr × List Int), (∀ p ∈ L', p ∈ kas) → (L'.map (·.2)).Nodup → ∃ ms : List (Int × Int), L'.map (·.2) = ms.map (fun k => [k.1, k.2]) ∧ ms.length = L'.length ∧ ms.Nodup ∧ (∀ k ∈ ms, k ∈ ks) := fun L' hs nd' => by
          have ex : ∀ L' : List (Addr × List Int), (∀ p ∈ L', p ∈ kas) → ∃ ms : List (Int × Int), L'.map (·.2) = ms.map (fun k => [k.1, k.2]) ∧ ms.length = L'.length ∧ (∀ k ∈ ms, k ∈ ks) := fun L' => by
            induction L' with
            | nil => exact fun _ => ⟨[], rfl, rfl, fun _ z => nomatch z⟩
            | cons p L' ih =>
              intro hs
              obtain ⟨k, hk, e⟩ := two2 p (hs p List.mem_cons_self)
              obtain ⟨ms, e1, e2, e3⟩ := ih fun p hp => hs p (List.mem_cons_of_mem _ hp)
              exact ⟨k :: ms, by rw [List.map_cons, List.map_cons, e, e1], by rw [List.length_cons, List.length_cons, e2], fun z hz => (List.mem_cons.mp hz).elim (fun y => by rw [y]; exact hk) (e3 z)⟩
          obtain ⟨ms, e1, e2, e3⟩ := ex L' hs
          rw [e1] at nd'
          exact ⟨ms, e1, e2, nodup_of_map nd', e3⟩
        obtain ⟨ms, m1, m2, m3, m4⟩ := back L' (fun p hp => i1 p (pm.mem_iff.mp hp)) ((pm.map (·.2)).nodup_iff.mpr nd)
        have key : ∀ k, k ∈ ms ↔ k ∈ ks := fun k => ⟨m4 k, fun hk0 => by
          have z : [k.1, k.2] ∈ kas.map (·.2) := by rw [ek]; exact List.mem_map.mpr ⟨k, hk0, rfl⟩
          obtain ⟨p, hp, e⟩ := List.mem_map.mp z
          have z2 := i2 p hp
          rw [e] at z2
          have z3 : [k.1, k.2] ∈ L'.map (·.2) := (pm.map (·.2)).mem_iff.mpr z2
          rw [m1] at z3
          obtain ⟨k', hk', e'⟩ := List.mem_map.mp z3
          have : k' = k := by
            injection e' with e1 e2
            injection e2 with e2
            exact Prod.ext e1 e2
          rw [← this]
          exact hk'⟩
        have E2 := E1.grown (grow_new (o := SetTO P w a L) ha)
        refine q b (L'.map fun q => V.ref q.1) _ ρ1 _ (h2 ms m3 key ?_) E2 hb ?_
        · rw [m2, pm.length_eq, ← e1]
          have := nodup_few (L.map (·.2)) (kas.map (·.2)) nd fun x hx => by
            obtain ⟨p, hp, e⟩ := List.mem_map.mp hx
            exact List.mem_map.mpr ⟨p, i1 p hp, e⟩
          simpa using this
        · have gv : Grow (veil (hid Z M) H1) (veil (hid Z M) (upd H1 a (SetTO P w a L))) := grow_veil (grow_new ha)
          have mk : ∀ (l : List (Addr × List Int)) (ms : List (Int × Int)), l.map (·.2) = ms.map (fun k => [k.1, k.2]) → (∀ p ∈ l, p ∈ kas) → Dqs K (veil (hid Z M) (upd H1 a (SetTO P w a L))) (l.map fun q => V.ref q.1) (ms.map pairI) := fun l => by
            induction l with
            | nil =>
              intro ms e _
              cases ms with
              | nil => exact .nil
              | cons _ _ => cases e
            | cons p l ih =>
              intro ms e hs
              cases ms with
              | nil => cases e
              | cons k ms =>
                injection e with e0 e'
                have sq := hk p (hs p List.mem_cons_self)
                have e0 : p.2 = [k.1, k.2] := e0
                rw [e0] at sq
                exact .cons (.tup (grow_t gv sq) (.cons (.int _) (.cons (.int _) .nil))) (ih ms e' fun p hp => hs p (List.mem_cons_of_mem _ hp))
          exact mk L' ms m1 fun p hp => i1 p (pm.mem_iff.mp hp)
theorem dqs_strs {H : Hp} : ∀ {vs : List V} {ys : List Str}, Dqs K H vs (ys.map PyData.str) → vs = ys.map V.str
  | _, [], .nil => rfl
  | _, n :: ys, .cons (.str _) r => congrArg (V.str n :: ·) (dqs_strs r)
def rIndexT (K : PySem.W.Frag) : V → List V → Hp → VK → Prop := fun x xs H Q => ∃ p, ∃ ys : List Str, ∃ z j, x = .ref p ∧ xs = [.str z] ∧ SqT K H p (ys.map V.str) ∧ ys[j]? = some z ∧ (∀ m, m < j → ys[m]? ≠ some z) ∧ Q (.int (j : Nat)) H
theorem mt_indexT {X : Cx} : MtR X "tuple.index" (rIndexT X.K) := mt_tup_index
/-- of a tuple that the top has written -/
theorem sim_indexT {v : V} {d : PyData} {tb : TE} {pb : PE'} (hv : ∀ H, Dq K H v d) (hk : ∃ p o, v = .ref p ∧ K.lookup p = some o ∧ o.cls = .type "tuple" ∧ o.dict = none) (sb : Sim K tb pb) : Sim K (tBM K "tuple" (rIndexT K) (tC v) (tCons tb tNil)) (pIndexT (pC d) pb) := fun B Z A H0 M σ H ρ R E h Q q => by
  obtain ⟨ds, rfl, h2⟩ := asT_of h
  obtain ⟨p, o, rfl, k1, k2, k3⟩ := hk
  refine ⟨.inr (.inl ⟨rfl, o, k1, k2, k3⟩), sb B Z A H0 M σ H ρ _ E h2 _ fun w y ρ2 H2 h3 E2 d2 => ?_⟩
  obtain ⟨ys, z, j, rfl, rfl, hj, hm, h4⟩ := h3
  cases hv H2 with
  | tup hs r =>
    have ev := dqs_strs r
    subst ev
    cases d2
    exact ⟨p, ys, z, j, rfl, rfl, hs, hj, hm, q _ _ _ _ h4 E2 (.int _)⟩
theorem sim_tupRg {ta tb : TE} {pa pb : PE'} (sa : Sim K ta pa) (sb : Sim K tb pb) : Sim K (tTupRg (tRg2 ta tb)) (pTupRg pa pb) := fun B Z A H0 M σ H ρ R E h Q q =>
  two sa sb E h fun v w x y ρ2 H2 h2 E2 d1 d2 => by
    obtain ⟨a, rfl, h3⟩ := asI_of h2
    obtain ⟨b, rfl, h4, h5⟩ := asI_of h3
    exact ⟨a, b, of_int d1, of_int d2, h4, fun p hp => q _ _ _ _ h5 (E2.grown (grow_new hp)) (.new (E2.veiled hp) hp dqs_rg)⟩
end
end Pu
namespace Pr
open PySem L2 Pu
/-! k16: is_unit .. _are_lists -/
def names : List Str := [Str.ofString "months", Str.ofString "days", Str.ofString "year days", Str.ofString "weekdays", Str.ofString "month weekdays", Str.ofString "year weekdays", Str.ofString "weeks"]
def k_UNITS : PyData := .tuple [.str (Str.ofString "day"), .str (Str.ofString "week"), .str (Str.ofString "month"), .str (Str.ofString "year")]
def k_MOST_PLACES : PyData := .int 12
def k_GREATEST_PLACE : PyData := .int 400
def k_GREATEST_INTERVAL : PyData := .int 1000
def k_GREATEST_NUMBER : PyData := .int 1000000000
def k_MOST_MEMBERS : PyData := .int 60
def k_LIST_NAMES : PyData := .tuple [.str (Str.ofString "months"), .str (Str.ofString "days"), .str (Str.ofString "year days"), .str (Str.ofString "weekdays"), .str (Str.ofString "month weekdays"), .str (Str.ofString "year weekdays"), .str (Str.ofString "weeks")]
theorem k_names : k_LIST_NAMES = .tuple (names.map PyData.str) := rfl
def unitsL : List Str := [Str.ofString "day", Str.ofString "week", Str.ofString "month", Str.ofString "year"]
def unitOk : PyData → Bool
  | .str z => decide (z ∈ unitsL)
  | _ => false
def isZ : PyData → Bool
  | .int i => decide (i = 0)
  | _ => false
def inRn (d : PyData) (lo hi : Int) : Bool := inR d lo hi && !isZ d
/-- no two of a row are equal -/
def disD : List PyData → Bool
  | [] => true
  | d :: ds => !(ds.any (PyData.eqv d)) && disD ds
def placesOk : PyData → Bool
  | .tuple ds => decide (ds.length ≤ 12) && (ds.all (fun d => inRn d (-400) 400) && disD ds)
  | _ => false
def wdZ : Str := Str.ofString "weekdays"
def mwZ : Str := Str.ofString "month weekdays"
def ywZ : Str := Str.ofString "year weekdays"
def pairOk : PyData → Bool
  | .tuple [a, b] => inR a 0 13 && inRn b (-400) 400
  | _ => false
def memOk (z : Str) (m : PyData) : Bool := if z = wdZ then inR m 0 13 else if z = mwZ ∨ z = ywZ then pairOk m else inRn m (-2000) 2000
def memsOk (z : Str) : PyData → Bool
  | .tuple ds => decide (1 ≤ ds.length) && (decide (ds.length ≤ 60) && (ds.all (memOk z) && disD ds))
  | _ => false
def inN : PyData → Bool
  | .str z => decide (z ∈ names)
  | _ => false
def nmOf : PyData → Str
  | .str z => z
  | _ => wdZ
def rowOk : PyData → Bool
  | .tuple [a, _] => inN a
  | _ => false
def rowName : PyData → Str
  | .tuple [a, _] => nmOf a
  | _ => wdZ
def rowIx (d : PyData) : Nat := names.idxOf (rowName d)
def memsN (m : PyData) : PyData → Bool
  | .str z => memsOk z m
  | _ => false
def rowMems : PyData → Bool
  | .tuple [a, m] => memsN m a
  | _ => false
def ascN : List Nat → Bool
  | [] => true
  | [_] => true
  | a :: b :: r => decide (a < b) && ascN (b :: r)
def listsOk : PyData → Bool
  | .tuple rows => rows.all rowOk && (ascN (rows.map rowIx) && rows.all rowMems)
  | _ => false
/-- what may be asked: rows of two begin with something flat -/
def askRow : PyData → Bool
  | .tuple [a, m] => flatD a && decide (lenT m ≠ 60)
  | _ => true
def askL : PyData → Bool
  | .tuple rows => decide (rows.length ≤ 1000) && rows.all askRow
  | _ => true
def S_is_whole_or_none : FS := fn1 fun d => .bool (isN d || isI d)
def S_is_unit : FS := fun ds k => match ds with
  | [d] => flatD d = true ∧ k (.bool (unitOk d))
  | _ => False
def S_is_place : FS := fn1 fun d => .bool (inRn d (-400) 400)
def S_are_places : FS := fn1 fun d => .bool (placesOk d)
def S_is_member : FS := fun ds k => match ds with
  | [.str z, m] => z ∈ names ∧ k (.bool (memOk z m))
  | _ => False
def S_are_members : FS := fun ds k => match ds with
  | [.str z, m] => z ∈ names ∧ lenT m ≠ 60 ∧ k (.bool (memsOk z m))
  | _ => False
def S_are_lists : FS := fun ds k => match ds with
  | [d] => askL d = true ∧ k (.bool (listsOk d))
  | _ => False
-- is_whole_or_none: ['value']
abbrev N_is_whole_or_none : List Str := ["value"]
def p_is_whole_or_none : PS' := (pRet (pOrV (pIsN false (pVar 0)) (pCall 1 S_is_whole (pCons (pVar 0) pNil))))
-- is_unit: ['value']
abbrev N_is_unit : List Str := ["value"]
def p_is_unit : PS' := (pRet (pInD false (pVar 0) (pC k_UNITS)))
-- is_place: ['value']
abbrev N_is_place : List Str := ["value"]
def p_is_place : PS' := (pRet (pAndV (pCall 3 S_is_from_to (pCons (pVar 0) (pCons (pI (fun i => .int (-i)) (pC k_GREATEST_PLACE)) (pCons (pC k_GREATEST_PLACE) pNil)))) (pEqD true (pVar 0) (pC (.int 0)))))
-- are_places: ['value', 'place']
abbrev N_are_places : List Str := ["value", "place"]
def p_are_places : PS' := (pSeq (pIfS (pOr (pNot (pTst (pCall 1 S_is_tuple (pCons (pVar 0) pNil)))) (pOr (pTst (pII (fun i j => .bool (decide (j < i))) (pFn fLen (pCons (pVar 0) pNil)) (pC k_MOST_PLACES))) (pNot (pTst (pFn fAll (pCons (pNew (pLcS [1] [1] (pTO (pVar 0)) (pgN 1) pYes (pCall 1 S_is_place (pCons (pVar 1) pNil)))) pNil)))))) (pRet (pC (.bool false))) pNext)
      (pRet (pEqD false (pLenW (pCons (pVar 0) pNil)) (pFn fLen (pCons (pVar 0) pNil)))))
-- is_member: ['name', 'member']
abbrev N_is_member : List Str := ["name", "member"]
def p_is_member : PS' := (pSeq (pIfS (pTst (pEqD false (pVar 0) (pC (.str (Str.ofString "weekdays"))))) (pRet (pCall 3 S_is_from_to (pCons (pVar 1) (pCons (pC (.int 0)) (pCons (pC (.int 13)) pNil))))) pNext)
      (pSeq (pIfS (pTst (pInD false (pVar 0) (pTup (pCons (pC (.str (Str.ofString "month weekdays"))) (pCons (pC (.str (Str.ofString "year weekdays"))) pNil))))) (pSeq (pIfS (pNot (pTst (pCall 2 S_is_tuple_of (pCons (pVar 1) (pCons (pC (.int 2)) pNil))))) (pRet (pC (.bool false))) pNext)
      (pRet (pAndV (pCall 3 S_is_from_to (pCons (pIx (pVar 1) (pC (.int 0))) (pCons (pC (.int 0)) (pCons (pC (.int 13)) pNil)))) (pAndV (pCall 3 S_is_from_to (pCons (pIx (pVar 1) (pC (.int 1))) (pCons (pI (fun i => .int (-i)) (pC (.int 400))) (pCons (pC (.int 400)) pNil)))) (pEqD true (pIx (pVar 1) (pC (.int 1))) (pC (.int 0))))))) pNext)
      (pRet (pAndV (pCall 3 S_is_from_to (pCons (pVar 1) (pCons (pI (fun i => .int (-i)) (pC (.int 2000))) (pCons (pC (.int 2000)) pNil)))) (pEqD true (pVar 1) (pC (.int 0)))))))
-- _are_members: ['name', 'members', 'member']
abbrev N_are_members : List Str := ["name", "members", "member"]
def p_are_members : PS' := (pSeq (pIfS (pOr (pNot (pTst (pCall 1 S_is_tuple (pCons (pVar 1) pNil)))) (pNot (pTst (pChain (fun i j => decide (i ≤ j)) (fun i j => decide (i ≤ j)) (pC (.int 1)) (pFn fLen (pCons (pVar 1) pNil)) (pC k_MOST_MEMBERS))))) (pRet (pC (.bool false))) pNext)
      (pSeq (pIfS (pNot (pTst (pFn fAll (pCons (pNew (pLcS [2] [2] (pTO (pVar 1)) (pgN 2) pYes (pCall 2 S_is_member (pCons (pVar 0) (pCons (pVar 2) pNil))))) pNil)))) (pRet (pC (.bool false))) pNext)
      (pRet (pEqD false (pLenW (pCons (pVar 1) pNil)) (pFn fLen (pCons (pVar 1) pNil))))))
-- _are_lists: ['value', 'order', 'row', 'name', 'members', 'one', 'two']
abbrev N_are_lists : List Str := ["value", "order", "row", "name", "members", "one", "two"]
def p_are_lists : PS' := (pSeq (pIfS (pOr (pNot (pTst (pCall 1 S_is_tuple (pCons (pVar 0) pNil)))) (pNot (pTst (pFn fAll (pCons (pNew (pLcS [2] [2] (pTO (pVar 0)) (pgN 2) pYes (pAndV (pCall 2 S_is_tuple_of (pCons (pVar 2) (pCons (pC (.int 2)) pNil))) (pInD false (pIx (pVar 2) (pC (.int 0))) (pC k_LIST_NAMES))))) pNil))))) (pRet (pC (.bool false))) pNext)
      (pSeq (pAsg (pNew (pLcS [2] [2] (pTO (pVar 0)) (pgN 2) pYes (pIndexT (pC k_LIST_NAMES) (pIx (pVar 2) (pC (.int 0)))))) (pgN 1))
      (pSeq (pIfS (pNot (pTst (pFn fAll (pCons (pNew (pLcZL [5, 6] [5, 6] (pCons (pVar 1) (pCons (pCut (pVar 1) (pPart (pC (.int 1))) pNoP) pNil)) (pgT [5, 6]) pYes (pII (fun i j => .bool (decide (i < j))) (pVar 5) (pVar 6)))) pNil)))) (pRet (pC (.bool false))) pNext)
      (pRet (pFn fAll (pCons (pNew (pLcS [3, 4] [3, 4] (pTO (pVar 0)) (pgT [3, 4]) pYes (pCall 2 S_are_members (pCons (pVar 3) (pCons (pVar 4) pNil))))) pNil))))))

theorem all_map16 {α : Type} (f : α → Bool) : ∀ l : List α, (l.map f).all id = l.all f
  | [] => rfl
  | a :: l => by
    rw [List.map_cons, List.all_cons, List.all_cons, all_map16 f l]
    rfl
theorem take_snoc16 {α : Type} {l : List α} {i : Nat} {d : α} (h : l[i]? = some d) : l.take (i + 1) = l.take i ++ [d] := by
  rw [List.take_add_one, h]
  rfl
theorem isT_of16 {d : PyData} (h : isT d = true) : ∃ l, d = .tuple l := by
  cases d <;> first | exact ⟨_, rfl⟩ | cases h
theorem pure_is_whole_or_none (ds : List PyData) (c : PyData → Prop) (hl : ds.length = 1) (h : S_is_whole_or_none ds c) : p_is_whole_or_none (fin c) (startE N_is_whole_or_none ds) := by
  unfold S_is_whole_or_none fn1 at h
  split at h
  · rename_i d
    have h : c (.bool (isN d || isI d)) := h
    show (if (flipB false (isN d)) = true then c (.bool true) else _)
    show (if isN d = true then c (.bool true) else _)
    refine tf (fun z => ?_) (fun z => ?_)
    · rw [z] at h
      exact h
    · rw [z] at h
      exact ⟨rfl, h⟩
  · exact h.elim
theorem inV_str (z : Str) (l : List Str) : inV (.str z) (l.map V.str) = decide (z ∈ l) := by
  unfold inV
  rw [Bool.eq_iff_iff, List.any_eq_true]
  constructor
  · rintro ⟨y, hy, e⟩
    obtain ⟨x, hx, rfl⟩ := List.mem_map.mp hy
    have e : (x == z) = true := e
    rw [← beq_iff_eq.mp e]
    exact decide_eq_true hx
  · intro h
    exact ⟨.str z, List.mem_map.mpr ⟨z, of_decide_eq_true h, rfl⟩, (beq_self_eq_true z : (z == z) = true)⟩
theorem vd_strs (l : List Str) : (l.map PyData.str).map vd = l.map V.str := by
  rw [List.map_map]
  rfl
theorem inV_other {d : PyData} (h : ∀ z, d ≠ .str z) (f : flatD d = true) (l : List Str) : inV (vd d) (l.map V.str) = false := by
  unfold inV
  rw [Bool.eq_false_iff]
  intro e
  obtain ⟨y, hy, e⟩ := List.any_eq_true.mp e
  obtain ⟨x, hx, rfl⟩ := List.mem_map.mp hy
  cases d <;> first | exact h _ rfl | cases e | cases f
theorem pure_is_unit (ds : List PyData) (c : PyData → Prop) (hl : ds.length = 1) (h : S_is_unit ds c) : p_is_unit (fin c) (startE N_is_unit ds) := by
  unfold S_is_unit at h
  split at h
  · rename_i d
    obtain ⟨f, h⟩ := h
    refine ⟨f, rfl, ?_⟩
    show c (.bool (inV (vd d) ((unitsL.map PyData.str).map vd)))
    rw [vd_strs]
    by_cases z : ∃ z, d = .str z
    · obtain ⟨z, rfl⟩ := z
      show c (.bool (inV (.str z) (unitsL.map V.str)))
      rw [inV_str]
      exact h
    · rw [inV_other (fun y e => z ⟨y, e⟩) f]
      have e : unitOk d = false := by
        cases d <;> first | rfl | exact absurd ⟨_, rfl⟩ z
      rw [e] at h
      exact h
  · exact h.elim
theorem rn_end {d : PyData} {lo hi : Int} {c : PyData → Prop} (h : c (.bool (inRn d lo hi))) : (if inR d lo hi = true then (shq d = true ∧ shq (.int 0) = true ∧ c (.bool (flipB true (PyData.eqv d (.int 0))))) else c (.bool false)) := by
  refine tf (fun z => ?_) (fun z => ?_)
  · cases d with
    | int i =>
      refine ⟨rfl, rfl, ?_⟩
      rw [eqv_int]
      have e : inRn (.int i) lo hi = !decide (i = 0) := by
        show (inR (.int i) lo hi && !decide (i = 0)) = _
        rw [z, Bool.true_and]
      rw [e] at h
      exact h
    | _ => cases z
  · have e : inRn d lo hi = false := by
      unfold inRn
      rw [z]
      rfl
    rw [e] at h
    exact h
theorem pure_is_place (ds : List PyData) (c : PyData → Prop) (hl : ds.length = 1) (h : S_is_place ds c) : p_is_place (fin c) (startE N_is_place ds) := by
  unfold S_is_place fn1 at h
  split at h
  · rename_i d
    exact ⟨rfl, rn_end h⟩
  · exact h.elim
theorem rn_ints : ∀ {ds : List PyData} {lo hi : Int}, ds.all (fun d => inRn d lo hi) = true → ∃ ns : List Int, ds = ns.map PyData.int
  | [], _, _, _ => ⟨[], rfl⟩
  | d :: ds, lo, hi, h => by
    rw [List.all_cons, Bool.and_eq_true] at h
    obtain ⟨ns, e⟩ := rn_ints h.2
    cases d with
    | int i => exact ⟨i :: ns, by rw [e]; rfl⟩
    | _ => cases h.1
theorem any_ints (i : Int) : ∀ ns : List Int, (ns.map PyData.int).any (PyData.eqv (.int i)) = decide (i ∈ ns)
  | [] => rfl
  | n :: ns => by
    rw [List.map_cons, List.any_cons, any_ints i ns, eqv_int, ← Bool.decide_or]
    congr 1
    rw [List.mem_cons]
theorem dis_ints : ∀ ns : List Int, disD (ns.map PyData.int) = decide ns.Nodup
  | [] => rfl
  | n :: ns => by
    show (!((ns.map PyData.int).any (PyData.eqv (.int n))) && disD (ns.map PyData.int)) = _
    rw [any_ints, dis_ints ns]
    by_cases h1 : n ∈ ns <;> by_cases h2 : ns.Nodup <;> simp [h1, h2]
theorem eqv_tupD (k l : List Int) : PyData.eqv (tupD k) (tupD l) = decide (k = l) := by
  have go : ∀ k l : List Int, PyData.eqv (tupD k) (tupD l) = true ↔ k = l := fun k => by
    induction k with
    | nil => intro l; cases l <;> simp [tupD, PyData.eqv, PyData.eqvAll]
    | cons x k ih =>
      intro l
      cases l with
      | nil => simp [tupD, PyData.eqv, PyData.eqvAll]
      | cons y l =>
        have := ih l
        simp only [tupD, PyData.eqv] at this
        simp [tupD, PyData.eqv, PyData.eqvAll, this]
  rw [Bool.eq_iff_iff, go]
  exact decide_eq_true_iff.symm
theorem any_tups (i : List Int) : ∀ ns : List (List Int), (ns.map tupD).any (PyData.eqv (tupD i)) = decide (i ∈ ns)
  | [] => rfl
  | n :: ns => by
    rw [List.map_cons, List.any_cons, any_tups i ns, eqv_tupD, ← Bool.decide_or]
    congr 1
    rw [List.mem_cons]
theorem dis_tups : ∀ ns : List (List Int), disD (ns.map tupD) = decide ns.Nodup
  | [] => rfl
  | n :: ns => by
    show (!((ns.map tupD).any (PyData.eqv (tupD n))) && disD (ns.map tupD)) = _
    rw [any_tups, dis_tups ns]
    by_cases h1 : n ∈ ns <;> by_cases h2 : ns.Nodup <;> simp [h1, h2]
/-- len(set(t)) == len(t) -/
theorem same_len {es : List PyData} {ρ : En} {R : PyData → En → Prop} (h : R (.bool (disD es)) ρ) (hk : (∃ ns : List Int, es = ns.map PyData.int) ∨ ∃ ks : List (List Int), es = ks.map tupD) (h60 : es.length < 60) {i : Nat} (hi : Pu.cellAt ρ i = .d (.tuple es)) :
    (pEqD false (pLenW (pCons (pVar i) pNil)) (pFn fLen (pCons (pVar i) pNil))) ρ R := by
  show asD (Pu.cellAt ρ i) fun x => _
  rw [hi]
  refine ⟨es, .inr rfl, h60, ?_⟩
  rcases hk with ⟨ns, rfl⟩ | ⟨ks, rfl⟩
  · refine .inl ⟨ns, rfl, fun n e => ?_⟩
    show asD (Pu.cellAt ρ i) fun x => _
    rw [hi]
    refine ⟨_, rfl, rfl, rfl, ?_⟩
    rw [dis_ints] at h
    show R (.bool (PyData.eqv (.int n) (.int ((ns.map PyData.int).length : Nat)))) ρ
    rw [eqv_int, List.length_map]
    have : decide ((n : Int) = (ns.length : Int)) = decide ns.Nodup := by
      rw [Bool.eq_iff_iff, decide_eq_true_iff, decide_eq_true_iff, ← e]
      omega
    rw [this]
    exact h
  · refine .inr ⟨ks, rfl, fun n e => ?_⟩
    show asD (Pu.cellAt ρ i) fun x => _
    rw [hi]
    refine ⟨_, rfl, rfl, rfl, ?_⟩
    rw [dis_tups] at h
    show R (.bool (PyData.eqv (.int n) (.int ((ks.map tupD).length : Nat)))) ρ
    rw [eqv_int, List.length_map]
    have : decide ((n : Int) = (ks.length : Int)) = decide ks.Nodup := by
      rw [Bool.eq_iff_iff, decide_eq_true_iff, decide_eq_true_iff, ← e]
      omega
    rw [this]
    exact h
end Pr
namespace Pr
open PySem L2 Pu

theorem not_t {b : Bool} (h : (!b) = true) : b = false := by cases b <;> first | rfl | cases h
theorem not_f {b : Bool} (h : (!b) = false) : b = true := by cases b <;> first | rfl | cases h
theorem isT_no {d : PyData} (h : isT d = false) : ∀ l, d ≠ .tuple l := fun l e => by rw [e] at h; cases h
theorem pure_are_places (ds : List PyData) (c : PyData → Prop) (hl : ds.length = 1) (h : S_are_places ds c) : p_are_places (fin c) (startE N_are_places ds) := by
  unfold S_are_places fn1 at h
  split at h
  · rename_i d
    have h : c (.bool (placesOk d)) := h
    refine ⟨rfl, ?_⟩
    show (if (!(isT d)) = true then _ else _)
    refine tf (fun z => ?_) (fun z => ?_)
    · have e : placesOk d = false := by cases d <;> first | rfl | simp [isT] at z
      rw [e] at h
      exact h
    · obtain ⟨l, rfl⟩ := isT_of16 (by simpa using z)
      have h : c (.bool (decide (l.length ≤ 12) && (l.all (fun d => inRn d (-400) 400) && disD l))) := h
      refine ⟨_, rfl, ?_⟩
      show (if decide ((12 : Int) < (l.length : Nat)) = true then c (.bool false) else _)
      refine ifd (fun z => ?_) (fun z => ?_)
      · rw [decide_eq_false (show ¬ l.length ≤ 12 by omega)] at h
        exact h
      · rw [decide_eq_true (show l.length ≤ 12 by omega), Bool.true_and] at h
        refine ⟨by simp [Pu.cellAt, startE], rfl, fun i acc => acc = (l.take i).map (fun d => .bool (inRn d (-400) 400)), rfl, ?_, ?_⟩
        · rintro i d acc hd rfl
          refine ⟨rfl, rfl, rfl, ?_, ?_⟩
          · rw [List.length_map, List.length_take]
            omega
          · show _ = _
            rw [take_snoc16 hd, List.map_append]
            rfl
        · rintro acc rfl
          refine ⟨l.map fun d => inRn d (-400) 400, ?_, ?_⟩
          · rw [List.take_length, show (l.map fun d => PyData.bool (inRn d (-400) 400)) = (l.map fun d => inRn d (-400) 400).map PyData.bool by rw [List.map_map]; rfl]
            exact boolsOf_map _
          · rw [all_map16]
            show (if (!(l.all fun d => inRn d (-400) 400)) = true then c (.bool false) else _)
            refine tf (fun z => ?_) (fun z => ?_)
            · have e : (l.all fun d => inRn d (-400) 400) = false := by simpa using z
              rw [e] at h
              exact h
            · have e : (l.all fun d => inRn d (-400) 400) = true := by simpa using z
              rw [e, Bool.true_and] at h
              exact same_len (ρ := [.d (.tuple l), .no]) (es := l) (i := 0) (R := fun d _ => c d) h (.inl (rn_ints e)) (by omega) rfl
  · exact h.elim
theorem pair_dec {m : PyData} : (isT m && decide ((lenT m : Int) = 2)) = true → ∃ a b, m = .tuple [a, b] := fun z => by
  rw [Bool.and_eq_true] at z
  obtain ⟨l, rfl⟩ := isT_of16 z.1
  obtain ⟨a, b, rfl⟩ := len2 (of_decide_eq_true z.2)
  exact ⟨a, b, rfl⟩
theorem pair_no {m : PyData} (z : (isT m && decide ((lenT m : Int) = 2)) = false) : pairOk m = false := by
  cases m with
  | tuple l =>
    match l, z with
    | [a, b], z => simp [isT, lenT] at z
    | [], _ => rfl
    | [_], _ => rfl
    | _ :: _ :: _ :: _, _ => rfl
  | _ => rfl
def kindZ (z : Str) : Nat := if z = wdZ then 0 else if z = mwZ ∨ z = ywZ then 1 else 2
theorem pure_is_member (ds : List PyData) (c : PyData → Prop) (hl : ds.length = 2) (h : S_is_member ds c) : p_is_member (fin c) (startE N_is_member ds) := by
  unfold S_is_member at h
  split at h
  · rename_i z m
    obtain ⟨hz, h⟩ := h
    -- the three kinds of names
    have k0 : z = wdZ → (p_is_member (fin c) (startE N_is_member [.str z, m])) := fun e => by
      subst e
      have h : c (.bool (inR m 0 13)) := h
      refine ⟨(by decide +kernel : shq (.str wdZ) = true), (by decide +kernel : shq (.str wdZ) = true), ?_⟩
      exact ⟨rfl, h⟩
    have k1 : shq (.str z) = true → PyData.eqv (.str z) (.str wdZ) = false → inV (.str z) [.str mwZ, .str ywZ] = true → memOk z m = pairOk m → (p_is_member (fin c) (startE N_is_member [.str z, m])) := fun e0 e1 e2 e3 => by
      rw [e3] at h
      refine ⟨e0, (by decide +kernel : shq (.str wdZ) = true), ?_⟩
      refine ff e1 ?_
      refine ⟨Nat.le_of_ble_eq_true rfl, rfl, rfl, ?_⟩
      refine tt e2 ?_
      refine ⟨rfl, ?_⟩
      show (if (!(isT m && decide ((lenT m : Int) = 2))) = true then c (.bool false) else _)
      refine tf (fun z => ?_) (fun z => ?_)
      · rw [pair_no (not_t z)] at h
        exact h
      · obtain ⟨a, b, rfl⟩ := pair_dec (m := m) (not_f z)
        have h : c (.bool (inR a 0 13 && inRn b (-400) 400)) := h
        refine ⟨rfl, ?_⟩
        show (if inR a 0 13 = true then _ else c (.bool false))
        refine tf (fun z => ?_) (fun z => ?_)
        · rw [z, Bool.true_and] at h
          exact ⟨rfl, rn_end h⟩
        · rw [z] at h
          exact h
    have k2 : shq (.str z) = true → PyData.eqv (.str z) (.str wdZ) = false → inV (.str z) [.str mwZ, .str ywZ] = false → memOk z m = inRn m (-2000) 2000 → (p_is_member (fin c) (startE N_is_member [.str z, m])) := fun e0 e1 e2 e3 => by
      rw [e3] at h
      refine ⟨e0, (by decide +kernel : shq (.str wdZ) = true), ?_⟩
      refine ff e1 ?_
      refine ⟨Nat.le_of_ble_eq_true rfl, rfl, rfl, ?_⟩
      refine ff e2 ?_
      exact ⟨rfl, rn_end h⟩
    simp only [names, List.mem_cons, List.not_mem_nil, or_false] at hz
    rcases hz with rfl | rfl | rfl | rfl | rfl | rfl | rfl
    · exact k2 (by decide +kernel) (by decide +kernel) (by decide +kernel) (by unfold memOk; rw [if_neg (by decide +kernel), if_neg (by decide +kernel)])
    · exact k2 (by decide +kernel) (by decide +kernel) (by decide +kernel) (by unfold memOk; rw [if_neg (by decide +kernel), if_neg (by decide +kernel)])
    · exact k2 (by decide +kernel) (by decide +kernel) (by decide +kernel) (by unfold memOk; rw [if_neg (by decide +kernel), if_neg (by decide +kernel)])
    · exact k0 rfl
    · exact k1 (by decide +kernel) (by decide +kernel) (by decide +kernel) (by unfold memOk; rw [if_neg (by decide +kernel), if_pos (by decide +kernel)])
    · exact k1 (by decide +kernel) (by decide +kernel) (by decide +kernel) (by unfold memOk; rw [if_neg (by decide +kernel), if_pos (by decide +kernel)])
    · exact k2 (by decide +kernel) (by decide +kernel) (by decide +kernel) (by unfold memOk; rw [if_neg (by decide +kernel), if_neg (by decide +kernel)])
  · exact h.elim
theorem mem_int {z : Str} {d : PyData} (h : memOk z d = true) : (∃ i, d = .int i) ∨ ∃ k, d = tupD k := by
  unfold memOk at h
  split at h
  · cases d with
    | int i => exact .inl ⟨i, rfl⟩
    | _ => cases h
  · split at h
    · cases d with
      | tuple l =>
        match l, h with
        | [a, b], h =>
          have h : (inR a 0 13 && inRn b (-400) 400) = true := h
          rw [Bool.and_eq_true] at h
          cases a with
          | int a =>
            cases b with
            | int b => exact .inr ⟨[a, b], rfl⟩
            | _ => cases h.2
          | _ => cases h.1
        | [], h => cases h
        | [_], h => cases h
        | _ :: _ :: _ :: _, h => cases h
      | _ => cases h
    · cases d with
      | int i => exact .inl ⟨i, rfl⟩
      | _ => cases h
theorem mem_kind {z : Str} {ds : List PyData} (h : ds.all (memOk z) = true) : (∃ ns : List Int, ds = ns.map PyData.int) ∨ ∃ ks : List (List Int), ds = ks.map tupD := by
  by_cases hp : z ≠ wdZ ∧ (z = mwZ ∨ z = ywZ)
  · refine .inr ?_
    induction ds with
    | nil => exact ⟨[], rfl⟩
    | cons d ds ih =>
      rw [List.all_cons, Bool.and_eq_true] at h
      obtain ⟨ks, e⟩ := ih h.2
      rcases mem_int h.1 with ⟨i, rfl⟩ | ⟨k, rfl⟩
      · have := h.1
        unfold memOk at this
        rw [if_neg hp.1, if_pos hp.2] at this
        cases this
      · exact ⟨k :: ks, by rw [e]; rfl⟩
  · refine .inl ?_
    induction ds with
    | nil => exact ⟨[], rfl⟩
    | cons d ds ih =>
      rw [List.all_cons, Bool.and_eq_true] at h
      obtain ⟨ks, e⟩ := ih h.2
      rcases mem_int h.1 with ⟨i, rfl⟩ | ⟨k, rfl⟩
      · exact ⟨i :: ks, by rw [e]; rfl⟩
      · exfalso
        have q := h.1
        unfold memOk at q
        split at q
        · cases q
        · rename_i n1
          split at q
          · rename_i n2
            exact hp ⟨n1, n2⟩
          · cases q
theorem pure_are_members (ds : List PyData) (c : PyData → Prop) (hl : ds.length = 2) (h : S_are_members ds c) : p_are_members (fin c) (startE N_are_members ds) := by
  unfold S_are_members at h
  split at h
  · rename_i z m
    obtain ⟨hz, h60, h⟩ := h
    refine ⟨rfl, ?_⟩
    show (if (!(isT m)) = true then _ else _)
    refine tf (fun y => ?_) (fun y => ?_)
    · have e : memsOk z m = false := by cases m <;> first | rfl | simp [isT] at y
      rw [e] at h
      exact h
    · obtain ⟨l, rfl⟩ := isT_of16 (by simpa using y)
      have h60 : l.length ≠ 60 := h60
      have h : c (.bool (decide (1 ≤ l.length) && (decide (l.length ≤ 60) && (l.all (memOk z) && disD l)))) := h
      refine ⟨_, rfl, ?_⟩
      show (if decide ((1 : Int) ≤ (l.length : Nat)) = true then _ else _)
      refine ifd (fun y => ?_) (fun y => ?_)
      · rw [decide_eq_true (show 1 ≤ l.length by omega), Bool.true_and] at h
        show (if (!(decide ((l.length : Int) ≤ 60))) = true then c (.bool false) else _)
        refine tf (fun y => ?_) (fun y => ?_)
        · have y : decide ((l.length : Int) ≤ 60) = false := by simpa using y
          rw [decide_eq_false (show ¬ l.length ≤ 60 by have := of_decide_eq_false y; omega)] at h
          exact h
        · have y : decide ((l.length : Int) ≤ 60) = true := by simpa using y
          have y := of_decide_eq_true y
          rw [decide_eq_true (show l.length ≤ 60 by omega), Bool.true_and] at h
          refine ⟨by simp [Pu.cellAt, startE], rfl, fun i acc => acc = (l.take i).map (fun d => .bool (memOk z d)), rfl, ?_, ?_⟩
          · rintro i d acc hd rfl
            refine ⟨rfl, rfl, hz, rfl, ?_, ?_⟩
            · rw [List.length_map, List.length_take]
              omega
            · show _ = _
              rw [take_snoc16 hd, List.map_append]
              rfl
          · rintro acc rfl
            refine ⟨l.map (memOk z), ?_, ?_⟩
            · rw [List.take_length, show (l.map fun d => PyData.bool (memOk z d)) = (l.map (memOk z)).map PyData.bool by rw [List.map_map]; rfl]
              exact boolsOf_map _
            · rw [all_map16]
              show (if (!(l.all (memOk z))) = true then c (.bool false) else _)
              refine tf (fun y => ?_) (fun y => ?_)
              · have e : l.all (memOk z) = false := by simpa using y
                rw [e] at h
                exact h
              · have e : l.all (memOk z) = true := by simpa using y
                rw [e, Bool.true_and] at h
                exact same_len (ρ := [.d (.str z), .d (.tuple l), .no]) (es := l) (i := 1) (R := fun d _ => c d) h (mem_kind e) (by omega) rfl
      · rw [decide_eq_false (show ¬ 1 ≤ l.length by omega)] at h
        exact h
  · exact h.elim
end Pr
namespace Pr
open PySem L2 Pu
def fault8 (u i a l p s t n : PyData) : PyData :=
  if unitOk u = false then txt "unit" else if inR i 1 1000 = false then txt "interval" else if isI a = false then txt "anchor" else if listsOk l = false then txt "lists" else if placesOk p = false then txt "places" else
  if (isN s || isI s) = false then txt "since" else if (isN t || isI t) = false then txt "until" else if (!isN n && (isN s || !inR n 1 1000000000)) = true then txt "number" else .none
def S_rule_fault : FS := fun ds k => match ds with
  | [.tuple [u, i, a, l, p, s, t, n]] => flatD u = true ∧ askL l = true ∧ k (fault8 u i a l p s t n)
  | _ => False
-- rule_fault: ['rule', 'unit', 'interval', 'anchor', 'lists', 'places', 'since', 'until', 'number']
abbrev N_rule_fault : List Str := ["rule", "unit", "interval", "anchor", "lists", "places", "since", "until", "number"]
def p_rule_fault : PS' := (pSeq (pAsg (pVar 0) (pgT [1, 2, 3, 4, 5, 6, 7, 8]))
      (pSeq (pIfS (pNot (pTst (pCall 1 S_is_unit (pCons (pVar 1) pNil)))) (pRet (pC (.str (Str.ofString "unit")))) pNext)
      (pSeq (pIfS (pNot (pTst (pCall 3 S_is_from_to (pCons (pVar 2) (pCons (pC (.int 1)) (pCons (pC k_GREATEST_INTERVAL) pNil)))))) (pRet (pC (.str (Str.ofString "interval")))) pNext)
      (pSeq (pIfS (pNot (pTst (pCall 1 S_is_whole (pCons (pVar 3) pNil)))) (pRet (pC (.str (Str.ofString "anchor")))) pNext)
      (pSeq (pIfS (pNot (pTst (pCall 1 S_are_lists (pCons (pVar 4) pNil)))) (pRet (pC (.str (Str.ofString "lists")))) pNext)
      (pSeq (pIfS (pNot (pTst (pCall 1 S_are_places (pCons (pVar 5) pNil)))) (pRet (pC (.str (Str.ofString "places")))) pNext)
      (pSeq (pIfS (pNot (pTst (pCall 1 S_is_whole_or_none (pCons (pVar 6) pNil)))) (pRet (pC (.str (Str.ofString "since")))) pNext)
      (pSeq (pIfS (pNot (pTst (pCall 1 S_is_whole_or_none (pCons (pVar 7) pNil)))) (pRet (pC (.str (Str.ofString "until")))) pNext)
      (pSeq (pIfS (pAnd (pTst (pIsN true (pVar 8))) (pOr (pTst (pIsN false (pVar 6))) (pNot (pTst (pCall 3 S_is_from_to (pCons (pVar 8) (pCons (pC (.int 1)) (pCons (pC k_GREATEST_NUMBER) pNil)))))))) (pRet (pC (.str (Str.ofString "number")))) pNext)
      (pRet (pC .none)))))))))))

theorem names_ix : ∀ z ∈ names, names[names.idxOf z]? = some z ∧ ∀ m, m < names.idxOf z → names[m]? ≠ some z := by decide +kernel
def adj : List Nat → List Bool
  | a :: b :: r => decide (a < b) :: adj (b :: r)
  | _ => []
theorem adj_all : ∀ l : List Nat, (adj l).all id = ascN l
  | [] => rfl
  | [_] => rfl
  | a :: b :: r => by
    show (decide (a < b) && (adj (b :: r)).all id) = (decide (a < b) && ascN (b :: r))
    rw [adj_all]
theorem adj_get : ∀ {l : List Nat} {i a b : Nat}, l[i]? = some a → l[i + 1]? = some b → (adj l)[i]? = some (decide (a < b))
  | x :: y :: r, 0, a, b, h1, h2 => by
    cases h1
    cases h2
    rfl
  | x :: y :: r, i + 1, a, b, h1, h2 => by
    show (adj (y :: r))[i]? = _
    exact adj_get h1 h2
  | [x], i, a, b, h1, h2 => by simp at h2
  | [], i, a, b, h1, h2 => by simp at h2
theorem adj_len : ∀ l : List Nat, (adj l).length = l.length - 1
  | [] => rfl
  | [_] => rfl
  | a :: b :: r => by
    show (adj (b :: r)).length + 1 = _
    rw [adj_len]
    simp
theorem row_of {d : PyData} (h : rowOk d = true) : ∃ z m, d = .tuple [.str z, m] ∧ z ∈ names := by
  cases d with
  | tuple l =>
    match l, h with
    | [a, m], h =>
      have h : inN a = true := h
      cases a with
      | str z => exact ⟨z, m, rfl, of_decide_eq_true h⟩
      | _ => cases h
    | [], h => cases h
    | [_], h => cases h
    | _ :: _ :: _ :: _, h => cases h
  | _ => cases h
theorem row_no {d : PyData} (z : (isT d && decide ((lenT d : Int) = 2)) = false) : rowOk d = false := by
  cases d with
  | tuple l =>
    match l, z with
    | [a, b], z => simp [isT, lenT] at z
    | [], _ => rfl
    | [_], _ => rfl
    | _ :: _ :: _ :: _, _ => rfl
  | _ => rfl
theorem row_in {a m : PyData} (f : flatD a = true) : inV (vd a) ((names.map PyData.str).map vd) = rowOk (.tuple [a, m]) := by
  rw [vd_strs]
  cases a with
  | str z => exact inV_str z names
  | _ => exact inV_other (fun _ e => by cases e) f names
theorem bools_of {α : Type} (f : α → Bool) (l : List α) : boolsOf (l.map fun d => PyData.bool (f d)) = some (l.map f) := by
  rw [show (l.map fun d => PyData.bool (f d)) = (l.map f).map PyData.bool by rw [List.map_map]; rfl]
  exact boolsOf_map _
theorem pure_are_lists (ds : List PyData) (c : PyData → Prop) (hl : ds.length = 1) (h : S_are_lists ds c) : p_are_lists (fin c) (startE N_are_lists ds) := by
  unfold S_are_lists at h
  split at h
  · rename_i d
    obtain ⟨hask, h⟩ := h
    refine ⟨rfl, ?_⟩
    show (if (!(isT d)) = true then _ else _)
    refine tf (fun z => ?_) (fun z => ?_)
    · have e : listsOk d = false := by cases d <;> first | rfl | simp [isT] at z
      rw [e] at h
      exact h
    · obtain ⟨l, rfl⟩ := isT_of16 (not_f z)
      have hask : (decide (l.length ≤ 1000) && l.all askRow) = true := hask
      rw [Bool.and_eq_true] at hask
      have ln := of_decide_eq_true hask.1
      have askr : ∀ d ∈ l, askRow d = true := fun d hd => List.all_eq_true.mp hask.2 d hd
      have h : c (.bool (l.all rowOk && (ascN (l.map rowIx) && l.all rowMems))) := h
      refine ⟨by simp [Pu.cellAt, startE], rfl, fun i acc => acc = (l.take i).map (fun d => .bool (rowOk d)), rfl, ?_, ?_⟩
      · rintro i d acc hd rfl
        have hlen : ((l.take i).map fun d => PyData.bool (rowOk d)).length < 100000 := by
          rw [List.length_map, List.length_take]
          omega
        have fin : ∀ b, b = rowOk d → ((l.take i).map (fun d => PyData.bool (rowOk d))) ++ [.bool b] = (l.take (i + 1)).map fun d => PyData.bool (rowOk d) := fun b e => by
          rw [take_snoc16 hd, List.map_append, e]
          rfl
        refine ⟨rfl, rfl, ?_⟩
        show (if (isT d && decide ((lenT d : Int) = 2)) = true then _ else _)
        refine tf (fun y => ?_) (fun y => ?_)
        · obtain ⟨a, m, rfl⟩ := pair_dec y
          have q := askr _ (List.mem_of_getElem? hd)
          have q : (flatD a && decide (lenT m ≠ 60)) = true := q
          rw [Bool.and_eq_true] at q
          refine ⟨q.1, rfl, rfl, hlen, fin _ ?_⟩
          exact row_in q.1
        · exact ⟨rfl, hlen, fin _ (row_no y).symm⟩
      · rintro acc rfl
        rw [List.take_length]
        refine ⟨_, bools_of rowOk l, ?_⟩
        rw [all_map16]
        show (if (!(l.all rowOk)) = true then c (.bool false) else _)
        refine tf (fun z => ?_) (fun z => ?_)
        · rw [not_t z] at h
          exact h
        · have z := not_f z
          rw [z, Bool.true_and] at h
          have rws : ∀ d ∈ l, rowOk d = true := fun d hd => List.all_eq_true.mp z d hd
          refine ⟨by simp [Pu.cellAt, startE], rfl, fun i acc => acc = (l.take i).map (fun d => .int (rowIx d : Nat)), rfl, ?_, ?_⟩
          · rintro i d acc hd rfl
            obtain ⟨nm, m, rfl, hn⟩ := row_of (rws _ (List.mem_of_getElem? hd))
            obtain ⟨g1, g2⟩ := names_ix nm hn
            refine ⟨rfl, names, nm, names.idxOf nm, rfl, rfl, g1, g2, rfl, ?_, ?_⟩
            · rw [List.length_map, List.length_take]
              omega
            · show _ = _
              rw [take_snoc16 hd, List.map_append]
              rfl
          · rintro acc rfl
            rw [List.take_length]
            -- the zip
            have ey : cutP (l.map fun d => PyData.int (rowIx d : Nat)) (some 1) none = (l.map fun d => PyData.int (rowIx d : Nat)).drop 1 := by
              cases l with
              | nil => rfl
              | cons x l =>
                simp only [cutP, HT.sIx]
                simp
                exact List.take_of_length_le (by simp)
            refine ⟨by simp [Pu.cellAt, Pu.cellSet, startE], rfl, _, _, rfl, fun i acc => acc = ((adj (l.map rowIx)).take i).map PyData.bool, rfl, ?_, ?_⟩
            · rintro i x y acc hx hy rfl
              rw [ey, List.getElem?_drop, Nat.add_comm] at hy
              rw [List.getElem?_map] at hx hy
              cases e1 : l[i]? with
              | none => rw [e1] at hx; cases hx
              | some d1 =>
                cases e2 : l[i + 1]? with
                | none => rw [e2] at hy; cases hy
                | some d2 =>
                  rw [e1] at hx
                  rw [e2] at hy
                  cases hx
                  cases hy
                  have g := adj_get (l := l.map rowIx) (i := i) (a := rowIx d1) (b := rowIx d2) (by rw [List.getElem?_map, e1]; rfl) (by rw [List.getElem?_map, e2]; rfl)
                  refine ⟨rfl, rfl, rfl, ?_, ?_⟩
                  · rw [List.length_map, List.length_take, adj_len, List.length_map]
                    omega
                  · show _ = _
                    rw [take_snoc16 g, List.map_append]
                    show _ ++ [PyData.bool (decide (((rowIx d1 : Nat) : Int) < ((rowIx d2 : Nat) : Int)))] = _ ++ [PyData.bool (decide (rowIx d1 < rowIx d2))]
                    simp
            · rintro acc rfl
              rw [ey, List.length_drop, List.length_map]
              have em : min l.length (l.length - 1) = (adj (l.map rowIx)).length := by
                rw [adj_len, List.length_map]
                omega
              rw [em, List.take_length]
              refine ⟨_, boolsOf_map _, ?_⟩
              rw [adj_all]
              show (if (!(ascN (l.map rowIx))) = true then c (.bool false) else _)
              refine tf (fun z => ?_) (fun z => ?_)
              · rw [not_t z] at h
                exact h
              · rw [not_f z, Bool.true_and] at h
                refine ⟨by simp [Pu.cellAt, Pu.cellSet, startE], rfl, fun i acc => acc = (l.take i).map (fun d => .bool (rowMems d)), rfl, ?_, ?_⟩
                · rintro i d acc hd rfl
                  have q := askr _ (List.mem_of_getElem? hd)
                  obtain ⟨nm, m, rfl, hn⟩ := row_of (rws _ (List.mem_of_getElem? hd))
                  have q : (flatD (.str nm) && decide (lenT m ≠ 60)) = true := q
                  rw [Bool.and_eq_true] at q
                  refine ⟨rfl, rfl, rfl, hn, of_decide_eq_true q.2, rfl, ?_, ?_⟩
                  · rw [List.length_map, List.length_take]
                    omega
                  · show _ = _
                    rw [take_snoc16 hd, List.map_append]
                    rfl
                · rintro acc rfl
                  rw [List.take_length]
                  refine ⟨_, bools_of rowMems l, ?_⟩
                  rw [all_map16]
                  exact h
  · exact h.elim
theorem pure_rule_fault (ds : List PyData) (c : PyData → Prop) (hl : ds.length = 1) (h : S_rule_fault ds c) : p_rule_fault (fin c) (startE N_rule_fault ds) := by
  unfold S_rule_fault at h
  split at h
  · rename_i u i a l p s t n
    obtain ⟨h1, h2, h⟩ := h
    unfold fault8 at h
    refine ⟨rfl, rfl, h1, ?_⟩
    show (if (!(unitOk u)) = true then _ else _)
    refine tf (fun z => ?_) (fun z => ?_)
    · rw [if_pos (not_t z)] at h
      exact h
    rw [if_neg (by rw [not_f z]; decide)] at h
    refine ⟨rfl, ?_⟩
    show (if (!(inR i 1 1000)) = true then _ else _)
    refine tf (fun z => ?_) (fun z => ?_)
    · rw [if_pos (not_t z)] at h
      exact h
    rw [if_neg (by rw [not_f z]; decide)] at h
    refine ⟨rfl, ?_⟩
    show (if (!(isI a)) = true then _ else _)
    refine tf (fun z => ?_) (fun z => ?_)
    · rw [if_pos (not_t z)] at h
      exact h
    rw [if_neg (by rw [not_f z]; decide)] at h
    refine ⟨rfl, h2, ?_⟩
    show (if (!(listsOk l)) = true then _ else _)
    refine tf (fun z => ?_) (fun z => ?_)
    · rw [if_pos (not_t z)] at h
      exact h
    rw [if_neg (by rw [not_f z]; decide)] at h
    refine ⟨rfl, ?_⟩
    show (if (!(placesOk p)) = true then _ else _)
    refine tf (fun z => ?_) (fun z => ?_)
    · rw [if_pos (not_t z)] at h
      exact h
    rw [if_neg (by rw [not_f z]; decide)] at h
    refine ⟨rfl, ?_⟩
    show (if (!(isN s || isI s)) = true then _ else _)
    refine tf (fun z => ?_) (fun z => ?_)
    · rw [if_pos (not_t z)] at h
      exact h
    rw [if_neg (by rw [not_f z]; decide)] at h
    refine ⟨rfl, ?_⟩
    show (if (!(isN t || isI t)) = true then _ else _)
    refine tf (fun z => ?_) (fun z => ?_)
    · rw [if_pos (not_t z)] at h
      exact h
    rw [if_neg (by rw [not_f z]; decide)] at h
    show (if (!(isN n)) = true then (if isN s = true then _ else _) else _)
    refine tf (fun z => ?_) (fun z => ?_)
    · rw [z, Bool.true_and] at h
      refine tf (fun y => ?_) (fun y => ?_)
      · rw [y] at h
        exact h
      · rw [y, Bool.false_or] at h
        refine ⟨rfl, ?_⟩
        show (if (!(inR n 1 1000000000)) = true then _ else _)
        exact tf (fun x => by rw [x, if_pos rfl] at h; exact h) (fun x => by rw [x, if_neg Bool.false_ne_true] at h; exact h)
    · rw [z, Bool.false_and, if_neg Bool.false_ne_true] at h
      exact h
  · exact h.elim
end Pr
namespace Pr
open PySem L2 Pu
def S_law_anchor : FS := fun ds k => match ds with
  | [] => ∀ i : Int, k (.int i)
  | _ => False
def S_law_members : FS := fun ds k => match ds with
  | [.str z] => z ∈ names ∧ ∀ m, memsOk z m = true → lenT m ≤ 10 → k m
  | _ => False
-- _law_anchor: ['box']
abbrev N_law_anchor : List Str := ["box"]
def p_law_anchor : PS' := (pRet (pII (fun i j => .int (i - j)) (pCallB 1 S_law_next 0 (pCons (pC (.int 41)) pNil)) (pC (.int 20))))
-- _law_members: ['box', 'name', 'row', 'k']
abbrev N_law_members : List Str := ["box", "name", "row", "k"]
def p_law_members : PS' := (pSeq (pIfS (pTst (pEqD false (pVar 1) (pC (.str (Str.ofString "weekdays"))))) (pRet (pFn fTuple (pCons (pNew (pSortSet (pCons (pNew (pLcR [3] [3] (pCons (pPlus (pC (.int 1)) (pCallB 1 S_law_next 0 (pCons (pC (.int 3)) pNil))) pNil) (pgN 3) pYes (pCallB 1 S_law_next 0 (pCons (pC (.int 6)) pNil)))) pNil))) pNil))) pNext)
      (pSeq (pIfS (pTst (pInD false (pVar 1) (pTup (pCons (pC (.str (Str.ofString "month weekdays"))) (pCons (pC (.str (Str.ofString "year weekdays"))) pNil))))) (pSeq (pAsg (pNew (pLcR [3] [3] (pCons (pPlus (pC (.int 1)) (pCallB 1 S_law_next 0 (pCons (pC (.int 3)) pNil))) pNil) (pgN 3) pYes (pTup (pCons (pCallB 1 S_law_next 0 (pCons (pC (.int 6)) pNil)) (pCons (pIx (pNew (pLst (pCons (pC (.int 1)) (pCons (pC (.int 2)) (pCons (pC (.int 3)) (pCons (pI (fun i => .int (-i)) (pC (.int 1))) (pCons (pI (fun i => .int (-i)) (pC (.int 2))) (pCons (pC (.int 5)) pNil)))))))) (pCallB 1 S_law_next 0 (pCons (pC (.int 6)) pNil))) pNil))))) (pgN 2))
      (pRet (pFn fTuple (pCons (pNew (pSortSetP (pCons (pVar 2) pNil))) pNil)))) pNext)
      (pRet (pFn fTuple (pCons (pNew (pSortSet (pCons (pNew (pLcR [3] [3] (pCons (pPlus (pC (.int 1)) (pCallB 1 S_law_next 0 (pCons (pC (.int 3)) pNil))) pNil) (pgN 3) pYes (pIx (pNew (pLst (pCons (pC (.int 1)) (pCons (pC (.int 2)) (pCons (pC (.int 3)) (pCons (pC (.int 4)) (pCons (pC (.int 6)) (pCons (pC (.int 9)) (pCons (pI (fun i => .int (-i)) (pC (.int 1))) (pCons (pI (fun i => .int (-i)) (pC (.int 2))) (pCons (pI (fun i => .int (-i)) (pC (.int 3))) pNil))))))))))) (pCallB 1 S_law_next 0 (pCons (pC (.int 9)) pNil))))) pNil))) pNil)))))

theorem pure_law_anchor (ds : List PyData) (c : PyData → Prop) (hl : ds.length = 0) (h : S_law_anchor ds c) : p_law_anchor (finB c) (.box :: startE N_law_anchor.tail ds) := by
  cases ds with
  | cons _ _ => cases hl
  | nil => exact ⟨rfl, rfl, rfl, by decide, fun v _ _ => ⟨rfl, h (v - 20)⟩⟩
theorem nodup_asc : ∀ {l : List Int}, l.Pairwise (· < ·) → l.Nodup := fun h => h.imp fun {a b} h e => by omega
/-- distinct ints, as the members of a list -/
theorem mems_ints {z : Str} {ns : List Int} (h1 : 1 ≤ ns.length) (h2 : ns.length ≤ 10) (hd : ns.Nodup) (hm : ∀ n ∈ ns, memOk z (.int n) = true) : memsOk z (.tuple (ns.map PyData.int)) = true ∧ lenT (.tuple (ns.map PyData.int)) ≤ 10 := by
  constructor
  · show (decide (1 ≤ (ns.map PyData.int).length) && (decide ((ns.map PyData.int).length ≤ 60) && ((ns.map PyData.int).all (memOk z) && disD (ns.map PyData.int)))) = true
    rw [List.length_map, decide_eq_true h1, decide_eq_true (show ns.length ≤ 60 by omega), dis_ints, decide_eq_true hd, show (ns.map PyData.int).all (memOk z) = true from List.all_eq_true.mpr fun d hd => by
      obtain ⟨n, hn, rfl⟩ := List.mem_map.mp hd
      exact hm n hn]
    rfl
  · show (ns.map PyData.int).length ≤ 10
    rw [List.length_map]
    exact h2
theorem mems_pairs {z : Str} {ks : List (Int × Int)} (h1 : 1 ≤ ks.length) (h2 : ks.length ≤ 10) (hd : ks.Nodup) (hm : ∀ k ∈ ks, memOk z (pairI k) = true) : memsOk z (.tuple (ks.map pairI)) = true ∧ lenT (.tuple (ks.map pairI)) ≤ 10 := by
  constructor
  · show (decide (1 ≤ (ks.map pairI).length) && (decide ((ks.map pairI).length ≤ 60) && ((ks.map pairI).all (memOk z) && disD (ks.map pairI)))) = true
    have em : ks.map pairI = (ks.map fun k => [k.1, k.2]).map tupD := by rw [List.map_map]; rfl
    have nd : (ks.map fun k => [k.1, k.2]).Nodup := List.pairwise_map.mpr (hd.imp fun {a b} h e => h (by
      injection e with e1 e2
      injection e2 with e2
      exact Prod.ext e1 e2))
    have dd : disD (ks.map pairI) = true := by rw [em, dis_tups, decide_eq_true nd]
    rw [List.length_map, decide_eq_true h1, decide_eq_true (show ks.length ≤ 60 by omega), dd, show (ks.map pairI).all (memOk z) = true from List.all_eq_true.mpr fun d hd => by
      obtain ⟨n, hn, rfl⟩ := List.mem_map.mp hd
      exact hm n hn]
    rfl
  · show (ks.map pairI).length ≤ 10
    rw [List.length_map]
    exact h2
theorem some_of {ns ms : List Int} (mem : ∀ k, k ∈ ms ↔ k ∈ ns) (h : 1 ≤ ns.length) : 1 ≤ ms.length := by
  cases ns with
  | nil => simp at h
  | cons n ns => exact List.length_pos_of_mem ((mem n).mpr List.mem_cons_self)
theorem some_ofP {ns ms : List (Int × Int)} (mem : ∀ k, k ∈ ms ↔ k ∈ ns) (h : 1 ≤ ns.length) : 1 ≤ ms.length := by
  cases ns with
  | nil => simp at h
  | cons n ns => exact List.length_pos_of_mem ((mem n).mpr List.mem_cons_self)
theorem mem_whole {z : Str} (hz : z ∈ names) (h0 : z ≠ wdZ) (h1 : ¬ (z = mwZ ∨ z = ywZ)) (n : Int) : memOk z (.int n) = inRn (.int n) (-2000) 2000 := by
  unfold memOk
  rw [if_neg h0, if_neg h1]
theorem inRn_of {n lo hi : Int} (h1 : lo ≤ n) (h2 : n ≤ hi) (h3 : n ≠ 0) : inRn (.int n) lo hi = true := by
  show (decide (lo ≤ n) && decide (n ≤ hi) && !decide (n = 0)) = true
  rw [decide_eq_true h1, decide_eq_true h2, decide_eq_false h3]
  rfl
theorem pure_law_members (ds : List PyData) (c : PyData → Prop) (hl : ds.length = 1) (h : S_law_members ds c) : p_law_members (finB c) (.box :: startE N_law_members.tail ds) := by
  unfold S_law_members at h
  split at h
  · rename_i z
    obtain ⟨hz, h⟩ := h
    have k0 : z = wdZ → p_law_members (finB c) [.box, .d (.str z), .no, .no] := fun e => by
      subst e
      refine ⟨(by decide +kernel : shq (.str wdZ) = true), (by decide +kernel : shq (.str wdZ) = true), ?_⟩
      refine ⟨by simp [Pu.cellAt], rfl, rfl, rfl, by decide, fun n n0 n1 => ⟨rfl, 0, 1 + n, .inl ⟨rfl, rfl⟩, ⟨by omega, by omega, by omega, by omega⟩, fun k acc => ∃ ns : List Int, acc = ns.map PyData.int ∧ ns.length = k ∧ ∀ x ∈ ns, 0 ≤ x ∧ x < 6, ⟨[], rfl, rfl, fun _ z => nomatch z⟩, ?_, ?_⟩⟩
      · rintro k acc hk ⟨ns, rfl, hn, hb⟩
        refine ⟨rfl, rfl, rfl, rfl, by decide, fun v v0 v1 => ⟨rfl, by rw [List.length_map]; omega, ns ++ [v], by rw [List.map_append]; rfl, by simp [hn], fun x hx => ?_⟩⟩
        rcases List.mem_append.mp hx with hx | hx
        · exact hb x hx
        · rw [List.mem_singleton.mp hx]
          exact ⟨v0, v1⟩
      · rintro acc ⟨ns, rfl, hn, hb⟩
        refine ⟨ns, rfl, by omega, fun bs pw mem len => ?_⟩
        obtain ⟨e1, e2⟩ := mems_ints (z := wdZ) (some_of mem (by omega)) (by omega) (nodup_asc pw) fun n hn => by
          have := hb n ((mem n).mp hn)
          show (decide (0 ≤ n) && decide (n ≤ 13)) = true
          rw [decide_eq_true this.1, decide_eq_true (show n ≤ 13 by omega)]
          rfl
        exact ⟨rfl, h _ e1 e2⟩
    have k1 : shq (.str z) = true → PyData.eqv (.str z) (.str wdZ) = false → inV (.str z) [.str mwZ, .str ywZ] = true → (∀ m, memOk z m = pairOk m) → p_law_members (finB c) [.box, .d (.str z), .no, .no] := fun e0 e1 e2 e3 => by
      refine ⟨e0, (by decide +kernel : shq (.str wdZ) = true), ?_⟩
      refine ff e1 ?_
      refine ⟨Nat.le_of_ble_eq_true rfl, rfl, rfl, ?_⟩
      refine tt e2 ?_
      refine ⟨by simp [Pu.cellAt], rfl, rfl, rfl, by decide, fun n n0 n1 => ⟨rfl, 0, 1 + n, .inl ⟨rfl, rfl⟩, ⟨by omega, by omega, by omega, by omega⟩, fun k acc => ∃ ns : List (Int × Int), acc = ns.map pairI ∧ ns.length = k ∧ ∀ x ∈ ns, pairOk (pairI x) = true, ⟨[], rfl, rfl, fun _ z => nomatch z⟩, ?_, ?_⟩⟩
      · rintro k acc hk ⟨ns, rfl, hn, hb⟩
        refine ⟨rfl, rfl, rfl, rfl, by decide, fun v v0 v1 => ⟨Nat.le_of_ble_eq_true rfl, rfl, rfl, rfl, by decide, fun u u0 u1 => ?_⟩⟩
        have fin : ∀ y : Int, -3 ≤ y → y ≤ 6 → y ≠ 0 → _ ∧ _ ∧ (∃ ns' : List (Int × Int), ns.map pairI ++ [.tuple [.int v, .int y]] = ns'.map pairI ∧ ns'.length = k + 1 ∧ ∀ x ∈ ns', pairOk (pairI x) = true) := fun y y0 y1 y2 =>
          ⟨trivial, (show (ns.map pairI).length < 100000 by rw [List.length_map]; omega), ns ++ [(v, y)], by rw [List.map_append]; rfl, by simp [hn], fun x hx => by
            rcases List.mem_append.mp hx with hx | hx
            · exact hb x hx
            · rw [List.mem_singleton.mp hx]
              show (decide (0 ≤ v) && decide (v ≤ 13) && inRn (.int y) (-400) 400) = true
              rw [decide_eq_true v0, decide_eq_true (show v ≤ 13 by omega), inRn_of (by omega) (by omega) y2]
              rfl⟩
        have k6 : u = 0 ∨ u = 1 ∨ u = 2 ∨ u = 3 ∨ u = 4 ∨ u = 5 := by omega
        rcases k6 with rfl | rfl | rfl | rfl | rfl | rfl
        · exact ⟨Nat.le_of_ble_eq_true rfl, rfl, (fin 1 (by decide) (by decide) (by decide)).2⟩
        · exact ⟨Nat.le_of_ble_eq_true rfl, rfl, (fin 2 (by decide) (by decide) (by decide)).2⟩
        · exact ⟨Nat.le_of_ble_eq_true rfl, rfl, (fin 3 (by decide) (by decide) (by decide)).2⟩
        · exact ⟨Nat.le_of_ble_eq_true rfl, rfl, (fin (-1) (by decide) (by decide) (by decide)).2⟩
        · exact ⟨Nat.le_of_ble_eq_true rfl, rfl, (fin (-2) (by decide) (by decide) (by decide)).2⟩
        · exact ⟨Nat.le_of_ble_eq_true rfl, rfl, (fin 5 (by decide) (by decide) (by decide)).2⟩
      · rintro acc ⟨ns, rfl, hn, hb⟩
        refine ⟨ns, rfl, by omega, fun ms nd mem len => ?_⟩
        obtain ⟨e1, e2⟩ := mems_pairs (z := z) (some_ofP mem (by omega)) (by omega) nd fun n hn => by
          rw [e3]
          exact hb n ((mem n).mp hn)
        exact ⟨rfl, h _ e1 e2⟩
    have k2 : shq (.str z) = true → PyData.eqv (.str z) (.str wdZ) = false → inV (.str z) [.str mwZ, .str ywZ] = false → (∀ m, memOk z m = inRn m (-2000) 2000) → p_law_members (finB c) [.box, .d (.str z), .no, .no] := fun e0 e1 e2 e3 => by
      refine ⟨e0, (by decide +kernel : shq (.str wdZ) = true), ?_⟩
      refine ff e1 ?_
      refine ⟨Nat.le_of_ble_eq_true rfl, rfl, rfl, ?_⟩
      refine ff e2 ?_
      refine ⟨by simp [Pu.cellAt], rfl, rfl, rfl, by decide, fun n n0 n1 => ⟨rfl, 0, 1 + n, .inl ⟨rfl, rfl⟩, ⟨by omega, by omega, by omega, by omega⟩, fun k acc => ∃ ns : List Int, acc = ns.map PyData.int ∧ ns.length = k ∧ ∀ x ∈ ns, -3 ≤ x ∧ x ≤ 9 ∧ x ≠ 0, ⟨[], rfl, rfl, fun _ z => nomatch z⟩, ?_, ?_⟩⟩
      · rintro k acc hk ⟨ns, rfl, hn, hb⟩
        refine ⟨rfl, Nat.le_of_ble_eq_true rfl, rfl, rfl, rfl, by decide, fun u u0 u1 => ?_⟩
        have fin : ∀ y : Int, -3 ≤ y → y ≤ 9 → y ≠ 0 → _ ∧ _ ∧ (∃ ns' : List Int, ns.map PyData.int ++ [.int y] = ns'.map PyData.int ∧ ns'.length = k + 1 ∧ ∀ x ∈ ns', -3 ≤ x ∧ x ≤ 9 ∧ x ≠ 0) := fun y y0 y1 y2 =>
          ⟨trivial, (show (ns.map PyData.int).length < 100000 by rw [List.length_map]; omega), ns ++ [y], by rw [List.map_append]; rfl, by simp [hn], fun x hx => by
            rcases List.mem_append.mp hx with hx | hx
            · exact hb x hx
            · rw [List.mem_singleton.mp hx]
              exact ⟨y0, y1, y2⟩⟩
        have k9 : u = 0 ∨ u = 1 ∨ u = 2 ∨ u = 3 ∨ u = 4 ∨ u = 5 ∨ u = 6 ∨ u = 7 ∨ u = 8 := by omega
        rcases k9 with rfl | rfl | rfl | rfl | rfl | rfl | rfl | rfl | rfl
        · exact ⟨rfl, (fin 1 (by decide) (by decide) (by decide)).2⟩
        · exact ⟨rfl, (fin 2 (by decide) (by decide) (by decide)).2⟩
        · exact ⟨rfl, (fin 3 (by decide) (by decide) (by decide)).2⟩
        · exact ⟨rfl, (fin 4 (by decide) (by decide) (by decide)).2⟩
        · exact ⟨rfl, (fin 6 (by decide) (by decide) (by decide)).2⟩
        · exact ⟨rfl, (fin 9 (by decide) (by decide) (by decide)).2⟩
        · exact ⟨rfl, (fin (-1) (by decide) (by decide) (by decide)).2⟩
        · exact ⟨rfl, (fin (-2) (by decide) (by decide) (by decide)).2⟩
        · exact ⟨rfl, (fin (-3) (by decide) (by decide) (by decide)).2⟩
      · rintro acc ⟨ns, rfl, hn, hb⟩
        refine ⟨ns, rfl, by omega, fun bs pw mem len => ?_⟩
        obtain ⟨e1, e2⟩ := mems_ints (z := z) (some_of mem (by omega)) (by omega) (nodup_asc pw) fun n hn => by
          have := hb n ((mem n).mp hn)
          rw [e3]
          exact inRn_of (by omega) (by omega) this.2.2
        exact ⟨rfl, h _ e1 e2⟩
    simp only [names, List.mem_cons, List.not_mem_nil, or_false] at hz
    rcases hz with rfl | rfl | rfl | rfl | rfl | rfl | rfl
    · exact k2 (by decide +kernel) (by decide +kernel) (by decide +kernel) fun m => by unfold memOk; rw [if_neg (by decide +kernel), if_neg (by decide +kernel)]
    · exact k2 (by decide +kernel) (by decide +kernel) (by decide +kernel) fun m => by unfold memOk; rw [if_neg (by decide +kernel), if_neg (by decide +kernel)]
    · exact k2 (by decide +kernel) (by decide +kernel) (by decide +kernel) fun m => by unfold memOk; rw [if_neg (by decide +kernel), if_neg (by decide +kernel)]
    · exact k0 rfl
    · exact k1 (by decide +kernel) (by decide +kernel) (by decide +kernel) fun m => by unfold memOk; rw [if_neg (by decide +kernel), if_pos (by decide +kernel)]
    · exact k1 (by decide +kernel) (by decide +kernel) (by decide +kernel) fun m => by unfold memOk; rw [if_neg (by decide +kernel), if_pos (by decide +kernel)]
    · exact k2 (by decide +kernel) (by decide +kernel) (by decide +kernel) fun m => by unfold memOk; rw [if_neg (by decide +kernel), if_neg (by decide +kernel)]
  · exact h.elim
end Pr
namespace Pr
open PySem L2 Pu
/-- a rule with nothing wrong -/
structure Good (u i a l p s t n : PyData) : Prop where
  gu : unitOk u = true
  gi : inR i 1 1000 = true
  ga : isI a = true
  gl : listsOk l = true
  ask : askL l = true
  gp : placesOk p = true
  gs : (isN s || isI s) = true
  gt : (isN t || isI t) = true
  gn : (isN n || (isI s && inR n 1 1000000000)) = true
def S_law_rule : FS := fun ds k => match ds with
  | [] => ∀ u i a l p s t n, Good u i a l p s t n → k (.tuple [u, i, a, l, p, s, t, n])
  | _ => False
-- _law_rule: ['box', 'unit', 'lists', 'name', 'places', 'since', 'until', 'number', 'k']
abbrev N_law_rule : List Str := ["box", "unit", "lists", "name", "places", "since", "until", "number", "k"]
def p_law_rule : PS' := (pSeq (pAsg (pIx (pNew (pLst (pCons (pC (.str (Str.ofString "day"))) (pCons (pC (.str (Str.ofString "week"))) (pCons (pC (.str (Str.ofString "month"))) (pCons (pC (.str (Str.ofString "year"))) pNil)))))) (pCallB 1 S_law_next 0 (pCons (pC (.int 4)) pNil))) (pgN 1))
      (pSeq (pAsgO (pLst pNil) 2)
      (pSeq (pFor (pLO (pNew (pLst (pCons (pC (.str (Str.ofString "months"))) (pCons (pC (.str (Str.ofString "days"))) (pCons (pC (.str (Str.ofString "year days"))) (pCons (pC (.str (Str.ofString "weekdays"))) (pCons (pC (.str (Str.ofString "month weekdays"))) (pCons (pC (.str (Str.ofString "year weekdays"))) (pCons (pC (.str (Str.ofString "weeks"))) pNil)))))))))) (pgN 3) (pIfS (pTst (pEqD false (pCallB 1 S_law_next 0 (pCons (pC (.int 4)) pNil)) (pC (.int 0)))) (pApp 2 (pTup (pCons (pVar 3) (pCons (pCallB 1 S_law_members 0 (pCons (pVar 3) pNil)) pNil)))) pNext))
      (pSeq (pAsg (pTup pNil) (pgN 4))
      (pSeq (pIfS (pTst (pEqD false (pCallB 1 S_law_next 0 (pCons (pC (.int 3)) pNil)) (pC (.int 0)))) (pAsg (pFn fTuple (pCons (pNew (pSortSet (pCons (pNew (pLcR [8] [8] (pCons (pPlus (pC (.int 1)) (pCallB 1 S_law_next 0 (pCons (pC (.int 2)) pNil))) pNil) (pgN 8) pYes (pIx (pNew (pLst (pCons (pC (.int 1)) (pCons (pC (.int 2)) (pCons (pI (fun i => .int (-i)) (pC (.int 1))) (pCons (pI (fun i => .int (-i)) (pC (.int 2))) (pCons (pC (.int 3)) pNil))))))) (pCallB 1 S_law_next 0 (pCons (pC (.int 5)) pNil))))) pNil))) pNil)) (pgN 4)) pNext)
      (pSeq (pAsg (pC .none) (pgN 5))
      (pSeq (pAsg (pC .none) (pgN 6))
      (pSeq (pAsg (pC .none) (pgN 7))
      (pSeq (pIfS (pTst (pEqD false (pCallB 1 S_law_next 0 (pCons (pC (.int 2)) pNil)) (pC (.int 0)))) (pSeq (pAsg (pCallB 0 S_law_anchor 0 pNil) (pgN 5))
      (pIfS (pTst (pEqD false (pCallB 1 S_law_next 0 (pCons (pC (.int 3)) pNil)) (pC (.int 0)))) (pAsg (pPlus (pC (.int 1)) (pCallB 1 S_law_next 0 (pCons (pC (.int 12)) pNil))) (pgN 7)) pNext)) pNext)
      (pSeq (pIfS (pTst (pEqD false (pCallB 1 S_law_next 0 (pCons (pC (.int 3)) pNil)) (pC (.int 0)))) (pAsg (pPlus (pCallB 0 S_law_anchor 0 pNil) (pC (.int 20))) (pgN 6)) pNext)
      (pRet (pTup (pCons (pVar 1) (pCons (pPlus (pC (.int 1)) (pCallB 1 S_law_next 0 (pCons (pC (.int 4)) pNil))) (pCons (pCallB 0 S_law_anchor 0 pNil) (pCons (pTupO 2) (pCons (pVar 4) (pCons (pVar 5) (pCons (pVar 6) (pCons (pVar 7) pNil))))))))))))))))))))
def pr3 : PS' := (pSeq (pAsg (pTup pNil) (pgN 4))
      (pSeq (pIfS (pTst (pEqD false (pCallB 1 S_law_next 0 (pCons (pC (.int 3)) pNil)) (pC (.int 0)))) (pAsg (pFn fTuple (pCons (pNew (pSortSet (pCons (pNew (pLcR [8] [8] (pCons (pPlus (pC (.int 1)) (pCallB 1 S_law_next 0 (pCons (pC (.int 2)) pNil))) pNil) (pgN 8) pYes (pIx (pNew (pLst (pCons (pC (.int 1)) (pCons (pC (.int 2)) (pCons (pI (fun i => .int (-i)) (pC (.int 1))) (pCons (pI (fun i => .int (-i)) (pC (.int 2))) (pCons (pC (.int 3)) pNil))))))) (pCallB 1 S_law_next 0 (pCons (pC (.int 5)) pNil))))) pNil))) pNil)) (pgN 4)) pNext)
      (pSeq (pAsg (pC .none) (pgN 5))
      (pSeq (pAsg (pC .none) (pgN 6))
      (pSeq (pAsg (pC .none) (pgN 7))
      (pSeq (pIfS (pTst (pEqD false (pCallB 1 S_law_next 0 (pCons (pC (.int 2)) pNil)) (pC (.int 0)))) (pSeq (pAsg (pCallB 0 S_law_anchor 0 pNil) (pgN 5))
      (pIfS (pTst (pEqD false (pCallB 1 S_law_next 0 (pCons (pC (.int 3)) pNil)) (pC (.int 0)))) (pAsg (pPlus (pC (.int 1)) (pCallB 1 S_law_next 0 (pCons (pC (.int 12)) pNil))) (pgN 7)) pNext)) pNext)
      (pSeq (pIfS (pTst (pEqD false (pCallB 1 S_law_next 0 (pCons (pC (.int 3)) pNil)) (pC (.int 0)))) (pAsg (pPlus (pCallB 0 S_law_anchor 0 pNil) (pC (.int 20))) (pgN 6)) pNext)
      (pRet (pTup (pCons (pVar 1) (pCons (pPlus (pC (.int 1)) (pCallB 1 S_law_next 0 (pCons (pC (.int 4)) pNil))) (pCons (pCallB 0 S_law_anchor 0 pNil) (pCons (pTupO 2) (pCons (pVar 4) (pCons (pVar 5) (pCons (pVar 6) (pCons (pVar 7) pNil)))))))))))))))))
def pr5 : PS' := (pSeq (pAsg (pC .none) (pgN 5))
      (pSeq (pAsg (pC .none) (pgN 6))
      (pSeq (pAsg (pC .none) (pgN 7))
      (pSeq (pIfS (pTst (pEqD false (pCallB 1 S_law_next 0 (pCons (pC (.int 2)) pNil)) (pC (.int 0)))) (pSeq (pAsg (pCallB 0 S_law_anchor 0 pNil) (pgN 5))
      (pIfS (pTst (pEqD false (pCallB 1 S_law_next 0 (pCons (pC (.int 3)) pNil)) (pC (.int 0)))) (pAsg (pPlus (pC (.int 1)) (pCallB 1 S_law_next 0 (pCons (pC (.int 12)) pNil))) (pgN 7)) pNext)) pNext)
      (pSeq (pIfS (pTst (pEqD false (pCallB 1 S_law_next 0 (pCons (pC (.int 3)) pNil)) (pC (.int 0)))) (pAsg (pPlus (pCallB 0 S_law_anchor 0 pNil) (pC (.int 20))) (pgN 6)) pNext)
      (pRet (pTup (pCons (pVar 1) (pCons (pPlus (pC (.int 1)) (pCallB 1 S_law_next 0 (pCons (pC (.int 4)) pNil))) (pCons (pCallB 0 S_law_anchor 0 pNil) (pCons (pTupO 2) (pCons (pVar 4) (pCons (pVar 5) (pCons (pVar 6) (pCons (pVar 7) pNil)))))))))))))))
def pr8 : PS' := (pSeq (pIfS (pTst (pEqD false (pCallB 1 S_law_next 0 (pCons (pC (.int 2)) pNil)) (pC (.int 0)))) (pSeq (pAsg (pCallB 0 S_law_anchor 0 pNil) (pgN 5))
      (pIfS (pTst (pEqD false (pCallB 1 S_law_next 0 (pCons (pC (.int 3)) pNil)) (pC (.int 0)))) (pAsg (pPlus (pC (.int 1)) (pCallB 1 S_law_next 0 (pCons (pC (.int 12)) pNil))) (pgN 7)) pNext)) pNext)
      (pSeq (pIfS (pTst (pEqD false (pCallB 1 S_law_next 0 (pCons (pC (.int 3)) pNil)) (pC (.int 0)))) (pAsg (pPlus (pCallB 0 S_law_anchor 0 pNil) (pC (.int 20))) (pgN 6)) pNext)
      (pRet (pTup (pCons (pVar 1) (pCons (pPlus (pC (.int 1)) (pCallB 1 S_law_next 0 (pCons (pC (.int 4)) pNil))) (pCons (pCallB 0 S_law_anchor 0 pNil) (pCons (pTupO 2) (pCons (pVar 4) (pCons (pVar 5) (pCons (pVar 6) (pCons (pVar 7) pNil))))))))))))
def pr9 : PS' := (pSeq (pIfS (pTst (pEqD false (pCallB 1 S_law_next 0 (pCons (pC (.int 3)) pNil)) (pC (.int 0)))) (pAsg (pPlus (pCallB 0 S_law_anchor 0 pNil) (pC (.int 20))) (pgN 6)) pNext)
      (pRet (pTup (pCons (pVar 1) (pCons (pPlus (pC (.int 1)) (pCallB 1 S_law_next 0 (pCons (pC (.int 4)) pNil))) (pCons (pCallB 0 S_law_anchor 0 pNil) (pCons (pTupO 2) (pCons (pVar 4) (pCons (pVar 5) (pCons (pVar 6) (pCons (pVar 7) pNil)))))))))))
def pr10 : PS' := (pRet (pTup (pCons (pVar 1) (pCons (pPlus (pC (.int 1)) (pCallB 1 S_law_next 0 (pCons (pC (.int 4)) pNil))) (pCons (pCallB 0 S_law_anchor 0 pNil) (pCons (pTupO 2) (pCons (pVar 4) (pCons (pVar 5) (pCons (pVar 6) (pCons (pVar 7) pNil))))))))))
def pr1 : PS' := (pSeq (pAsgO (pLst pNil) 2)
      (pSeq (pFor (pLO (pNew (pLst (pCons (pC (.str (Str.ofString "months"))) (pCons (pC (.str (Str.ofString "days"))) (pCons (pC (.str (Str.ofString "year days"))) (pCons (pC (.str (Str.ofString "weekdays"))) (pCons (pC (.str (Str.ofString "month weekdays"))) (pCons (pC (.str (Str.ofString "year weekdays"))) (pCons (pC (.str (Str.ofString "weeks"))) pNil)))))))))) (pgN 3) (pIfS (pTst (pEqD false (pCallB 1 S_law_next 0 (pCons (pC (.int 4)) pNil)) (pC (.int 0)))) (pApp 2 (pTup (pCons (pVar 3) (pCons (pCallB 1 S_law_members 0 (pCons (pVar 3) pNil)) pNil)))) pNext))
      (pSeq (pAsg (pTup pNil) (pgN 4))
      (pSeq (pIfS (pTst (pEqD false (pCallB 1 S_law_next 0 (pCons (pC (.int 3)) pNil)) (pC (.int 0)))) (pAsg (pFn fTuple (pCons (pNew (pSortSet (pCons (pNew (pLcR [8] [8] (pCons (pPlus (pC (.int 1)) (pCallB 1 S_law_next 0 (pCons (pC (.int 2)) pNil))) pNil) (pgN 8) pYes (pIx (pNew (pLst (pCons (pC (.int 1)) (pCons (pC (.int 2)) (pCons (pI (fun i => .int (-i)) (pC (.int 1))) (pCons (pI (fun i => .int (-i)) (pC (.int 2))) (pCons (pC (.int 3)) pNil))))))) (pCallB 1 S_law_next 0 (pCons (pC (.int 5)) pNil))))) pNil))) pNil)) (pgN 4)) pNext)
      (pSeq (pAsg (pC .none) (pgN 5))
      (pSeq (pAsg (pC .none) (pgN 6))
      (pSeq (pAsg (pC .none) (pgN 7))
      (pSeq (pIfS (pTst (pEqD false (pCallB 1 S_law_next 0 (pCons (pC (.int 2)) pNil)) (pC (.int 0)))) (pSeq (pAsg (pCallB 0 S_law_anchor 0 pNil) (pgN 5))
      (pIfS (pTst (pEqD false (pCallB 1 S_law_next 0 (pCons (pC (.int 3)) pNil)) (pC (.int 0)))) (pAsg (pPlus (pC (.int 1)) (pCallB 1 S_law_next 0 (pCons (pC (.int 12)) pNil))) (pgN 7)) pNext)) pNext)
      (pSeq (pIfS (pTst (pEqD false (pCallB 1 S_law_next 0 (pCons (pC (.int 3)) pNil)) (pC (.int 0)))) (pAsg (pPlus (pCallB 0 S_law_anchor 0 pNil) (pC (.int 20))) (pgN 6)) pNext)
      (pRet (pTup (pCons (pVar 1) (pCons (pPlus (pC (.int 1)) (pCallB 1 S_law_next 0 (pCons (pC (.int 4)) pNil))) (pCons (pCallB 0 S_law_anchor 0 pNil) (pCons (pTupO 2) (pCons (pVar 4) (pCons (pVar 5) (pCons (pVar 6) (pCons (pVar 7) pNil)))))))))))))))))))

/-- the lists so far -/
structure RowsL (i : Nat) (xs : List PyData) : Prop where
  len : xs.length ≤ i
  r : xs.all rowOk = true
  asc : ascN (xs.map rowIx) = true
  lt : ∀ x ∈ xs, rowIx x < i
  m : xs.all rowMems = true
  ask : xs.all askRow = true
theorem asc_snoc : ∀ {l : List Nat} {n : Nat}, ascN l = true → (∀ x ∈ l, x < n) → ascN (l ++ [n]) = true
  | [], n, _, _ => rfl
  | [a], n, _, h => by
    show (decide (a < n) && true) = true
    rw [decide_eq_true (h a List.mem_cons_self)]
    rfl
  | a :: b :: r, n, h1, h2 => by
    have h1 : (decide (a < b) && ascN (b :: r)) = true := h1
    rw [Bool.and_eq_true] at h1
    show (decide (a < b) && ascN ((b :: r) ++ [n])) = true
    rw [h1.1, asc_snoc h1.2 fun x hx => h2 x (List.mem_cons_of_mem _ hx)]
    rfl
theorem RowsL.zero : RowsL 0 [] := ⟨Nat.le_refl _, rfl, rfl, (fun _ z => nomatch z), rfl, rfl⟩
theorem RowsL.up {i : Nat} {xs : List PyData} (h : RowsL i xs) : RowsL (i + 1) xs := ⟨by have := h.len; omega, h.r, h.asc, fun x hx => by have := h.lt x hx; omega, h.m, h.ask⟩
theorem RowsL.add {i : Nat} {xs : List PyData} {z : Str} {m : PyData} (h : RowsL i xs) (hz : z ∈ names) (ix : names.idxOf z = i) (hm : memsOk z m = true) (lm : lenT m ≤ 10) : RowsL (i + 1) (xs ++ [.tuple [.str z, m]]) where
  len := by rw [List.length_append]; have := h.len; simp; exact this
  r := by
    rw [List.all_append, h.r]
    show (true && (decide (z ∈ names) && true)) = true
    rw [decide_eq_true hz]
    rfl
  asc := by
    rw [List.map_append]
    refine asc_snoc h.asc fun x hx => ?_
    obtain ⟨d, hd, rfl⟩ := List.mem_map.mp hx
    show rowIx d < names.idxOf z
    rw [ix]
    exact h.lt d hd
  lt := fun x hx => by
    rcases List.mem_append.mp hx with hx | hx
    · have := h.lt x hx; omega
    · rw [List.mem_singleton.mp hx]
      show names.idxOf z < i + 1
      omega
  m := by
    rw [List.all_append, h.m]
    show (true && (memsOk z m && true)) = true
    rw [hm]
    rfl
  ask := by
    rw [List.all_append, h.ask]
    show (true && ((true && decide (lenT m ≠ 60)) && true)) = true
    rw [decide_eq_true (show lenT m ≠ 60 by omega)]
    rfl
theorem lists_of {xs : List PyData} {i : Nat} (h : RowsL i xs) (hi : i ≤ 1000) : listsOk (.tuple xs) = true ∧ askL (.tuple xs) = true := by
  constructor
  · show (xs.all rowOk && (ascN (xs.map rowIx) && xs.all rowMems)) = true
    rw [h.r, h.asc, h.m]
    rfl
  · show (decide (xs.length ≤ 1000) && xs.all askRow) = true
    rw [h.ask, decide_eq_true (show xs.length ≤ 1000 by have := h.len; omega)]
    rfl
theorem names_at : ∀ i, i < 7 → ∃ z, names[i]? = some z ∧ z ∈ names ∧ names.idxOf z = i := by
  have h : ∀ i, i < 7 → (names.getD i wdZ) ∈ names ∧ names.idxOf (names.getD i wdZ) = i := by decide +kernel
  intro i hi
  have hl : i < names.length := hi
  refine ⟨names.getD i wdZ, ?_, h i hi⟩
  rw [List.getD_eq_getElem?_getD, List.getElem?_eq_getElem hl]
  rfl
theorem places_of {ns : List Int} (h2 : ns.length ≤ 10) (hd : ns.Nodup) (hm : ∀ n ∈ ns, -400 ≤ n ∧ n ≤ 400 ∧ n ≠ 0) : placesOk (.tuple (ns.map PyData.int)) = true := by
  show (decide ((ns.map PyData.int).length ≤ 12) && ((ns.map PyData.int).all (fun d => inRn d (-400) 400) && disD (ns.map PyData.int))) = true
  rw [List.length_map, decide_eq_true (show ns.length ≤ 12 by omega), dis_ints, decide_eq_true hd, show (ns.map PyData.int).all (fun d => inRn d (-400) 400) = true from List.all_eq_true.mpr fun d hd => by
    obtain ⟨n, hn, rfl⟩ := List.mem_map.mp hd
    exact inRn_of (hm n hn).1 (hm n hn).2.1 (hm n hn).2.2]
  rfl
theorem pure_law_rule (ds : List PyData) (c : PyData → Prop) (hl : ds.length = 0) (h : S_law_rule ds c) : p_law_rule (finB c) (.box :: startE N_law_rule.tail ds) := by
  cases ds with
  | cons _ _ => cases hl
  | nil =>
    have h : ∀ u i a l p s t n, Good u i a l p s t n → c (.tuple [u, i, a, l, p, s, t, n]) := h
    have r10 : ∀ (z : Str) (xs : List PyData) (p s t n : PyData) (o3 o8 : Cell), z ∈ unitsL → RowsL 7 xs → placesOk p = true → (isN s || isI s) = true → (isN t || isI t) = true → (isN n || (isI s && inR n 1 1000000000)) = true →
        pr10 (finB c) [.box, .d (.str z), .own xs, o3, .d p, .d s, .d t, .d n, o8] := fun z xs p s t n o3 o8 hz hx hp hs ht hn => by
      refine ⟨rfl, rfl, rfl, by decide, fun v v0 v1 => ⟨rfl, rfl, rfl, fun a => ⟨Nat.le_of_ble_eq_true rfl, rfl, ?_⟩⟩⟩
      obtain ⟨l1, l2⟩ := lists_of hx (by decide)
      refine h _ _ _ _ _ _ _ _ ⟨decide_eq_true hz, ?_, rfl, l1, l2, hp, hs, ht, hn⟩
      show (decide (1 ≤ 1 + v) && decide (1 + v ≤ 1000)) = true
      rw [decide_eq_true (show 1 ≤ 1 + v by omega), decide_eq_true (show 1 + v ≤ 1000 by omega)]
      rfl
    have r9 : ∀ (z : Str) (xs : List PyData) (p s n : PyData) (o3 o8 : Cell), z ∈ unitsL → RowsL 7 xs → placesOk p = true → (isN s || isI s) = true → (isN n || (isI s && inR n 1 1000000000)) = true →
        pr9 (finB c) [.box, .d (.str z), .own xs, o3, .d p, .d s, .d .none, .d n, o8] := fun z xs p s n o3 o8 hz hx hp hs hn => by
      refine ⟨rfl, rfl, rfl, by decide, fun v v0 v1 => ⟨rfl, rfl, ?_⟩⟩
      show (if PyData.eqv (.int v) (.int 0) = true then _ else _)
      rw [eqv_int]
      refine ifd (fun y => ?_) (fun y => ?_)
      · exact ⟨rfl, rfl, rfl, fun a => r10 z xs p s _ n o3 o8 hz hx hp hs rfl hn⟩
      · exact r10 z xs p s _ n o3 o8 hz hx hp hs rfl hn
    have r8 : ∀ (z : Str) (xs : List PyData) (p : PyData) (o3 o8 : Cell), z ∈ unitsL → RowsL 7 xs → placesOk p = true →
        pr8 (finB c) [.box, .d (.str z), .own xs, o3, .d p, .d .none, .d .none, .d .none, o8] := fun z xs p o3 o8 hz hx hp => by
      refine ⟨rfl, rfl, rfl, by decide, fun v v0 v1 => ⟨rfl, rfl, ?_⟩⟩
      show (if PyData.eqv (.int v) (.int 0) = true then _ else _)
      rw [eqv_int]
      refine ifd (fun y => ?_) (fun y => ?_)
      · refine ⟨rfl, rfl, rfl, fun a => ⟨rfl, rfl, rfl, by decide, fun u u0 u1 => ⟨rfl, rfl, ?_⟩⟩⟩
        show (if PyData.eqv (.int u) (.int 0) = true then _ else _)
        rw [eqv_int]
        refine ifd (fun y => ?_) (fun y => ?_)
        · refine ⟨rfl, rfl, rfl, by decide, fun w w0 w1 => ?_⟩
          refine r9 z xs p _ _ o3 o8 hz hx hp rfl ?_
          show (false || (true && (decide (1 ≤ 1 + w) && decide (1 + w ≤ 1000000000)))) = true
          rw [decide_eq_true (show 1 ≤ 1 + w by omega), decide_eq_true (show 1 + w ≤ 1000000000 by omega)]
          rfl
        · exact r9 z xs p _ _ o3 o8 hz hx hp rfl rfl
      · exact r9 z xs p _ _ o3 o8 hz hx hp rfl rfl
    have r3 : ∀ (z : Str) (xs : List PyData) (o3 : Cell), z ∈ unitsL → RowsL 7 xs → pr3 (finB c) [.box, .d (.str z), .own xs, o3, .no, .no, .no, .no, .no] := fun z xs o3 hz hx => by
      refine ⟨Nat.le_of_ble_eq_true rfl, ?_⟩
      refine ⟨rfl, rfl, rfl, by decide, fun v v0 v1 => ⟨rfl, rfl, ?_⟩⟩
      show (if PyData.eqv (.int v) (.int 0) = true then _ else _)
      rw [eqv_int]
      refine ifd (fun y => ?_) (fun y => ?_)
      · refine ⟨by simp [Pu.cellAt, Pu.cellSet], rfl, rfl, rfl, by decide, fun n n0 n1 => ⟨rfl, 0, 1 + n, .inl ⟨rfl, rfl⟩, ⟨by omega, by omega, by omega, by omega⟩, fun k acc => ∃ ns : List Int, acc = ns.map PyData.int ∧ ns.length = k ∧ ∀ x ∈ ns, -2 ≤ x ∧ x ≤ 3 ∧ x ≠ 0, ⟨[], rfl, rfl, fun _ z => nomatch z⟩, ?_, ?_⟩⟩
        · rintro k acc hk ⟨ns, rfl, hn, hb⟩
          refine ⟨rfl, Nat.le_of_ble_eq_true rfl, rfl, rfl, rfl, by decide, fun u u0 u1 => ?_⟩
          have fin : ∀ y : Int, -2 ≤ y → y ≤ 3 → y ≠ 0 → _ ∧ _ ∧ (∃ ns' : List Int, ns.map PyData.int ++ [.int y] = ns'.map PyData.int ∧ ns'.length = k + 1 ∧ ∀ x ∈ ns', -2 ≤ x ∧ x ≤ 3 ∧ x ≠ 0) := fun y y0 y1 y2 =>
            ⟨trivial, (show (ns.map PyData.int).length < 100000 by rw [List.length_map]; omega), ns ++ [y], by rw [List.map_append]; rfl, by simp [hn], fun x hx => by
              rcases List.mem_append.mp hx with hx | hx
              · exact hb x hx
              · rw [List.mem_singleton.mp hx]
                exact ⟨y0, y1, y2⟩⟩
          have k5 : u = 0 ∨ u = 1 ∨ u = 2 ∨ u = 3 ∨ u = 4 := by omega
          rcases k5 with rfl | rfl | rfl | rfl | rfl
          · exact ⟨rfl, (fin 1 (by decide) (by decide) (by decide)).2⟩
          · exact ⟨rfl, (fin 2 (by decide) (by decide) (by decide)).2⟩
          · exact ⟨rfl, (fin (-1) (by decide) (by decide) (by decide)).2⟩
          · exact ⟨rfl, (fin (-2) (by decide) (by decide) (by decide)).2⟩
          · exact ⟨rfl, (fin 3 (by decide) (by decide) (by decide)).2⟩
        · rintro acc ⟨ns, rfl, hn, hb⟩
          refine ⟨ns, rfl, by omega, fun bs pw mem len => ?_⟩
          refine r8 z xs (.tuple (bs.map PyData.int)) o3 _ hz hx (places_of (by omega) (nodup_asc pw) fun n hn => ?_)
          have := hb n ((mem n).mp hn)
          omega
      · exact r8 z xs (.tuple []) o3 _ hz hx rfl
    refine ⟨Nat.le_of_ble_eq_true rfl, rfl, rfl, rfl, by decide, fun v v0 v1 => ?_⟩
    have go : ∀ z : Str, z ∈ unitsL → pr1 (finB c) [.box, .d (.str z), .no, .no, .no, .no, .no, .no, .no] := fun z hz => by
      refine ⟨by decide, Nat.le_of_ble_eq_true rfl, ?_⟩
      refine ⟨Nat.le_of_ble_eq_true rfl, fun i ρ => ∃ xs o3, ρ = [.box, .d (.str z), .own xs, o3, .no, .no, .no, .no, .no] ∧ RowsL i xs, ⟨[], _, rfl, RowsL.zero⟩, ?_, ?_⟩
      · rintro i d ρ hd ⟨xs, o3, rfl, hx⟩
        have hi : i < 7 := (List.getElem?_eq_some_iff.mp hd).1
        obtain ⟨nm, n1, n2, n3⟩ := names_at i hi
        have ed : d = .str nm := by
          have e : (names.map PyData.str)[i]? = some d := hd
          rw [List.getElem?_map, n1] at e
          exact (Option.some.inj e).symm
        subst ed
        refine ⟨rfl, rfl, rfl, by decide, fun v v0 v1 => ⟨rfl, rfl, ?_⟩⟩
        show (if PyData.eqv (.int v) (.int 0) = true then _ else _)
        rw [eqv_int]
        refine ifd (fun y => ?_) (fun y => ?_)
        · refine ⟨rfl, rfl, rfl, n2, fun m hm lm => ⟨Nat.le_of_ble_eq_true rfl, ?_⟩⟩
          have := hx.len
          exact ⟨by omega, _, _, rfl, hx.add n2 n3 hm lm⟩
        · exact ⟨xs, _, rfl, hx.up⟩
      · rintro ρ ⟨xs, o3, rfl, hx⟩
        exact r3 z xs o3 hz hx
    have k4 : v = 0 ∨ v = 1 ∨ v = 2 ∨ v = 3 := by omega
    rcases k4 with rfl | rfl | rfl | rfl
    · exact go (Str.ofString "day") (by decide +kernel)
    · exact go (Str.ofString "week") (by decide +kernel)
    · exact go (Str.ofString "month") (by decide +kernel)
    · exact go (Str.ofString "year") (by decide +kernel)
end Pr
namespace Pr
open PySem L2 Pu
def wl0 : List PyData := [.list [], .tuple [.tuple [txt "days"]], .tuple [.tuple [txt "days", .tuple []]], .tuple [.tuple [txt "days", .tuple [.int 0]]], .tuple [.tuple [txt "days", .tuple [.int 1, .int 1]]], .tuple [.tuple [txt "days", .tuple [.int 2001]]], .tuple [.tuple [txt "weekdays", .tuple [.int 14]]]]
def wl1 : List PyData := [.tuple [.tuple [txt "weekdays", .tuple [.int (-1)]]], .tuple [.tuple [txt "month weekdays", .tuple [.tuple [.int 1, .int 0]]]], .tuple [.tuple [txt "month weekdays", .tuple [.int 1]]], .tuple [.tuple [txt "days", .tuple [.int 1]], .tuple [txt "months", .tuple [.int 1]]]]
def wl2 : List PyData := [.tuple [.tuple [txt "days", .tuple [.int 1]], .tuple [txt "days", .tuple [.int 2]]], .tuple [.tuple [txt "hours", .tuple [.int 1]]], .tuple [.tuple [txt "year weekdays", .tuple [.tuple [.int 14, .int 1]]]], .tuple [.tuple [txt "weeks", .tuple (rgD 1 62)]]]
def wlists : List PyData := wl0 ++ wl1 ++ wl2
def wplaces : List PyData := [.list [.int 1], .tuple [.int 0], .tuple [.int 1, .int 1], .tuple [.int 401], .tuple [.bool true], .tuple (rgD 1 14), .tuple [.int (-401)]]
def wr0 : List PyData := [txt "hour", txt "", txt "Day"]
def wr1 : List PyData := [.int 0, .int 1001, .bool true]
def wr2 : List PyData := [.bool true, .tuple [.int 1]]
def wr6 : List PyData := [.bool false, .tuple [.int 2]]
def wr7 : List PyData := [.int 0, .int 1000000001, .bool true]
def badAt : Nat → PyData → Bool
  | 0, w => !unitOk w && flatD w
  | 1, w => !inR w 1 1000
  | 2, w => !isI w
  | 3, w => !listsOk w && askL w
  | 4, w => !placesOk w
  | 5, w => !(isN w || isI w)
  | 6, w => !(isN w || isI w)
  | _, w => !isN w && !inR w 1 1000000000
def S_law_spoilt16 : FS := fun ds k => match ds with
  | [.tuple T, .int p] => ∃ n : Nat, p = (n : Int) ∧ n < 8 ∧ T.length = 8 ∧ ∀ w, badAt n w = true → k (.tuple (T.set n w))
  | _ => False
-- _law_spoilt: ['box', 'rule', 'place', 'lists', 'places', 'wrong']
abbrev N_law_spoilt16 : List Str := ["box", "rule", "place", "lists", "places", "wrong"]
def p_law_spoilt16 : PS' := (pSeq (pAsg (pNew (pLst (pCons (pNew (pLst pNil)) (pCons (pTup (pCons (pTup (pCons (pC (.str (Str.ofString "days"))) pNil)) pNil)) (pCons (pTup (pCons (pTup (pCons (pC (.str (Str.ofString "days"))) (pCons (pTup pNil) pNil))) pNil)) (pCons (pTup (pCons (pTup (pCons (pC (.str (Str.ofString "days"))) (pCons (pTup (pCons (pC (.int 0)) pNil)) pNil))) pNil)) (pCons (pTup (pCons (pTup (pCons (pC (.str (Str.ofString "days"))) (pCons (pTup (pCons (pC (.int 1)) (pCons (pC (.int 1)) pNil))) pNil))) pNil)) (pCons (pTup (pCons (pTup (pCons (pC (.str (Str.ofString "days"))) (pCons (pTup (pCons (pC (.int 2001)) pNil)) pNil))) pNil)) (pCons (pTup (pCons (pTup (pCons (pC (.str (Str.ofString "weekdays"))) (pCons (pTup (pCons (pC (.int 14)) pNil)) pNil))) pNil)) pNil))))))))) (pgN 3))
      (pSeq (pAsg (pPlus (pVar 3) (pNew (pLst (pCons (pTup (pCons (pTup (pCons (pC (.str (Str.ofString "weekdays"))) (pCons (pTup (pCons (pI (fun i => .int (-i)) (pC (.int 1))) pNil)) pNil))) pNil)) (pCons (pTup (pCons (pTup (pCons (pC (.str (Str.ofString "month weekdays"))) (pCons (pTup (pCons (pTup (pCons (pC (.int 1)) (pCons (pC (.int 0)) pNil))) pNil)) pNil))) pNil)) (pCons (pTup (pCons (pTup (pCons (pC (.str (Str.ofString "month weekdays"))) (pCons (pTup (pCons (pC (.int 1)) pNil)) pNil))) pNil)) (pCons (pTup (pCons (pTup (pCons (pC (.str (Str.ofString "days"))) (pCons (pTup (pCons (pC (.int 1)) pNil)) pNil))) (pCons (pTup (pCons (pC (.str (Str.ofString "months"))) (pCons (pTup (pCons (pC (.int 1)) pNil)) pNil))) pNil))) pNil))))))) (pgN 3))
      (pSeq (pAsg (pPlus (pVar 3) (pNew (pLst (pCons (pTup (pCons (pTup (pCons (pC (.str (Str.ofString "days"))) (pCons (pTup (pCons (pC (.int 1)) pNil)) pNil))) (pCons (pTup (pCons (pC (.str (Str.ofString "days"))) (pCons (pTup (pCons (pC (.int 2)) pNil)) pNil))) pNil))) (pCons (pTup (pCons (pTup (pCons (pC (.str (Str.ofString "hours"))) (pCons (pTup (pCons (pC (.int 1)) pNil)) pNil))) pNil)) (pCons (pTup (pCons (pTup (pCons (pC (.str (Str.ofString "year weekdays"))) (pCons (pTup (pCons (pTup (pCons (pC (.int 14)) (pCons (pC (.int 1)) pNil))) pNil)) pNil))) pNil)) (pCons (pTup (pCons (pTup (pCons (pC (.str (Str.ofString "weeks"))) (pCons (pTupRg (pC (.int 1)) (pC (.int 62))) pNil))) pNil)) pNil))))))) (pgN 3))
      (pSeq (pAsg (pNew (pLst (pCons (pNew (pLst (pCons (pC (.int 1)) pNil))) (pCons (pTup (pCons (pC (.int 0)) pNil)) (pCons (pTup (pCons (pC (.int 1)) (pCons (pC (.int 1)) pNil))) (pCons (pTup (pCons (pC (.int 401)) pNil)) (pCons (pTup (pCons (pC (.bool true)) pNil)) (pCons (pTupRg (pC (.int 1)) (pC (.int 14))) (pCons (pTup (pCons (pI (fun i => .int (-i)) (pC (.int 401))) pNil)) pNil))))))))) (pgN 4))
      (pSeq (pAsg (pIx (pNew (pLst (pCons (pNew (pLst (pCons (pC (.str (Str.ofString "hour"))) (pCons (pC (.str (Str.ofString ""))) (pCons (pC (.str (Str.ofString "Day"))) pNil))))) (pCons (pNew (pLst (pCons (pC (.int 0)) (pCons (pC (.int 1001)) (pCons (pC (.bool true)) pNil))))) (pCons (pNew (pLst (pCons (pC (.bool true)) (pCons (pTup (pCons (pC (.int 1)) pNil)) pNil)))) (pCons (pVar 3) (pCons (pVar 4) (pCons (pNew (pLst (pCons (pC (.bool true)) (pCons (pTup (pCons (pC (.int 1)) pNil)) pNil)))) (pCons (pNew (pLst (pCons (pC (.bool false)) (pCons (pTup (pCons (pC (.int 2)) pNil)) pNil)))) (pCons (pNew (pLst (pCons (pC (.int 0)) (pCons (pPlus (pIIc CPow (fun i j => .int (i ^ j.toNat)) (pC (.int 10)) (pC (.int 9))) (pC (.int 1))) (pCons (pC (.bool true)) pNil))))) pNil)))))))))) (pVar 2)) (pgN 5))
      (pRet (pPlus (pPlus (pCut (pVar 1) pNoP (pPart (pVar 2))) (pTup (pCons (pIx (pVar 5) (pCallB 1 S_law_next 0 (pCons (pFn fLen (pCons (pVar 5) pNil)) pNil))) pNil))) (pCut (pVar 1) (pPart (pPlus (pVar 2) (pC (.int 1)))) pNoP))))))))
def ps4 : PS' := (pSeq (pAsg (pIx (pNew (pLst (pCons (pNew (pLst (pCons (pC (.str (Str.ofString "hour"))) (pCons (pC (.str (Str.ofString ""))) (pCons (pC (.str (Str.ofString "Day"))) pNil))))) (pCons (pNew (pLst (pCons (pC (.int 0)) (pCons (pC (.int 1001)) (pCons (pC (.bool true)) pNil))))) (pCons (pNew (pLst (pCons (pC (.bool true)) (pCons (pTup (pCons (pC (.int 1)) pNil)) pNil)))) (pCons (pVar 3) (pCons (pVar 4) (pCons (pNew (pLst (pCons (pC (.bool true)) (pCons (pTup (pCons (pC (.int 1)) pNil)) pNil)))) (pCons (pNew (pLst (pCons (pC (.bool false)) (pCons (pTup (pCons (pC (.int 2)) pNil)) pNil)))) (pCons (pNew (pLst (pCons (pC (.int 0)) (pCons (pPlus (pIIc CPow (fun i j => .int (i ^ j.toNat)) (pC (.int 10)) (pC (.int 9))) (pC (.int 1))) (pCons (pC (.bool true)) pNil))))) pNil)))))))))) (pVar 2)) (pgN 5))
      (pRet (pPlus (pPlus (pCut (pVar 1) pNoP (pPart (pVar 2))) (pTup (pCons (pIx (pVar 5) (pCallB 1 S_law_next 0 (pCons (pFn fLen (pCons (pVar 5) pNil)) pNil))) pNil))) (pCut (pVar 1) (pPart (pPlus (pVar 2) (pC (.int 1)))) pNoP))))
def ps5 : PS' := (pRet (pPlus (pPlus (pCut (pVar 1) pNoP (pPart (pVar 2))) (pTup (pCons (pIx (pVar 5) (pCallB 1 S_law_next 0 (pCons (pFn fLen (pCons (pVar 5) pNil)) pNil))) pNil))) (pCut (pVar 1) (pPart (pPlus (pVar 2) (pC (.int 1)))) pNoP)))

theorem bad_of {n : Nat} {W : List PyData} (h : W.all (badAt n) = true) : ∀ w ∈ W, badAt n w = true := fun w hw => List.all_eq_true.mp h w hw
theorem bad0 : wr0.all (badAt 0) = true := by decide +kernel
theorem bad1 : wr1.all (badAt 1) = true := by decide +kernel
theorem bad2 : wr2.all (badAt 2) = true := by decide +kernel
theorem bad3 : wlists.all (badAt 3) = true := by decide +kernel
theorem bad4 : wplaces.all (badAt 4) = true := by decide +kernel
theorem bad5 : wr2.all (badAt 5) = true := by decide +kernel
theorem bad6 : wr6.all (badAt 6) = true := by decide +kernel
theorem bad7 : wr7.all (badAt 7) = true := by decide +kernel
theorem len8 {T : List PyData} (h : T.length = 8) : ∃ a b c d e f g i, T = [a, b, c, d, e, f, g, i] := by
  match T, h with
  | [a, b, c, d, e, f, g, i], _ => exact ⟨a, b, c, d, e, f, g, i, rfl⟩
theorem cut_set {T : List PyData} (h : T.length = 8) {n : Nat} (hn : n < 8) (w : PyData) : cutP T none (some (n : Int)) ++ [w] ++ cutP T (some ((n : Int) + 1)) none = T.set n w := by
  obtain ⟨a, b, c, d, e, f, g, i, rfl⟩ := len8 h
  have k8 : n = 0 ∨ n = 1 ∨ n = 2 ∨ n = 3 ∨ n = 4 ∨ n = 5 ∨ n = 6 ∨ n = 7 := by omega
  rcases k8 with rfl | rfl | rfl | rfl | rfl | rfl | rfl | rfl <;> rfl
theorem cutP_len16 {xs : List PyData} {lo hi : Option Int} : (cutP xs lo hi).length ≤ xs.length := by
  unfold cutP
  rw [List.length_take, List.length_drop]
  omega
theorem pure_law_spoilt16 (ds : List PyData) (c : PyData → Prop) (hl : ds.length = 2) (h : S_law_spoilt16 ds c) : p_law_spoilt16 (finB c) (.box :: startE N_law_spoilt16.tail ds) := by
  unfold S_law_spoilt16 at h
  split at h
  · rename_i T p
    obtain ⟨n, rfl, hn, hT, h⟩ := h
    -- the end
    have fin : ∀ W : List PyData, 0 < W.length → (∀ w ∈ W, badAt n w = true) → ps5 (finB c) [.box, .d (.tuple T), .d (.int n), .d (.list wlists), .d (.list wplaces), .d (.list W)] := fun W hW hk => by
      refine ⟨rfl, _, rfl, rfl, rfl, by omega, fun v v0 v1 => ?_⟩
      obtain ⟨w, hw, hm⟩ := atI_in v0 v1
      refine oSome hw ?_
      have e1 := cutP_len16 (xs := T) (lo := none) (hi := some (n : Int))
      have e2 := cutP_len16 (xs := T) (lo := some ((n : Int) + 1)) (hi := none)
      have hr := h w (hk w hm)
      rw [← cut_set hT hn w] at hr
      refine ⟨Nat.le_of_ble_eq_true rfl, ⟨by show _ + 1 ≤ _; omega, ⟨?_, rfl, hr⟩⟩⟩
      rw [List.length_append]
      show _ + 1 + _ ≤ _
      omega
    have start : (asO (atI [.list wr0, .list wr1, .list wr2, .list wlists, .list wplaces, .list wr2, .list wr6, .list wr7] (n : Int)) fun d => ps5 (finB c) [.box, .d (.tuple T), .d (.int n), .d (.list wlists), .d (.list wplaces), .d d]) → p_law_spoilt16 (finB c) [.box, .d (.tuple T), .d (.int n), .no, .no, .no] := fun h => by
      repeat refine ⟨Nat.le_of_ble_eq_true rfl, ?_⟩
      refine ⟨⟨by decide, by decide, by decide, by decide, by decide⟩, ?_⟩
      repeat refine ⟨Nat.le_of_ble_eq_true rfl, ?_⟩
      refine ⟨⟨by decide, by decide, by decide, by decide, by decide⟩, ?_⟩
      repeat refine ⟨Nat.le_of_ble_eq_true rfl, ?_⟩
      refine ⟨⟨by decide, by decide, by decide⟩, ?_⟩
      repeat refine ⟨Nat.le_of_ble_eq_true rfl, ?_⟩
      exact h
    refine start ?_
    have k8 : n = 0 ∨ n = 1 ∨ n = 2 ∨ n = 3 ∨ n = 4 ∨ n = 5 ∨ n = 6 ∨ n = 7 := by omega
    rcases k8 with rfl | rfl | rfl | rfl | rfl | rfl | rfl | rfl
    · exact fin wr0 (by decide) (bad_of bad0)
    · exact fin wr1 (by decide) (bad_of bad1)
    · exact fin wr2 (by decide) (bad_of bad2)
    · exact fin wlists (by decide) (bad_of bad3)
    · exact fin wplaces (by decide) (bad_of bad4)
    · exact fin wr2 (by decide) (bad_of bad5)
    · exact fin wr6 (by decide) (bad_of bad6)
    · exact fin wr7 (by decide) (bad_of bad7)
  · exact h.elim
end Pr
namespace Pr
open PySem L2 Pu
-- law: ['script', 'box', 'words', 'k', 'rule', 'place', 'one', 'other']
abbrev N_law : List Str := ["script", "box", "words", "k", "rule", "place", "one", "other"]
def p_law : PS' := (pSeq (pAsg (pNew (pLst (pCons (pC (.str (Str.ofString "unit"))) (pCons (pC (.str (Str.ofString "interval"))) (pCons (pC (.str (Str.ofString "anchor"))) (pCons (pC (.str (Str.ofString "lists"))) (pCons (pC (.str (Str.ofString "places"))) (pCons (pC (.str (Str.ofString "since"))) (pCons (pC (.str (Str.ofString "until"))) (pCons (pC (.str (Str.ofString "number"))) pNil)))))))))) (pgN 2))
      (pSeq (pRng (pCons (pC (.int 4)) pNil) (pgN 3) (pSeq (pAsg (pCallB 0 S_law_rule 1 pNil) (pgN 4))
      (pSeq (pIfS (pTst (pIsN true (pCall 1 S_rule_fault (pCons (pVar 4) pNil)))) (pRet (pC (.bool false))) pNext)
      (pSeq (pIfS (pTst (pEqD true (pCall 1 S_rule_fault (pCons (pPlus (pCut (pVar 4) pNoP (pPart (pC (.int 5)))) (pTup (pCons (pC .none) (pCons (pIx (pVar 4) (pC (.int 6))) (pCons (pC (.int 3)) pNil))))) pNil)) (pC (.str (Str.ofString "number"))))) (pRet (pC (.bool false))) pNext)
      (pSeq (pAsg (pCallB 1 S_law_next 1 (pCons (pC (.int 8)) pNil)) (pgN 5))
      (pSeq (pAsg (pCallB 2 S_law_spoilt16 1 (pCons (pPlus (pPlus (pCut (pVar 4) pNoP (pPart (pC (.int 5)))) (pTup (pCons (pIfE (pTst (pEqD true (pVar 5) (pC (.int 7)))) (pIx (pVar 4) (pC (.int 5))) (pC (.int 4))) pNil))) (pCut (pVar 4) (pPart (pC (.int 6))) pNoP)) (pCons (pVar 5) pNil))) (pgN 6))
      (pSeq (pAsg (pCallB 1 S_law_next 1 (pCons (pC (.int 8)) pNil)) (pgN 7))
      (pIfS (pOr (pTst (pEqD true (pCall 1 S_rule_fault (pCons (pVar 6) pNil)) (pIx (pVar 2) (pVar 5)))) (pTst (pEqD true (pCall 1 S_rule_fault (pCons (pCallB 2 S_law_spoilt16 1 (pCons (pVar 6) (pCons (pVar 7) pNil))) pNil)) (pIx (pVar 2) (pFn fMin2 (pCons (pVar 5) (pCons (pVar 7) pNil))))))) (pRet (pC (.bool false))) pNext))))))))
      (pRet (pC (.bool true)))))
def pl4 : PS' := (pSeq (pAsg (pCallB 2 S_law_spoilt16 1 (pCons (pPlus (pPlus (pCut (pVar 4) pNoP (pPart (pC (.int 5)))) (pTup (pCons (pIfE (pTst (pEqD true (pVar 5) (pC (.int 7)))) (pIx (pVar 4) (pC (.int 5))) (pC (.int 4))) pNil))) (pCut (pVar 4) (pPart (pC (.int 6))) pNoP)) (pCons (pVar 5) pNil))) (pgN 6))
      (pSeq (pAsg (pCallB 1 S_law_next 1 (pCons (pC (.int 8)) pNil)) (pgN 7))
      (pIfS (pOr (pTst (pEqD true (pCall 1 S_rule_fault (pCons (pVar 6) pNil)) (pIx (pVar 2) (pVar 5)))) (pTst (pEqD true (pCall 1 S_rule_fault (pCons (pCallB 2 S_law_spoilt16 1 (pCons (pVar 6) (pCons (pVar 7) pNil))) pNil)) (pIx (pVar 2) (pFn fMin2 (pCons (pVar 5) (pCons (pVar 7) pNil))))))) (pRet (pC (.bool false))) pNext)))
def pl5 : PS' := (pSeq (pAsg (pCallB 1 S_law_next 1 (pCons (pC (.int 8)) pNil)) (pgN 7))
      (pIfS (pOr (pTst (pEqD true (pCall 1 S_rule_fault (pCons (pVar 6) pNil)) (pIx (pVar 2) (pVar 5)))) (pTst (pEqD true (pCall 1 S_rule_fault (pCons (pCallB 2 S_law_spoilt16 1 (pCons (pVar 6) (pCons (pVar 7) pNil))) pNil)) (pIx (pVar 2) (pFn fMin2 (pCons (pVar 5) (pCons (pVar 7) pNil))))))) (pRet (pC (.bool false))) pNext))
def pl6 : PS' := (pIfS (pOr (pTst (pEqD true (pCall 1 S_rule_fault (pCons (pVar 6) pNil)) (pIx (pVar 2) (pVar 5)))) (pTst (pEqD true (pCall 1 S_rule_fault (pCons (pCallB 2 S_law_spoilt16 1 (pCons (pVar 6) (pCons (pVar 7) pNil))) pNil)) (pIx (pVar 2) (pFn fMin2 (pCons (pVar 5) (pCons (pVar 7) pNil))))))) (pRet (pC (.bool false))) pNext)

abbrev finL : PEnds := ⟨fun _ => False, fun d _ => d = .bool true, fun _ => False, fun _ => False⟩
def W8 : List PyData := [txt "unit", txt "interval", txt "anchor", txt "lists", txt "places", txt "since", txt "until", txt "number"]
def word (n : Nat) : PyData := W8.getD n .none
def faultL : List PyData → PyData
  | [u, i, a, l, p, s, t, n] => fault8 u i a l p s t n
  | _ => .none
def chk : Nat → PyData → Bool
  | 0, w => unitOk w
  | 1, w => inR w 1 1000
  | 2, w => isI w
  | 3, w => listsOk w && askL w
  | 4, w => placesOk w
  | 5, w => isN w || isI w
  | 6, w => isN w || isI w
  | _, _ => true
theorem same_txt16 (s : String) : PyData.eqv (txt s) (txt s) = true := by simp [txt, PyData.eqv]
theorem word_same : ∀ n, n < 8 → shq (word n) = true ∧ PyData.eqv (word n) (word n) = true := by decide +kernel
theorem word_at {n : Nat} (h : n < 8) : atI W8 (n : Int) = some (word n) := by
  have k8 : n = 0 ∨ n = 1 ∨ n = 2 ∨ n = 3 ∨ n = 4 ∨ n = 5 ∨ n = 6 ∨ n = 7 := by omega
  rcases k8 with rfl | rfl | rfl | rfl | rfl | rfl | rfl | rfl <;> rfl
theorem cmp_word {n : Nat} {d : PyData} {A B : Prop} (hn : n < 8) (e : d = word n) (h : B) : shq d = true ∧ shq (word n) = true ∧ (if flipB true (PyData.eqv d (word n)) = true then A else B) := by
  subst e
  obtain ⟨h1, h2⟩ := word_same n hn
  refine ⟨h1, h1, ?_⟩
  rw [h2]
  exact ff rfl h
theorem flat_unit {d : PyData} (h : unitOk d = true) : flatD d = true := by
  cases d <;> first | rfl | cases h
theorem fault_at {T : List PyData} (hT : T.length = 8) {m : Nat} (hm : m < 8) (lo : ∀ k, k < m → ∃ d, T[k]? = some d ∧ chk k d = true) (b : ∃ d, T[m]? = some d ∧ badAt m d = true) : faultL T = word m := by
  obtain ⟨u, i, a, l, p, s, t, n, rfl⟩ := len8 hT
  obtain ⟨d, hd, hb⟩ := b
  have g : ∀ k, k < m → ∀ x, [u, i, a, l, p, s, t, n][k]? = some x → chk k x = true := fun k hk x hx => by
    obtain ⟨y, hy, h⟩ := lo k hk
    rw [hx] at hy
    cases hy
    exact h
  have q0 : 0 < m → unitOk u = true := fun h => g 0 h u rfl
  have q1 : 1 < m → inR i 1 1000 = true := fun h => g 1 h i rfl
  have q2 : 2 < m → isI a = true := fun h => g 2 h a rfl
  have q3 : 3 < m → listsOk l = true := fun h => by
    have g3 : (listsOk l && askL l) = true := g 3 h l rfl
    rw [Bool.and_eq_true] at g3
    exact g3.1
  have q4 : 4 < m → placesOk p = true := fun h => g 4 h p rfl
  have q5 : 5 < m → (isN s || isI s) = true := fun h => g 5 h s rfl
  have q6 : 6 < m → (isN t || isI t) = true := fun h => g 6 h t rfl
  show fault8 u i a l p s t n = word m
  unfold fault8
  have k8 : m = 0 ∨ m = 1 ∨ m = 2 ∨ m = 3 ∨ m = 4 ∨ m = 5 ∨ m = 6 ∨ m = 7 := by omega
  have nf : ∀ {x : Bool}, x = true → ¬ x = false := fun h e => by rw [h] at e; cases e
  rcases k8 with rfl | rfl | rfl | rfl | rfl | rfl | rfl | rfl
  · cases hd
    have hb : (!unitOk u && flatD u) = true := hb
    rw [Bool.and_eq_true] at hb
    rw [if_pos (not_t hb.1)]
    rfl
  · cases hd
    rw [if_neg (nf (q0 (by omega))), if_pos (not_t hb)]
    rfl
  · cases hd
    rw [if_neg (nf (q0 (by omega))), if_neg (nf (q1 (by omega))), if_pos (not_t hb)]
    rfl
  · cases hd
    have hb : (!listsOk l && askL l) = true := hb
    rw [Bool.and_eq_true] at hb
    rw [if_neg (nf (q0 (by omega))), if_neg (nf (q1 (by omega))), if_neg (nf (q2 (by omega))), if_pos (not_t hb.1)]
    rfl
  · cases hd
    rw [if_neg (nf (q0 (by omega))), if_neg (nf (q1 (by omega))), if_neg (nf (q2 (by omega))), if_neg (nf (q3 (by omega))), if_pos (not_t hb)]
    rfl
  · cases hd
    rw [if_neg (nf (q0 (by omega))), if_neg (nf (q1 (by omega))), if_neg (nf (q2 (by omega))), if_neg (nf (q3 (by omega))), if_neg (nf (q4 (by omega))), if_pos (not_t hb)]
    rfl
  · cases hd
    rw [if_neg (nf (q0 (by omega))), if_neg (nf (q1 (by omega))), if_neg (nf (q2 (by omega))), if_neg (nf (q3 (by omega))), if_neg (nf (q4 (by omega))), if_neg (nf (q5 (by omega))), if_pos (not_t hb)]
    rfl
  · cases hd
    have hb : (!isN n && !inR n 1 1000000000) = true := hb
    rw [Bool.and_eq_true] at hb
    rw [if_neg (nf (q0 (by omega))), if_neg (nf (q1 (by omega))), if_neg (nf (q2 (by omega))), if_neg (nf (q3 (by omega))), if_neg (nf (q4 (by omega))), if_neg (nf (q5 (by omega))), if_neg (nf (q6 (by omega))), if_pos (by rw [hb.1, hb.2]; simp)]
    rfl
/-- what may be asked of a rule's members -/
def Ask (T : List PyData) : Prop := (∃ u, T[0]? = some u ∧ flatD u = true) ∧ ∃ l, T[3]? = some l ∧ askL l = true
theorem fault_call {T : List PyData} (hT : T.length = 8) (ha : Ask T) {k : PyData → Prop} (h : k (faultL T)) : S_rule_fault [.tuple T] k := by
  obtain ⟨⟨u0, e0, f0⟩, l0, e3, f3⟩ := ha
  obtain ⟨u, i, a, l, p, s, t, n, rfl⟩ := len8 hT
  cases e0
  cases e3
  exact ⟨f0, f3, h⟩
theorem ask_set {T : List PyData} (hT : T.length = 8) (ha : Ask T) {n : Nat} {w : PyData} (hw : badAt n w = true) : Ask (T.set n w) := by
  obtain ⟨⟨u0, e0, f0⟩, l0, e3, f3⟩ := ha
  constructor
  · by_cases e : n = 0
    · subst e
      have hw : (!unitOk w && flatD w) = true := hw
      rw [Bool.and_eq_true] at hw
      exact ⟨w, by rw [List.getElem?_set_self (by omega)], hw.2⟩
    · exact ⟨u0, by rw [List.getElem?_set_ne e]; exact e0, f0⟩
  · by_cases e : n = 3
    · subst e
      have hw : (!listsOk w && askL w) = true := hw
      rw [Bool.and_eq_true] at hw
      exact ⟨w, by rw [List.getElem?_set_self (by omega)], hw.2⟩
    · exact ⟨l0, by rw [List.getElem?_set_ne e]; exact e3, f3⟩
/-- the members from 0 to 6 are as they should be -/
def Ok7 (T : List PyData) : Prop := ∀ k, k < 7 → ∃ d, T[k]? = some d ∧ chk k d = true
theorem ok_one {T : List PyData} (hT : T.length = 8) (ok : Ok7 T) {n : Nat} (hn : n < 8) {w : PyData} (hw : badAt n w = true) : faultL (T.set n w) = word n := by
  refine fault_at (by rw [List.length_set]; exact hT) hn (fun k hk => ?_) ⟨w, by rw [List.getElem?_set_self (by omega)], hw⟩
  rw [List.getElem?_set_ne (by omega)]
  exact ok k (by omega)
theorem ok_two {T : List PyData} (hT : T.length = 8) (ok : Ok7 T) {n o : Nat} (hn : n < 8) (ho : o < 8) {w v : PyData} (hw : badAt n w = true) (hv : badAt o v = true) : faultL ((T.set n w).set o v) = word (min n o) := by
  have h1 : (T.set n w).length = 8 := by rw [List.length_set]; exact hT
  refine fault_at (by rw [List.length_set]; exact h1) (by omega) (fun k hk => ?_) ?_
  · rw [List.getElem?_set_ne (by omega), List.getElem?_set_ne (by omega)]
    exact ok k (by omega)
  · by_cases e : o ≤ n
    · rw [Nat.min_eq_right e]
      exact ⟨v, by rw [List.getElem?_set_self (by omega)], hv⟩
    · rw [Nat.min_eq_left (by omega)]
      exact ⟨w, by rw [List.getElem?_set_ne (by omega), List.getElem?_set_self (by omega)], hw⟩
theorem good_ok {u i a l p s t n s' : PyData} (G : Good u i a l p s t n) (hs : (isN s' || isI s') = true) : Ok7 [u, i, a, l, p, s', t, n] ∧ Ask [u, i, a, l, p, s', t, n] := by
  refine ⟨fun k hk => ?_, ⟨u, rfl, flat_unit G.gu⟩, l, rfl, G.ask⟩
  have k7 : k = 0 ∨ k = 1 ∨ k = 2 ∨ k = 3 ∨ k = 4 ∨ k = 5 ∨ k = 6 := by omega
  rcases k7 with rfl | rfl | rfl | rfl | rfl | rfl | rfl
  · exact ⟨u, rfl, G.gu⟩
  · exact ⟨i, rfl, G.gi⟩
  · exact ⟨a, rfl, G.ga⟩
  · exact ⟨l, rfl, by show (listsOk l && askL l) = true; rw [G.gl, G.ask]; rfl⟩
  · exact ⟨p, rfl, G.gp⟩
  · exact ⟨s', rfl, hs⟩
  · exact ⟨t, rfl, G.gt⟩
theorem good_none {u i a l p s t n : PyData} (G : Good u i a l p s t n) : fault8 u i a l p s t n = .none := by
  have nf : ∀ {x : Bool}, x = true → ¬ x = false := fun h e => by rw [h] at e; cases e
  unfold fault8
  rw [if_neg (nf G.gu), if_neg (nf G.gi), if_neg (nf G.ga), if_neg (nf G.gl), if_neg (nf G.gp), if_neg (nf G.gs), if_neg (nf G.gt), if_neg]
  intro e
  have gn := G.gn
  rw [Bool.and_eq_true] at e
  rw [not_t e.1, Bool.false_or, Bool.and_eq_true] at gn
  have e2 := e.2
  rw [gn.2] at e2
  cases s with
  | none => exact absurd gn.1 (by decide)
  | _ => cases e2
theorem good_number {u i a l p s t n : PyData} (G : Good u i a l p s t n) : fault8 u i a l p .none t (.int 3) = word 7 := by
  have nf : ∀ {x : Bool}, x = true → ¬ x = false := fun h e => by rw [h] at e; cases e
  unfold fault8
  rw [if_neg (nf G.gu), if_neg (nf G.gi), if_neg (nf G.ga), if_neg (nf G.gl), if_neg (nf G.gp), if_neg (nf (rfl : (isN PyData.none || isI PyData.none) = true)), if_neg (nf G.gt)]
  rfl
theorem pure_law : p_law finL [.no, .box, .no, .no, .no, .no, .no, .no] := by
  refine ⟨Nat.le_of_ble_eq_true rfl, ?_⟩
  refine ⟨0, 4, .inl ⟨rfl, rfl⟩, ⟨by decide, by decide, by decide, by decide⟩, fun _ ρ => ∃ o3 o4 o5 o6 o7 : Cell, ρ = [.no, .box, .d (.list W8), o3, o4, o5, o6, o7], ⟨_, _, _, _, _, rfl⟩, ?_, ?_⟩
  · rintro j ρ hj ⟨o3, o4, o5, o6, o7, rfl⟩
    refine ⟨rfl, rfl, rfl, fun u i a l p s t n G => ?_⟩
    refine ⟨rfl, flat_unit G.gu, G.ask, ?_⟩
    refine ff (b := flipB true (isN (fault8 u i a l p s t n))) (by rw [good_none G]; rfl) ?_
    refine ⟨Nat.le_of_ble_eq_true rfl, Nat.le_of_ble_eq_true rfl, rfl, flat_unit G.gu, G.ask, ?_⟩
    refine cmp_word (n := 7) (d := fault8 u i a l p .none t (.int 3)) (by decide) (good_number G) ?_
    refine ⟨rfl, rfl, rfl, by decide, fun v v0 v1 => ?_⟩
    obtain ⟨pn, rfl⟩ : ∃ pn : Nat, v = pn := ⟨v.toNat, by omega⟩
    have hn : pn < 8 := by omega
    -- from the second spoiling on
    have tl : ∀ T : List PyData, T.length = 8 → Ok7 T → Ask T → ∀ w, badAt pn w = true → ∀ o7,
        pl5 { finL with nx := fun ρ => ∃ o3 o4 o5 o6 o7 : Cell, ρ = [.no, .box, .d (.list W8), o3, o4, o5, o6, o7], bk := finL.nx, ct := fun ρ => ∃ o3 o4 o5 o6 o7 : Cell, ρ = [.no, .box, .d (.list W8), o3, o4, o5, o6, o7] }
          [.no, .box, .d (.list W8), .d (.int (0 + (j : Int))), .d (.tuple [u, i, a, l, p, s, t, n]), .d (.int pn), .d (.tuple (T.set pn w)), o7] := fun T hT ok ha w hw o7 => by
      have h1 : (T.set pn w).length = 8 := by rw [List.length_set]; exact hT
      have a1 := ask_set hT ha hw
      refine ⟨rfl, rfl, rfl, by decide, fun v v0 v1 => ?_⟩
      obtain ⟨on, rfl⟩ : ∃ on : Nat, v = on := ⟨v.toNat, by omega⟩
      have ho : on < 8 := by omega
      refine ⟨rfl, fault_call h1 a1 ?_⟩
      refine oSome (word_at hn) ?_
      refine cmp_word hn (ok_one hT ok hn hw) ?_
      refine ⟨rfl, rfl, rfl, on, rfl, ho, h1, fun v hv => ⟨rfl, fault_call (by rw [List.length_set]; exact h1) (ask_set h1 a1 hv) ?_⟩⟩
      have em : (if (on : Int) < (pn : Int) then (on : Int) else (pn : Int)) = ((min pn on : Nat) : Int) := by
        by_cases z : (on : Int) < (pn : Int)
        · rw [if_pos z]; omega
        · rw [if_neg z]; omega
      show asO (atI W8 (if (on : Int) < (pn : Int) then (on : Int) else (pn : Int))) _
      rw [em]
      refine oSome (word_at (by omega)) ?_
      refine cmp_word (by omega) (ok_two hT ok hn ho hw hv) ?_
      exact ⟨_, _, _, _, _, rfl⟩
    refine ⟨rfl, rfl, rfl, ?_⟩
    show (if flipB true (PyData.eqv (.int pn) (.int 7)) = true then _ else _)
    rw [eqv_int]
    show (if (!decide ((pn : Int) = 7)) = true then _ else _)
    refine tf (fun z => ?_) (fun z => ?_)
    · obtain ⟨k1, k2⟩ := good_ok (s' := s) G G.gs
      exact ⟨Nat.le_of_ble_eq_true rfl, Nat.le_of_ble_eq_true rfl, Nat.le_of_ble_eq_true rfl, rfl, rfl, pn, rfl, hn, rfl, fun w hw => tl [u, i, a, l, p, s, t, n] rfl k1 k2 w hw _⟩
    · obtain ⟨k1, k2⟩ := good_ok (s' := .int 4) G rfl
      exact ⟨Nat.le_of_ble_eq_true rfl, Nat.le_of_ble_eq_true rfl, Nat.le_of_ble_eq_true rfl, rfl, rfl, pn, rfl, hn, rfl, fun w hw => tl [u, i, a, l, p, .int 4, t, n] rfl k1 k2 w hw _⟩
  · rintro ρ ⟨o3, o4, o5, o6, o7, rfl⟩
    exact rfl
end Pr
set_option maxHeartbeats 4000000
namespace Pr
open PySem PySem.Spec PyProof.Rows L2 Pu
def topS (i : Nat) : Stmt := PySem.Challenge.pw_everydue_k16_faults_of_rules.main.body.getD i (.Pass ⟨0, 0, 0, 0⟩)
abbrev s_is_whole : Stmt := topS 4
theorem sc_is_whole : FnScope N_is_whole ["value"] (defScope s_is_whole) := ⟨rfl, rfl, rfl, by decide +kernel, rfl, by decide +kernel, by decide +kernel⟩
abbrev s_is_from_to : Stmt := topS 5
theorem sc_is_from_to : FnScope N_is_from_to ["value", "low", "high"] (defScope s_is_from_to) := ⟨rfl, rfl, rfl, by decide +kernel, rfl, by decide +kernel, by decide +kernel⟩
abbrev s_is_tuple : Stmt := topS 6
theorem sc_is_tuple : FnScope N_is_tuple ["value"] (defScope s_is_tuple) := ⟨rfl, rfl, rfl, by decide +kernel, rfl, by decide +kernel, by decide +kernel⟩
abbrev s_is_tuple_of : Stmt := topS 7
theorem sc_is_tuple_of : FnScope N_is_tuple_of ["value", "many"] (defScope s_is_tuple_of) := ⟨rfl, rfl, rfl, by decide +kernel, rfl, by decide +kernel, by decide +kernel⟩
abbrev s_is_whole_or_none : Stmt := topS 8
theorem sc_is_whole_or_none : FnScope N_is_whole_or_none ["value"] (defScope s_is_whole_or_none) := ⟨rfl, rfl, rfl, by decide +kernel, rfl, by decide +kernel, by decide +kernel⟩
abbrev s_is_unit : Stmt := topS 9
theorem sc_is_unit : FnScope N_is_unit ["value"] (defScope s_is_unit) := ⟨rfl, rfl, rfl, by decide +kernel, rfl, by decide +kernel, by decide +kernel⟩
abbrev s_is_place : Stmt := topS 10
theorem sc_is_place : FnScope N_is_place ["value"] (defScope s_is_place) := ⟨rfl, rfl, rfl, by decide +kernel, rfl, by decide +kernel, by decide +kernel⟩
abbrev s_are_places : Stmt := topS 11
theorem sc_are_places : FnScope N_are_places ["value"] (defScope s_are_places) := ⟨rfl, rfl, rfl, by decide +kernel, rfl, by decide +kernel, by decide +kernel⟩
abbrev s_rule_fault : Stmt := topS 17
theorem sc_rule_fault : FnScope N_rule_fault ["rule"] (defScope s_rule_fault) := ⟨rfl, rfl, rfl, by decide +kernel, rfl, by decide +kernel, by decide +kernel⟩
abbrev s_are_lists : Stmt := topS 18
theorem sc_are_lists : FnScope N_are_lists ["value"] (defScope s_are_lists) := ⟨rfl, rfl, rfl, by decide +kernel, rfl, by decide +kernel, by decide +kernel⟩
abbrev s_are_members : Stmt := topS 19
theorem sc_are_members : FnScope N_are_members ["name", "members"] (defScope s_are_members) := ⟨rfl, rfl, rfl, by decide +kernel, rfl, by decide +kernel, by decide +kernel⟩
abbrev s_is_member : Stmt := topS 20
theorem sc_is_member : FnScope N_is_member ["name", "member"] (defScope s_is_member) := ⟨rfl, rfl, rfl, by decide +kernel, rfl, by decide +kernel, by decide +kernel⟩
abbrev s_law_draws : Stmt := topS 22
theorem sc_law_draws : FnScope N_law_draws ["cell", "modulus", "count"] (defScope s_law_draws) := ⟨rfl, rfl, rfl, by decide +kernel, rfl, by decide +kernel, by decide +kernel⟩
abbrev s_law_box : Stmt := topS 23
abbrev N_law_box : List Str := ["script", "row", "cell"]
theorem sc_law_box : FnScope N_law_box ["script"] (defScope s_law_box) := ⟨rfl, rfl, rfl, by decide +kernel, rfl, by decide +kernel, by decide +kernel⟩
abbrev s_law_next : Stmt := topS 24
theorem sc_law_next : FnScope N_law_next ["box", "modulus"] (defScope s_law_next) := ⟨rfl, rfl, rfl, by decide +kernel, rfl, by decide +kernel, by decide +kernel⟩
abbrev s_law_anchor : Stmt := topS 25
theorem sc_law_anchor : FnScope N_law_anchor ["box"] (defScope s_law_anchor) := ⟨rfl, rfl, rfl, by decide +kernel, rfl, by decide +kernel, by decide +kernel⟩
abbrev s_law_members : Stmt := topS 26
theorem sc_law_members : FnScope N_law_members ["box", "name"] (defScope s_law_members) := ⟨rfl, rfl, rfl, by decide +kernel, rfl, by decide +kernel, by decide +kernel⟩
abbrev s_law_rule : Stmt := topS 27
theorem sc_law_rule : FnScope N_law_rule ["box"] (defScope s_law_rule) := ⟨rfl, rfl, rfl, by decide +kernel, rfl, by decide +kernel, by decide +kernel⟩
abbrev s_law_spoilt : Stmt := topS 28
theorem sc_law_spoilt : FnScope N_law_spoilt16 ["box", "rule", "place"] (defScope s_law_spoilt) := ⟨rfl, rfl, rfl, by decide +kernel, rfl, by decide +kernel, by decide +kernel⟩
abbrev s_law : Stmt := topS 29
theorem sc_law : FnScope N_law ["script"] (defScope s_law) := ⟨rfl, rfl, rfl, by decide +kernel, rfl, by decide +kernel, by decide +kernel⟩
/-- what the top has left -/
structure Tx (K : PySem.W.Frag) (mg : Str → Option Value) where
  a_is_whole : Addr
  d_is_whole : FuncData
  f_is_whole : Fun K "is_whole" "is_whole" s_is_whole a_is_whole d_is_whole
  m_is_whole : mg "is_whole" = some (.ref a_is_whole)
  b_is_whole : Binds K d_is_whole ["value"] []
  a_is_from_to : Addr
  d_is_from_to : FuncData
  f_is_from_to : Fun K "is_from_to" "is_from_to" s_is_from_to a_is_from_to d_is_from_to
  m_is_from_to : mg "is_from_to" = some (.ref a_is_from_to)
  b_is_from_to : Binds K d_is_from_to ["value", "low", "high"] []
  a_is_tuple : Addr
  d_is_tuple : FuncData
  f_is_tuple : Fun K "is_tuple" "is_tuple" s_is_tuple a_is_tuple d_is_tuple
  m_is_tuple : mg "is_tuple" = some (.ref a_is_tuple)
  b_is_tuple : Binds K d_is_tuple ["value"] []
  a_is_tuple_of : Addr
  d_is_tuple_of : FuncData
  f_is_tuple_of : Fun K "is_tuple_of" "is_tuple_of" s_is_tuple_of a_is_tuple_of d_is_tuple_of
  m_is_tuple_of : mg "is_tuple_of" = some (.ref a_is_tuple_of)
  b_is_tuple_of : Binds K d_is_tuple_of ["value", "many"] []
  a_is_whole_or_none : Addr
  d_is_whole_or_none : FuncData
  f_is_whole_or_none : Fun K "is_whole_or_none" "is_whole_or_none" s_is_whole_or_none a_is_whole_or_none d_is_whole_or_none
  m_is_whole_or_none : mg "is_whole_or_none" = some (.ref a_is_whole_or_none)
  b_is_whole_or_none : Binds K d_is_whole_or_none ["value"] []
  a_is_unit : Addr
  d_is_unit : FuncData
  f_is_unit : Fun K "is_unit" "is_unit" s_is_unit a_is_unit d_is_unit
  m_is_unit : mg "is_unit" = some (.ref a_is_unit)
  b_is_unit : Binds K d_is_unit ["value"] []
  a_is_place : Addr
  d_is_place : FuncData
  f_is_place : Fun K "is_place" "is_place" s_is_place a_is_place d_is_place
  m_is_place : mg "is_place" = some (.ref a_is_place)
  b_is_place : Binds K d_is_place ["value"] []
  a_are_places : Addr
  d_are_places : FuncData
  f_are_places : Fun K "are_places" "are_places" s_are_places a_are_places d_are_places
  m_are_places : mg "are_places" = some (.ref a_are_places)
  b_are_places : Binds K d_are_places ["value"] []
  a_rule_fault : Addr
  d_rule_fault : FuncData
  f_rule_fault : Fun K "rule_fault" "rule_fault" s_rule_fault a_rule_fault d_rule_fault
  m_rule_fault : mg "rule_fault" = some (.ref a_rule_fault)
  b_rule_fault : Binds K d_rule_fault ["rule"] []
  a_are_lists : Addr
  d_are_lists : FuncData
  f_are_lists : Fun K "_are_lists" "_are_lists" s_are_lists a_are_lists d_are_lists
  m_are_lists : mg "_are_lists" = some (.ref a_are_lists)
  b_are_lists : Binds K d_are_lists ["value"] []
  a_are_members : Addr
  d_are_members : FuncData
  f_are_members : Fun K "_are_members" "_are_members" s_are_members a_are_members d_are_members
  m_are_members : mg "_are_members" = some (.ref a_are_members)
  b_are_members : Binds K d_are_members ["name", "members"] []
  a_is_member : Addr
  d_is_member : FuncData
  f_is_member : Fun K "is_member" "is_member" s_is_member a_is_member d_is_member
  m_is_member : mg "is_member" = some (.ref a_is_member)
  b_is_member : Binds K d_is_member ["name", "member"] []
  a_law_draws : Addr
  d_law_draws : FuncData
  f_law_draws : Fun K "_law_draws" "_law_draws" s_law_draws a_law_draws d_law_draws
  m_law_draws : mg "_law_draws" = some (.ref a_law_draws)
  b_law_draws : Binds K d_law_draws ["cell", "modulus", "count"] []
  a_law_box : Addr
  d_law_box : FuncData
  f_law_box : Fun K "_law_box" "_law_box" s_law_box a_law_box d_law_box
  m_law_box : mg "_law_box" = some (.ref a_law_box)
  b_law_box : Binds K d_law_box ["script"] []
  a_law_next : Addr
  d_law_next : FuncData
  f_law_next : Fun K "_law_next" "_law_next" s_law_next a_law_next d_law_next
  m_law_next : mg "_law_next" = some (.ref a_law_next)
  b_law_next : Binds K d_law_next ["box", "modulus"] []
  a_law_anchor : Addr
  d_law_anchor : FuncData
  f_law_anchor : Fun K "_law_anchor" "_law_anchor" s_law_anchor a_law_anchor d_law_anchor
  m_law_anchor : mg "_law_anchor" = some (.ref a_law_anchor)
  b_law_anchor : Binds K d_law_anchor ["box"] []
  a_law_members : Addr
  d_law_members : FuncData
  f_law_members : Fun K "_law_members" "_law_members" s_law_members a_law_members d_law_members
  m_law_members : mg "_law_members" = some (.ref a_law_members)
  b_law_members : Binds K d_law_members ["box", "name"] []
  a_law_rule : Addr
  d_law_rule : FuncData
  f_law_rule : Fun K "_law_rule" "_law_rule" s_law_rule a_law_rule d_law_rule
  m_law_rule : mg "_law_rule" = some (.ref a_law_rule)
  b_law_rule : Binds K d_law_rule ["box"] []
  a_law_spoilt : Addr
  d_law_spoilt : FuncData
  f_law_spoilt : Fun K "_law_spoilt" "_law_spoilt" s_law_spoilt a_law_spoilt d_law_spoilt
  m_law_spoilt : mg "_law_spoilt" = some (.ref a_law_spoilt)
  b_law_spoilt : Binds K d_law_spoilt ["box", "rule", "place"] []
  a_law : Addr
  d_law : FuncData
  f_law : Fun K "law" "law" s_law a_law d_law
  m_law : mg "law" = some (.ref a_law)
  b_law : Binds K d_law ["script"] []
  all : mg "all" = none
  int : mg "int" = none
  len : mg "len" = none
  min : mg "min" = none
  range : mg "range" = none
  set : mg "set" = none
  sorted : mg "sorted" = none
  tuple : mg "tuple" = none
  type : mg "type" = none
  zip : mg "zip" = none
  v_GREATEST_INTERVAL : V
  u_GREATEST_INTERVAL : Value
  m_GREATEST_INTERVAL : mg "GREATEST_INTERVAL" = some u_GREATEST_INTERVAL
  r_GREATEST_INTERVAL : RelV v_GREATEST_INTERVAL u_GREATEST_INTERVAL
  q_GREATEST_INTERVAL : ∀ H, Dq K H v_GREATEST_INTERVAL k_GREATEST_INTERVAL
  v_GREATEST_NUMBER : V
  u_GREATEST_NUMBER : Value
  m_GREATEST_NUMBER : mg "GREATEST_NUMBER" = some u_GREATEST_NUMBER
  r_GREATEST_NUMBER : RelV v_GREATEST_NUMBER u_GREATEST_NUMBER
  q_GREATEST_NUMBER : ∀ H, Dq K H v_GREATEST_NUMBER k_GREATEST_NUMBER
  v_GREATEST_PLACE : V
  u_GREATEST_PLACE : Value
  m_GREATEST_PLACE : mg "GREATEST_PLACE" = some u_GREATEST_PLACE
  r_GREATEST_PLACE : RelV v_GREATEST_PLACE u_GREATEST_PLACE
  q_GREATEST_PLACE : ∀ H, Dq K H v_GREATEST_PLACE k_GREATEST_PLACE
  v_LIST_NAMES : V
  u_LIST_NAMES : Value
  m_LIST_NAMES : mg "LIST_NAMES" = some u_LIST_NAMES
  r_LIST_NAMES : RelV v_LIST_NAMES u_LIST_NAMES
  q_LIST_NAMES : ∀ H, Dq K H v_LIST_NAMES k_LIST_NAMES
  i_LIST_NAMES : ∃ p o, v_LIST_NAMES = .ref p ∧ K.lookup p = some o ∧ o.cls = .type "tuple" ∧ o.dict = none
  v_MOST_MEMBERS : V
  u_MOST_MEMBERS : Value
  m_MOST_MEMBERS : mg "MOST_MEMBERS" = some u_MOST_MEMBERS
  r_MOST_MEMBERS : RelV v_MOST_MEMBERS u_MOST_MEMBERS
  q_MOST_MEMBERS : ∀ H, Dq K H v_MOST_MEMBERS k_MOST_MEMBERS
  v_MOST_PLACES : V
  u_MOST_PLACES : Value
  m_MOST_PLACES : mg "MOST_PLACES" = some u_MOST_PLACES
  r_MOST_PLACES : RelV v_MOST_PLACES u_MOST_PLACES
  q_MOST_PLACES : ∀ H, Dq K H v_MOST_PLACES k_MOST_PLACES
  v_UNITS : V
  u_UNITS : Value
  m_UNITS : mg "UNITS" = some u_UNITS
  r_UNITS : RelV v_UNITS u_UNITS
  q_UNITS : ∀ H, Dq K H v_UNITS k_UNITS
section
variable {P : Program} {w : World} {K : PySem.W.Frag} {mg : Str → Option Value} {base : Heap}
theorem ok_is_whole (T : Tx K mg) : FnOk P w K mg base CX0 1 T.a_is_whole T.d_is_whole ["value"] (spP K 1 S_is_whole) := by
  refine ok_P T.f_is_whole sc_is_whole rfl fun cdv A outer s H E hr => ?_
  exact ⟨_, p_is_whole, (pss_one (ps_ret (pe_cmpR op_isT2A (pe_callTy call_typeA (by rfl) T.type (by decide +kernel) (pa_cons (pv 0) pa_nil)) (pe_bltn (v := .ty "int") (by rfl) T.int (by decide +kernel) rfl) (nomark _)))),
    (s_ret (sim_isTy (T := "int") (sim_var (i := 0)))), pure_is_whole⟩
theorem ok_is_from_to (T : Tx K mg) (G_is_whole : FnOk P w K mg base CX0 1 T.a_is_whole T.d_is_whole ["value"] (spP K 1 S_is_whole)) : FnOk P w K mg base CX0 2 T.a_is_from_to T.d_is_from_to ["value", "low", "high"] (spP K 3 S_is_from_to) := by
  refine ok_P T.f_is_from_to sc_is_from_to rfl fun cdv A outer s H E hr => ?_
  exact ⟨_, p_is_from_to, (pss_one (ps_ret (pe_and (pe_call G_is_whole (hr.mono (by decide)) (by rfl) T.m_is_whole T.f_is_whole.kp T.b_is_whole .nil pass0 (pa_cons (pv 0) pa_nil)) (pe_one (pe_chain op_le op_le (pv 1) (pv 0) (pv 2)))))),
    (s_ret (sim_andV (sim_call (sim_cons (sim_var (i := 0)) sim_nil)) (sim_chain (f := fun i j => decide (i ≤ j)) (g := fun i j => decide (i ≤ j)) (sim_var (i := 1)) (sim_var (i := 0)) (sim_var (i := 2))))), pure_is_from_to⟩
theorem ok_is_tuple (T : Tx K mg) : FnOk P w K mg base CX0 1 T.a_is_tuple T.d_is_tuple ["value"] (spP K 1 S_is_tuple) := by
  refine ok_P T.f_is_tuple sc_is_tuple rfl fun cdv A outer s H E hr => ?_
  exact ⟨_, p_is_tuple, (pss_one (ps_ret (pe_cmpR op_isT2A (pe_callTy call_typeA (by rfl) T.type (by decide +kernel) (pa_cons (pv 0) pa_nil)) (pe_bltn (v := .ty "tuple") (by rfl) T.tuple (by decide +kernel) rfl) (nomark _)))),
    (s_ret (sim_isTy (T := "tuple") (sim_var (i := 0)))), pure_is_tuple⟩
theorem ok_is_tuple_of (T : Tx K mg) (G_is_tuple : FnOk P w K mg base CX0 1 T.a_is_tuple T.d_is_tuple ["value"] (spP K 1 S_is_tuple)) : FnOk P w K mg base CX0 2 T.a_is_tuple_of T.d_is_tuple_of ["value", "many"] (spP K 2 S_is_tuple_of) := by
  refine ok_P T.f_is_tuple_of sc_is_tuple_of rfl fun cdv A outer s H E hr => ?_
  exact ⟨_, p_is_tuple_of, (pss_one (ps_ret (pe_and (pe_call G_is_tuple (hr.mono (by decide)) (by rfl) T.m_is_tuple T.f_is_tuple.kp T.b_is_tuple .nil pass0 (pa_cons (pv 0) pa_nil)) (pe_one (pe_cmpR (op_eqD (hu65 hr)) (pe_callB c_len (by rfl) T.len PySem.boot_len (pa_cons (pv 0) pa_nil)) (pv 1) (nomark _)))))),
    (s_ret (sim_andV (sim_call (sim_cons (sim_var (i := 0)) sim_nil)) (sim_eqD (sim_len (sim_cons (sim_var (i := 0)) sim_nil)) (sim_var (i := 1))))), pure_is_tuple_of⟩
theorem ok_is_whole_or_none (T : Tx K mg) (G_is_whole : FnOk P w K mg base CX0 1 T.a_is_whole T.d_is_whole ["value"] (spP K 1 S_is_whole)) : FnOk P w K mg base CX0 2 T.a_is_whole_or_none T.d_is_whole_or_none ["value"] (spP K 1 S_is_whole_or_none) := by
  refine ok_P T.f_is_whole_or_none sc_is_whole_or_none rfl fun cdv A outer s H E hr => ?_
  exact ⟨_, p_is_whole_or_none, (pss_one (ps_ret (pe_or (pe_cmpR op_isN1 (pv 0) pe_non (nomark _)) (pe_one (pe_call G_is_whole (hr.mono (by decide)) (by rfl) T.m_is_whole T.f_is_whole.kp T.b_is_whole .nil pass0 (pa_cons (pv 0) pa_nil)))))),
    (s_ret (sim_orV (sim_isN (sim_var (i := 0))) (sim_call (sim_cons (sim_var (i := 0)) sim_nil)))), pure_is_whole_or_none⟩
theorem ok_is_unit (T : Tx K mg) : FnOk P w K mg base CX0 1 T.a_is_unit T.d_is_unit ["value"] (spP K 1 S_is_unit) := by
  refine ok_P T.f_is_unit sc_is_unit rfl fun cdv A outer s H E hr => ?_
  exact ⟨_, p_is_unit, (pss_one (ps_ret (pe_cmpR op_in_seq (pv 0) (pe_glob rfl T.m_UNITS T.r_UNITS) (by rfl)))),
    (s_ret (sim_inD (sim_var (i := 0)) (sim_k T.q_UNITS))), pure_is_unit⟩
theorem ok_is_place (T : Tx K mg) (G_is_from_to : FnOk P w K mg base CX0 2 T.a_is_from_to T.d_is_from_to ["value", "low", "high"] (spP K 3 S_is_from_to)) : FnOk P w K mg base CX0 3 T.a_is_place T.d_is_place ["value"] (spP K 1 S_is_place) := by
  refine ok_P T.f_is_place sc_is_place rfl fun cdv A outer s H E hr => ?_
  exact ⟨_, p_is_place, (pss_one (ps_ret (pe_and (pe_call G_is_from_to (hr.mono (by decide)) (by rfl) T.m_is_from_to T.f_is_from_to.kp T.b_is_from_to .nil pass0 (pa_cons (pv 0) (pa_cons (pe_un un_neg (pe_glob rfl T.m_GREATEST_PLACE T.r_GREATEST_PLACE)) (pa_cons (pe_glob rfl T.m_GREATEST_PLACE T.r_GREATEST_PLACE) pa_nil)))) (pe_one (pe_cmpR (op_neD (hu65 hr)) (pv 0) pe_int (nomark _)))))),
    (s_ret (sim_andV (sim_call (sim_cons (sim_var (i := 0)) (sim_cons (sim_u (sim_k T.q_GREATEST_PLACE) fun _ => rfl) (sim_cons (sim_k T.q_GREATEST_PLACE) sim_nil)))) (sim_neD (sim_var (i := 0)) (sim_c (v := .int 0) rfl)))), pure_is_place⟩
theorem ok_are_places (T : Tx K mg) (G_is_tuple : FnOk P w K mg base CX0 1 T.a_is_tuple T.d_is_tuple ["value"] (spP K 1 S_is_tuple)) (G_is_place : FnOk P w K mg base CX0 3 T.a_is_place T.d_is_place ["value"] (spP K 1 S_is_place)) : FnOk P w K mg base CX0 4 T.a_are_places T.d_are_places ["value"] (spP K 1 S_are_places) := by
  refine ok_P T.f_are_places sc_are_places rfl fun cdv A outer s H E hr => ?_
  exact ⟨_, p_are_places, (pss_cons (ps_if (PW.pt (pw_or (pt_not (pt_val (pe_call G_is_tuple (hr.mono (by decide)) (by rfl) T.m_is_tuple T.f_is_tuple.kp T.b_is_tuple .nil pass0 (pa_cons (pv 0) pa_nil)))) (pw_or (pt_cmpR op_gt (pe_callB c_len (by rfl) T.len PySem.boot_len (pa_cons (pv 0) pa_nil)) (pe_glob rfl T.m_MOST_PLACES T.r_MOST_PLACES) (nomark _)) (pw_or1 (pt_not (pt_val (pe_callB (cr_all rfl) (by rfl) T.all (by decide +kernel) (pa_cons (pe_lc (own := [("place", 1)]) (g := gName 1) (tt := tYes) (by rfl) sc_are_places.nd (pi_tup (pv 0)) (blkOk_by (N := N_are_places) (sc := defScope s_are_places) (by decide +kernel)) (fun _ _ _ _ _ => pg_name (i := 1) sc_are_places.nd rfl (Or.inl rfl)) (fun _ _ _ _ _ => pts_nil) (fun _ _ _ _ _ => (pe_call G_is_place (hr.mono (by decide)) (by rfl) T.m_is_place T.f_is_place.kp T.b_is_place .nil pass0 (pa_cons (pv 1) pa_nil)))) pa_nil)))))))) (pss_one (ps_ret pe_bl)) pss_nil)
      (pss_one (ps_ret (pe_cmpR (op_eqD (hu65 hr)) (pe_callB c_lenW (by rfl) T.len PySem.boot_len (pa_cons (pe_callTy (c_setW rfl (hu65 hr)) (by rfl) T.set (by decide +kernel) (pa_cons (pv 0) pa_nil)) pa_nil)) (pe_callB c_len (by rfl) T.len PySem.boot_len (pa_cons (pv 0) pa_nil)) (nomark _))))),
    (s_seq (s_if (sim_or (sim_not (sim_tB (sim_call (sim_cons (sim_var (i := 0)) sim_nil)))) (sim_or (sim_tst (sim_ii (sim_len (sim_cons (sim_var (i := 0)) sim_nil)) (sim_k T.q_MOST_PLACES) fun _ _ => rfl)) (sim_not (sim_tB (sim_all (sim_cons (sim_new (sim_lcT (vs := [1]) (is := [1]) (sim_var (i := 0)) (gv_name (by simp)) t_yes (sim_call (sim_cons (sim_var (i := 1)) sim_nil)))) sim_nil)))))) (s_ret (sim_c (v := .bl false) rfl)) s_next)
      (s_ret (sim_eqD (sim_lenW (sim_cons (sim_var (i := 0)) sim_nil)) (sim_len (sim_cons (sim_var (i := 0)) sim_nil))))), pure_are_places⟩
theorem ok_rule_fault (T : Tx K mg) (G_is_unit : FnOk P w K mg base CX0 1 T.a_is_unit T.d_is_unit ["value"] (spP K 1 S_is_unit)) (G_is_from_to : FnOk P w K mg base CX0 2 T.a_is_from_to T.d_is_from_to ["value", "low", "high"] (spP K 3 S_is_from_to)) (G_is_whole : FnOk P w K mg base CX0 1 T.a_is_whole T.d_is_whole ["value"] (spP K 1 S_is_whole)) (G_are_lists : FnOk P w K mg base CX0 5 T.a_are_lists T.d_are_lists ["value"] (spP K 1 S_are_lists)) (G_are_places : FnOk P w K mg base CX0 4 T.a_are_places T.d_are_places ["value"] (spP K 1 S_are_places)) (G_is_whole_or_none : FnOk P w K mg base CX0 2 T.a_is_whole_or_none T.d_is_whole_or_none ["value"] (spP K 1 S_is_whole_or_none)) : FnOk P w K mg base CX0 6 T.a_rule_fault T.d_rule_fault ["rule"] (spP K 1 S_rule_fault) := by
  refine ok_P T.f_rule_fault sc_rule_fault rfl fun cdv A outer s H E hr => ?_
  exact ⟨_, p_rule_fault, (pss_cons (ps_asg (pv 0) (pg_tup rfl (pgs_cons (pg_name (i := 1) sc_rule_fault.nd rfl (.inl rfl)) (pgs_cons (pg_name (i := 2) sc_rule_fault.nd rfl (.inl rfl)) (pgs_cons (pg_name (i := 3) sc_rule_fault.nd rfl (.inl rfl)) (pgs_cons (pg_name (i := 4) sc_rule_fault.nd rfl (.inl rfl)) (pgs_cons (pg_name (i := 5) sc_rule_fault.nd rfl (.inl rfl)) (pgs_cons (pg_name (i := 6) sc_rule_fault.nd rfl (.inl rfl)) (pgs_cons (pg_name (i := 7) sc_rule_fault.nd rfl (.inl rfl)) (pgs_cons (pg_name (i := 8) sc_rule_fault.nd rfl (.inl rfl)) pgs_nil))))))))))
      (pss_cons (ps_if (pt_not (pt_val (pe_call G_is_unit (hr.mono (by decide)) (by rfl) T.m_is_unit T.f_is_unit.kp T.b_is_unit .nil pass0 (pa_cons (pv 1) pa_nil)))) (pss_one (ps_ret pe_str)) pss_nil)
      (pss_cons (ps_if (pt_not (pt_val (pe_call G_is_from_to (hr.mono (by decide)) (by rfl) T.m_is_from_to T.f_is_from_to.kp T.b_is_from_to .nil pass0 (pa_cons (pv 2) (pa_cons pe_int (pa_cons (pe_glob rfl T.m_GREATEST_INTERVAL T.r_GREATEST_INTERVAL) pa_nil)))))) (pss_one (ps_ret pe_str)) pss_nil)
      (pss_cons (ps_if (pt_not (pt_val (pe_call G_is_whole (hr.mono (by decide)) (by rfl) T.m_is_whole T.f_is_whole.kp T.b_is_whole .nil pass0 (pa_cons (pv 3) pa_nil)))) (pss_one (ps_ret pe_str)) pss_nil)
      (pss_cons (ps_if (pt_not (pt_val (pe_call G_are_lists (hr.mono (by decide)) (by rfl) T.m_are_lists T.f_are_lists.kp T.b_are_lists .nil pass0 (pa_cons (pv 4) pa_nil)))) (pss_one (ps_ret pe_str)) pss_nil)
      (pss_cons (ps_if (pt_not (pt_val (pe_call G_are_places (hr.mono (by decide)) (by rfl) T.m_are_places T.f_are_places.kp T.b_are_places .nil pass0 (pa_cons (pv 5) pa_nil)))) (pss_one (ps_ret pe_str)) pss_nil)
      (pss_cons (ps_if (pt_not (pt_val (pe_call G_is_whole_or_none (hr.mono (by decide)) (by rfl) T.m_is_whole_or_none T.f_is_whole_or_none.kp T.b_is_whole_or_none .nil pass0 (pa_cons (pv 6) pa_nil)))) (pss_one (ps_ret pe_str)) pss_nil)
      (pss_cons (ps_if (pt_not (pt_val (pe_call G_is_whole_or_none (hr.mono (by decide)) (by rfl) T.m_is_whole_or_none T.f_is_whole_or_none.kp T.b_is_whole_or_none .nil pass0 (pa_cons (pv 7) pa_nil)))) (pss_one (ps_ret pe_str)) pss_nil)
      (pss_cons (ps_if (PW.pt (pw_and (pt_cmpR op_notN1 (pv 8) pe_non (nomark _)) (pw_and1 (PW.pt (pw_or (pt_cmpR op_isN1 (pv 6) pe_non (nomark _)) (pw_or1 (pt_not (pt_val (pe_call G_is_from_to (hr.mono (by decide)) (by rfl) T.m_is_from_to T.f_is_from_to.kp T.b_is_from_to .nil pass0 (pa_cons (pv 8) (pa_cons pe_int (pa_cons (pe_glob rfl T.m_GREATEST_NUMBER T.r_GREATEST_NUMBER) pa_nil)))))))))))) (pss_one (ps_ret pe_str)) pss_nil)
      (pss_one (ps_ret pe_non))))))))))),
    (s_seq (s_asg (sim_var (i := 0)) (g_tup (gs_cons (i := 1) (gs_cons (i := 2) (gs_cons (i := 3) (gs_cons (i := 4) (gs_cons (i := 5) (gs_cons (i := 6) (gs_cons (i := 7) (gs_cons (i := 8) gs_nil)))))))) rfl))
      (s_seq (s_if (sim_not (sim_tB (sim_call (sim_cons (sim_var (i := 1)) sim_nil)))) (s_ret (sim_c (v := .str (Str.ofString "unit")) rfl)) s_next)
      (s_seq (s_if (sim_not (sim_tB (sim_call (sim_cons (sim_var (i := 2)) (sim_cons (sim_c (v := .int 1) rfl) (sim_cons (sim_k T.q_GREATEST_INTERVAL) sim_nil)))))) (s_ret (sim_c (v := .str (Str.ofString "interval")) rfl)) s_next)
      (s_seq (s_if (sim_not (sim_tB (sim_call (sim_cons (sim_var (i := 3)) sim_nil)))) (s_ret (sim_c (v := .str (Str.ofString "anchor")) rfl)) s_next)
      (s_seq (s_if (sim_not (sim_tB (sim_call (sim_cons (sim_var (i := 4)) sim_nil)))) (s_ret (sim_c (v := .str (Str.ofString "lists")) rfl)) s_next)
      (s_seq (s_if (sim_not (sim_tB (sim_call (sim_cons (sim_var (i := 5)) sim_nil)))) (s_ret (sim_c (v := .str (Str.ofString "places")) rfl)) s_next)
      (s_seq (s_if (sim_not (sim_tB (sim_call (sim_cons (sim_var (i := 6)) sim_nil)))) (s_ret (sim_c (v := .str (Str.ofString "since")) rfl)) s_next)
      (s_seq (s_if (sim_not (sim_tB (sim_call (sim_cons (sim_var (i := 7)) sim_nil)))) (s_ret (sim_c (v := .str (Str.ofString "until")) rfl)) s_next)
      (s_seq (s_if (sim_and (sim_tst (sim_notN (sim_var (i := 8)))) (sim_or (sim_tst (sim_isN (sim_var (i := 6)))) (sim_not (sim_tB (sim_call (sim_cons (sim_var (i := 8)) (sim_cons (sim_c (v := .int 1) rfl) (sim_cons (sim_k T.q_GREATEST_NUMBER) sim_nil)))))))) (s_ret (sim_c (v := .str (Str.ofString "number")) rfl)) s_next)
      (s_ret (sim_c (v := .non) rfl))))))))))), pure_rule_fault⟩
theorem ok_are_lists (T : Tx K mg) (G_is_tuple : FnOk P w K mg base CX0 1 T.a_is_tuple T.d_is_tuple ["value"] (spP K 1 S_is_tuple)) (G_are_members : FnOk P w K mg base CX0 4 T.a_are_members T.d_are_members ["name", "members"] (spP K 2 S_are_members)) (G_is_tuple_of : FnOk P w K mg base CX0 2 T.a_is_tuple_of T.d_is_tuple_of ["value", "many"] (spP K 2 S_is_tuple_of)) : FnOk P w K mg base CX0 5 T.a_are_lists T.d_are_lists ["value"] (spP K 1 S_are_lists) := by
  refine ok_P T.f_are_lists sc_are_lists rfl fun cdv A outer s H E hr => ?_
  exact ⟨_, p_are_lists, (pss_cons (ps_if (PW.pt (pw_or (pt_not (pt_val (pe_call G_is_tuple (hr.mono (by decide)) (by rfl) T.m_is_tuple T.f_is_tuple.kp T.b_is_tuple .nil pass0 (pa_cons (pv 0) pa_nil)))) (pw_or1 (pt_not (pt_val (pe_callB (cr_all rfl) (by rfl) T.all (by decide +kernel) (pa_cons (pe_lc (own := [("row", 2)]) (g := gName 2) (tt := tYes) (by rfl) sc_are_lists.nd (pi_tup (pv 0)) (blkOk_by (N := N_are_lists) (sc := defScope s_are_lists) (by decide +kernel)) (fun _ _ _ _ _ => pg_name (i := 2) sc_are_lists.nd rfl (Or.inl rfl)) (fun _ _ _ _ _ => pts_nil) (fun _ _ _ _ _ => (pe_and (pe_call G_is_tuple_of (hr.mono (by decide)) (by rfl) T.m_is_tuple_of T.f_is_tuple_of.kp T.b_is_tuple_of .nil pass0 (pa_cons (pv 2) (pa_cons pe_int pa_nil))) (pe_one (pe_cmpR op_in_seq (pe_ix ix_seq (pv 2) pe_int (fun _ _ => rfl)) (pe_glob rfl T.m_LIST_NAMES T.r_LIST_NAMES) (by rfl)))))) pa_nil))))))) (pss_one (ps_ret pe_bl)) pss_nil)
      (pss_cons (ps_setLc (i := 1) (own := [("row", 2)]) (g := gName 2) (tt := tYes) (by rfl) sc_are_lists.nd rfl rfl (sw_true rfl rfl rfl (by decide +kernel)) (pi_tup (pv 0)) (blkOk_by (N := N_are_lists) (sc := defScope s_are_lists) (by decide +kernel)) (fun _ _ _ _ _ => pg_name (i := 2) sc_are_lists.nd rfl (Or.inl rfl)) (fun _ _ _ _ _ => pts_nil) (fun _ _ _ _ _ => (pe_bm PySem.F.plainAttrs_tuple PySem.F.slot_tuple_index PySem.F.type_tuple_index mt_indexT (pe_glob (by rfl) T.m_LIST_NAMES T.r_LIST_NAMES) (pa_cons (pe_ix ix_seq (pv 2) pe_int (fun _ _ => rfl)) pa_nil))))
      (pss_cons (ps_if (pt_not (pt_val (pe_callB (cr_all rfl) (by rfl) T.all (by decide +kernel) (pa_cons (pe_lc (own := [("one", 5), ("two", 6)]) (g := gTup K 2 (gCons (gName 5) (gCons (gName 6) gNil))) (tt := tYes) (by rfl) sc_are_lists.nd (RZ.pi_zipA (by rfl) T.zip (pa_cons (pv 1) (pa_cons (pe_slice sl_cut (pv 1) (po_some pe_int) po_none) pa_nil))) (blkOk_by (N := N_are_lists) (sc := defScope s_are_lists) (by decide +kernel)) (fun _ _ _ _ _ => pg_tup rfl (pgs_cons (pg_name (i := 5) sc_are_lists.nd rfl (.inl rfl)) (pgs_cons (pg_name (i := 6) sc_are_lists.nd rfl (.inl rfl)) pgs_nil))) (fun _ _ _ _ _ => pts_nil) (fun _ _ _ _ _ => (pe_cmpR op_lt (pv 5) (pv 6) (nomark _)))) pa_nil)))) (pss_one (ps_ret pe_bl)) pss_nil)
      (pss_one (ps_ret (pe_callB (cr_all rfl) (by rfl) T.all (by decide +kernel) (pa_cons (pe_lc (own := [("name", 3), ("members", 4)]) (g := gTup K 2 (gCons (gName 3) (gCons (gName 4) gNil))) (tt := tYes) (by rfl) sc_are_lists.nd (pi_tup (pv 0)) (blkOk_by (N := N_are_lists) (sc := defScope s_are_lists) (by decide +kernel)) (fun _ _ _ _ _ => pg_tup rfl (pgs_cons (pg_name (i := 3) sc_are_lists.nd rfl (.inl rfl)) (pgs_cons (pg_name (i := 4) sc_are_lists.nd rfl (.inl rfl)) pgs_nil))) (fun _ _ _ _ _ => pts_nil) (fun _ _ _ _ _ => (pe_call G_are_members (hr.mono (by decide)) (by rfl) T.m_are_members T.f_are_members.kp T.b_are_members .nil pass0 (pa_cons (pv 3) (pa_cons (pv 4) pa_nil))))) pa_nil))))))),
    (s_seq (s_if (sim_or (sim_not (sim_tB (sim_call (sim_cons (sim_var (i := 0)) sim_nil)))) (sim_not (sim_tB (sim_all (sim_cons (sim_new (sim_lcT (vs := [2]) (is := [2]) (sim_var (i := 0)) (gv_name (by simp)) t_yes (sim_andV (sim_call (sim_cons (sim_var (i := 2)) (sim_cons (sim_c (v := .int 2) rfl) sim_nil))) (sim_inD (sim_ix (sim_var (i := 2)) (sim_c (v := .int 0) rfl)) (sim_k T.q_LIST_NAMES))))) sim_nil))))) (s_ret (sim_c (v := .bl false) rfl)) s_next)
      (s_seq (s_asg (sim_new (sim_lcT (vs := [2]) (is := [2]) (sim_var (i := 0)) (gv_name (by simp)) t_yes (sim_indexT T.q_LIST_NAMES T.i_LIST_NAMES (sim_ix (sim_var (i := 2)) (sim_c (v := .int 0) rfl))))) (g_name (i := 1)))
      (s_seq (s_if (sim_not (sim_tB (sim_all (sim_cons (sim_new (sim_lcZL (vs := [5, 6]) (is := [5, 6]) (sim_cons (sim_var (i := 1)) (sim_cons (sim_cut (sim_var (i := 1)) (o_some (sim_c (v := .int 1) rfl)) o_none) sim_nil)) (gv_tup (gsv_cons (by simp) (gsv_cons (by simp) gsv_nil)) rfl) t_yes (sim_ii (sim_var (i := 5)) (sim_var (i := 6)) fun _ _ => rfl))) sim_nil)))) (s_ret (sim_c (v := .bl false) rfl)) s_next)
      (s_ret (sim_all (sim_cons (sim_new (sim_lcT (vs := [3, 4]) (is := [3, 4]) (sim_var (i := 0)) (gv_tup (gsv_cons (by simp) (gsv_cons (by simp) gsv_nil)) rfl) t_yes (sim_call (sim_cons (sim_var (i := 3)) (sim_cons (sim_var (i := 4)) sim_nil))))) sim_nil)))))), pure_are_lists⟩
theorem ok_are_members (T : Tx K mg) (G_is_tuple : FnOk P w K mg base CX0 1 T.a_is_tuple T.d_is_tuple ["value"] (spP K 1 S_is_tuple)) (G_is_member : FnOk P w K mg base CX0 3 T.a_is_member T.d_is_member ["name", "member"] (spP K 2 S_is_member)) : FnOk P w K mg base CX0 4 T.a_are_members T.d_are_members ["name", "members"] (spP K 2 S_are_members) := by
  refine ok_P T.f_are_members sc_are_members rfl fun cdv A outer s H E hr => ?_
  exact ⟨_, p_are_members, (pss_cons (ps_if (PW.pt (pw_or (pt_not (pt_val (pe_call G_is_tuple (hr.mono (by decide)) (by rfl) T.m_is_tuple T.f_is_tuple.kp T.b_is_tuple .nil pass0 (pa_cons (pv 1) pa_nil)))) (pw_or1 (pt_not (pt_chain op_le op_le pe_int (pe_callB c_len (by rfl) T.len PySem.boot_len (pa_cons (pv 1) pa_nil)) (pe_glob rfl T.m_MOST_MEMBERS T.r_MOST_MEMBERS)))))) (pss_one (ps_ret pe_bl)) pss_nil)
      (pss_cons (ps_if (pt_not (pt_val (pe_callB (cr_all rfl) (by rfl) T.all (by decide +kernel) (pa_cons (pe_lc (own := [("member", 2)]) (g := gName 2) (tt := tYes) (by rfl) sc_are_members.nd (pi_tup (pv 1)) (blkOk_by (N := N_are_members) (sc := defScope s_are_members) (by decide +kernel)) (fun _ _ _ _ _ => pg_name (i := 2) sc_are_members.nd rfl (Or.inl rfl)) (fun _ _ _ _ _ => pts_nil) (fun _ _ _ _ _ => (pe_call G_is_member (hr.mono (by decide)) (by rfl) T.m_is_member T.f_is_member.kp T.b_is_member .nil pass0 (pa_cons (pv 0) (pa_cons (pv 2) pa_nil))))) pa_nil)))) (pss_one (ps_ret pe_bl)) pss_nil)
      (pss_one (ps_ret (pe_cmpR (op_eqD (hu65 hr)) (pe_callB c_lenW (by rfl) T.len PySem.boot_len (pa_cons (pe_callTy (c_setW rfl (hu65 hr)) (by rfl) T.set (by decide +kernel) (pa_cons (pv 1) pa_nil)) pa_nil)) (pe_callB c_len (by rfl) T.len PySem.boot_len (pa_cons (pv 1) pa_nil)) (nomark _)))))),
    (s_seq (s_if (sim_or (sim_not (sim_tB (sim_call (sim_cons (sim_var (i := 1)) sim_nil)))) (sim_not (sim_tst (sim_chain (f := fun i j => decide (i ≤ j)) (g := fun i j => decide (i ≤ j)) (sim_c (v := .int 1) rfl) (sim_len (sim_cons (sim_var (i := 1)) sim_nil)) (sim_k T.q_MOST_MEMBERS))))) (s_ret (sim_c (v := .bl false) rfl)) s_next)
      (s_seq (s_if (sim_not (sim_tB (sim_all (sim_cons (sim_new (sim_lcT (vs := [2]) (is := [2]) (sim_var (i := 1)) (gv_name (by simp)) t_yes (sim_call (sim_cons (sim_var (i := 0)) (sim_cons (sim_var (i := 2)) sim_nil))))) sim_nil)))) (s_ret (sim_c (v := .bl false) rfl)) s_next)
      (s_ret (sim_eqD (sim_lenW (sim_cons (sim_var (i := 1)) sim_nil)) (sim_len (sim_cons (sim_var (i := 1)) sim_nil)))))), pure_are_members⟩
theorem ok_is_member (T : Tx K mg) (G_is_from_to : FnOk P w K mg base CX0 2 T.a_is_from_to T.d_is_from_to ["value", "low", "high"] (spP K 3 S_is_from_to)) (G_is_tuple_of : FnOk P w K mg base CX0 2 T.a_is_tuple_of T.d_is_tuple_of ["value", "many"] (spP K 2 S_is_tuple_of)) : FnOk P w K mg base CX0 3 T.a_is_member T.d_is_member ["name", "member"] (spP K 2 S_is_member) := by
  refine ok_P T.f_is_member sc_is_member rfl fun cdv A outer s H E hr => ?_
  exact ⟨_, p_is_member, (pss_cons (ps_if (pt_cmpR (op_eqD (hu65 hr)) (pv 0) pe_str (nomark _)) (pss_one (ps_ret (pe_call G_is_from_to (hr.mono (by decide)) (by rfl) T.m_is_from_to T.f_is_from_to.kp T.b_is_from_to .nil pass0 (pa_cons (pv 1) (pa_cons pe_int (pa_cons pe_int pa_nil)))))) pss_nil)
      (pss_cons (ps_if (pt_cmpR op_in_seq (pv 0) (pe_tup (pa_cons pe_str (pa_cons pe_str pa_nil))) (by rfl)) (pss_cons (ps_if (pt_not (pt_val (pe_call G_is_tuple_of (hr.mono (by decide)) (by rfl) T.m_is_tuple_of T.f_is_tuple_of.kp T.b_is_tuple_of .nil pass0 (pa_cons (pv 1) (pa_cons pe_int pa_nil))))) (pss_one (ps_ret pe_bl)) pss_nil)
      (pss_one (ps_ret (pe_and (pe_call G_is_from_to (hr.mono (by decide)) (by rfl) T.m_is_from_to T.f_is_from_to.kp T.b_is_from_to .nil pass0 (pa_cons (pe_ix ix_seq (pv 1) pe_int (fun _ _ => rfl)) (pa_cons pe_int (pa_cons pe_int pa_nil)))) (pe_and (pe_call G_is_from_to (hr.mono (by decide)) (by rfl) T.m_is_from_to T.f_is_from_to.kp T.b_is_from_to .nil pass0 (pa_cons (pe_ix ix_seq (pv 1) pe_int (fun _ _ => rfl)) (pa_cons (pe_un un_neg pe_int) (pa_cons pe_int pa_nil)))) (pe_one (pe_cmpR (op_neD (hu65 hr)) (pe_ix ix_seq (pv 1) pe_int (fun _ _ => rfl)) pe_int (nomark _)))))))) pss_nil)
      (pss_one (ps_ret (pe_and (pe_call G_is_from_to (hr.mono (by decide)) (by rfl) T.m_is_from_to T.f_is_from_to.kp T.b_is_from_to .nil pass0 (pa_cons (pv 1) (pa_cons (pe_un un_neg pe_int) (pa_cons pe_int pa_nil)))) (pe_one (pe_cmpR (op_neD (hu65 hr)) (pv 1) pe_int (nomark _)))))))),
    (s_seq (s_if (sim_tst (sim_eqD (sim_var (i := 0)) (sim_c (v := .str (Str.ofString "weekdays")) rfl))) (s_ret (sim_call (sim_cons (sim_var (i := 1)) (sim_cons (sim_c (v := .int 0) rfl) (sim_cons (sim_c (v := .int 13) rfl) sim_nil))))) s_next)
      (s_seq (s_if (sim_tst (sim_inD (sim_var (i := 0)) (sim_tup (sim_cons (sim_c (v := .str (Str.ofString "month weekdays")) rfl) (sim_cons (sim_c (v := .str (Str.ofString "year weekdays")) rfl) sim_nil))))) (s_seq (s_if (sim_not (sim_tB (sim_call (sim_cons (sim_var (i := 1)) (sim_cons (sim_c (v := .int 2) rfl) sim_nil))))) (s_ret (sim_c (v := .bl false) rfl)) s_next)
      (s_ret (sim_andV (sim_call (sim_cons (sim_ix (sim_var (i := 1)) (sim_c (v := .int 0) rfl)) (sim_cons (sim_c (v := .int 0) rfl) (sim_cons (sim_c (v := .int 13) rfl) sim_nil)))) (sim_andV (sim_call (sim_cons (sim_ix (sim_var (i := 1)) (sim_c (v := .int 1) rfl)) (sim_cons (sim_u (sim_c (v := .int 400) rfl) fun _ => rfl) (sim_cons (sim_c (v := .int 400) rfl) sim_nil)))) (sim_neD (sim_ix (sim_var (i := 1)) (sim_c (v := .int 1) rfl)) (sim_c (v := .int 0) rfl)))))) s_next)
      (s_ret (sim_andV (sim_call (sim_cons (sim_var (i := 1)) (sim_cons (sim_u (sim_c (v := .int 2000) rfl) fun _ => rfl) (sim_cons (sim_c (v := .int 2000) rfl) sim_nil)))) (sim_neD (sim_var (i := 1)) (sim_c (v := .int 0) rfl)))))), pure_is_member⟩
theorem ok_law_draws (T : Tx K mg) : FnOk P w K mg base CX0 1 T.a_law_draws T.d_law_draws ["cell", "modulus", "count"] (spP K 3 S_law_draws) := by
  refine ok_P T.f_law_draws sc_law_draws rfl fun cdv A outer s H E hr => ?_
  exact ⟨_, p_law_draws, (pss_cons (ps_set (i := 3) sc_law_draws.nd rfl (.inl rfl) (pv 0))
      (pss_cons (ps_if (pt_cmpR op_lt (pv 3) pe_int (nomark _)) (pss_one (ps_set (i := 3) sc_law_draws.nd rfl (.inl rfl) (pe_op op_sub (pe_op op_sub pe_int pe_int) (pv 3)))) pss_nil)
      (pss_cons (ps_set (i := 4) sc_law_draws.nd rfl (.inl rfl) (pe_lst pa_nil))
      (pss_cons (ps_if (pt_cmpR op_ge (pv 3) (pe_op op_pow pe_int pe_int) (nomark _)) (pss_cons (ps_for PassesOwn.never rfl (pi_range1 rfl T.range (pa_cons (pv 2) pa_nil)) (pg_name (i := 5) sc_law_draws.nd rfl (.inl rfl)) (pss_cons (ps_expr (pe_bm PySem.F.plainAttrs_list PySem.F.slot_list_append PySem.F.type_list_append mt_append (pv 4) (pa_cons (pe_op op_mod (pe_callTy c_int (by rfl) T.int (by decide +kernel) (pa_cons (pv 3) pa_nil)) (pv 1)) pa_nil)))
      (pss_one (ps_set (i := 3) sc_law_draws.nd rfl (.inl rfl) (pe_op op_fdiv (pv 3) (pv 1))))))
      (pss_one (ps_ret (pv 4)))) pss_nil)
      (pss_cons (ps_for PassesOwn.never rfl (pi_range1 rfl T.range (pa_cons (pv 2) pa_nil)) (pg_name (i := 5) sc_law_draws.nd rfl (.inl rfl)) (pss_cons (ps_set (i := 6) sc_law_draws.nd rfl (.inl rfl) (pe_op op_mod (pe_callTy c_int (by rfl) T.int (by decide +kernel) (pa_cons (pe_op op_mul (pe_op op_plus (pe_op op_plus (pv 3) (pe_op op_mul pe_int (pv 5))) pe_int) pe_int) pa_nil)) pe_int))
      (pss_cons (ps_set (i := 6) sc_law_draws.nd rfl (.inl rfl) (pe_op op_mod (pe_callTy c_int (by rfl) T.int (by decide +kernel) (pa_cons (pe_op op_plus (pe_op op_mul (pv 6) pe_int) (pe_op op_mul pe_int (pv 5))) pa_nil)) pe_int))
      (pss_one (ps_expr (pe_bm PySem.F.plainAttrs_list PySem.F.slot_list_append PySem.F.type_list_append mt_append (pv 4) (pa_cons (pe_op op_mod (pe_callTy c_int (by rfl) T.int (by decide +kernel) (pa_cons (pe_op op_fdiv (pv 6) pe_int) pa_nil)) (pv 1)) pa_nil)))))))
      (pss_one (ps_ret (pv 4)))))))),
    (s_seq (s_asg (sim_var (i := 0)) (g_name (i := 3)))
      (s_seq (s_if (sim_tst (sim_ii (sim_var (i := 3)) (sim_c (v := .int 0) rfl) fun _ _ => rfl)) (s_asg (sim_ii (sim_ii (sim_c (v := .int 0) rfl) (sim_c (v := .int 1) rfl) fun _ _ => rfl) (sim_var (i := 3)) fun _ _ => rfl) (g_name (i := 3))) s_next)
      (s_seq (s_asgO (i := 4) (sim_lst sim_nil))
      (s_seq (s_if (sim_tst (sim_ii (sim_var (i := 3)) (sim_iic (sim_c (v := .int 10) rfl) (sim_c (v := .int 18) rfl) fun _ _ => rfl) fun _ _ => rfl)) (s_seq (s_rng1 (sim_cons (sim_var (i := 2)) sim_nil) (g_name (i := 5)) (s_seq (s_app (i := 4) (sim_iic (sim_int (sim_cons (sim_var (i := 3)) sim_nil)) (sim_var (i := 1)) fun _ _ => rfl))
      (s_asg (sim_iic (sim_var (i := 3)) (sim_var (i := 1)) fun _ _ => rfl) (g_name (i := 3)))) (fun ρ R h => by exact (pcons_len1 h)))
      (s_retO (i := 4))) s_next)
      (s_seq (s_rng1 (sim_cons (sim_var (i := 2)) sim_nil) (g_name (i := 5)) (s_seq (s_asg (sim_iic (sim_int (sim_cons (sim_iic (sim_plus (sim_plus (sim_var (i := 3)) (sim_iic (sim_c (v := .int 7) rfl) (sim_var (i := 5)) fun _ _ => rfl)) (sim_c (v := .int 1) rfl)) (sim_c (v := .int 48271) rfl) fun _ _ => rfl) sim_nil)) (sim_c (v := .int 2147483647) rfl) fun _ _ => rfl) (g_name (i := 6)))
      (s_seq (s_asg (sim_iic (sim_int (sim_cons (sim_plus (sim_iic (sim_var (i := 6)) (sim_c (v := .int 69621) rfl) fun _ _ => rfl) (sim_iic (sim_c (v := .int 31) rfl) (sim_var (i := 5)) fun _ _ => rfl)) sim_nil)) (sim_c (v := .int 2147483629) rfl) fun _ _ => rfl) (g_name (i := 6)))
      (s_app (i := 4) (sim_iic (sim_int (sim_cons (sim_iic (sim_var (i := 6)) (sim_c (v := .int 7) rfl) fun _ _ => rfl) sim_nil)) (sim_var (i := 1)) fun _ _ => rfl)))) (fun ρ R h => by exact (pcons_len1 h)))
      (s_retO (i := 4))))))), pure_law_draws⟩
theorem ok_law_anchor (T : Tx K mg) (G_law_next : FnOk P w K mg base CX0 1 T.a_law_next T.d_law_next ["box", "modulus"] (spB K 1 S_law_next)) : FnOk P w K mg base CX0 2 T.a_law_anchor T.d_law_anchor ["box"] (spB K 0 S_law_anchor) := by
  refine ok_B T.f_law_anchor sc_law_anchor rfl fun cdv A outer s H E hr => ?_
  exact ⟨_, p_law_anchor, (pss_one (ps_ret (pe_op op_sub (pe_call G_law_next (hr.mono (by decide)) (by rfl) T.m_law_next T.f_law_next.kp T.b_law_next .nil pass0 (pa_cons (pv 0) (pa_cons pe_int pa_nil))) pe_int))),
    (s_ret (sim_ii (sim_callB (i := 0) (sim_cons (sim_c (v := .int 41) rfl) sim_nil)) (sim_c (v := .int 20) rfl) fun _ _ => rfl)), pure_law_anchor⟩
theorem ok_law_members (T : Tx K mg) (G_law_next : FnOk P w K mg base CX0 1 T.a_law_next T.d_law_next ["box", "modulus"] (spB K 1 S_law_next)) : FnOk P w K mg base CX0 2 T.a_law_members T.d_law_members ["box", "name"] (spB K 1 S_law_members) := by
  refine ok_B T.f_law_members sc_law_members rfl fun cdv A outer s H E hr => ?_
  exact ⟨_, p_law_members, (pss_cons (ps_if (pt_cmpR (op_eqD (hu65 hr)) (pv 1) pe_str (nomark _)) (pss_one (ps_ret (pe_callTy c_tuple (by rfl) T.tuple (by decide +kernel) (pa_cons (pe_callB (cr_sortedSet rfl) (by rfl) T.sorted (by decide +kernel) (pa_cons (pe_callTy (c_setL rfl) (by rfl) T.set (by decide +kernel) (pa_cons (pe_lc (own := [("k", 3)]) (g := gName 3) (tt := tYes) (by rfl) sc_law_members.nd (pi_range1 rfl T.range (pa_cons (pe_op op_plus pe_int (pe_call G_law_next (hr.mono (by decide)) (by rfl) T.m_law_next T.f_law_next.kp T.b_law_next .nil pass0 (pa_cons (pv 0) (pa_cons pe_int pa_nil)))) pa_nil)) (blkOk_by (N := N_law_members) (sc := defScope s_law_members) (by decide +kernel)) (fun _ _ _ _ _ => pg_name (i := 3) sc_law_members.nd rfl (Or.inl rfl)) (fun _ _ _ _ _ => pts_nil) (fun _ _ _ _ _ => (pe_call G_law_next (hr.mono (by decide)) (by rfl) T.m_law_next T.f_law_next.kp T.b_law_next .nil pass0 (pa_cons (pv 0) (pa_cons pe_int pa_nil))))) pa_nil)) pa_nil)) pa_nil)))) pss_nil)
      (pss_cons (ps_if (pt_cmpR op_in_seq (pv 1) (pe_tup (pa_cons pe_str (pa_cons pe_str pa_nil))) (by rfl)) (pss_cons (ps_setLc (i := 2) (own := [("k", 3)]) (g := gName 3) (tt := tYes) (by rfl) sc_law_members.nd rfl rfl (sw_true rfl rfl rfl (by decide +kernel)) (pi_range1 rfl T.range (pa_cons (pe_op op_plus pe_int (pe_call G_law_next (hr.mono (by decide)) (by rfl) T.m_law_next T.f_law_next.kp T.b_law_next .nil pass0 (pa_cons (pv 0) (pa_cons pe_int pa_nil)))) pa_nil)) (blkOk_by (N := N_law_members) (sc := defScope s_law_members) (by decide +kernel)) (fun _ _ _ _ _ => pg_name (i := 3) sc_law_members.nd rfl (Or.inl rfl)) (fun _ _ _ _ _ => pts_nil) (fun _ _ _ _ _ => (pe_tup (pa_cons (pe_call G_law_next (hr.mono (by decide)) (by rfl) T.m_law_next T.f_law_next.kp T.b_law_next .nil pass0 (pa_cons (pv 0) (pa_cons pe_int pa_nil))) (pa_cons (pe_ix ix_seq (pe_lst (pa_cons pe_int (pa_cons pe_int (pa_cons pe_int (pa_cons (pe_un un_neg pe_int) (pa_cons (pe_un un_neg pe_int) (pa_cons pe_int pa_nil))))))) (pe_call G_law_next (hr.mono (by decide)) (by rfl) T.m_law_next T.f_law_next.kp T.b_law_next .nil pass0 (pa_cons (pv 0) (pa_cons pe_int pa_nil))) (fun _ _ => rfl)) pa_nil)))))
      (pss_one (ps_ret (pe_callTy c_tuple (by rfl) T.tuple (by decide +kernel) (pa_cons (pe_callB (c_sortedP rfl) (by rfl) T.sorted (by decide +kernel) (pa_cons (pe_callTy (c_setW rfl (hu65 hr)) (by rfl) T.set (by decide +kernel) (pa_cons (pv 2) pa_nil)) pa_nil)) pa_nil))))) pss_nil)
      (pss_one (ps_ret (pe_callTy c_tuple (by rfl) T.tuple (by decide +kernel) (pa_cons (pe_callB (cr_sortedSet rfl) (by rfl) T.sorted (by decide +kernel) (pa_cons (pe_callTy (c_setL rfl) (by rfl) T.set (by decide +kernel) (pa_cons (pe_lc (own := [("k", 3)]) (g := gName 3) (tt := tYes) (by rfl) sc_law_members.nd (pi_range1 rfl T.range (pa_cons (pe_op op_plus pe_int (pe_call G_law_next (hr.mono (by decide)) (by rfl) T.m_law_next T.f_law_next.kp T.b_law_next .nil pass0 (pa_cons (pv 0) (pa_cons pe_int pa_nil)))) pa_nil)) (blkOk_by (N := N_law_members) (sc := defScope s_law_members) (by decide +kernel)) (fun _ _ _ _ _ => pg_name (i := 3) sc_law_members.nd rfl (Or.inl rfl)) (fun _ _ _ _ _ => pts_nil) (fun _ _ _ _ _ => (pe_ix ix_seq (pe_lst (pa_cons pe_int (pa_cons pe_int (pa_cons pe_int (pa_cons pe_int (pa_cons pe_int (pa_cons pe_int (pa_cons (pe_un un_neg pe_int) (pa_cons (pe_un un_neg pe_int) (pa_cons (pe_un un_neg pe_int) pa_nil)))))))))) (pe_call G_law_next (hr.mono (by decide)) (by rfl) T.m_law_next T.f_law_next.kp T.b_law_next .nil pass0 (pa_cons (pv 0) (pa_cons pe_int pa_nil))) (fun _ _ => rfl)))) pa_nil)) pa_nil)) pa_nil)))))),
    (s_seq (s_if (sim_tst (sim_eqD (sim_var (i := 1)) (sim_c (v := .str (Str.ofString "weekdays")) rfl))) (s_ret (sim_tuple (sim_cons (sim_new (sim_sortSet (sim_cons (sim_new (sim_lcR1 (vs := [3]) (is := [3]) (sim_cons (sim_plus (sim_c (v := .int 1) rfl) (sim_callB (i := 0) (sim_cons (sim_c (v := .int 3) rfl) sim_nil))) sim_nil) (gv_name (by simp)) t_yes (sim_callB (i := 0) (sim_cons (sim_c (v := .int 6) rfl) sim_nil)) (fun ρ R h => by exact (pcons_len1 h)))) sim_nil))) sim_nil))) s_next)
      (s_seq (s_if (sim_tst (sim_inD (sim_var (i := 1)) (sim_tup (sim_cons (sim_c (v := .str (Str.ofString "month weekdays")) rfl) (sim_cons (sim_c (v := .str (Str.ofString "year weekdays")) rfl) sim_nil))))) (s_seq (s_asg (sim_new (sim_lcR1 (vs := [3]) (is := [3]) (sim_cons (sim_plus (sim_c (v := .int 1) rfl) (sim_callB (i := 0) (sim_cons (sim_c (v := .int 3) rfl) sim_nil))) sim_nil) (gv_name (by simp)) t_yes (sim_tup (sim_cons (sim_callB (i := 0) (sim_cons (sim_c (v := .int 6) rfl) sim_nil)) (sim_cons (sim_ix (sim_new (sim_lst (sim_cons (sim_c (v := .int 1) rfl) (sim_cons (sim_c (v := .int 2) rfl) (sim_cons (sim_c (v := .int 3) rfl) (sim_cons (sim_u (sim_c (v := .int 1) rfl) fun _ => rfl) (sim_cons (sim_u (sim_c (v := .int 2) rfl) fun _ => rfl) (sim_cons (sim_c (v := .int 5) rfl) sim_nil)))))))) (sim_callB (i := 0) (sim_cons (sim_c (v := .int 6) rfl) sim_nil))) sim_nil))) (fun ρ R h => by exact (pcons_len1 h)))) (g_name (i := 2)))
      (s_ret (sim_tuple (sim_cons (sim_new (sim_sortSetP (sim_cons (sim_var (i := 2)) sim_nil))) sim_nil)))) s_next)
      (s_ret (sim_tuple (sim_cons (sim_new (sim_sortSet (sim_cons (sim_new (sim_lcR1 (vs := [3]) (is := [3]) (sim_cons (sim_plus (sim_c (v := .int 1) rfl) (sim_callB (i := 0) (sim_cons (sim_c (v := .int 3) rfl) sim_nil))) sim_nil) (gv_name (by simp)) t_yes (sim_ix (sim_new (sim_lst (sim_cons (sim_c (v := .int 1) rfl) (sim_cons (sim_c (v := .int 2) rfl) (sim_cons (sim_c (v := .int 3) rfl) (sim_cons (sim_c (v := .int 4) rfl) (sim_cons (sim_c (v := .int 6) rfl) (sim_cons (sim_c (v := .int 9) rfl) (sim_cons (sim_u (sim_c (v := .int 1) rfl) fun _ => rfl) (sim_cons (sim_u (sim_c (v := .int 2) rfl) fun _ => rfl) (sim_cons (sim_u (sim_c (v := .int 3) rfl) fun _ => rfl) sim_nil))))))))))) (sim_callB (i := 0) (sim_cons (sim_c (v := .int 9) rfl) sim_nil))) (fun ρ R h => by exact (pcons_len1 h)))) sim_nil))) sim_nil))))), pure_law_members⟩
theorem ok_law_rule (T : Tx K mg) (G_law_next : FnOk P w K mg base CX0 1 T.a_law_next T.d_law_next ["box", "modulus"] (spB K 1 S_law_next)) (G_law_anchor : FnOk P w K mg base CX0 2 T.a_law_anchor T.d_law_anchor ["box"] (spB K 0 S_law_anchor)) (G_law_members : FnOk P w K mg base CX0 2 T.a_law_members T.d_law_members ["box", "name"] (spB K 1 S_law_members)) : FnOk P w K mg base CX0 3 T.a_law_rule T.d_law_rule ["box"] (spB K 0 S_law_rule) := by
  refine ok_B T.f_law_rule sc_law_rule rfl fun cdv A outer s H E hr => ?_
  exact ⟨_, p_law_rule, (pss_cons (ps_set (i := 1) sc_law_rule.nd rfl (.inl rfl) (pe_ix ix_seq (pe_lst (pa_cons pe_str (pa_cons pe_str (pa_cons pe_str (pa_cons pe_str pa_nil))))) (pe_call G_law_next (hr.mono (by decide)) (by rfl) T.m_law_next T.f_law_next.kp T.b_law_next .nil pass0 (pa_cons (pv 0) (pa_cons pe_int pa_nil))) (fun _ _ => rfl)))
      (pss_cons (ps_set (i := 2) sc_law_rule.nd rfl (.inl rfl) (pe_lst pa_nil))
      (pss_cons (ps_for PassesOwn.never rfl (pi_list (pe_lst (pa_cons pe_str (pa_cons pe_str (pa_cons pe_str (pa_cons pe_str (pa_cons pe_str (pa_cons pe_str (pa_cons pe_str pa_nil))))))))) (pg_name (i := 3) sc_law_rule.nd rfl (.inl rfl)) (pss_one (ps_if (pt_cmpR (op_eqD (hu65 hr)) (pe_call G_law_next (hr.mono (by decide)) (by rfl) T.m_law_next T.f_law_next.kp T.b_law_next .nil pass0 (pa_cons (pv 0) (pa_cons pe_int pa_nil))) pe_int (nomark _)) (pss_one (ps_expr (pe_bm PySem.F.plainAttrs_list PySem.F.slot_list_append PySem.F.type_list_append mt_append (pv 2) (pa_cons (pe_tup (pa_cons (pv 3) (pa_cons (pe_call G_law_members (hr.mono (by decide)) (by rfl) T.m_law_members T.f_law_members.kp T.b_law_members .nil pass0 (pa_cons (pv 0) (pa_cons (pv 3) pa_nil))) pa_nil))) pa_nil)))) pss_nil)))
      (pss_cons (ps_set (i := 4) sc_law_rule.nd rfl (.inl rfl) (pe_tup pa_nil))
      (pss_cons (ps_if (pt_cmpR (op_eqD (hu65 hr)) (pe_call G_law_next (hr.mono (by decide)) (by rfl) T.m_law_next T.f_law_next.kp T.b_law_next .nil pass0 (pa_cons (pv 0) (pa_cons pe_int pa_nil))) pe_int (nomark _)) (pss_one (ps_set (i := 4) sc_law_rule.nd rfl (.inl rfl) (pe_callTy c_tuple (by rfl) T.tuple (by decide +kernel) (pa_cons (pe_callB (cr_sortedSet rfl) (by rfl) T.sorted (by decide +kernel) (pa_cons (pe_callTy (c_setL rfl) (by rfl) T.set (by decide +kernel) (pa_cons (pe_lc (own := [("k", 8)]) (g := gName 8) (tt := tYes) (by rfl) sc_law_rule.nd (pi_range1 rfl T.range (pa_cons (pe_op op_plus pe_int (pe_call G_law_next (hr.mono (by decide)) (by rfl) T.m_law_next T.f_law_next.kp T.b_law_next .nil pass0 (pa_cons (pv 0) (pa_cons pe_int pa_nil)))) pa_nil)) (blkOk_by (N := N_law_rule) (sc := defScope s_law_rule) (by decide +kernel)) (fun _ _ _ _ _ => pg_name (i := 8) sc_law_rule.nd rfl (Or.inl rfl)) (fun _ _ _ _ _ => pts_nil) (fun _ _ _ _ _ => (pe_ix ix_seq (pe_lst (pa_cons pe_int (pa_cons pe_int (pa_cons (pe_un un_neg pe_int) (pa_cons (pe_un un_neg pe_int) (pa_cons pe_int pa_nil)))))) (pe_call G_law_next (hr.mono (by decide)) (by rfl) T.m_law_next T.f_law_next.kp T.b_law_next .nil pass0 (pa_cons (pv 0) (pa_cons pe_int pa_nil))) (fun _ _ => rfl)))) pa_nil)) pa_nil)) pa_nil)))) pss_nil)
      (pss_cons (ps_set (i := 5) sc_law_rule.nd rfl (.inl rfl) pe_non)
      (pss_cons (ps_set (i := 6) sc_law_rule.nd rfl (.inl rfl) pe_non)
      (pss_cons (ps_set (i := 7) sc_law_rule.nd rfl (.inl rfl) pe_non)
      (pss_cons (ps_if (pt_cmpR (op_eqD (hu65 hr)) (pe_call G_law_next (hr.mono (by decide)) (by rfl) T.m_law_next T.f_law_next.kp T.b_law_next .nil pass0 (pa_cons (pv 0) (pa_cons pe_int pa_nil))) pe_int (nomark _)) (pss_cons (ps_set (i := 5) sc_law_rule.nd rfl (.inl rfl) (pe_call G_law_anchor (hr.mono (by decide)) (by rfl) T.m_law_anchor T.f_law_anchor.kp T.b_law_anchor .nil pass0 (pa_cons (pv 0) pa_nil)))
      (pss_one (ps_if (pt_cmpR (op_eqD (hu65 hr)) (pe_call G_law_next (hr.mono (by decide)) (by rfl) T.m_law_next T.f_law_next.kp T.b_law_next .nil pass0 (pa_cons (pv 0) (pa_cons pe_int pa_nil))) pe_int (nomark _)) (pss_one (ps_set (i := 7) sc_law_rule.nd rfl (.inl rfl) (pe_op op_plus pe_int (pe_call G_law_next (hr.mono (by decide)) (by rfl) T.m_law_next T.f_law_next.kp T.b_law_next .nil pass0 (pa_cons (pv 0) (pa_cons pe_int pa_nil)))))) pss_nil))) pss_nil)
      (pss_cons (ps_if (pt_cmpR (op_eqD (hu65 hr)) (pe_call G_law_next (hr.mono (by decide)) (by rfl) T.m_law_next T.f_law_next.kp T.b_law_next .nil pass0 (pa_cons (pv 0) (pa_cons pe_int pa_nil))) pe_int (nomark _)) (pss_one (ps_set (i := 6) sc_law_rule.nd rfl (.inl rfl) (pe_op op_plus (pe_call G_law_anchor (hr.mono (by decide)) (by rfl) T.m_law_anchor T.f_law_anchor.kp T.b_law_anchor .nil pass0 (pa_cons (pv 0) pa_nil)) pe_int))) pss_nil)
      (pss_one (ps_ret (pe_tup (pa_cons (pv 1) (pa_cons (pe_op op_plus pe_int (pe_call G_law_next (hr.mono (by decide)) (by rfl) T.m_law_next T.f_law_next.kp T.b_law_next .nil pass0 (pa_cons (pv 0) (pa_cons pe_int pa_nil)))) (pa_cons (pe_call G_law_anchor (hr.mono (by decide)) (by rfl) T.m_law_anchor T.f_law_anchor.kp T.b_law_anchor .nil pass0 (pa_cons (pv 0) pa_nil)) (pa_cons (pe_callTy c_tuple (by rfl) T.tuple (by decide +kernel) (pa_cons (pv 2) pa_nil)) (pa_cons (pv 4) (pa_cons (pv 5) (pa_cons (pv 6) (pa_cons (pv 7) pa_nil))))))))))))))))))))),
    (s_seq (s_asg (sim_ix (sim_new (sim_lst (sim_cons (sim_c (v := .str (Str.ofString "day")) rfl) (sim_cons (sim_c (v := .str (Str.ofString "week")) rfl) (sim_cons (sim_c (v := .str (Str.ofString "month")) rfl) (sim_cons (sim_c (v := .str (Str.ofString "year")) rfl) sim_nil)))))) (sim_callB (i := 0) (sim_cons (sim_c (v := .int 4) rfl) sim_nil))) (g_name (i := 1)))
      (s_seq (s_asgO (i := 2) (sim_lst sim_nil))
      (s_seq (s_forL (sim_new (sim_lst (sim_cons (sim_c (v := .str (Str.ofString "months")) rfl) (sim_cons (sim_c (v := .str (Str.ofString "days")) rfl) (sim_cons (sim_c (v := .str (Str.ofString "year days")) rfl) (sim_cons (sim_c (v := .str (Str.ofString "weekdays")) rfl) (sim_cons (sim_c (v := .str (Str.ofString "month weekdays")) rfl) (sim_cons (sim_c (v := .str (Str.ofString "year weekdays")) rfl) (sim_cons (sim_c (v := .str (Str.ofString "weeks")) rfl) sim_nil))))))))) (g_name (i := 3)) (s_if (sim_tst (sim_eqD (sim_callB (i := 0) (sim_cons (sim_c (v := .int 4) rfl) sim_nil)) (sim_c (v := .int 0) rfl))) (s_app (i := 2) (sim_tup (sim_cons (sim_var (i := 3)) (sim_cons (sim_callB (i := 0) (sim_cons (sim_var (i := 3)) sim_nil)) sim_nil)))) s_next))
      (s_seq (s_asg (sim_tup sim_nil) (g_name (i := 4)))
      (s_seq (s_if (sim_tst (sim_eqD (sim_callB (i := 0) (sim_cons (sim_c (v := .int 3) rfl) sim_nil)) (sim_c (v := .int 0) rfl))) (s_asg (sim_tuple (sim_cons (sim_new (sim_sortSet (sim_cons (sim_new (sim_lcR1 (vs := [8]) (is := [8]) (sim_cons (sim_plus (sim_c (v := .int 1) rfl) (sim_callB (i := 0) (sim_cons (sim_c (v := .int 2) rfl) sim_nil))) sim_nil) (gv_name (by simp)) t_yes (sim_ix (sim_new (sim_lst (sim_cons (sim_c (v := .int 1) rfl) (sim_cons (sim_c (v := .int 2) rfl) (sim_cons (sim_u (sim_c (v := .int 1) rfl) fun _ => rfl) (sim_cons (sim_u (sim_c (v := .int 2) rfl) fun _ => rfl) (sim_cons (sim_c (v := .int 3) rfl) sim_nil))))))) (sim_callB (i := 0) (sim_cons (sim_c (v := .int 5) rfl) sim_nil))) (fun ρ R h => by exact (pcons_len1 h)))) sim_nil))) sim_nil)) (g_name (i := 4))) s_next)
      (s_seq (s_asg (sim_c (v := .non) rfl) (g_name (i := 5)))
      (s_seq (s_asg (sim_c (v := .non) rfl) (g_name (i := 6)))
      (s_seq (s_asg (sim_c (v := .non) rfl) (g_name (i := 7)))
      (s_seq (s_if (sim_tst (sim_eqD (sim_callB (i := 0) (sim_cons (sim_c (v := .int 2) rfl) sim_nil)) (sim_c (v := .int 0) rfl))) (s_seq (s_asg (sim_callB (i := 0) sim_nil) (g_name (i := 5)))
      (s_if (sim_tst (sim_eqD (sim_callB (i := 0) (sim_cons (sim_c (v := .int 3) rfl) sim_nil)) (sim_c (v := .int 0) rfl))) (s_asg (sim_plus (sim_c (v := .int 1) rfl) (sim_callB (i := 0) (sim_cons (sim_c (v := .int 12) rfl) sim_nil))) (g_name (i := 7))) s_next)) s_next)
      (s_seq (s_if (sim_tst (sim_eqD (sim_callB (i := 0) (sim_cons (sim_c (v := .int 3) rfl) sim_nil)) (sim_c (v := .int 0) rfl))) (s_asg (sim_plus (sim_callB (i := 0) sim_nil) (sim_c (v := .int 20) rfl)) (g_name (i := 6))) s_next)
      (s_ret (sim_tup (sim_cons (sim_var (i := 1)) (sim_cons (sim_plus (sim_c (v := .int 1) rfl) (sim_callB (i := 0) (sim_cons (sim_c (v := .int 4) rfl) sim_nil))) (sim_cons (sim_callB (i := 0) sim_nil) (sim_cons (sim_tupO (i := 2)) (sim_cons (sim_var (i := 4)) (sim_cons (sim_var (i := 5)) (sim_cons (sim_var (i := 6)) (sim_cons (sim_var (i := 7)) sim_nil)))))))))))))))))))), pure_law_rule⟩
theorem ok_law_spoilt (T : Tx K mg) (G_law_next : FnOk P w K mg base CX0 1 T.a_law_next T.d_law_next ["box", "modulus"] (spB K 1 S_law_next)) : FnOk P w K mg base CX0 2 T.a_law_spoilt T.d_law_spoilt ["box", "rule", "place"] (spB K 2 S_law_spoilt16) := by
  refine ok_B T.f_law_spoilt sc_law_spoilt rfl fun cdv A outer s H E hr => ?_
  exact ⟨_, p_law_spoilt16, (pss_cons (ps_set (i := 3) sc_law_spoilt.nd rfl (.inl rfl) (pe_lst (pa_cons (pe_lst pa_nil) (pa_cons (pe_tup (pa_cons (pe_tup (pa_cons pe_str pa_nil)) pa_nil)) (pa_cons (pe_tup (pa_cons (pe_tup (pa_cons pe_str (pa_cons (pe_tup pa_nil) pa_nil))) pa_nil)) (pa_cons (pe_tup (pa_cons (pe_tup (pa_cons pe_str (pa_cons (pe_tup (pa_cons pe_int pa_nil)) pa_nil))) pa_nil)) (pa_cons (pe_tup (pa_cons (pe_tup (pa_cons pe_str (pa_cons (pe_tup (pa_cons pe_int (pa_cons pe_int pa_nil))) pa_nil))) pa_nil)) (pa_cons (pe_tup (pa_cons (pe_tup (pa_cons pe_str (pa_cons (pe_tup (pa_cons pe_int pa_nil)) pa_nil))) pa_nil)) (pa_cons (pe_tup (pa_cons (pe_tup (pa_cons pe_str (pa_cons (pe_tup (pa_cons pe_int pa_nil)) pa_nil))) pa_nil)) pa_nil)))))))))
      (pss_cons (ps_set (i := 3) sc_law_spoilt.nd rfl (.inl rfl) (pe_op op_plus (pv 3) (pe_lst (pa_cons (pe_tup (pa_cons (pe_tup (pa_cons pe_str (pa_cons (pe_tup (pa_cons (pe_un un_neg pe_int) pa_nil)) pa_nil))) pa_nil)) (pa_cons (pe_tup (pa_cons (pe_tup (pa_cons pe_str (pa_cons (pe_tup (pa_cons (pe_tup (pa_cons pe_int (pa_cons pe_int pa_nil))) pa_nil)) pa_nil))) pa_nil)) (pa_cons (pe_tup (pa_cons (pe_tup (pa_cons pe_str (pa_cons (pe_tup (pa_cons pe_int pa_nil)) pa_nil))) pa_nil)) (pa_cons (pe_tup (pa_cons (pe_tup (pa_cons pe_str (pa_cons (pe_tup (pa_cons pe_int pa_nil)) pa_nil))) (pa_cons (pe_tup (pa_cons pe_str (pa_cons (pe_tup (pa_cons pe_int pa_nil)) pa_nil))) pa_nil))) pa_nil)))))))
      (pss_cons (ps_set (i := 3) sc_law_spoilt.nd rfl (.inl rfl) (pe_op op_plus (pv 3) (pe_lst (pa_cons (pe_tup (pa_cons (pe_tup (pa_cons pe_str (pa_cons (pe_tup (pa_cons pe_int pa_nil)) pa_nil))) (pa_cons (pe_tup (pa_cons pe_str (pa_cons (pe_tup (pa_cons pe_int pa_nil)) pa_nil))) pa_nil))) (pa_cons (pe_tup (pa_cons (pe_tup (pa_cons pe_str (pa_cons (pe_tup (pa_cons pe_int pa_nil)) pa_nil))) pa_nil)) (pa_cons (pe_tup (pa_cons (pe_tup (pa_cons pe_str (pa_cons (pe_tup (pa_cons (pe_tup (pa_cons pe_int (pa_cons pe_int pa_nil))) pa_nil)) pa_nil))) pa_nil)) (pa_cons (pe_tup (pa_cons (pe_tup (pa_cons pe_str (pa_cons (pe_tupRg rfl (by rfl) T.tuple (prg_2 (by rfl) T.range pe_int pe_int)) pa_nil))) pa_nil)) pa_nil)))))))
      (pss_cons (ps_set (i := 4) sc_law_spoilt.nd rfl (.inl rfl) (pe_lst (pa_cons (pe_lst (pa_cons pe_int pa_nil)) (pa_cons (pe_tup (pa_cons pe_int pa_nil)) (pa_cons (pe_tup (pa_cons pe_int (pa_cons pe_int pa_nil))) (pa_cons (pe_tup (pa_cons pe_int pa_nil)) (pa_cons (pe_tup (pa_cons pe_bl pa_nil)) (pa_cons (pe_tupRg rfl (by rfl) T.tuple (prg_2 (by rfl) T.range pe_int pe_int)) (pa_cons (pe_tup (pa_cons (pe_un un_neg pe_int) pa_nil)) pa_nil)))))))))
      (pss_cons (ps_set (i := 5) sc_law_spoilt.nd rfl (.inl rfl) (pe_ix ix_seq (pe_lst (pa_cons (pe_lst (pa_cons pe_str (pa_cons pe_str (pa_cons pe_str pa_nil)))) (pa_cons (pe_lst (pa_cons pe_int (pa_cons pe_int (pa_cons pe_bl pa_nil)))) (pa_cons (pe_lst (pa_cons pe_bl (pa_cons (pe_tup (pa_cons pe_int pa_nil)) pa_nil))) (pa_cons (pv 3) (pa_cons (pv 4) (pa_cons (pe_lst (pa_cons pe_bl (pa_cons (pe_tup (pa_cons pe_int pa_nil)) pa_nil))) (pa_cons (pe_lst (pa_cons pe_bl (pa_cons (pe_tup (pa_cons pe_int pa_nil)) pa_nil))) (pa_cons (pe_lst (pa_cons pe_int (pa_cons (pe_op op_plus (pe_op op_pow pe_int pe_int) pe_int) (pa_cons pe_bl pa_nil)))) pa_nil))))))))) (pv 2) (fun _ _ => rfl)))
      (pss_one (ps_ret (pe_op op_plus (pe_op op_plus (pe_slice sl_cut (pv 1) po_none (po_some (pv 2))) (pe_tup (pa_cons (pe_ix ix_seq (pv 5) (pe_call G_law_next (hr.mono (by decide)) (by rfl) T.m_law_next T.f_law_next.kp T.b_law_next .nil pass0 (pa_cons (pv 0) (pa_cons (pe_callB c_len (by rfl) T.len PySem.boot_len (pa_cons (pv 5) pa_nil)) pa_nil))) (fun _ _ => rfl)) pa_nil))) (pe_slice sl_cut (pv 1) (po_some (pe_op op_plus (pv 2) pe_int)) po_none))))))))),
    (s_seq (s_asg (sim_new (sim_lst (sim_cons (sim_new (sim_lst sim_nil)) (sim_cons (sim_tup (sim_cons (sim_tup (sim_cons (sim_c (v := .str (Str.ofString "days")) rfl) sim_nil)) sim_nil)) (sim_cons (sim_tup (sim_cons (sim_tup (sim_cons (sim_c (v := .str (Str.ofString "days")) rfl) (sim_cons (sim_tup sim_nil) sim_nil))) sim_nil)) (sim_cons (sim_tup (sim_cons (sim_tup (sim_cons (sim_c (v := .str (Str.ofString "days")) rfl) (sim_cons (sim_tup (sim_cons (sim_c (v := .int 0) rfl) sim_nil)) sim_nil))) sim_nil)) (sim_cons (sim_tup (sim_cons (sim_tup (sim_cons (sim_c (v := .str (Str.ofString "days")) rfl) (sim_cons (sim_tup (sim_cons (sim_c (v := .int 1) rfl) (sim_cons (sim_c (v := .int 1) rfl) sim_nil))) sim_nil))) sim_nil)) (sim_cons (sim_tup (sim_cons (sim_tup (sim_cons (sim_c (v := .str (Str.ofString "days")) rfl) (sim_cons (sim_tup (sim_cons (sim_c (v := .int 2001) rfl) sim_nil)) sim_nil))) sim_nil)) (sim_cons (sim_tup (sim_cons (sim_tup (sim_cons (sim_c (v := .str (Str.ofString "weekdays")) rfl) (sim_cons (sim_tup (sim_cons (sim_c (v := .int 14) rfl) sim_nil)) sim_nil))) sim_nil)) sim_nil))))))))) (g_name (i := 3)))
      (s_seq (s_asg (sim_plus (sim_var (i := 3)) (sim_new (sim_lst (sim_cons (sim_tup (sim_cons (sim_tup (sim_cons (sim_c (v := .str (Str.ofString "weekdays")) rfl) (sim_cons (sim_tup (sim_cons (sim_u (sim_c (v := .int 1) rfl) fun _ => rfl) sim_nil)) sim_nil))) sim_nil)) (sim_cons (sim_tup (sim_cons (sim_tup (sim_cons (sim_c (v := .str (Str.ofString "month weekdays")) rfl) (sim_cons (sim_tup (sim_cons (sim_tup (sim_cons (sim_c (v := .int 1) rfl) (sim_cons (sim_c (v := .int 0) rfl) sim_nil))) sim_nil)) sim_nil))) sim_nil)) (sim_cons (sim_tup (sim_cons (sim_tup (sim_cons (sim_c (v := .str (Str.ofString "month weekdays")) rfl) (sim_cons (sim_tup (sim_cons (sim_c (v := .int 1) rfl) sim_nil)) sim_nil))) sim_nil)) (sim_cons (sim_tup (sim_cons (sim_tup (sim_cons (sim_c (v := .str (Str.ofString "days")) rfl) (sim_cons (sim_tup (sim_cons (sim_c (v := .int 1) rfl) sim_nil)) sim_nil))) (sim_cons (sim_tup (sim_cons (sim_c (v := .str (Str.ofString "months")) rfl) (sim_cons (sim_tup (sim_cons (sim_c (v := .int 1) rfl) sim_nil)) sim_nil))) sim_nil))) sim_nil))))))) (g_name (i := 3)))
      (s_seq (s_asg (sim_plus (sim_var (i := 3)) (sim_new (sim_lst (sim_cons (sim_tup (sim_cons (sim_tup (sim_cons (sim_c (v := .str (Str.ofString "days")) rfl) (sim_cons (sim_tup (sim_cons (sim_c (v := .int 1) rfl) sim_nil)) sim_nil))) (sim_cons (sim_tup (sim_cons (sim_c (v := .str (Str.ofString "days")) rfl) (sim_cons (sim_tup (sim_cons (sim_c (v := .int 2) rfl) sim_nil)) sim_nil))) sim_nil))) (sim_cons (sim_tup (sim_cons (sim_tup (sim_cons (sim_c (v := .str (Str.ofString "hours")) rfl) (sim_cons (sim_tup (sim_cons (sim_c (v := .int 1) rfl) sim_nil)) sim_nil))) sim_nil)) (sim_cons (sim_tup (sim_cons (sim_tup (sim_cons (sim_c (v := .str (Str.ofString "year weekdays")) rfl) (sim_cons (sim_tup (sim_cons (sim_tup (sim_cons (sim_c (v := .int 14) rfl) (sim_cons (sim_c (v := .int 1) rfl) sim_nil))) sim_nil)) sim_nil))) sim_nil)) (sim_cons (sim_tup (sim_cons (sim_tup (sim_cons (sim_c (v := .str (Str.ofString "weeks")) rfl) (sim_cons (sim_tupRg (sim_c (v := .int 1) rfl) (sim_c (v := .int 62) rfl)) sim_nil))) sim_nil)) sim_nil))))))) (g_name (i := 3)))
      (s_seq (s_asg (sim_new (sim_lst (sim_cons (sim_new (sim_lst (sim_cons (sim_c (v := .int 1) rfl) sim_nil))) (sim_cons (sim_tup (sim_cons (sim_c (v := .int 0) rfl) sim_nil)) (sim_cons (sim_tup (sim_cons (sim_c (v := .int 1) rfl) (sim_cons (sim_c (v := .int 1) rfl) sim_nil))) (sim_cons (sim_tup (sim_cons (sim_c (v := .int 401) rfl) sim_nil)) (sim_cons (sim_tup (sim_cons (sim_c (v := .bl true) rfl) sim_nil)) (sim_cons (sim_tupRg (sim_c (v := .int 1) rfl) (sim_c (v := .int 14) rfl)) (sim_cons (sim_tup (sim_cons (sim_u (sim_c (v := .int 401) rfl) fun _ => rfl) sim_nil)) sim_nil))))))))) (g_name (i := 4)))
      (s_seq (s_asg (sim_ix (sim_new (sim_lst (sim_cons (sim_new (sim_lst (sim_cons (sim_c (v := .str (Str.ofString "hour")) rfl) (sim_cons (sim_c (v := .str (Str.ofString "")) rfl) (sim_cons (sim_c (v := .str (Str.ofString "Day")) rfl) sim_nil))))) (sim_cons (sim_new (sim_lst (sim_cons (sim_c (v := .int 0) rfl) (sim_cons (sim_c (v := .int 1001) rfl) (sim_cons (sim_c (v := .bl true) rfl) sim_nil))))) (sim_cons (sim_new (sim_lst (sim_cons (sim_c (v := .bl true) rfl) (sim_cons (sim_tup (sim_cons (sim_c (v := .int 1) rfl) sim_nil)) sim_nil)))) (sim_cons (sim_var (i := 3)) (sim_cons (sim_var (i := 4)) (sim_cons (sim_new (sim_lst (sim_cons (sim_c (v := .bl true) rfl) (sim_cons (sim_tup (sim_cons (sim_c (v := .int 1) rfl) sim_nil)) sim_nil)))) (sim_cons (sim_new (sim_lst (sim_cons (sim_c (v := .bl false) rfl) (sim_cons (sim_tup (sim_cons (sim_c (v := .int 2) rfl) sim_nil)) sim_nil)))) (sim_cons (sim_new (sim_lst (sim_cons (sim_c (v := .int 0) rfl) (sim_cons (sim_plus (sim_iic (sim_c (v := .int 10) rfl) (sim_c (v := .int 9) rfl) fun _ _ => rfl) (sim_c (v := .int 1) rfl)) (sim_cons (sim_c (v := .bl true) rfl) sim_nil))))) sim_nil)))))))))) (sim_var (i := 2))) (g_name (i := 5)))
      (s_ret (sim_plus (sim_plus (sim_cut (sim_var (i := 1)) o_none (o_some (sim_var (i := 2)))) (sim_tup (sim_cons (sim_ix (sim_var (i := 5)) (sim_callB (i := 0) (sim_cons (sim_len (sim_cons (sim_var (i := 5)) sim_nil)) sim_nil))) sim_nil))) (sim_cut (sim_var (i := 1)) (o_some (sim_plus (sim_var (i := 2)) (sim_c (v := .int 1) rfl))) o_none)))))))), pure_law_spoilt16⟩
end
end Pr
set_option maxHeartbeats 4000000
namespace Pr
open PySem PySem.Spec PyProof.Rows L2 Pu
abbrev kRow : Key := .inr "row"
abbrev kAt : Key := .inr "at"
theorem row_ne_at : ¬ kRow = kAt := by decide +kernel
theorem val_at {x y : V} : valV [(kRow, x), (kAt, y)] kAt = some y := by
  unfold valV
  rw [List.find?_cons_of_neg (by simpa using row_ne_at), List.find?_cons_of_pos (by simp)]
  rfl
theorem val_row {x y : V} : valV [(kRow, x), (kAt, y)] kRow = some x := by
  unfold valV
  rw [List.find?_cons_of_pos (by simp)]
  rfl
theorem put_at {x y z : V} : putK [(kRow, x), (kAt, y)] kAt z = [(kRow, x), (kAt, z)] := by
  have ne : ¬ ("row" : Str) = "at" := by decide +kernel
  unfold putK
  simp
  intro h
  exact absurd h ne
theorem get_at {H : Hp} {b : Addr} {x y : V} (h : H b = some (.dK [(kRow, x), (kAt, y)])) : DGet H b (.str "at") (some y) := by
  have q := DGet.k (k := kAt) h
  rw [val_at] at q
  exact q
theorem get_row {H : Hp} {b : Addr} {x y : V} (h : H b = some (.dK [(kRow, x), (kAt, y)])) : DGet H b (.str "row") (some x) := by
  have q := DGet.k (k := kRow) h
  rw [val_row] at q
  exact q
theorem mod_at {ns : List Int} {i : Int} (h0 : 0 ≤ i) (h : 0 < ns.length) : ∃ x, x ∈ ns ∧ atI (ns.map V.int) (i % (((ns.map V.int).length : Nat) : Int)) = some (.int x) := by
  rw [List.length_map]
  have a := Int.emod_nonneg i (show ((ns.length : Nat) : Int) ≠ 0 by omega)
  have b := Int.emod_lt_of_pos i (show (0 : Int) < ((ns.length : Nat) : Int) by omega)
  obtain ⟨n, en⟩ : ∃ n : Nat, i % ((ns.length : Nat) : Int) = n := ⟨(i % ((ns.length : Nat) : Int)).toNat, by omega⟩
  have hn : n < ns.length := by omega
  refine ⟨ns[n], List.getElem_mem hn, ?_⟩
  rw [en]
  refine atI_nat ?_
  rw [List.getElem?_map, List.getElem?_eq_getElem hn]
  rfl
section
variable {P : Program} {w : World} {K : PySem.W.Frag} {mg : Str → Option Value} {base : Heap}
theorem ok_law_next (T : Tx K mg) : FnOk P w K mg base CX0 1 T.a_law_next T.d_law_next ["box", "modulus"] (spB K 1 S_law_next) := by
  refine T.f_law_next.ok sc_law_next (fun vs H Q E h => ?_) (fun cdv A outer s H vs Q E hr h => ?_)
  · obtain ⟨b, us, rfl, hl, _⟩ := h
    rw [List.length_cons, hl]
    rfl
  obtain ⟨b, us, rfl, hl, Z, ds, c, nz, hz, ⟨r, rows, at_, hb, h0, hr0, h1, h2, h3⟩, rr, hS, q⟩ := h
  have hd : ∃ m : Int, ds = [.int m] ∧ 0 < m ∧ ∀ v : Int, 0 ≤ v → v < m → c (.int v) := by
    unfold S_law_next at hS
    split at hS
    · exact ⟨_, rfl, hS⟩
    · exact hS.elim
  obtain ⟨m, rfl, m0, hk⟩ := hd
  have eu : us = [.int m] := dqs_of_ints (ns := [m]) rr
  subst eu
  have hu := hu_of hr
  obtain ⟨nr, hrow⟩ := veil_off hr0
  have nrb : r ≠ b := fun e => nr (.inr e)
  obtain ⟨x, hx, hix⟩ := mod_at h0 h1
  refine ⟨_, pss_cons (ps_set (i := 2) sc_law_next.nd rfl (.inl rfl) (pe_dget hu (pv 0) pe_str (fun _ _ => rfl)))
    (pss_cons (ps_dput hu (pv 0) pe_str (pe_op op_add (pv 2) pe_int) rfl)
    (pss_cons (ps_set (i := 3) sc_law_next.nd rfl (.inl rfl) (pe_ix ix_list (pe_dget hu (pv 0) pe_str (fun _ _ => rfl)) (pe_op op_mod (pv 2) (pe_callB call_len_seq (by rfl) T.len PySem.boot_len (pa_cons (pe_dget hu (pv 0) pe_str (fun _ _ => rfl)) pa_nil))) (fun _ _ => rfl)))
    (pss_one (ps_ret (pe_op op_mod (pe_callTy call_int1 (by rfl) T.int (by decide +kernel) (pa_cons (pe_op op_add (pv 3) (pe_op op_mul pe_int (pe_op op_fdiv (pv 2) (pe_callB call_len_seq (by rfl) T.len PySem.boot_len (pa_cons (pe_dget hu (pv 0) pe_str (fun _ _ => rfl)) pa_nil))))) pa_nil)) (pv 1)))))), ?_⟩
  refine ⟨.ref b, rfl, b, .int at_, rfl, get_at hb, ?_⟩
  refine ⟨.int at_, rfl, at_, 1, rfl, rfl, .ref b, rfl, b, _, rfl, DPut.k (k := kAt) hb (by show 2 < sizeLine; decide), ?_⟩
  rw [put_at]
  have hb' : (upd H b (.dK [(kRow, .ref r), (kAt, .int (at_ + 1))])) b = some (.dK [(kRow, .ref r), (kAt, .int (at_ + 1))]) := upd_same
  have hrow' : (upd H b (.dK [(kRow, .ref r), (kAt, .int (at_ + 1))])) r = some (.lst (rows.map V.int)) := by
    rw [upd_ne nrb]
    exact hrow
  have hlen : ((rows.map V.int).length : Int) = (rows.length : Int) := by rw [List.length_map]
  refine ⟨.ref b, rfl, b, .ref r, rfl, get_row hb', .int at_, rfl, .ref b, rfl, b, .ref r, rfl, get_row hb', r, rows.map V.int, rfl, .inl (.of hrow'), at_, _, rfl, rfl, by rw [hlen]; omega, r, rows.map V.int, _, .int x, rfl, rfl, .of hrow', hix, ?_⟩
  refine ⟨.int x, rfl, .int at_, rfl, .ref b, rfl, b, .ref r, rfl, get_row hb', r, rows.map V.int, rfl, .inl (.of hrow'), at_, _, rfl, rfl, ⟨by rw [hlen]; omega, by rw [hlen]; omega⟩, 7919, _, rfl, rfl, .inl ⟨by decide, by decide⟩, x, _, rfl, rfl, .inl ⟨_, rfl, .int m, rfl, _, m, rfl, rfl, m0, ?_⟩⟩
  refine q _ _ _ (hk _ (Int.emod_nonneg _ (by omega)) (Int.emod_lt_of_pos _ m0)) (fun a o ne e => (upd_ne ne).trans e) ⟨r, rows, at_ + 1, upd_same, by omega, ?_, h1, h2, h3⟩ (.int _)
  exact veil_on nr hrow'
/-- the making of the box -/
def spBox (K : PySem.W.Frag) : Sp := fun vs H Q _ => ∃ (a : Addr) (ns : List Int), vs = [.ref a] ∧ SqL K H a (ns.map V.int) ∧ ns.length ≤ 63 ∧
  ∀ b H', Grow H H' → H b = none → BoxAt K (fun x => x = b ∨ H x ≠ none) H' b → Q (.ref b) H'
theorem ok_law_box (T : Tx K mg) (G_law_draws : FnOk P w K mg base CX0 1 T.a_law_draws T.d_law_draws ["cell", "modulus", "count"] (spP K 3 S_law_draws)) : FnOk P w K mg base CX0 2 T.a_law_box T.d_law_box ["script"] (spBox K) := by
  refine T.f_law_box.ok sc_law_box (fun vs H Q E h => ?_) (fun cdv A outer s H vs Q E hr h => ?_)
  · obtain ⟨a, ns, rfl, _⟩ := h
    rfl
  obtain ⟨a, ns, rfl, hS, hl, q⟩ := h
  refine ⟨_, pss_cons (ps_set (i := 1) sc_law_box.nd rfl (.inl rfl) (pe_lst pa_nil))
    (pss_cons (ps_for PassesOwn.never rfl (pi_list (pv 0)) (pg_name (i := 2) sc_law_box.nd rfl (.inl rfl)) (pss_one (ps_set (i := 1) sc_law_box.nd rfl (.inl rfl)
      (pe_op op_cat (pv 1) (pe_call G_law_draws (hr.mono (by decide)) (by rfl) T.m_law_draws T.f_law_draws.kp T.b_law_draws .nil pass0 (pa_cons (pv 2) (pa_cons pe_int (pa_cons pe_int pa_nil))))))))
    (pss_cons (ps_if (pt_cmpR op_eq (pe_callB call_len_seq (by rfl) T.len PySem.boot_len (pa_cons (pv 1) pa_nil)) pe_int (nomark _))
      (pss_one (ps_set (i := 1) sc_law_box.nd rfl (.inl rfl) (pe_lst (pa_cons pe_int (pa_cons pe_int (pa_cons pe_int (pa_cons pe_int (pa_cons pe_int (pa_cons pe_int (pa_cons pe_int pa_nil))))))))))
      pss_nil)
    (pss_one (ps_ret (pe_disp (pps_cons pe_str (pv 1) (pps_cons pe_str pe_int pps_nil)) (by rfl) (by rfl) (fun z => by cases z) (by decide)))))), ?_⟩
  refine ⟨Nat.zero_le _, fun p0 n0 => ?_⟩
  -- the end: the row stands at r
  have last : ∀ (σ : L2.St) (H' : Hp) (r : Addr) (rows : List Int) (y2 : Option V), σ = [some (.ref a), some (.ref r), y2] → Grow H H' → H r = none → H' r = some (.lst (rows.map V.int)) → 0 < rows.length → rows.length ≤ 1000 → (∀ x ∈ rows, 0 ≤ x ∧ x < 1000003) →
      (tRet (tDisp [(tC (.str "row"), tVar 1), (tC (.str "at"), tC (.int 0))])) { nx := fun _ H' => Q .non H', rt := Q } σ H' := fun σ H' r rows y2 eσ g hn hr0 h1 h2 h3 b nb => by
    subst eσ
    have nrb : r ≠ b := ne_of_none hr0 nb
    refine ⟨.ref r, rfl, upd_same, [(kRow, .ref r), (kAt, .int 0)], rfl, by show 2 ≤ 15; decide, ?_⟩
    have em : mergeK [] [(kRow, V.ref r), (kAt, V.int 0)] = [(kRow, .ref r), (kAt, .int 0)] := by
      have ne : ¬ ("row" : Str) = "at" := by decide +kernel
      unfold mergeK
      simp [putK, ne]
    rw [em, upd_upd]
    refine q b _ (g.trans (grow_new nb)) ?_ ⟨r, rows, 0, upd_same, Int.le_refl _, ?_, h1, h2, h3⟩
    · cases e : H b with
      | none => rfl
      | some o =>
        rw [g b o e] at nb
        cases nb
    · refine veil_on ?_ ?_
      · rintro (e | e)
        · exact nrb e
        · exact e hn
      · rw [upd_ne nrb]
        exact hr0
  refine ⟨.ref a, rfl, a, rfl, ⟨_, grow_l (grow_new n0) hS⟩, for_list (xs := ns.map V.int) (fun i σ H' => ∃ (r : Addr) (rows : List Int) (y2 : Option V), σ = [some (.ref a), some (.ref r), y2] ∧ Grow H H' ∧ H r = none ∧ H' r = some (.lst (rows.map V.int)) ∧ rows.length = 6 * i ∧ ∀ x ∈ rows, 0 ≤ x ∧ x < 1000003)
    ⟨p0, [], none, rfl, grow_new n0, n0, upd_same, rfl, fun _ z => nomatch z⟩ (fun i σ H' _ ⟨_, _, _, _, g, _⟩ => grow_l g hS) (fun i x σ H' hx ⟨r, rows, y2, eσ, g, hn, hr0, hlen, hb⟩ => ?_) fun σ H' ⟨r, rows, y2, eσ, g, hn, hr0, hlen, hb⟩ => ?_⟩
  · subst eσ
    have hi : i < ns.length := by
      have := (List.getElem?_eq_some_iff.mp hx).1
      rwa [List.length_map] at this
    obtain ⟨n, rfl⟩ : ∃ n : Int, x = .int n := by
      rw [List.getElem?_map, List.getElem?_eq_getElem hi] at hx
      exact ⟨_, (Option.some.inj hx).symm⟩
    refine ⟨.ref r, rfl, .int n, rfl, ?_⟩
    refine ⟨rfl, fun _ => False, [.int n, .int 1000003, .int 6], fun d => ∃ ds : List Int, d = .list (ds.map PyData.int) ∧ ds.length = 6 ∧ ∀ x ∈ ds, 0 ≤ x ∧ x < 1000003, fun _ z => z.elim, dqs_ints (ns := [n, 1000003, 6]),
      ⟨by decide, by decide, by decide, by decide, fun ds h1 h2 => ⟨ds, rfl, h1, h2⟩⟩, ?_⟩
    rintro d v H1 ⟨ds, rfl, l6, b6⟩ g1 dv
    cases dv with
    | @lst u us _ hu ru =>
      have eu := dqs_of_ints ru
      subst eu
      have hu := veil_grow _ _ _ _ hu
      refine ⟨r, u, rows.map V.int, ds.map V.int, rfl, rfl, g1 _ _ hr0, hu, sz5 (by rw [List.length_map, List.length_map]; omega), fun p hp => ?_⟩
      have gh : Grow H H1 := g.trans g1
      refine ⟨p, rows ++ ds, some (.int n), rfl, gh.trans (grow_new hp), ?_, ?_, by rw [List.length_append]; omega, fun x hx => ?_⟩
      · cases e : H p with
        | none => rfl
        | some o =>
          rw [gh p o e] at hp
          cases hp
      · rw [upd_same, List.map_append]
      · rcases List.mem_append.mp hx with hx | hx
        · exact hb x hx
        · exact b6 x hx
  · subst eσ
    rw [List.length_map] at hlen
    refine ⟨.ref r, rfl, r, _, rfl, .inl (.of hr0), rfl, _, rfl, ite2 (fun e => ?_) (fun e => ?_)⟩
    · refine ⟨by show 7 ≤ sizeLine; decide, fun p hp => ?_⟩
      refine last _ _ p [11, 5, 2, 7, 31, 101, 997] y2 rfl (g.trans (grow_new hp)) ?_ upd_same (by decide) (by decide) (by decide)
      cases e : H p with
      | none => rfl
      | some o =>
        rw [g p o e] at hp
        cases hp
    · refine last _ _ r rows y2 rfl g hn hr0 ?_ (by omega) hb
      refine Nat.pos_of_ne_zero fun z => e ?_
      rw [List.length_map, z]
      exact decide_eq_true rfl
end
end Pr
set_option maxHeartbeats 4000000
namespace Pr
open PySem PySem.Spec PyProof.Rows L2 Pu
def spLaw (K : PySem.W.Frag) : Sp := fun vs H Q _ => ∃ (a : Addr) (ns : List Int), vs = [.ref a] ∧ SqL K H a (ns.map V.int) ∧ ns.length ≤ 63 ∧ ∀ H', Q (.bl true) H'
section
variable {P : Program} {w : World} {K : PySem.W.Frag} {mg : Str → Option Value} {base : Heap}
theorem ok_law (T : Tx K mg) (G_law_box : FnOk P w K mg base CX0 2 T.a_law_box T.d_law_box ["script"] (spBox K)) (G_law_rule : FnOk P w K mg base CX0 3 T.a_law_rule T.d_law_rule ["box"] (spB K 0 S_law_rule)) (G_law_next : FnOk P w K mg base CX0 1 T.a_law_next T.d_law_next ["box", "modulus"] (spB K 1 S_law_next)) (G_law_spoilt : FnOk P w K mg base CX0 2 T.a_law_spoilt T.d_law_spoilt ["box", "rule", "place"] (spB K 2 S_law_spoilt16)) (G_rule_fault : FnOk P w K mg base CX0 6 T.a_rule_fault T.d_rule_fault ["rule"] (spP K 1 S_rule_fault)) : FnOk P w K mg base CX0 7 T.a_law T.d_law ["script"] (spLaw K) := by
  refine T.f_law.ok sc_law (fun vs H Q E h => ?_) (fun cdv A outer s H vs Q E hr h => ?_)
  · obtain ⟨a, ns, rfl, _⟩ := h
    rfl
  obtain ⟨a, ns, rfl, hS, hl, q⟩ := h
  have rest : ∃ t, PSs (cxOf CX0 P w K mg base N_law "law" (defScope s_law) T.a_law cdv A outer s H E).nox (defBody s_law).tail t ∧ SimS K t p_law := ⟨_, (pss_cons (ps_set (i := 2) sc_law.nd rfl (.inl rfl) (pe_lst (pa_cons pe_str (pa_cons pe_str (pa_cons pe_str (pa_cons pe_str (pa_cons pe_str (pa_cons pe_str (pa_cons pe_str (pa_cons pe_str pa_nil))))))))))
      (pss_cons (ps_for PassesOwn.never rfl (pi_range1 rfl T.range (pa_cons pe_int pa_nil)) (pg_name (i := 3) sc_law.nd rfl (.inl rfl)) (pss_cons (ps_set (i := 4) sc_law.nd rfl (.inl rfl) (pe_call G_law_rule (hr.mono (by decide)) (by rfl) T.m_law_rule T.f_law_rule.kp T.b_law_rule .nil pass0 (pa_cons (pv 1) pa_nil)))
      (pss_cons (ps_if (pt_cmpR op_notN1 (pe_call G_rule_fault (hr.mono (by decide)) (by rfl) T.m_rule_fault T.f_rule_fault.kp T.b_rule_fault .nil pass0 (pa_cons (pv 4) pa_nil)) pe_non (nomark _)) (pss_one (ps_ret pe_bl)) pss_nil)
      (pss_cons (ps_if (pt_cmpR (op_neD (hu65 hr)) (pe_call G_rule_fault (hr.mono (by decide)) (by rfl) T.m_rule_fault T.f_rule_fault.kp T.b_rule_fault .nil pass0 (pa_cons (pe_op op_plus (pe_slice sl_cut (pv 4) po_none (po_some pe_int)) (pe_tup (pa_cons pe_non (pa_cons (pe_ix ix_seq (pv 4) pe_int (fun _ _ => rfl)) (pa_cons pe_int pa_nil))))) pa_nil)) pe_str (nomark _)) (pss_one (ps_ret pe_bl)) pss_nil)
      (pss_cons (ps_set (i := 5) sc_law.nd rfl (.inl rfl) (pe_call G_law_next (hr.mono (by decide)) (by rfl) T.m_law_next T.f_law_next.kp T.b_law_next .nil pass0 (pa_cons (pv 1) (pa_cons pe_int pa_nil))))
      (pss_cons (ps_set (i := 6) sc_law.nd rfl (.inl rfl) (pe_call G_law_spoilt (hr.mono (by decide)) (by rfl) T.m_law_spoilt T.f_law_spoilt.kp T.b_law_spoilt .nil pass0 (pa_cons (pv 1) (pa_cons (pe_op op_plus (pe_op op_plus (pe_slice sl_cut (pv 4) po_none (po_some pe_int)) (pe_tup (pa_cons (pe_ifExp (pt_cmpR (op_neD (hu65 hr)) (pv 5) pe_int (nomark _)) (pe_ix ix_seq (pv 4) pe_int (fun _ _ => rfl)) pe_int) pa_nil))) (pe_slice sl_cut (pv 4) (po_some pe_int) po_none)) (pa_cons (pv 5) pa_nil)))))
      (pss_cons (ps_set (i := 7) sc_law.nd rfl (.inl rfl) (pe_call G_law_next (hr.mono (by decide)) (by rfl) T.m_law_next T.f_law_next.kp T.b_law_next .nil pass0 (pa_cons (pv 1) (pa_cons pe_int pa_nil))))
      (pss_one (ps_if (PW.pt (pw_or (pt_cmpR (op_neD (hu65 hr)) (pe_call G_rule_fault (hr.mono (by decide)) (by rfl) T.m_rule_fault T.f_rule_fault.kp T.b_rule_fault .nil pass0 (pa_cons (pv 6) pa_nil)) (pe_ix ix_seq (pv 2) (pv 5) (fun _ _ => rfl)) (nomark _)) (pw_or1 (pt_cmpR (op_neD (hu65 hr)) (pe_call G_rule_fault (hr.mono (by decide)) (by rfl) T.m_rule_fault T.f_rule_fault.kp T.b_rule_fault .nil pass0 (pa_cons (pe_call G_law_spoilt (hr.mono (by decide)) (by rfl) T.m_law_spoilt T.f_law_spoilt.kp T.b_law_spoilt .nil pass0 (pa_cons (pv 1) (pa_cons (pv 6) (pa_cons (pv 7) pa_nil)))) pa_nil)) (pe_ix ix_seq (pv 2) (pe_callB (c_min2 rfl) (by rfl) T.min (by decide +kernel) (pa_cons (pv 5) (pa_cons (pv 7) pa_nil))) (fun _ _ => rfl)) (nomark _))))) (pss_one (ps_ret pe_bl)) pss_nil)))))))))
      (pss_one (ps_ret pe_bl)))),
    (s_seq (s_asg (sim_new (sim_lst (sim_cons (sim_c (v := .str (Str.ofString "unit")) rfl) (sim_cons (sim_c (v := .str (Str.ofString "interval")) rfl) (sim_cons (sim_c (v := .str (Str.ofString "anchor")) rfl) (sim_cons (sim_c (v := .str (Str.ofString "lists")) rfl) (sim_cons (sim_c (v := .str (Str.ofString "places")) rfl) (sim_cons (sim_c (v := .str (Str.ofString "since")) rfl) (sim_cons (sim_c (v := .str (Str.ofString "until")) rfl) (sim_cons (sim_c (v := .str (Str.ofString "number")) rfl) sim_nil)))))))))) (g_name (i := 2)))
      (s_seq (s_rng1 (sim_cons (sim_c (v := .int 4) rfl) sim_nil) (g_name (i := 3)) (s_seq (s_asg (sim_callB (i := 1) sim_nil) (g_name (i := 4)))
      (s_seq (s_if (sim_tst (sim_notN (sim_call (sim_cons (sim_var (i := 4)) sim_nil)))) (s_ret (sim_c (v := .bl false) rfl)) s_next)
      (s_seq (s_if (sim_tst (sim_neD (sim_call (sim_cons (sim_plus (sim_cut (sim_var (i := 4)) o_none (o_some (sim_c (v := .int 5) rfl))) (sim_tup (sim_cons (sim_c (v := .non) rfl) (sim_cons (sim_ix (sim_var (i := 4)) (sim_c (v := .int 6) rfl)) (sim_cons (sim_c (v := .int 3) rfl) sim_nil))))) sim_nil)) (sim_c (v := .str (Str.ofString "number")) rfl))) (s_ret (sim_c (v := .bl false) rfl)) s_next)
      (s_seq (s_asg (sim_callB (i := 1) (sim_cons (sim_c (v := .int 8) rfl) sim_nil)) (g_name (i := 5)))
      (s_seq (s_asg (sim_callB (i := 1) (sim_cons (sim_plus (sim_plus (sim_cut (sim_var (i := 4)) o_none (o_some (sim_c (v := .int 5) rfl))) (sim_tup (sim_cons (sim_ifE (sim_tst (sim_neD (sim_var (i := 5)) (sim_c (v := .int 7) rfl))) (sim_ix (sim_var (i := 4)) (sim_c (v := .int 5) rfl)) (sim_c (v := .int 4) rfl)) sim_nil))) (sim_cut (sim_var (i := 4)) (o_some (sim_c (v := .int 6) rfl)) o_none)) (sim_cons (sim_var (i := 5)) sim_nil))) (g_name (i := 6)))
      (s_seq (s_asg (sim_callB (i := 1) (sim_cons (sim_c (v := .int 8) rfl) sim_nil)) (g_name (i := 7)))
      (s_if (sim_or (sim_tst (sim_neD (sim_call (sim_cons (sim_var (i := 6)) sim_nil)) (sim_ix (sim_var (i := 2)) (sim_var (i := 5))))) (sim_tst (sim_neD (sim_call (sim_cons (sim_callB (i := 1) (sim_cons (sim_var (i := 6)) (sim_cons (sim_var (i := 7)) sim_nil))) sim_nil)) (sim_ix (sim_var (i := 2)) (sim_min2 (sim_cons (sim_var (i := 5)) (sim_cons (sim_var (i := 7)) sim_nil))))))) (s_ret (sim_c (v := .bl false) rfl)) s_next))))))) (fun ρ R h => by exact (pcons_len1 h)))
      (s_ret (sim_c (v := .bl true) rfl))))⟩
  obtain ⟨t, ht, hs⟩ := rest
  refine ⟨_, pss_cons (ps_set (i := 1) sc_law.nd rfl (.inl rfl) (pe_call G_law_box (hr.mono (by decide)) (by rfl) T.m_law_box T.f_law_box.kp T.b_law_box .nil pass0 (pa_cons (pv 0) pa_nil))) ht, ?_⟩
  refine ⟨.ref a, rfl, a, ns, rfl, hS, hl, fun b H' g nb hb => ?_⟩
  have hB : BoxAt K (hid (fun _ => False) fun i => if i = 1 then some b else none) H' b := by
    obtain ⟨r, rows, at_, h, h0, hr0, h1, h2, h3⟩ := hb
    refine ⟨r, rows, at_, h, h0, veil_less ?_ _ _ hr0, h1, h2, h3⟩
    rintro x (z | ⟨i, m⟩)
    · exact z.elim
    · have m : (if i = 1 then some b else none) = some x := m
      by_cases e : i = 1
      · rw [if_pos e] at m
        exact .inl (Option.some.inj m).symm
      · rw [if_neg e] at m
        cases m
  have hb0 : H' b ≠ none := by
    obtain ⟨r, rows, at_, h, _⟩ := hB
    rw [h]
    intro z; cases z
  refine hs (fun _ => False) (fun _ => False) (fun _ => none) (fun _ => none) (fun i => if i = 1 then some b else none) _ H' [.no, .box, .no, .no, .no, .no, .no, .no] _ finL ?_ pure_law ?_
  · refine ⟨rfl, fun i j l h1 h2 => ?_, fun i l h => ?_, fun _ _ _ z => z, fun _ z => z.elim, fun _ _ _ z => (nomatch z), fun _ _ _ => .inr rfl, fun _ z => z.elim, fun _ _ z => (nomatch z), fun i c hc => ?_⟩
    · by_cases ei : i = 1
      · by_cases ej : j = 1
        · rw [ei, ej]
        · rw [if_neg ej] at h2; cases h2
      · rw [if_neg ei] at h1; cases h1
    · by_cases ei : i = 1
      · rw [if_pos ei] at h; cases h; exact hb0
      · rw [if_neg ei] at h; cases h
    · match i, hc with
      | 1, hc =>
        cases hc
        exact ⟨b, rfl, rfl, hB⟩
      | 0, hc => cases hc; trivial
      | 2, hc => cases hc; trivial
      | 3, hc => cases hc; trivial
      | 4, hc => cases hc; trivial
      | 5, hc => cases hc; trivial
      | 6, hc => cases hc; trivial
      | 7, hc => cases hc; trivial
      | _ + 8, hc => simp at hc
  · exact ⟨fun _ _ _ _ _ z => z.elim, fun _ _ _ _ _ z => z.elim, fun _ _ _ _ _ z => z.elim, fun M σ H ρ v d _ e dv => by
      have e : d = .bool true := e
      subst e
      rw [of_bl dv]
      exact q H⟩
end
/-! ### what the top has written -/
theorem all_mk {l : PySem.W.OpenLaw} {w : World} {K : PySem.W.Frag} {h : Heap} {mg : Str → Option Value} {fa : Addr} (X : K.In h) (G : h.Ns mainGlobals mg) (hfa : mg "law" = some (.ref fa))
    {f0 : Addr} {od0 an0 : Option Addr} {sl0 : Array (Option Value)} {oc0 kV0 dc0 pm0 cd0 ct0 : Value}
    {f1 : Addr} {od1 an1 : Option Addr} {sl1 : Array (Option Value)} {oc1 kV1 dc1 pm1 cd1 ct1 : Value}
    {f2 : Addr} {od2 an2 : Option Addr} {sl2 : Array (Option Value)} {oc2 kV2 dc2 pm2 cd2 ct2 : Value}
    {f3 : Addr} {od3 an3 : Option Addr} {sl3 : Array (Option Value)} {oc3 kV3 dc3 pm3 cd3 ct3 : Value}
    {f4 : Addr} {od4 an4 : Option Addr} {sl4 : Array (Option Value)} {oc4 kV4 dc4 pm4 cd4 ct4 : Value}
    {f5 : Addr} {od5 an5 : Option Addr} {sl5 : Array (Option Value)} {oc5 kV5 dc5 pm5 cd5 ct5 : Value}
    {f6 : Addr} {od6 an6 : Option Addr} {sl6 : Array (Option Value)} {oc6 kV6 dc6 pm6 cd6 ct6 : Value}
    {f7 : Addr} {od7 an7 : Option Addr} {sl7 : Array (Option Value)} {oc7 kV7 dc7 pm7 cd7 ct7 : Value}
    {f8 : Addr} {od8 an8 : Option Addr} {sl8 : Array (Option Value)} {oc8 kV8 dc8 pm8 cd8 ct8 : Value}
    {f9 : Addr} {od9 an9 : Option Addr} {sl9 : Array (Option Value)} {oc9 kV9 dc9 pm9 cd9 ct9 : Value}
    {f10 : Addr} {od10 an10 : Option Addr} {sl10 : Array (Option Value)} {oc10 kV10 dc10 pm10 cd10 ct10 : Value}
    {f11 : Addr} {od11 an11 : Option Addr} {sl11 : Array (Option Value)} {oc11 kV11 dc11 pm11 cd11 ct11 : Value}
    {f12 : Addr} {od12 an12 : Option Addr} {sl12 : Array (Option Value)} {oc12 kV12 dc12 pm12 cd12 ct12 : Value}
    {f13 : Addr} {od13 an13 : Option Addr} {sl13 : Array (Option Value)} {oc13 kV13 dc13 pm13 cd13 ct13 : Value}
    {f14 : Addr} {od14 an14 : Option Addr} {sl14 : Array (Option Value)} {oc14 kV14 dc14 pm14 cd14 ct14 : Value}
    {f15 : Addr} {od15 an15 : Option Addr} {sl15 : Array (Option Value)} {oc15 kV15 dc15 pm15 cd15 ct15 : Value}
    {f16 : Addr} {od16 an16 : Option Addr} {sl16 : Array (Option Value)} {oc16 kV16 dc16 pm16 cd16 ct16 : Value}
    {f17 : Addr} {od17 an17 : Option Addr} {sl17 : Array (Option Value)} {oc17 kV17 dc17 pm17 cd17 ct17 : Value}
    {f18 : Addr} {od18 an18 : Option Addr} {sl18 : Array (Option Value)} {oc18 kV18 dc18 pm18 cd18 ct18 : Value}
    {f19 : Addr} {od19 an19 : Option Addr} {sl19 : Array (Option Value)} {oc19 kV19 dc19 pm19 cd19 ct19 : Value}
    {t0 : Tok}
    {t1 : Tok}
    {t2 : Tok}
    {t3 : Tok}
    {t4 : Tok}
    {t5 : Tok}
    {t6 : Tok}
    {t7 : Tok}
    {t8 : Tok}
    {t9 : Tok}
    {e10 : Addr} {en10 : Nat} {es10 : Array (Option Value)}
    {t11 : Tok}
    {t12 : Tok}
    {t13 : Tok}
    {t14 : Tok}
    {t15 : Tok}
    {t16 : Tok}
    {e17 : Addr} {ed17 : Option Addr} {en17 : Nat} {es17 : Array (Option Value)}
    (a0 : PySem.W.nsIn K mainGlobals "is_whole" = some (some (.ref f0)))
    (l0 : K.lookup f0 = some ⟨oc0, od0, .func (PySem.W.fnOf "is_whole" "is_whole" (defArgs s_is_whole) (defBody s_is_whole) (defScope s_is_whole) .none kV0 dc0 pm0 an0 cd0 ct0), sl0⟩)
    (c0 : PySem.W.codeIn K cd0 "is_whole" = true)
    (k0 : PySem.W.keepIn K (.ref f0) = true)
    (a1 : PySem.W.nsIn K mainGlobals "is_from_to" = some (some (.ref f1)))
    (l1 : K.lookup f1 = some ⟨oc1, od1, .func (PySem.W.fnOf "is_from_to" "is_from_to" (defArgs s_is_from_to) (defBody s_is_from_to) (defScope s_is_from_to) .none kV1 dc1 pm1 an1 cd1 ct1), sl1⟩)
    (c1 : PySem.W.codeIn K cd1 "is_from_to" = true)
    (k1 : PySem.W.keepIn K (.ref f1) = true)
    (a2 : PySem.W.nsIn K mainGlobals "is_tuple" = some (some (.ref f2)))
    (l2 : K.lookup f2 = some ⟨oc2, od2, .func (PySem.W.fnOf "is_tuple" "is_tuple" (defArgs s_is_tuple) (defBody s_is_tuple) (defScope s_is_tuple) .none kV2 dc2 pm2 an2 cd2 ct2), sl2⟩)
    (c2 : PySem.W.codeIn K cd2 "is_tuple" = true)
    (k2 : PySem.W.keepIn K (.ref f2) = true)
    (a3 : PySem.W.nsIn K mainGlobals "is_tuple_of" = some (some (.ref f3)))
    (l3 : K.lookup f3 = some ⟨oc3, od3, .func (PySem.W.fnOf "is_tuple_of" "is_tuple_of" (defArgs s_is_tuple_of) (defBody s_is_tuple_of) (defScope s_is_tuple_of) .none kV3 dc3 pm3 an3 cd3 ct3), sl3⟩)
    (c3 : PySem.W.codeIn K cd3 "is_tuple_of" = true)
    (k3 : PySem.W.keepIn K (.ref f3) = true)
    (a4 : PySem.W.nsIn K mainGlobals "is_whole_or_none" = some (some (.ref f4)))
    (l4 : K.lookup f4 = some ⟨oc4, od4, .func (PySem.W.fnOf "is_whole_or_none" "is_whole_or_none" (defArgs s_is_whole_or_none) (defBody s_is_whole_or_none) (defScope s_is_whole_or_none) .none kV4 dc4 pm4 an4 cd4 ct4), sl4⟩)
    (c4 : PySem.W.codeIn K cd4 "is_whole_or_none" = true)
    (k4 : PySem.W.keepIn K (.ref f4) = true)
    (a5 : PySem.W.nsIn K mainGlobals "is_unit" = some (some (.ref f5)))
    (l5 : K.lookup f5 = some ⟨oc5, od5, .func (PySem.W.fnOf "is_unit" "is_unit" (defArgs s_is_unit) (defBody s_is_unit) (defScope s_is_unit) .none kV5 dc5 pm5 an5 cd5 ct5), sl5⟩)
    (c5 : PySem.W.codeIn K cd5 "is_unit" = true)
    (k5 : PySem.W.keepIn K (.ref f5) = true)
    (a6 : PySem.W.nsIn K mainGlobals "is_place" = some (some (.ref f6)))
    (l6 : K.lookup f6 = some ⟨oc6, od6, .func (PySem.W.fnOf "is_place" "is_place" (defArgs s_is_place) (defBody s_is_place) (defScope s_is_place) .none kV6 dc6 pm6 an6 cd6 ct6), sl6⟩)
    (c6 : PySem.W.codeIn K cd6 "is_place" = true)
    (k6 : PySem.W.keepIn K (.ref f6) = true)
    (a7 : PySem.W.nsIn K mainGlobals "are_places" = some (some (.ref f7)))
    (l7 : K.lookup f7 = some ⟨oc7, od7, .func (PySem.W.fnOf "are_places" "are_places" (defArgs s_are_places) (defBody s_are_places) (defScope s_are_places) .none kV7 dc7 pm7 an7 cd7 ct7), sl7⟩)
    (c7 : PySem.W.codeIn K cd7 "are_places" = true)
    (k7 : PySem.W.keepIn K (.ref f7) = true)
    (a8 : PySem.W.nsIn K mainGlobals "rule_fault" = some (some (.ref f8)))
    (l8 : K.lookup f8 = some ⟨oc8, od8, .func (PySem.W.fnOf "rule_fault" "rule_fault" (defArgs s_rule_fault) (defBody s_rule_fault) (defScope s_rule_fault) .none kV8 dc8 pm8 an8 cd8 ct8), sl8⟩)
    (c8 : PySem.W.codeIn K cd8 "rule_fault" = true)
    (k8 : PySem.W.keepIn K (.ref f8) = true)
    (a9 : PySem.W.nsIn K mainGlobals "_are_lists" = some (some (.ref f9)))
    (l9 : K.lookup f9 = some ⟨oc9, od9, .func (PySem.W.fnOf "_are_lists" "_are_lists" (defArgs s_are_lists) (defBody s_are_lists) (defScope s_are_lists) .none kV9 dc9 pm9 an9 cd9 ct9), sl9⟩)
    (c9 : PySem.W.codeIn K cd9 "_are_lists" = true)
    (k9 : PySem.W.keepIn K (.ref f9) = true)
    (a10 : PySem.W.nsIn K mainGlobals "_are_members" = some (some (.ref f10)))
    (l10 : K.lookup f10 = some ⟨oc10, od10, .func (PySem.W.fnOf "_are_members" "_are_members" (defArgs s_are_members) (defBody s_are_members) (defScope s_are_members) .none kV10 dc10 pm10 an10 cd10 ct10), sl10⟩)
    (c10 : PySem.W.codeIn K cd10 "_are_members" = true)
    (k10 : PySem.W.keepIn K (.ref f10) = true)
    (a11 : PySem.W.nsIn K mainGlobals "is_member" = some (some (.ref f11)))
    (l11 : K.lookup f11 = some ⟨oc11, od11, .func (PySem.W.fnOf "is_member" "is_member" (defArgs s_is_member) (defBody s_is_member) (defScope s_is_member) .none kV11 dc11 pm11 an11 cd11 ct11), sl11⟩)
    (c11 : PySem.W.codeIn K cd11 "is_member" = true)
    (k11 : PySem.W.keepIn K (.ref f11) = true)
    (a12 : PySem.W.nsIn K mainGlobals "_law_draws" = some (some (.ref f12)))
    (l12 : K.lookup f12 = some ⟨oc12, od12, .func (PySem.W.fnOf "_law_draws" "_law_draws" (defArgs s_law_draws) (defBody s_law_draws) (defScope s_law_draws) .none kV12 dc12 pm12 an12 cd12 ct12), sl12⟩)
    (c12 : PySem.W.codeIn K cd12 "_law_draws" = true)
    (k12 : PySem.W.keepIn K (.ref f12) = true)
    (a13 : PySem.W.nsIn K mainGlobals "_law_box" = some (some (.ref f13)))
    (l13 : K.lookup f13 = some ⟨oc13, od13, .func (PySem.W.fnOf "_law_box" "_law_box" (defArgs s_law_box) (defBody s_law_box) (defScope s_law_box) .none kV13 dc13 pm13 an13 cd13 ct13), sl13⟩)
    (c13 : PySem.W.codeIn K cd13 "_law_box" = true)
    (k13 : PySem.W.keepIn K (.ref f13) = true)
    (a14 : PySem.W.nsIn K mainGlobals "_law_next" = some (some (.ref f14)))
    (l14 : K.lookup f14 = some ⟨oc14, od14, .func (PySem.W.fnOf "_law_next" "_law_next" (defArgs s_law_next) (defBody s_law_next) (defScope s_law_next) .none kV14 dc14 pm14 an14 cd14 ct14), sl14⟩)
    (c14 : PySem.W.codeIn K cd14 "_law_next" = true)
    (k14 : PySem.W.keepIn K (.ref f14) = true)
    (a15 : PySem.W.nsIn K mainGlobals "_law_anchor" = some (some (.ref f15)))
    (l15 : K.lookup f15 = some ⟨oc15, od15, .func (PySem.W.fnOf "_law_anchor" "_law_anchor" (defArgs s_law_anchor) (defBody s_law_anchor) (defScope s_law_anchor) .none kV15 dc15 pm15 an15 cd15 ct15), sl15⟩)
    (c15 : PySem.W.codeIn K cd15 "_law_anchor" = true)
    (k15 : PySem.W.keepIn K (.ref f15) = true)
    (a16 : PySem.W.nsIn K mainGlobals "_law_members" = some (some (.ref f16)))
    (l16 : K.lookup f16 = some ⟨oc16, od16, .func (PySem.W.fnOf "_law_members" "_law_members" (defArgs s_law_members) (defBody s_law_members) (defScope s_law_members) .none kV16 dc16 pm16 an16 cd16 ct16), sl16⟩)
    (c16 : PySem.W.codeIn K cd16 "_law_members" = true)
    (k16 : PySem.W.keepIn K (.ref f16) = true)
    (a17 : PySem.W.nsIn K mainGlobals "_law_rule" = some (some (.ref f17)))
    (l17 : K.lookup f17 = some ⟨oc17, od17, .func (PySem.W.fnOf "_law_rule" "_law_rule" (defArgs s_law_rule) (defBody s_law_rule) (defScope s_law_rule) .none kV17 dc17 pm17 an17 cd17 ct17), sl17⟩)
    (c17 : PySem.W.codeIn K cd17 "_law_rule" = true)
    (k17 : PySem.W.keepIn K (.ref f17) = true)
    (a18 : PySem.W.nsIn K mainGlobals "_law_spoilt" = some (some (.ref f18)))
    (l18 : K.lookup f18 = some ⟨oc18, od18, .func (PySem.W.fnOf "_law_spoilt" "_law_spoilt" (defArgs s_law_spoilt) (defBody s_law_spoilt) (defScope s_law_spoilt) .none kV18 dc18 pm18 an18 cd18 ct18), sl18⟩)
    (c18 : PySem.W.codeIn K cd18 "_law_spoilt" = true)
    (k18 : PySem.W.keepIn K (.ref f18) = true)
    (a19 : PySem.W.nsIn K mainGlobals "law" = some (some (.ref f19)))
    (l19 : K.lookup f19 = some ⟨oc19, od19, .func (PySem.W.fnOf "law" "law" (defArgs s_law) (defBody s_law) (defScope s_law) .none kV19 dc19 pm19 an19 cd19 ct19), sl19⟩)
    (c19 : PySem.W.codeIn K cd19 "law" = true)
    (k19 : PySem.W.keepIn K (.ref f19) = true)
    (z_all : PySem.W.nsIn K mainGlobals "all" = some none)
    (z_int : PySem.W.nsIn K mainGlobals "int" = some none)
    (z_len : PySem.W.nsIn K mainGlobals "len" = some none)
    (z_min : PySem.W.nsIn K mainGlobals "min" = some none)
    (z_range : PySem.W.nsIn K mainGlobals "range" = some none)
    (z_set : PySem.W.nsIn K mainGlobals "set" = some none)
    (z_sorted : PySem.W.nsIn K mainGlobals "sorted" = some none)
    (z_tuple : PySem.W.nsIn K mainGlobals "tuple" = some none)
    (z_type : PySem.W.nsIn K mainGlobals "type" = some none)
    (z_zip : PySem.W.nsIn K mainGlobals "zip" = some none)
    (s_c_GREATEST_INTERVAL : PySem.W.nsIn K mainGlobals "GREATEST_INTERVAL" = some (some (.int 1000 t0)))
    (s_c_GREATEST_NUMBER : PySem.W.nsIn K mainGlobals "GREATEST_NUMBER" = some (some (.int 1000000000 t1)))
    (s_c_GREATEST_PLACE : PySem.W.nsIn K mainGlobals "GREATEST_PLACE" = some (some (.int 400 t2)))
    (s_c_LIST_NAMES : PySem.W.nsIn K mainGlobals "LIST_NAMES" = some (some (.ref e10)))
    (g10 : K.lookup e10 = some { cls := .type "tuple", dict := none, data := .seq #[.str (Str.ofString "months") t3, .str (Str.ofString "days") t4, .str (Str.ofString "year days") t5, .str (Str.ofString "weekdays") t6, .str (Str.ofString "month weekdays") t7, .str (Str.ofString "year weekdays") t8, .str (Str.ofString "weeks") t9] en10, slots := es10 })
    (s_c_MOST_MEMBERS : PySem.W.nsIn K mainGlobals "MOST_MEMBERS" = some (some (.int 60 t11)))
    (s_c_MOST_PLACES : PySem.W.nsIn K mainGlobals "MOST_PLACES" = some (some (.int 12 t12)))
    (s_c_UNITS : PySem.W.nsIn K mainGlobals "UNITS" = some (some (.ref e17)))
    (g17 : K.lookup e17 = some { cls := .type "tuple", dict := ed17, data := .seq #[.str (Str.ofString "day") t13, .str (Str.ofString "week") t14, .str (Str.ofString "month") t15, .str (Str.ofString "year") t16] en17, slots := es17 }) :
    ∃ fd : FuncData, (∀ (s : Shared) (v : Value), BindsTo s fd ⟨[v], []⟩ [("script", v)]) ∧ ∀ base : Heap, K.In base → base.Ns mainGlobals mg → FnOk l.prog w K mg base CX0 7 fa fd ["script"] (spLaw K) := by
  have e := hfa.symm.trans (PySem.W.mg_of X G a19)
  cases e
  have F0 := fun_mk (st := s_is_whole) l0 c0 k0
  have B0 := F0.binds (ps := ["value"]) fun _ _ _ _ _ _ us hl => match us, hl with | [_], _ => rfl
  have F1 := fun_mk (st := s_is_from_to) l1 c1 k1
  have B1 := F1.binds (ps := ["value", "low", "high"]) fun _ _ _ _ _ _ us hl => match us, hl with | [_, _, _], _ => rfl
  have F2 := fun_mk (st := s_is_tuple) l2 c2 k2
  have B2 := F2.binds (ps := ["value"]) fun _ _ _ _ _ _ us hl => match us, hl with | [_], _ => rfl
  have F3 := fun_mk (st := s_is_tuple_of) l3 c3 k3
  have B3 := F3.binds (ps := ["value", "many"]) fun _ _ _ _ _ _ us hl => match us, hl with | [_, _], _ => rfl
  have F4 := fun_mk (st := s_is_whole_or_none) l4 c4 k4
  have B4 := F4.binds (ps := ["value"]) fun _ _ _ _ _ _ us hl => match us, hl with | [_], _ => rfl
  have F5 := fun_mk (st := s_is_unit) l5 c5 k5
  have B5 := F5.binds (ps := ["value"]) fun _ _ _ _ _ _ us hl => match us, hl with | [_], _ => rfl
  have F6 := fun_mk (st := s_is_place) l6 c6 k6
  have B6 := F6.binds (ps := ["value"]) fun _ _ _ _ _ _ us hl => match us, hl with | [_], _ => rfl
  have F7 := fun_mk (st := s_are_places) l7 c7 k7
  have B7 := F7.binds (ps := ["value"]) fun _ _ _ _ _ _ us hl => match us, hl with | [_], _ => rfl
  have F8 := fun_mk (st := s_rule_fault) l8 c8 k8
  have B8 := F8.binds (ps := ["rule"]) fun _ _ _ _ _ _ us hl => match us, hl with | [_], _ => rfl
  have F9 := fun_mk (st := s_are_lists) l9 c9 k9
  have B9 := F9.binds (ps := ["value"]) fun _ _ _ _ _ _ us hl => match us, hl with | [_], _ => rfl
  have F10 := fun_mk (st := s_are_members) l10 c10 k10
  have B10 := F10.binds (ps := ["name", "members"]) fun _ _ _ _ _ _ us hl => match us, hl with | [_, _], _ => rfl
  have F11 := fun_mk (st := s_is_member) l11 c11 k11
  have B11 := F11.binds (ps := ["name", "member"]) fun _ _ _ _ _ _ us hl => match us, hl with | [_, _], _ => rfl
  have F12 := fun_mk (st := s_law_draws) l12 c12 k12
  have B12 := F12.binds (ps := ["cell", "modulus", "count"]) fun _ _ _ _ _ _ us hl => match us, hl with | [_, _, _], _ => rfl
  have F13 := fun_mk (st := s_law_box) l13 c13 k13
  have B13 := F13.binds (ps := ["script"]) fun _ _ _ _ _ _ us hl => match us, hl with | [_], _ => rfl
  have F14 := fun_mk (st := s_law_next) l14 c14 k14
  have B14 := F14.binds (ps := ["box", "modulus"]) fun _ _ _ _ _ _ us hl => match us, hl with | [_, _], _ => rfl
  have F15 := fun_mk (st := s_law_anchor) l15 c15 k15
  have B15 := F15.binds (ps := ["box"]) fun _ _ _ _ _ _ us hl => match us, hl with | [_], _ => rfl
  have F16 := fun_mk (st := s_law_members) l16 c16 k16
  have B16 := F16.binds (ps := ["box", "name"]) fun _ _ _ _ _ _ us hl => match us, hl with | [_, _], _ => rfl
  have F17 := fun_mk (st := s_law_rule) l17 c17 k17
  have B17 := F17.binds (ps := ["box"]) fun _ _ _ _ _ _ us hl => match us, hl with | [_], _ => rfl
  have F18 := fun_mk (st := s_law_spoilt) l18 c18 k18
  have B18 := F18.binds (ps := ["box", "rule", "place"]) fun _ _ _ _ _ _ us hl => match us, hl with | [_, _, _], _ => rfl
  have F19 := fun_mk (st := s_law) l19 c19 k19
  have B19 := F19.binds (ps := ["script"]) fun _ _ _ _ _ _ us hl => match us, hl with | [_], _ => rfl
  let T : Tx K mg := {
    a_is_whole := f0, d_is_whole := _, f_is_whole := F0, m_is_whole := PySem.W.mg_of X G a0, b_is_whole := B0,
    a_is_from_to := f1, d_is_from_to := _, f_is_from_to := F1, m_is_from_to := PySem.W.mg_of X G a1, b_is_from_to := B1,
    a_is_tuple := f2, d_is_tuple := _, f_is_tuple := F2, m_is_tuple := PySem.W.mg_of X G a2, b_is_tuple := B2,
    a_is_tuple_of := f3, d_is_tuple_of := _, f_is_tuple_of := F3, m_is_tuple_of := PySem.W.mg_of X G a3, b_is_tuple_of := B3,
    a_is_whole_or_none := f4, d_is_whole_or_none := _, f_is_whole_or_none := F4, m_is_whole_or_none := PySem.W.mg_of X G a4, b_is_whole_or_none := B4,
    a_is_unit := f5, d_is_unit := _, f_is_unit := F5, m_is_unit := PySem.W.mg_of X G a5, b_is_unit := B5,
    a_is_place := f6, d_is_place := _, f_is_place := F6, m_is_place := PySem.W.mg_of X G a6, b_is_place := B6,
    a_are_places := f7, d_are_places := _, f_are_places := F7, m_are_places := PySem.W.mg_of X G a7, b_are_places := B7,
    a_rule_fault := f8, d_rule_fault := _, f_rule_fault := F8, m_rule_fault := PySem.W.mg_of X G a8, b_rule_fault := B8,
    a_are_lists := f9, d_are_lists := _, f_are_lists := F9, m_are_lists := PySem.W.mg_of X G a9, b_are_lists := B9,
    a_are_members := f10, d_are_members := _, f_are_members := F10, m_are_members := PySem.W.mg_of X G a10, b_are_members := B10,
    a_is_member := f11, d_is_member := _, f_is_member := F11, m_is_member := PySem.W.mg_of X G a11, b_is_member := B11,
    a_law_draws := f12, d_law_draws := _, f_law_draws := F12, m_law_draws := PySem.W.mg_of X G a12, b_law_draws := B12,
    a_law_box := f13, d_law_box := _, f_law_box := F13, m_law_box := PySem.W.mg_of X G a13, b_law_box := B13,
    a_law_next := f14, d_law_next := _, f_law_next := F14, m_law_next := PySem.W.mg_of X G a14, b_law_next := B14,
    a_law_anchor := f15, d_law_anchor := _, f_law_anchor := F15, m_law_anchor := PySem.W.mg_of X G a15, b_law_anchor := B15,
    a_law_members := f16, d_law_members := _, f_law_members := F16, m_law_members := PySem.W.mg_of X G a16, b_law_members := B16,
    a_law_rule := f17, d_law_rule := _, f_law_rule := F17, m_law_rule := PySem.W.mg_of X G a17, b_law_rule := B17,
    a_law_spoilt := f18, d_law_spoilt := _, f_law_spoilt := F18, m_law_spoilt := PySem.W.mg_of X G a18, b_law_spoilt := B18,
    a_law := fa, d_law := _, f_law := F19, m_law := PySem.W.mg_of X G a19, b_law := B19,
    all := PySem.W.mg_none_of X G z_all,
    int := PySem.W.mg_none_of X G z_int,
    len := PySem.W.mg_none_of X G z_len,
    min := PySem.W.mg_none_of X G z_min,
    range := PySem.W.mg_none_of X G z_range,
    set := PySem.W.mg_none_of X G z_set,
    sorted := PySem.W.mg_none_of X G z_sorted,
    tuple := PySem.W.mg_none_of X G z_tuple,
    type := PySem.W.mg_none_of X G z_type,
    zip := PySem.W.mg_none_of X G z_zip,
    v_GREATEST_INTERVAL := .int 1000, u_GREATEST_INTERVAL := _, m_GREATEST_INTERVAL := PySem.W.mg_of X G s_c_GREATEST_INTERVAL, r_GREATEST_INTERVAL := ⟨_, rfl⟩, q_GREATEST_INTERVAL := fun _ => .int _,
    v_GREATEST_NUMBER := .int 1000000000, u_GREATEST_NUMBER := _, m_GREATEST_NUMBER := PySem.W.mg_of X G s_c_GREATEST_NUMBER, r_GREATEST_NUMBER := ⟨_, rfl⟩, q_GREATEST_NUMBER := fun _ => .int _,
    v_GREATEST_PLACE := .int 400, u_GREATEST_PLACE := _, m_GREATEST_PLACE := PySem.W.mg_of X G s_c_GREATEST_PLACE, r_GREATEST_PLACE := ⟨_, rfl⟩, q_GREATEST_PLACE := fun _ => .int _,
    v_LIST_NAMES := .ref e10, u_LIST_NAMES := _, m_LIST_NAMES := PySem.W.mg_of X G s_c_LIST_NAMES, r_LIST_NAMES := rfl, q_LIST_NAMES := fun _ => .tup (xs := [.str (Str.ofString "months"), .str (Str.ofString "days"), .str (Str.ofString "year days"), .str (Str.ofString "weekdays"), .str (Str.ofString "month weekdays"), .str (Str.ofString "year weekdays"), .str (Str.ofString "weeks")]) (.inr ⟨_, _, _, g10, rfl, rfl, (by show 7 ≤ sizeLine; decide), (.cons ⟨_, rfl⟩ (.cons ⟨_, rfl⟩ (.cons ⟨_, rfl⟩ (.cons ⟨_, rfl⟩ (.cons ⟨_, rfl⟩ (.cons ⟨_, rfl⟩ (.cons ⟨_, rfl⟩ .nil)))))))⟩) (.cons (.str _) (.cons (.str _) (.cons (.str _) (.cons (.str _) (.cons (.str _) (.cons (.str _) (.cons (.str _) .nil))))))),
    v_MOST_MEMBERS := .int 60, u_MOST_MEMBERS := _, m_MOST_MEMBERS := PySem.W.mg_of X G s_c_MOST_MEMBERS, r_MOST_MEMBERS := ⟨_, rfl⟩, q_MOST_MEMBERS := fun _ => .int _,
    v_MOST_PLACES := .int 12, u_MOST_PLACES := _, m_MOST_PLACES := PySem.W.mg_of X G s_c_MOST_PLACES, r_MOST_PLACES := ⟨_, rfl⟩, q_MOST_PLACES := fun _ => .int _,
    v_UNITS := .ref e17, u_UNITS := _, m_UNITS := PySem.W.mg_of X G s_c_UNITS, r_UNITS := rfl, q_UNITS := fun _ => .tup (xs := [.str (Str.ofString "day"), .str (Str.ofString "week"), .str (Str.ofString "month"), .str (Str.ofString "year")]) (.inr ⟨_, _, _, g17, rfl, rfl, (by show 4 ≤ sizeLine; decide), (.cons ⟨_, rfl⟩ (.cons ⟨_, rfl⟩ (.cons ⟨_, rfl⟩ (.cons ⟨_, rfl⟩ .nil))))⟩) (.cons (.str _) (.cons (.str _) (.cons (.str _) (.cons (.str _) .nil)))),
    i_LIST_NAMES := ⟨_, _, rfl, g10, rfl, rfl⟩ }
  refine ⟨PySem.W.fnOf "law" "law" (defArgs s_law) (defBody s_law) (defScope s_law) .none kV19 dc19 pm19 an19 cd19 ct19, fun s v => .of_eq rfl, fun base _ _ => ?_⟩
  have G_is_whole := ok_is_whole (P := l.prog) (w := w) (base := base) T 
  have G_is_tuple := ok_is_tuple (P := l.prog) (w := w) (base := base) T 
  have G_is_unit := ok_is_unit (P := l.prog) (w := w) (base := base) T 
  have G_law_draws := ok_law_draws (P := l.prog) (w := w) (base := base) T 
  have G_law_next := ok_law_next (P := l.prog) (w := w) (base := base) T 
  have G_is_from_to := ok_is_from_to (P := l.prog) (w := w) (base := base) T G_is_whole
  have G_is_tuple_of := ok_is_tuple_of (P := l.prog) (w := w) (base := base) T G_is_tuple
  have G_is_whole_or_none := ok_is_whole_or_none (P := l.prog) (w := w) (base := base) T G_is_whole
  have G_law_box := ok_law_box (P := l.prog) (w := w) (base := base) T G_law_draws
  have G_law_anchor := ok_law_anchor (P := l.prog) (w := w) (base := base) T G_law_next
  have G_law_members := ok_law_members (P := l.prog) (w := w) (base := base) T G_law_next
  have G_law_spoilt := ok_law_spoilt (P := l.prog) (w := w) (base := base) T G_law_next
  have G_is_place := ok_is_place (P := l.prog) (w := w) (base := base) T G_is_from_to
  have G_is_member := ok_is_member (P := l.prog) (w := w) (base := base) T G_is_from_to G_is_tuple_of
  have G_law_rule := ok_law_rule (P := l.prog) (w := w) (base := base) T G_law_next G_law_anchor G_law_members
  have G_are_places := ok_are_places (P := l.prog) (w := w) (base := base) T G_is_tuple G_is_place
  have G_are_members := ok_are_members (P := l.prog) (w := w) (base := base) T G_is_tuple G_is_member
  have G_are_lists := ok_are_lists (P := l.prog) (w := w) (base := base) T G_is_tuple G_are_members G_is_tuple_of
  have G_rule_fault := ok_rule_fault (P := l.prog) (w := w) (base := base) T G_is_unit G_is_from_to G_is_whole G_are_lists G_are_places G_is_whole_or_none
  exact ok_law T G_law_box G_law_rule G_law_next G_law_spoilt G_rule_fault
end Pr
open PySem PySem.W PyProof.Rows
set_option maxHeartbeats 0 in
theorem PySem.Challenge.cw_everydue_k16_faults_of_rules_holds : PySem.Challenge.rw_everydue_k16_faults_of_rules.Holds := by
  w_on; o_law; k_head; (case hw => w_witness2)
  k_fill
  refine L2.walk_of (l := PySem.Challenge.rw_everydue_k16_faults_of_rules) (n := 63) (k := 7) (x := "script") (CX := fun _ => L2.CX0) (sp := fun w => Pr.spLaw _) rfl (by decide) rfl ⟨rfl, by decide, by decide⟩ (fun w h Y => PySem.W.kIn_of Y) ?F (fun _ _ a ns hl _ hS => ⟨a, ns, rfl, hS, hl, fun _ => rfl⟩) (fun _ _ _ _ _ h => h)
  case F =>
    intro w mg fa h KX G hmg
    refine' Pr.all_mk KX G hmg ?a0 ?l0 ?c0 ?k0 ?a1 ?l1 ?c1 ?k1 ?a2 ?l2 ?c2 ?k2 ?a3 ?l3 ?c3 ?k3 ?a4 ?l4 ?c4 ?k4 ?a5 ?l5 ?c5 ?k5 ?a6 ?l6 ?c6 ?k6 ?a7 ?l7 ?c7 ?k7 ?a8 ?l8 ?c8 ?k8 ?a9 ?l9 ?c9 ?k9 ?a10 ?l10 ?c10 ?k10 ?a11 ?l11 ?c11 ?k11 ?a12 ?l12 ?c12 ?k12 ?a13 ?l13 ?c13 ?k13 ?a14 ?l14 ?c14 ?k14 ?a15 ?l15 ?c15 ?k15 ?a16 ?l16 ?c16 ?k16 ?a17 ?l17 ?c17 ?k17 ?a18 ?l18 ?c18 ?k18 ?a19 ?l19 ?c19 ?k19 ?z_all ?z_int ?z_len ?z_min ?z_range ?z_set ?z_sorted ?z_tuple ?z_type ?z_zip ?s_c_GREATEST_INTERVAL ?s_c_GREATEST_NUMBER ?s_c_GREATEST_PLACE ?s_c_LIST_NAMES ?g10 ?s_c_MOST_MEMBERS ?s_c_MOST_PLACES ?s_c_UNITS ?g17
    (case a0 => k_is)
    (case l0 => k_is)
    (case c0 => k_is)
    (case k0 => k_is)
    (case a1 => k_is)
    (case l1 => k_is)
    (case c1 => k_is)
    (case k1 => k_is)
    (case a2 => k_is)
    (case l2 => k_is)
    (case c2 => k_is)
    (case k2 => k_is)
    (case a3 => k_is)
    (case l3 => k_is)
    (case c3 => k_is)
    (case k3 => k_is)
    (case a4 => k_is)
    (case l4 => k_is)
    (case c4 => k_is)
    (case k4 => k_is)
    (case a5 => k_is)
    (case l5 => k_is)
    (case c5 => k_is)
    (case k5 => k_is)
    (case a6 => k_is)
    (case l6 => k_is)
    (case c6 => k_is)
    (case k6 => k_is)
    (case a7 => k_is)
    (case l7 => k_is)
    (case c7 => k_is)
    (case k7 => k_is)
    (case a8 => k_is)
    (case l8 => k_is)
    (case c8 => k_is)
    (case k8 => k_is)
    (case a9 => k_is)
    (case l9 => k_is)
    (case c9 => k_is)
    (case k9 => k_is)
    (case a10 => k_is)
    (case l10 => k_is)
    (case c10 => k_is)
    (case k10 => k_is)
    (case a11 => k_is)
    (case l11 => k_is)
    (case c11 => k_is)
    (case k11 => k_is)
    (case a12 => k_is)
    (case l12 => k_is)
    (case c12 => k_is)
    (case k12 => k_is)
    (case a13 => k_is)
    (case l13 => k_is)
    (case c13 => k_is)
    (case k13 => k_is)
    (case a14 => k_is)
    (case l14 => k_is)
    (case c14 => k_is)
    (case k14 => k_is)
    (case a15 => k_is)
    (case l15 => k_is)
    (case c15 => k_is)
    (case k15 => k_is)
    (case a16 => k_is)
    (case l16 => k_is)
    (case c16 => k_is)
    (case k16 => k_is)
    (case a17 => k_is)
    (case l17 => k_is)
    (case c17 => k_is)
    (case k17 => k_is)
    (case a18 => k_is)
    (case l18 => k_is)
    (case c18 => k_is)
    (case k18 => k_is)
    (case a19 => k_is)
    (case l19 => k_is)
    (case c19 => k_is)
    (case k19 => k_is)
    (case z_all => k_is)
    (case z_int => k_is)
    (case z_len => k_is)
    (case z_min => k_is)
    (case z_range => k_is)
    (case z_set => k_is)
    (case z_sorted => k_is)
    (case z_tuple => k_is)
    (case z_type => k_is)
    (case z_zip => k_is)
    (case s_c_GREATEST_INTERVAL => k_is)
    (case s_c_GREATEST_NUMBER => k_is)
    (case s_c_GREATEST_PLACE => k_is)
    (case s_c_LIST_NAMES => k_is)
    (case g10 => k_is)
    (case s_c_MOST_MEMBERS => k_is)
    (case s_c_MOST_PLACES => k_is)
    (case s_c_UNITS => k_is)
    (case g17 => k_is)
