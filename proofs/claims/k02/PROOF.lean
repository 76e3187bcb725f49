import PyProof.Rows.All
import HandS.ForMost
import HandS.Exc
import HandS.ExcOwn
import HandS.CallSlots
import HandS.Defaults
import HandS.HeadEnd
import HandS.HeadHook1
import HandS.HeadHook2
import HandS.Property
import HandS.Lambda
import HandS.ForExc
import HandS.TupAny
import HandS.TupMul
import HandS.Wide
import HandS.IsInst
import HandS.Deep
import HandS.Style
import HandS.Gcd
import HandS.SortInts
import HandS.Rev
import HandS.Zip
import KE.GoesEnum
import HandS.RevTup
import HandS.Conv
import HandS.SortKw
import HandS.OwnEq
import KE.KMinKey
import PyProof.WalkInts
import HandS.Sort
import HandS.RaiseMore
import PyProof.WalksMore
import KE.KDictZip
import HandS.MapObj
import PyProof.TupleOfGen
import HandS.TupSets
import PyProof.ReprRoads
import PyProof.ReprBulk
import PyProof.Rows.StrBin
import PyProof.Rows.StrDigitsNeg
import HandS.NamedTupSort
import HandS.Keys
import KE.KSortTup
import HandS.TryMany
import HandS.EndTab
import KE.KNestM
import HandS.HeadWalk
import PyProof.ListStr
import HandS.Text
import HandS.Iter
import PyProof.EqKinds
import HandS.DictEq
import HandS.FStr
import KE.KCallOwn
import HandS.IterNext
import HandS.IterVal
import PyProof.CollectIter
import HandS.OwnIter
import HandS.Head0
import HandS.Head1
import HandS.Head2
import HandS.Head3
import KE.KExcInit
import HandS.ExcInit
import HandS.ExcField
import PySem.Challenge.RW_touchtowers_k02_whole_residues_and_divis
import KE.KStateDown
import Lean
set_option Elab.async false
set_option linter.all false
set_option maxRecDepth 100000
namespace TT
open PySem PySem.Spec L2

abbrev Sg := L2.St
/-! ### pure values -/
inductive PV where
  | non | bl (b : Bool) | int (i : Int) | str (x : Str)
  | tup (xs : List PV) | lst (xs : List PV)
  /-- a list that is only read (the script) -/
  | scr (xs : List PV)
  /-- an object of the class named c -/
  | obj (c : Str) (fs : List (Str × PV))
  /-- a range lo, lo + 1, .. below hi -/
  | rng (lo hi : Int)
  /-- a dict whose keys are whole numbers and texts; one whose keys are tuples of these -/
  | dct (ks : List L2.Key) (ds : List PV)
  | dcT (ks : List (List L2.Key)) (ds : List PV)
  deriving Inhabited

mutual
inductive Dn (K : PySem.W.Frag) (Z : Hp) : V → PV → Prop
  | non : Dn K Z .non .non
  | bl (b : Bool) : Dn K Z (.bl b) (.bl b)
  | int (i : Int) : Dn K Z (.int i) (.int i)
  | str (x : Str) : Dn K Z (.str x) (.str x)
  | lst {a : Addr} {xs : List V} {ds : List PV} : Z a = some (.lst xs) → DnAll K Z xs ds → Dn K Z (.ref a) (.lst ds)
  | scr {a : Addr} {xs : List V} {ds : List PV} : SqL K Z a xs → DnAll K Z xs ds → Dn K Z (.ref a) (.scr ds)
  | tup {a : Addr} {xs : List V} {ds : List PV} : SqT K Z a xs → DnAll K Z xs ds → Dn K Z (.ref a) (.tup ds)
  | obj {a dx : Addr} {c : Str} {ns : List Str} {xs : List V} {ds : List PV} : Z a = some (.ins (He.ga K c) dx (ns.zip xs)) → ns.length = ds.length → DnAll K Z xs ds → Dn K Z (.ref a) (.obj c (ns.zip ds))
  | rng {a : Addr} {lo hi : Int} : Z a = some (.rng lo hi) → Dn K Z (.ref a) (.rng lo hi)
  | dct {a : Addr} {ks : List L2.Key} {xs : List V} {ds : List PV} : Z a = some (.dK (ks.zip xs)) → ks.length = ds.length → DnAll K Z xs ds → Dn K Z (.ref a) (.dct ks ds)
  | dcT {a : Addr} {ks : List (List L2.Key)} {xs : List V} {ds : List PV} : Z a = some (.dT (ks.zip xs)) → ks.length = ds.length → DnAll K Z xs ds → Dn K Z (.ref a) (.dcT ks ds)
inductive DnAll (K : PySem.W.Frag) (Z : Hp) : List V → List PV → Prop
  | nil : DnAll K Z [] []
  | cons {v : V} {vs : List V} {d : PV} {ds : List PV} : Dn K Z v d → DnAll K Z vs ds → DnAll K Z (v :: vs) (d :: ds)
end

def Zle (Z Z' : Hp) : Prop := ∀ a o, Z a = some o → Z' a = some o
theorem Zle.refl (Z : Hp) : Zle Z Z := fun _ _ h => h
theorem Zle.trans {Z Z' Z'' : Hp} (a : Zle Z Z') (b : Zle Z' Z'') : Zle Z Z'' := fun x o h => b x o (a x o h)
theorem Zle.noneOf {Z Z' : Hp} (l : Zle Z Z') {a : Addr} (h : Z' a = none) : Z a = none := by
  cases q : Z a with
  | none => rfl
  | some o => rw [l a o q] at h; cases h
theorem Zle.updOf {Z : Hp} {a : Addr} {o : HO} (h : Z a = none) : Zle Z (upd Z a o) := fun b u e => by
  rw [upd_ne (ne_of_none e h)]; exact e
theorem Zle.rd {Z Z' : Hp} (l : Zle Z Z') {a : Addr} {u : HO} (h : Rd Z a u) : Rd Z' a u := by
  rcases h with h | ⟨o, h⟩
  · exact .inl (l _ _ h)
  · exact .inr ⟨o, l _ _ h⟩
theorem Zle.sqL {K : PySem.W.Frag} {Z Z' : Hp} (l : Zle Z Z') {a : Addr} {xs : List V} (h : SqL K Z a xs) : SqL K Z' a xs := h.imp l.rd id
theorem Zle.sqT {K : PySem.W.Frag} {Z Z' : Hp} (l : Zle Z Z') {a : Addr} {xs : List V} (h : SqT K Z a xs) : SqT K Z' a xs := h.imp l.rd id

mutual
theorem Dn.mono {K : PySem.W.Frag} {Z Z' : Hp} (l : Zle Z Z') : ∀ {v : V} {d : PV}, Dn K Z v d → Dn K Z' v d
  | _, _, .non => .non
  | _, _, .bl b => .bl b
  | _, _, .int i => .int i
  | _, _, .str x => .str x
  | _, _, .lst h t => .lst (l _ _ h) (DnAll.mono l t)
  | _, _, .scr h t => .scr (l.sqL h) (DnAll.mono l t)
  | _, _, .tup h t => .tup (l.sqT h) (DnAll.mono l t)
  | _, _, .obj h e t => .obj (l _ _ h) e (DnAll.mono l t)
  | _, _, .rng h => .rng (l _ _ h)
  | _, _, .dct h e t => .dct (l _ _ h) e (DnAll.mono l t)
  | _, _, .dcT h e t => .dcT (l _ _ h) e (DnAll.mono l t)
theorem DnAll.mono {K : PySem.W.Frag} {Z Z' : Hp} (l : Zle Z Z') : ∀ {vs : List V} {ds : List PV}, DnAll K Z vs ds → DnAll K Z' vs ds
  | _, _, .nil => .nil
  | _, _, .cons h t => .cons (Dn.mono l h) (DnAll.mono l t)
end
section
variable {K : PySem.W.Frag} {Z : Hp}
theorem DnAll.length : ∀ {vs : List V} {ds : List PV}, DnAll K Z vs ds → vs.length = ds.length
  | _, _, .nil => rfl
  | _, _, .cons _ t => congrArg (· + 1) (DnAll.length t)
theorem DnAll.append : ∀ {vs ws : List V} {ds es : List PV}, DnAll K Z vs ds → DnAll K Z ws es → DnAll K Z (vs ++ ws) (ds ++ es)
  | _, _, _, _, .nil, s => s
  | _, _, _, _, .cons h t, s => .cons h (DnAll.append t s)
theorem DnAll.take : ∀ {vs : List V} {ds : List PV} (n : Nat), DnAll K Z vs ds → DnAll K Z (vs.take n) (ds.take n)
  | _, _, 0, _ => .nil
  | _, _, _ + 1, .nil => .nil
  | _, _, n + 1, .cons h t => .cons h (DnAll.take n t)
theorem DnAll.drop : ∀ {vs : List V} {ds : List PV} (n : Nat), DnAll K Z vs ds → DnAll K Z (vs.drop n) (ds.drop n)
  | _, _, 0, s => s
  | _, _, _ + 1, .nil => .nil
  | _, _, n + 1, .cons _ t => DnAll.drop n t
theorem DnAll.get : ∀ {vs : List V} {ds : List PV} {i : Nat} {d : PV}, DnAll K Z vs ds → ds[i]? = some d → ∃ v, vs[i]? = some v ∧ Dn K Z v d
  | _, _, _, _, .nil, e => by simp at e
  | _, _, 0, _, .cons h _, e => by simp at e; subst e; exact ⟨_, rfl, h⟩
  | _, _, i + 1, d, .cons _ t, e => by
    obtain ⟨v, h1, h2⟩ := DnAll.get (i := i) (d := d) t (by simpa using e)
    exact ⟨v, by simpa using h1, h2⟩
theorem DnAll.getV : ∀ {vs : List V} {ds : List PV} {i : Nat} {v : V}, DnAll K Z vs ds → vs[i]? = some v → ∃ d, ds[i]? = some d ∧ Dn K Z v d
  | _, _, _, _, .nil, e => by simp at e
  | _, _, 0, _, .cons h _, e => by simp at e; subst e; exact ⟨_, rfl, h⟩
  | _, _, i + 1, v, .cons _ t, e => by
    obtain ⟨d, h1, h2⟩ := DnAll.getV (i := i) (v := v) t (by simpa using e)
    exact ⟨d, by simpa using h1, h2⟩
theorem DnAll.set {v : V} {d : PV} (h : Dn K Z v d) : ∀ {vs : List V} {ds : List PV} (i : Nat), DnAll K Z vs ds → DnAll K Z (vs.set i v) (ds.set i d)
  | _, _, _, .nil => .nil
  | _, _, 0, .cons _ t => .cons h t
  | _, _, i + 1, .cons q t => .cons q (DnAll.set h i t)
theorem DnAll.reverse : ∀ {vs : List V} {ds : List PV}, DnAll K Z vs ds → DnAll K Z vs.reverse ds.reverse
  | _, _, .nil => .nil
  | _, _, .cons h t => by
    rw [List.reverse_cons, List.reverse_cons]
    exact (DnAll.reverse t).append (.cons h .nil)
theorem DnAll.rep {vs : List V} {ds : List PV} (h : DnAll K Z vs ds) : ∀ n : Nat, DnAll K Z (List.replicate n vs).flatten (List.replicate n ds).flatten
  | 0 => .nil
  | n + 1 => by
    rw [List.replicate_succ, List.replicate_succ, List.flatten_cons, List.flatten_cons]
    exact h.append (DnAll.rep h n)
theorem DnAll.dropLast {vs : List V} {ds : List PV} (h : DnAll K Z vs ds) : DnAll K Z vs.dropLast ds.dropLast := by
  rw [List.dropLast_eq_take, List.dropLast_eq_take, h.length]
  exact h.take _
end

theorem Dn.tup_inv {K : PySem.W.Frag} {Z : Hp} {v : V} {ds : List PV} (h : Dn K Z v (.tup ds)) : ∃ a xs, v = .ref a ∧ SqT K Z a xs ∧ DnAll K Z xs ds := by
  cases h with | tup h t => exact ⟨_, _, rfl, h, t⟩
theorem Dn.lst_inv {K : PySem.W.Frag} {Z : Hp} {v : V} {ds : List PV} (h : Dn K Z v (.lst ds)) : ∃ a xs, v = .ref a ∧ Z a = some (.lst xs) ∧ DnAll K Z xs ds := by
  cases h with | lst h t => exact ⟨_, _, rfl, h, t⟩
theorem Dn.scr_inv {K : PySem.W.Frag} {Z : Hp} {v : V} {ds : List PV} (h : Dn K Z v (.scr ds)) : ∃ a xs, v = .ref a ∧ SqL K Z a xs ∧ DnAll K Z xs ds := by
  cases h with | scr h t => exact ⟨_, _, rfl, h, t⟩
theorem Dn.rng_inv {K : PySem.W.Frag} {Z : Hp} {v : V} {lo hi : Int} (h : Dn K Z v (.rng lo hi)) : ∃ a, v = .ref a ∧ Z a = some (.rng lo hi) := by
  cases h with | rng h => exact ⟨_, rfl, h⟩
theorem Dn.dct_inv {K : PySem.W.Frag} {Z : Hp} {v : V} {ks : List L2.Key} {ds : List PV} (h : Dn K Z v (.dct ks ds)) : ∃ a xs, v = .ref a ∧ Z a = some (.dK (ks.zip xs)) ∧ ks.length = ds.length ∧ DnAll K Z xs ds := by
  cases h with | dct h e t => exact ⟨_, _, rfl, h, e, t⟩
theorem Dn.dcT_inv {K : PySem.W.Frag} {Z : Hp} {v : V} {ks : List (List L2.Key)} {ds : List PV} (h : Dn K Z v (.dcT ks ds)) : ∃ a xs, v = .ref a ∧ Z a = some (.dT (ks.zip xs)) ∧ ks.length = ds.length ∧ DnAll K Z xs ds := by
  cases h with | dcT h e t => exact ⟨_, _, rfl, h, e, t⟩
theorem Dn.int_inv {K : PySem.W.Frag} {Z : Hp} {v : V} {i : Int} (h : Dn K Z v (.int i)) : v = .int i := by cases h; rfl
theorem Dn.bl_inv {K : PySem.W.Frag} {Z : Hp} {v : V} {i : Bool} (h : Dn K Z v (.bl i)) : v = .bl i := by cases h; rfl
theorem Dn.str_inv {K : PySem.W.Frag} {Z : Hp} {v : V} {i : Str} (h : Dn K Z v (.str i)) : v = .str i := by cases h; rfl
theorem Dn.non_inv {K : PySem.W.Frag} {Z : Hp} {v : V} (h : Dn K Z v .non) : v = .non := by cases h; rfl
theorem DnAll.cons_inv {K : PySem.W.Frag} {Z : Hp} {vs : List V} {d : PV} {ds : List PV} (h : DnAll K Z vs (d :: ds)) : ∃ w ws, vs = w :: ws ∧ Dn K Z w d ∧ DnAll K Z ws ds := by
  cases h with | cons h t => exact ⟨_, _, rfl, h, t⟩
theorem DnAll.nil_inv {K : PySem.W.Frag} {Z : Hp} {vs : List V} (h : DnAll K Z vs []) : vs = [] := by cases h; rfl

/-! ### slots, results -/
inductive SV where
  | un | val (d : PV) | own (d : PV) | bor (d : PV)
  deriving Inhabited
abbrev Rho := List SV
inductive RV where
  | val (d : PV) | own (d : PV) | ali (i : Nat)
  deriving Inhabited
/-- an exception: its class's name, its attributes -/
structure EX where
  c : Str
  fs : List (Str × PV)
inductive Res (α : Type) where
  | ok (a : α) (ρ : Rho) | er (x : EX) (ρ : Rho) | no
def Res.bind {α β : Type} (r : Res α) (f : α → Rho → Res β) : Res β := match r with
  | .ok a ρ => f a ρ
  | .er x ρ => .er x ρ
  | .no => .no
def SV.isObj : SV → Bool
  | .own _ => true
  | .bor _ => true
  | _ => false
def isObj (ρ : Rho) (i : Nat) : Prop := ∃ s, ρ[i]? = some s ∧ s.isObj = true
def SV.get : SV → Option PV
  | .un => none
  | .val d => some d
  | .own d => some d
  | .bor d => some d
/-- what an own object holds -/
def Ob (K : PySem.W.Frag) (Z H : Hp) (a : Addr) : PV → Prop
  | .lst ds => ∃ xs, H a = some (.lst xs) ∧ DnAll K Z xs ds
  | .obj c fs => ∃ (dx : Addr) (ns : List Str) (xs : List V) (ds : List PV), H a = some (.ins (He.ga K c) dx (ns.zip xs)) ∧ fs = ns.zip ds ∧ ns.length = ds.length ∧ DnAll K Z xs ds
  | .dct ks ds => ∃ xs, H a = some (.dK (ks.zip xs)) ∧ ks.length = ds.length ∧ DnAll K Z xs ds
  | .dcT ks ds => ∃ xs, H a = some (.dT (ks.zip xs)) ∧ ks.length = ds.length ∧ DnAll K Z xs ds
  | _ => False
theorem Ob.mono {K : PySem.W.Frag} {Z Z' H H' : Hp} {a : Addr} {d : PV} (l : Zle Z Z') (e : H' a = H a) (h : Ob K Z H a d) : Ob K Z' H' a d := by
  cases d with
  | lst ds => obtain ⟨xs, h1, h2⟩ := h; exact ⟨xs, e.trans h1, h2.mono l⟩
  | obj c fs => obtain ⟨dx, ns, xs, ds, h1, h2, h3, h4⟩ := h; exact ⟨dx, ns, xs, ds, e.trans h1, h2, h3, h4.mono l⟩
  | dct ks ds => obtain ⟨xs, h1, h2, h3⟩ := h; exact ⟨xs, e.trans h1, h2, h3.mono l⟩
  | dcT ks ds => obtain ⟨xs, h1, h2, h3⟩ := h; exact ⟨xs, e.trans h1, h2, h3.mono l⟩
  | _ => exact h.elim
theorem Ob.there {K : PySem.W.Frag} {Z H : Hp} {a : Addr} {d : PV} (h : Ob K Z H a d) : H a ≠ none := by
  cases d with
  | lst ds => obtain ⟨xs, h1, h2⟩ := h; rw [h1]; simp
  | obj c fs => obtain ⟨dx, ns, xs, ds, h1, _⟩ := h; rw [h1]; simp
  | dct ks ds => obtain ⟨xs, h1, _⟩ := h; rw [h1]; simp
  | dcT ks ds => obtain ⟨xs, h1, _⟩ := h; rw [h1]; simp
  | _ => exact h.elim

/-! ### tables of code objects, which may grow -/
class Tabl where
  T : List (Addr × Str)
def isTbl : HO → Bool
  | .tbl _ => true
  | _ => false
theorem isTbl_ps {o : HO} : isTbl o = true ↔ ∃ ps, o = .tbl ps := by
  cases o <;> simp [isTbl]
/-- without the tables, where there are some -/
def nt [Tabl] (H : Hp) : Hp := fun a => match H a with
  | some o => if isTbl o && !(Tabl.T : List (Addr × Str)).isEmpty then none else some o
  | none => none
def NT [Tabl] (H : Hp) : Prop := Tabl.T = [] ∨ ∀ a ps, H a ≠ some (.tbl ps)
theorem nt_id [Tabl] (hT : Tabl.T = []) {H : Hp} : nt H = H := by
  funext a
  unfold nt
  cases H a with
  | none => rfl
  | some o => simp [hT]
theorem nt_of [Tabl] {H : Hp} {a : Addr} {o : HO} (h : H a = some o) (n : ∀ ps, o ≠ .tbl ps) : nt H a = some o := by
  have e : isTbl o = false := by
    cases q : isTbl o with
    | false => rfl
    | true => obtain ⟨ps, z⟩ := isTbl_ps.mp q; exact absurd z (n ps)
  unfold nt
  rw [h]
  simp [e]
theorem nt_eq [Tabl] {H : Hp} {a : Addr} (h : nt H a ≠ none) : nt H a = H a := by
  unfold nt at h ⊢
  cases q : H a with
  | none => rfl
  | some o =>
    rw [q] at h
    simp only at h ⊢
    split
    · rename_i z; rw [if_pos z] at h; exact absurd rfl h
    · rfl
theorem nt_ne [Tabl] {H : Hp} {a : Addr} (h : nt H a ≠ none) : H a ≠ none := by rw [← nt_eq h]; exact h
theorem nt_NT [Tabl] {H : Hp} : NT (nt H) := by
  unfold NT
  by_cases hT : (Tabl.T : List (Addr × Str)) = []
  · exact .inl hT
  · refine .inr fun a ps z => ?_
    have h1 : nt H a = H a := nt_eq (by rw [z]; simp)
    rw [z] at h1
    unfold nt at z
    rw [← h1] at z
    have e : (Tabl.T : List (Addr × Str)).isEmpty = false := by
      cases q : (Tabl.T : List (Addr × Str)) with
      | nil => exact absurd q hT
      | cons _ _ => rfl
    simp [isTbl, e] at z
theorem nt_keep [Tabl] {H H0 : Hp} {a : Addr} (n : NT H0) (h : H0 a ≠ none) (e : H a = H0 a) : nt H a = H a := by
  rcases n with n | n
  · have : nt H a = H a := by
      unfold nt
      cases H a with
      | none => rfl
      | some o => simp [n]
    exact this
  · cases q : H0 a with
    | none => exact absurd q h
    | some o =>
      rw [q] at e
      exact (nt_of e fun ps z => n a ps (by rw [q, z])).trans e.symm
theorem nt_upd_ne [Tabl] {H : Hp} {a p : Addr} {o : HO} (h : a ≠ p) : nt (upd H p o) a = nt H a := by
  unfold nt
  rw [upd_ne h]
theorem NT.upd [Tabl] {Z : Hp} {p : Addr} {o : HO} (h : NT Z) (n : ∀ ps, o ≠ .tbl ps) : NT (upd Z p o) := h.imp id fun q a ps z => by
  by_cases e : a = p
  · rw [e, upd_same] at z; exact n ps (Option.some.inj z)
  · rw [upd_ne e] at z; exact q a ps z
theorem tabs_new {T : List (Addr × Str)} {H : Hp} {p : Addr} {o : HO} (t : LamX.Tabs T H) (hp : H p = none) : LamX.Tabs T (upd H p o) := t.ext fun b u e => by
  rw [upd_ne (ne_of_none e hp)]; exact e
theorem tabs_put {T : List (Addr × Str)} {H : Hp} {a : Addr} {u o : HO} (t : LamX.Tabs T H) (ha : H a = some u) (h1 : ∀ ps, u ≠ .tbl ps) (h2 : ∀ c q, u ≠ LamX.CodeO c q) : LamX.Tabs T (upd H a o) := fun p hp => by
  obtain ⟨ps, k1, k2, k3⟩ := t p hp
  have n1 : p.1 ≠ a := fun z => by rw [z, ha] at k1; exact h1 ps (Option.some.inj k1)
  refine ⟨ps, by rw [upd_ne n1]; exact k1, k2, fun pos cv hc => ?_⟩
  obtain ⟨c, e1, e2⟩ := k3 pos cv hc
  have n2 : c ≠ a := fun z => by rw [z, ha] at e2; exact h2 _ _ (Option.some.inj e2)
  exact ⟨c, e1, by rw [upd_ne n2]; exact e2⟩
theorem Ob.noT {K : PySem.W.Frag} {Z H : Hp} {a : Addr} {d : PV} (h : Ob K Z H a d) : ∃ u, H a = some u ∧ (∀ ps, u ≠ .tbl ps) ∧ ∀ c q, u ≠ LamX.CodeO c q := by
  cases d with
  | lst ds => obtain ⟨xs, h1, h2⟩ := h; exact ⟨_, h1, fun _ z => by (cases z), fun _ _ z => by (unfold LamX.CodeO at z; cases z)⟩
  | obj c fs => obtain ⟨dx, ns, xs, ds, h1, _⟩ := h; exact ⟨_, h1, fun _ z => by (cases z), fun _ _ z => by (unfold LamX.CodeO at z; cases z)⟩
  | dct ks ds => obtain ⟨xs, h1, _⟩ := h; exact ⟨_, h1, fun _ z => by (cases z), fun _ _ z => by (unfold LamX.CodeO at z; cases z)⟩
  | dcT ks ds => obtain ⟨xs, h1, _⟩ := h; exact ⟨_, h1, fun _ z => by (cases z), fun _ _ z => by (unfold LamX.CodeO at z; cases z)⟩
  | _ => exact h.elim
theorem Ob.nt [Tabl] {K : PySem.W.Frag} {Z H : Hp} {a : Addr} {d : PV} (h : Ob K Z H a d) : TT.nt H a = H a := by
  obtain ⟨u, h1, h2, _⟩ := h.noT
  exact (nt_of h1 h2).trans h1.symm
theorem Ob.ntn [Tabl] {K : PySem.W.Frag} {Z H : Hp} {a : Addr} {d : PV} (h : Ob K Z H a d) : TT.nt H a ≠ none := by rw [h.nt]; exact h.there
/-! ### the state -/
structure Ct where
  K : PySem.W.Frag
  mg : Str → Option Value
  Z0 : Hp
  H0 : Hp
  M : Addr → Prop
  B : Nat → Option Addr
structure Rel [Tabl] (C : Ct) (ρ : Rho) (σ : St) (Z H : Hp) : Prop where
  len : ρ.length = σ.length
  le : Zle Z H
  val : ∀ (i : Nat) (d : PV), ρ[i]? = some (.val d) → ∃ v, σ[i]? = some (some v) ∧ Dn C.K Z v d
  obj : ∀ (i : Nat) (s : SV) (d : PV), ρ[i]? = some s → s.isObj = true → s.get = some d → ∃ a, σ[i]? = some (some (.ref a)) ∧ Z a = none ∧ Ob C.K Z H a d ∧ (C.H0 a = none ∨ C.M a)
  inj : ∀ (i j : Nat) (a : Addr), isObj ρ i → isObj ρ j → σ[i]? = some (some (.ref a)) → σ[j]? = some (some (.ref a)) → i = j
  bor : ∀ (i : Nat) (d : PV), ρ[i]? = some (.bor d) → ∃ a, C.B i = some a ∧ σ[i]? = some (some (.ref a))
  keep : ∀ a : Addr, C.H0 a ≠ none → ¬ C.M a → H a = C.H0 a ∧ Z a = C.Z0 a
  zle : Zle C.Z0 Z
  here : ∀ a : Addr, C.H0 a ≠ none → nt H a ≠ none
  tab : LamX.Tabs Tabl.T H
  n0 : NT C.H0
  zt : NT Z
/-- the state as a new entry -/
def Ct.at [Tabl] (C : Ct) (ρ : Rho) (σ : St) (Z H : Hp) : Ct := { C with Z0 := Z, H0 := nt H, M := fun a => ∃ i, isObj ρ i ∧ σ[i]? = some (some (.ref a)) }
section
variable {C : Ct} {ρ ρ' : Rho} {σ σ' : St} {Z Z' H H' : Hp}
theorem Rel.objA [Tabl] (R : Rel C ρ σ Z H) {i : Nat} (h : isObj ρ i) : ∃ a d, σ[i]? = some (some (.ref a)) ∧ Z a = none ∧ Ob C.K Z H a d ∧ (C.H0 a = none ∨ C.M a) := by
  obtain ⟨s, e, o⟩ := h
  cases s with
  | own d => obtain ⟨a, h1⟩ := R.obj i _ d e o rfl; exact ⟨a, d, h1⟩
  | bor d => obtain ⟨a, h1⟩ := R.obj i _ d e o rfl; exact ⟨a, d, h1⟩
  | _ => cases o
theorem Rel.fresh [Tabl] (R : Rel C ρ σ Z H) {p : Addr} (h : H p = none) : Z p = none ∧ C.H0 p = none := by
  refine ⟨R.le.noneOf h, ?_⟩
  cases q : C.H0 p with
  | none => rfl
  | some o => exact absurd h (nt_ne (R.here p (by rw [q]; simp)))
theorem Rel.fresh0 [Tabl] (R : Rel C ρ σ Z H) {p : Addr} (h : nt H p = none) : C.H0 p = none := by
  cases q : C.H0 p with
  | none => rfl
  | some o => exact absurd h (R.here p (by rw [q]; simp))
theorem Rel.base [Tabl] (R : Rel C ρ σ Z H) : Rel (C.at ρ σ Z H) ρ σ Z H := by
  refine ⟨R.len, R.le, R.val, fun i s d e o g => ?_, R.inj, R.bor, fun a h _ => ⟨(nt_eq h).symm, rfl⟩, Zle.refl _, fun a h => h, R.tab, nt_NT, R.zt⟩
  obtain ⟨a, h1, h2, h3, h4⟩ := R.obj i s d e o g
  exact ⟨a, h1, h2, h3, .inr ⟨i, ⟨s, e, o⟩, h1⟩⟩
theorem Rel.unbase [Tabl] (R : Rel C ρ σ Z H) (R' : Rel (C.at ρ σ Z H) ρ' σ' Z' H') : Rel C ρ' σ' Z' H' := by
  have nM : ∀ a, C.H0 a ≠ none → ¬ C.M a → ¬ (C.at ρ σ Z H).M a := fun a h1 h2 ⟨i, hi, e⟩ => by
    obtain ⟨b, d, e', _, _, h4⟩ := R.objA hi
    rw [e] at e'; cases e'
    rcases h4 with h4 | h4
    · exact h1 h4
    · exact h2 h4
  refine ⟨R'.len, R'.le, R'.val, fun i s d e o g => ?_, R'.inj, R'.bor, fun a h1 h2 => ?_, R.zle.trans R'.zle, fun a h => R'.here a (R.here a h), R'.tab, R.n0, R'.zt⟩
  · obtain ⟨a, h1, h2, h3, h4⟩ := R'.obj i s d e o g
    refine ⟨a, h1, h2, h3, ?_⟩
    rcases h4 with h4 | ⟨j, hj, e'⟩
    · exact .inl (R.fresh0 h4)
    · obtain ⟨b, d, e'', _, _, h4⟩ := R.objA hj
      rw [e'] at e''; cases e''
      exact h4
  · obtain ⟨k1, k2⟩ := R.keep a h1 h2
    have kn := nt_keep R.n0 h1 k1
    obtain ⟨k3, k4⟩ := R'.keep a (show nt H a ≠ none by rw [kn, k1]; exact h1) (nM a h1 h2)
    exact ⟨(k3.trans kn).trans k1, k4.trans k2⟩
/-- a new object, not frozen -/
theorem Rel.new [Tabl] (R : Rel C ρ σ Z H) {p : Addr} {o : HO} (hp : H p = none) : Rel C ρ σ Z (upd H p o) := by
  have hz := (R.fresh hp).1
  have h0 := (R.fresh hp).2
  refine ⟨R.len, fun a u e => ?_, R.val, fun i s d e q g => ?_, R.inj, R.bor, fun a h1 h2 => ?_, R.zle, fun a h => ?_, tabs_new R.tab hp, R.n0, R.zt⟩
  · rw [upd_ne (ne_of_none e hz)]; exact R.le a u e
  · obtain ⟨a, h1, h2, h3, h4⟩ := R.obj i s d e q g
    refine ⟨a, h1, h2, h3.mono (Zle.refl _) (upd_ne fun z => ?_), h4⟩
    subst z
    exact h3.there hp
  · have ne : a ≠ p := fun z => h1 (by rw [z]; exact h0)
    rw [upd_ne ne]
    exact R.keep a h1 h2
  · have ne : a ≠ p := fun z => h (by rw [z]; exact h0)
    rw [nt_upd_ne ne]
    exact R.here a h
/-- a new object, frozen -/
theorem Rel.newZ [Tabl] (R : Rel C ρ σ Z H) {p : Addr} {o : HO} (hp : H p = none) (ho : ∀ ps, o ≠ HO.tbl ps := by intro _ z; cases z) : Rel C ρ σ (upd Z p o) (upd H p o) ∧ Zle Z (upd Z p o) := by
  have hz := (R.fresh hp).1
  have h0 := (R.fresh hp).2
  have zl : Zle Z (upd Z p o) := Zle.updOf hz
  refine ⟨⟨R.len, fun a u e => ?_, fun i d e => ?_, fun i s d e q g => ?_, R.inj, R.bor, fun a h1 h2 => ?_, R.zle.trans zl, fun a h => ?_, tabs_new R.tab hp, R.n0, R.zt.upd ho⟩, zl⟩
  · by_cases ha : a = p
    · subst ha; rw [upd_same] at e ⊢; exact e
    · rw [upd_ne ha] at e ⊢; exact R.le a u e
  · obtain ⟨v, h1, h2⟩ := R.val i d e
    exact ⟨v, h1, h2.mono zl⟩
  · obtain ⟨a, h1, h2, h3, h4⟩ := R.obj i s d e q g
    have ne : a ≠ p := fun z => h3.there (z ▸ hp)
    refine ⟨a, h1, (upd_ne ne).trans h2, h3.mono zl (upd_ne ne), h4⟩
  · have ne : a ≠ p := fun z => h1 (by rw [z]; exact h0)
    rw [upd_ne ne, upd_ne ne]
    exact R.keep a h1 h2
  · have ne : a ≠ p := fun z => h (by rw [z]; exact h0)
    rw [nt_upd_ne ne]
    exact R.here a h
end

/-! ### a result that stands -/
def DnR (C : Ct) (ρ : Rho) (σ : St) (Z H : Hp) (v : V) : RV → Prop
  | .val d => Dn C.K Z v d
  | .own d => ∃ a, v = .ref a ∧ Z a = none ∧ Ob C.K Z H a d ∧ (C.H0 a = none ∨ C.M a) ∧ ∀ i, isObj ρ i → σ[i]? ≠ some (some (.ref a))
  | .ali i => σ[i]? = some (some v)
def peek (r : RV) (ρ : Rho) : Option PV := match r with
  | .val d => some d
  | .own d => some d
  | .ali i => (ρ[i]?).bind SV.get
/-- what may be read at once -/
def Pk (K : PySem.W.Frag) (Z H : Hp) (v : V) : PV → Prop
  | .lst ds => ∃ a xs, v = .ref a ∧ H a = some (.lst xs) ∧ DnAll K Z xs ds
  | .obj c fs => ∃ (a dx : Addr) (ns : List Str) (xs : List V) (ds : List PV), v = .ref a ∧ H a = some (.ins (He.ga K c) dx (ns.zip xs)) ∧ fs = ns.zip ds ∧ ns.length = ds.length ∧ DnAll K Z xs ds
  | .dct ks ds => ∃ a xs, v = .ref a ∧ H a = some (.dK (ks.zip xs)) ∧ ks.length = ds.length ∧ DnAll K Z xs ds
  | .dcT ks ds => ∃ a xs, v = .ref a ∧ H a = some (.dT (ks.zip xs)) ∧ ks.length = ds.length ∧ DnAll K Z xs ds
  | d => Dn K Z v d
theorem Dn.pk {K : PySem.W.Frag} {Z H : Hp} {v : V} {d : PV} (l : Zle Z H) (h : Dn K Z v d) : Pk K Z H v d := by
  cases d with
  | lst ds => cases h with | lst h t => exact ⟨_, _, rfl, l _ _ h, t⟩
  | obj c fs =>
    generalize e : PV.obj c fs = d at h
    cases h with
    | obj h e2 t => cases e; exact ⟨_, _, _, _, _, rfl, l _ _ h, rfl, e2, t⟩
    | _ => cases e
  | dct ks ds => obtain ⟨a, xs, rfl, h1, h2, h3⟩ := h.dct_inv; exact ⟨a, xs, rfl, l _ _ h1, h2, h3⟩
  | dcT ks ds => obtain ⟨a, xs, rfl, h1, h2, h3⟩ := h.dcT_inv; exact ⟨a, xs, rfl, l _ _ h1, h2, h3⟩
  | _ => exact h
theorem Ob.pk {K : PySem.W.Frag} {Z H : Hp} {a : Addr} {d : PV} (h : Ob K Z H a d) : Pk K Z H (.ref a) d := by
  cases d with
  | lst ds => obtain ⟨xs, h1, h2⟩ := h; exact ⟨_, _, rfl, h1, h2⟩
  | obj c fs => obtain ⟨dx, ns, xs, ds, h1, h2⟩ := h; exact ⟨_, dx, ns, xs, ds, rfl, h1, h2⟩
  | dct ks ds => obtain ⟨xs, h1, h2⟩ := h; exact ⟨_, xs, rfl, h1, h2⟩
  | dcT ks ds => obtain ⟨xs, h1, h2⟩ := h; exact ⟨_, xs, rfl, h1, h2⟩
  | _ => exact h.elim
section
variable {C : Ct} {ρ ρ' : Rho} {σ σ' : St} {Z Z' H H' : Hp} {v : V} {r : RV} {d : PV}
theorem DnR.pk [Tabl] (R : Rel C ρ σ Z H) (h : DnR C ρ σ Z H v r) (e : peek r ρ = some d) : Pk C.K Z H v d := by
  cases r with
  | val d' => cases e; exact Dn.pk R.le h
  | own d' => cases e; obtain ⟨a, rfl, _, h3, _⟩ := h; exact h3.pk
  | ali i =>
    have h' : σ[i]? = some (some v) := h
    have e' : (ρ[i]?).bind SV.get = some d := e
    cases q : ρ[i]? with
    | none => rw [q] at e'; cases e'
    | some s =>
      rw [q] at e'
      have e2 : s.get = some d := e'
      cases s with
      | un => cases e2
      | val d' =>
        cases e2
        obtain ⟨u, h1, h2⟩ := R.val i _ q
        rw [h'] at h1; cases h1
        exact h2.pk R.le
      | own d' =>
        obtain ⟨a, h1, h2, h3, _⟩ := R.obj i _ d q rfl e2
        rw [h'] at h1; cases h1
        exact h3.pk
      | bor d' =>
        obtain ⟨a, h1, h2, h3, _⟩ := R.obj i _ d q rfl e2
        rw [h'] at h1; cases h1
        exact h3.pk
/-- a result, carried over a later evaluation -/
theorem DnR.carry [Tabl] (R : Rel C ρ σ Z H) (R' : Rel (C.at ρ σ Z H) ρ' σ Z' H') (h : DnR C ρ σ Z H v r) : DnR C ρ' σ Z' H' v r := by
  cases r with
  | val d => exact Dn.mono R'.zle h
  | ali i => exact h
  | own d =>
    obtain ⟨a, rfl, h2, h3, h4, h5⟩ := h
    have nM : ¬ (C.at ρ σ Z H).M a := fun ⟨i, hi, e⟩ => h5 i hi e
    have hs := h3.there
    obtain ⟨k1', k2⟩ := R'.keep a h3.ntn nM
    have k1 := k1'.trans h3.nt
    refine ⟨a, rfl, k2.trans h2, h3.mono R'.zle k1, h4, fun i hi e => ?_⟩
    obtain ⟨b, d', e', _, _, q⟩ := R'.objA hi
    rw [e] at e'; cases e'
    rcases q with q | q
    · exact h3.ntn q
    · exact nM q
/-- a result of the rebased state -/
theorem DnR.unbase [Tabl] (R : Rel C ρ σ Z H) (h : DnR (C.at ρ σ Z H) ρ' σ' Z' H' v r) : DnR C ρ' σ' Z' H' v r := by
  cases r with
  | val d => exact h
  | ali i => exact h
  | own d =>
    obtain ⟨a, h1, h2, h3, h4, h5⟩ := h
    refine ⟨a, h1, h2, h3, ?_, h5⟩
    rcases h4 with h4 | ⟨i, hi, e⟩
    · exact .inl (R.fresh0 h4)
    · obtain ⟨b, d', e', _, _, q⟩ := R.objA hi
      rw [e] at e'; cases e'
      exact q
/-- a result, made a value -/
def toVal (r : RV) (ρ : Rho) : Option (PV × Rho) := match r with
  | .val d => some (d, ρ)
  | .own d => some (d, ρ)
  | .ali i => match ρ[i]? with
    | some (.val d) => some (d, ρ)
    | some (.own d) => some (d, ρ.set i (.val d))
    | _ => none
/-- an own object is frozen -/
theorem Rel.freezeO [Tabl] (R : Rel C ρ σ Z H) {a : Addr} {o : HO} (hz : Z a = none) (hx : H a = some o) (h0 : C.H0 a = none ∨ C.M a) (hn : ∀ i, isObj ρ i → σ[i]? ≠ some (some (.ref a))) (hot : ∀ ps, o ≠ HO.tbl ps := by intro _ z; cases z) : Rel C ρ σ (upd Z a o) H ∧ Zle Z (upd Z a o) := by
  have zl : Zle Z (upd Z a o) := Zle.updOf hz
  refine ⟨⟨R.len, fun b u e => ?_, fun i d e => ?_, fun i s d e q g => ?_, R.inj, R.bor, fun b h1 h2 => ?_, R.zle.trans zl, R.here, R.tab, R.n0, R.zt.upd hot⟩, zl⟩
  · by_cases hb : b = a
    · subst hb; rw [upd_same] at e; cases e; exact hx
    · rw [upd_ne hb] at e; exact R.le b u e
  · obtain ⟨v, h1, h2⟩ := R.val i d e
    exact ⟨v, h1, h2.mono zl⟩
  · obtain ⟨b, h1, h2, h3, h4⟩ := R.obj i s d e q g
    have ne : b ≠ a := fun z => hn i ⟨s, e, q⟩ (z ▸ h1)
    exact ⟨b, h1, (upd_ne ne).trans h2, h3.mono zl rfl, h4⟩
  · have ne : b ≠ a := fun z => by
      subst z
      rcases h0 with h0 | h0
      · exact h1 h0
      · exact h2 h0
    rw [upd_ne ne]
    exact R.keep b h1 h2
theorem Rel.freeze [Tabl] (R : Rel C ρ σ Z H) {a : Addr} (hz : Z a = none) (ho : Ob C.K Z H a d) (h0 : C.H0 a = none ∨ C.M a) (hn : ∀ i, isObj ρ i → σ[i]? ≠ some (some (.ref a))) : ∃ Z', Rel C ρ σ Z' H ∧ Zle Z Z' ∧ Dn C.K Z' (.ref a) d := by
  cases d with
  | lst ds =>
    obtain ⟨xs, hx, hd⟩ := ho
    obtain ⟨R', zl⟩ := R.freezeO hz hx h0 hn
    exact ⟨_, R', zl, .lst upd_same (hd.mono zl)⟩
  | obj c fs =>
    obtain ⟨dx, ns, xs, ds, hx, rfl, hl, hd⟩ := ho
    obtain ⟨R', zl⟩ := R.freezeO hz hx h0 hn
    exact ⟨_, R', zl, .obj upd_same hl (hd.mono zl)⟩
  | dct ks ds =>
    obtain ⟨xs, hx, hl, hd⟩ := ho
    obtain ⟨R', zl⟩ := R.freezeO hz hx h0 hn
    exact ⟨_, R', zl, .dct upd_same hl (hd.mono zl)⟩
  | dcT ks ds =>
    obtain ⟨xs, hx, hl, hd⟩ := ho
    obtain ⟨R', zl⟩ := R.freezeO hz hx h0 hn
    exact ⟨_, R', zl, .dcT upd_same hl (hd.mono zl)⟩
  | _ => exact ho.elim
theorem bor_set [Tabl] {C : Ct} {ρ : Rho} {σ : Sg} {Z H : Hp} (R : Rel C ρ σ Z H) {i : Nat} {s : SV} (hs : s.isObj = false) (j : Nat) (d : PV) (e : (ρ.set i s)[j]? = some (.bor d)) : ∃ a, C.B j = some a ∧ σ[j]? = some (some (.ref a)) := by
  by_cases hj : j = i
  · subst hj
    rw [List.getElem?_set] at e
    simp only [if_true] at e
    split at e
    · cases e; cases hs
    · cases e
  · rw [List.getElem?_set_ne (Ne.symm hj)] at e
    exact R.bor j d e
theorem isObj_set_val {i j : Nat} {s : SV} (hs : s.isObj = false) (h : isObj (ρ.set i s) j) : isObj ρ j ∧ j ≠ i := by
  obtain ⟨t, e, o⟩ := h
  by_cases hj : j = i
  · subst hj
    rw [List.getElem?_set] at e
    simp only [if_true] at e
    split at e
    · cases e; rw [hs] at o; cases o
    · cases e
  · rw [List.getElem?_set_ne (Ne.symm hj)] at e
    exact ⟨⟨t, e, o⟩, hj⟩
/-- a slot forgets its object -/
theorem Rel.drop [Tabl] (R : Rel C ρ σ Z H) (i : Nat) : Rel C (ρ.set i .un) σ Z H := by
  refine ⟨by rw [List.length_set]; exact R.len, R.le, fun j d e => ?_, fun j s d e q g => ?_, fun j k a hj hk => R.inj j k a (isObj_set_val rfl hj).1 (isObj_set_val rfl hk).1, bor_set R rfl, R.keep, R.zle, R.here, R.tab, R.n0, R.zt⟩
  · by_cases hj : j = i
    · subst hj
      rw [List.getElem?_set] at e
      simp only [if_true] at e
      split at e <;> cases e
    · rw [List.getElem?_set_ne (Ne.symm hj)] at e
      exact R.val j d e
  · obtain ⟨⟨t, e', o⟩, hj⟩ := isObj_set_val rfl ⟨s, e, q⟩
    rw [List.getElem?_set_ne (Ne.symm hj)] at e
    exact R.obj j s d e q g
/-- a slot whose value is known gets it -/
theorem Rel.know [Tabl] (R : Rel C ρ σ Z H) {i : Nat} (hs : σ[i]? = some (some v)) (hd : Dn C.K Z v d) : Rel C (ρ.set i (.val d)) σ Z H := by
  refine ⟨by rw [List.length_set]; exact R.len, R.le, fun j e he => ?_, fun j s e he q g => ?_, fun j k a hj hk => R.inj j k a (isObj_set_val rfl hj).1 (isObj_set_val rfl hk).1, bor_set R rfl, R.keep, R.zle, R.here, R.tab, R.n0, R.zt⟩
  · by_cases hj : j = i
    · subst hj
      rw [List.getElem?_set] at he
      simp only [if_true] at he
      split at he
      · cases he; exact ⟨v, hs, hd⟩
      · cases he
    · rw [List.getElem?_set_ne (Ne.symm hj)] at he
      exact R.val j e he
  · obtain ⟨⟨t, e', o⟩, hj⟩ := isObj_set_val rfl ⟨s, he, q⟩
    rw [List.getElem?_set_ne (Ne.symm hj)] at he
    exact R.obj j s e he q g
theorem toVal_ok [Tabl] (R : Rel C ρ σ Z H) (h : DnR C ρ σ Z H v r) (e : toVal r ρ = some (d, ρ')) : ∃ Z', Rel C ρ' σ Z' H ∧ Zle Z Z' ∧ Dn C.K Z' v d := by
  cases r with
  | val d' => cases e; exact ⟨Z, R, Zle.refl _, h⟩
  | own d' =>
    cases e
    obtain ⟨a, rfl, h2, h3, h4, h5⟩ := h
    exact R.freeze h2 h3 h4 h5
  | ali i =>
    have h' : σ[i]? = some (some v) := h
    unfold toVal at e
    simp only at e
    split at e
    · rename_i d' q
      cases e
      obtain ⟨u, h1, h2⟩ := R.val i _ q
      rw [h'] at h1; cases h1
      exact ⟨Z, R, Zle.refl _, h2⟩
    · rename_i d' q
      cases e
      obtain ⟨a, h1, h2, h3, h4⟩ := R.obj i _ d q rfl rfl
      rw [h'] at h1; cases h1
      have R1 := R.drop i
      obtain ⟨Z', R2, l, hd⟩ := R1.freeze h2 h3 h4 (fun j hj e2 => by
        obtain ⟨hj1, hj2⟩ := isObj_set_val rfl hj
        exact hj2 (R.inj j i a hj1 ⟨_, q, rfl⟩ e2 h'))
      have R3 := R2.know h' hd
      rw [List.set_set] at R3
      exact ⟨Z', R3, l, hd⟩
    · cases e
end
end TT

set_option Elab.async false
set_option linter.all false
set_option maxRecDepth 100000
namespace TT
open PySem PySem.Spec L2

/-! ### readings by functions -/
def Xc (mg : Str → Option Value) (K : PySem.W.Frag) (Z H : Hp) (x : EX) (cls : Value) (d : Option Addr) : Prop :=
  mg x.c = some cls ∧ ((x.fs = [] ∧ d = none) ∨ ∃ a vs, d = some a ∧ H a = some (.xd vs) ∧ vs.map (·.1) = x.fs.map (·.1) ∧ DnAll K Z (vs.map (·.2)) (x.fs.map (·.2)))

/-- an error's wish -/
def AftX [Tabl] (C : Ct) (W : WX) (σ : St) (Z : Hp) (x : EX) (ρ' : Rho) : Prop := ∀ cls d Z' H', Rel C ρ' σ Z' H' → Zle Z Z' → Xc C.mg C.K Z' H' x cls d → W cls d σ H'
def Aft [Tabl] (C : Ct) (W : WX) (σ : St) (Z : Hp) (r : Res RV) (Q : VK) : Prop := match r with
  | .ok rv ρ' => ∀ v Z' H', Rel C ρ' σ Z' H' → Zle Z Z' → DnR C ρ' σ Z' H' v rv → Q v H'
  | .er x ρ' => AftX C W σ Z x ρ'
  | .no => False
def AftB [Tabl] (C : Ct) (W : WX) (σ : St) (Z : Hp) (r : Res Bool) (Q : Bool → Hp → Prop) : Prop := match r with
  | .ok b ρ' => ∀ Z' H', Rel C ρ' σ Z' H' → Zle Z Z' → Q b H'
  | .er x ρ' => AftX C W σ Z x ρ'
  | .no => False
def DnRs (C : Ct) (ρ : Rho) (σ : St) (Z H : Hp) : List V → List RV → Prop
  | [], [] => True
  | v :: vs, r :: rs => DnR C ρ σ Z H v r ∧ DnRs C ρ σ Z H vs rs
  | _, _ => False
def AftA [Tabl] (C : Ct) (W : WX) (σ : St) (Z : Hp) (r : Res (List RV)) (Q : List V → Hp → Prop) : Prop := match r with
  | .ok rs ρ' => ∀ vs Z' H', Rel C ρ' σ Z' H' → Zle Z Z' → DnRs C ρ' σ Z' H' vs rs → Q vs H'
  | .er x ρ' => AftX C W σ Z x ρ'
  | .no => False
def TF [Tabl] (K : PySem.W.Frag) (mg : Str → Option Value) (W : WX) (f : Rho → Res RV) : TE := fun σ H Q => ∃ C ρ Z, C.K = K ∧ C.mg = mg ∧ Rel C ρ σ Z H ∧ Aft C W σ Z (f ρ) Q
def TB [Tabl] (K : PySem.W.Frag) (mg : Str → Option Value) (W : WX) (f : Rho → Res Bool) : TT := fun σ H Q => ∃ C ρ Z, C.K = K ∧ C.mg = mg ∧ Rel C ρ σ Z H ∧ AftB C W σ Z (f ρ) Q
def TAr [Tabl] (K : PySem.W.Frag) (mg : Str → Option Value) (W : WX) (f : Rho → Res (List RV)) : TA := fun σ H Q => ∃ C ρ Z, C.K = K ∧ C.mg = mg ∧ Rel C ρ σ Z H ∧ AftA C W σ Z (f ρ) Q
abbrev SE [Tabl] (X : Cx) (W : WX) (e : Expr) (f : Rho → Res RV) : Prop := PE X e (TF X.K X.mg W f)
abbrev ST [Tabl] (X : Cx) (W : WX) (e : Expr) (f : Rho → Res Bool) : Prop := PT X e (TB X.K X.mg W f)
abbrev SA [Tabl] (X : Cx) (W : WX) (es : List Expr) (f : Rho → Res (List RV)) : Prop := PA X es (TAr X.K X.mg W f)

theorem pe_imp {X : Cx} {e : Expr} {t t' : TE} (h : PE X e t) (i : ∀ σ H Q, t' σ H Q → t σ H Q) : PE X e t' := ⟨fun pins s σ H Q I q => h.run pins s σ H Q I (i σ H Q q)⟩
theorem pt_imp {X : Cx} {e : Expr} {t t' : TT} (h : PT X e t) (i : ∀ σ H Q, t' σ H Q → t σ H Q) : PT X e t' := ⟨fun pins s σ H Q I q => h.run pins s σ H Q I (i σ H Q q)⟩
theorem pa_imp {X : Cx} {es : List Expr} {t t' : TA} (h : PA X es t) (i : ∀ σ H Q, t' σ H Q → t σ H Q) : PA X es t' := ⟨fun pos pins s σ H Q I q => h.run pos pins s σ H Q I (i σ H Q q)⟩

section
variable {C : Ct} {W : WX} {ρ ρ' ρ1 : Rho} {σ σ' : St} {Z Z' Z1 H H' H1 : Hp} {v : V} {r : RV} {d : PV} {Q : VK}
theorem AftX.mono [Tabl] {x : EX} (h : AftX C W σ Z x ρ) (l : Zle Z Z1) : AftX C W σ Z1 x ρ := fun cls d Z' H' R z q => h cls d Z' H' R (l.trans z) q
theorem Aft.mono [Tabl] {r : Res RV} (h : Aft C W σ Z r Q) (l : Zle Z Z1) : Aft C W σ Z1 r Q := by
  cases r with
  | ok a ρ' => exact fun v Z' H' R z q => h v Z' H' R (l.trans z) q
  | er x ρ' => exact AftX.mono h l
  | no => exact h
theorem AftX.base [Tabl] {x : EX} (R : Rel C ρ σ Z H) (h : AftX C W σ Z1 x ρ') : AftX (C.at ρ σ Z H) W σ Z1 x ρ' := fun cls d Z' H' R' z q => h cls d Z' H' (R.unbase R') z q
theorem Aft.base [Tabl] {r : Res RV} (R : Rel C ρ σ Z H) (h : Aft C W σ Z1 r Q) : Aft (C.at ρ σ Z H) W σ Z1 r Q := by
  cases r with
  | ok a ρ' => exact fun v Z' H' R' z q => h v Z' H' (R.unbase R') z (q.unbase R)
  | er x ρ' => exact AftX.base R h
  | no => exact h
/-- in a state: a function's reading -/
theorem tf_of [Tabl] {f : Rho → Res RV} (R : Rel C ρ σ Z H) (h : Aft C W σ Z (f ρ) Q) : TF C.K C.mg W f σ H Q := ⟨C, ρ, Z, rfl, rfl, R, h⟩
/-- one step: f, then k -/
theorem tf_bind [Tabl] {α : Type} {f : Rho → Res RV} {k : RV → Rho → Res α} {P : Res α → Prop} (R : Rel C ρ σ Z H) (h : P ((f ρ).bind k)) (hx : ∀ x ρ', P (.er x ρ') → AftX C W σ Z x ρ') (hn : ¬ P .no)
    (q : ∀ a ρ1 v Z1 H1, Rel C ρ1 σ Z1 H1 → Zle Z Z1 → DnR C ρ1 σ Z1 H1 v a → P (k a ρ1) → Q v H1) : TF C.K C.mg W f σ H Q := by
  refine tf_of R ?_
  cases e : f ρ with
  | ok a ρ1 => rw [e] at h; exact fun v Z1 H1 R1 l dn => q a ρ1 v Z1 H1 R1 l dn h
  | er x ρ1 => rw [e] at h; exact hx x ρ1 h
  | no => rw [e] at h; exact (hn h).elim
/-- two steps -/
theorem tf_two [Tabl] {α : Type} {f g : Rho → Res RV} {k : RV → RV → Rho → Res α} {P : Res α → Prop} {R' : V → V → Hp → Prop} (R : Rel C ρ σ Z H) (h : P ((f ρ).bind fun a ρ1 => (g ρ1).bind fun b ρ2 => k a b ρ2))
    (hx : ∀ x ρ', P (.er x ρ') → AftX C W σ Z x ρ') (hn : ¬ P .no)
    (q : ∀ a b ρ2 x y Z2 H2, Rel C ρ2 σ Z2 H2 → Zle Z Z2 → DnR C ρ2 σ Z2 H2 x a → DnR C ρ2 σ Z2 H2 y b → P (k a b ρ2) → R' x y H2) :
    TF C.K C.mg W f σ H fun x H1 => TF C.K C.mg W g σ H1 fun y H2 => R' x y H2 := by
  refine tf_bind (P := P) R h hx hn fun a ρ1 x Z1 H1 R1 l1 d1 h1 => ?_
  have R1b := R1.base
  refine tf_bind (C := C.at ρ1 σ Z1 H1) (P := P) R1b h1 (fun y ρ' hy => AftX.base R1 ((hx y ρ' hy).mono l1)) hn fun b ρ2 y Z2 H2 R2 l2 d2 h2 => ?_
  exact q a b ρ2 x y Z2 H2 (R1.unbase R2) (l1.trans l2) (d1.carry R1 R2) (d2.unbase R1) h2
end

/-! ### values out of operations -/
inductive OV where
  | val (d : PV) | own (d : PV)
def OV.rv : OV → RV
  | .val d => .val d
  | .own d => .own d
/-- what an operation must be able to end with -/
def Want (K : PySem.W.Frag) (Z H : Hp) (o : OV) (Q : VK) : Prop := match o with
  | .val d => (∀ v, Dn K Z v d → Q v H) ∧ ∀ xs ds p, d = .tup ds → H p = none → DnAll K Z xs ds → Q (.ref p) (upd H p (.tup xs))
  | .own d => ∀ xs ds p, d = .lst ds → H p = none → DnAll K Z xs ds → Q (.ref p) (upd H p (.lst xs))
def optR (o : Option OV) (ρ : Rho) : Res RV := match o with
  | some o => .ok o.rv ρ
  | none => .no
section
variable {C : Ct} {W : WX} {ρ : Rho} {σ : St} {Z Z0 H : Hp} {o : OV} {Q : VK}
theorem want_of [Tabl] (R : Rel C ρ σ Z H) (h : Aft C W σ Z0 (.ok o.rv ρ) Q) (l : Zle Z0 Z) : Want C.K Z H o Q := by
  cases o with
  | val d =>
    refine ⟨fun v dn => h v Z H R l dn, fun xs ds p e hp dn => ?_⟩
    subst e
    obtain ⟨R', zl⟩ := R.newZ (o := .tup xs) hp
    exact h _ _ _ R' (l.trans zl) (.tup (.of upd_same) (dn.mono zl))
  | own d =>
    intro xs ds p e hp dn
    subst e
    obtain ⟨hz, h0⟩ := R.fresh hp
    refine h _ Z _ (R.new hp) l ⟨p, rfl, hz, ⟨xs, upd_same, dn⟩, .inl h0, fun i hi e => ?_⟩
    obtain ⟨a, d', e', _, ob, _⟩ := R.objA hi
    rw [e] at e'; cases e'
    exact ob.there hp
end
/-- a two-place operation on values does what the function says -/
def Op2 (K : PySem.W.Frag) (r : R2) (p : PV → PV → Option OV) : Prop := ∀ Z H x y d e o Q, Zle Z H → Pk K Z H x d → Pk K Z H y e → p d e = some o → Want K Z H o Q → r x y H Q
def Op1 (K : PySem.W.Frag) (r : V → Hp → VK → Prop) (p : PV → Option OV) : Prop := ∀ Z H x d o Q, Zle Z H → Pk K Z H x d → p d = some o → Want K Z H o Q → r x H Q
def PkAll (K : PySem.W.Frag) (Z H : Hp) : List V → List PV → Prop
  | [], [] => True
  | v :: vs, d :: ds => Pk K Z H v d ∧ PkAll K Z H vs ds
  | _, _ => False
def OpN (K : PySem.W.Frag) (r : List V → Hp → VK → Prop) (p : List PV → Option OV) : Prop := ∀ Z H xs ds o Q, Zle Z H → PkAll K Z H xs ds → p ds = some o → Want K Z H o Q → r xs H Q

def peeks : List RV → Rho → Option (List PV)
  | [], _ => some []
  | r :: rs, ρ => (peek r ρ).bind fun d => (peeks rs ρ).bind fun ds => some (d :: ds)
section
variable {C : Ct} {ρ ρ' : Rho} {σ : St} {Z Z' H H' : Hp}
theorem DnRs.pk [Tabl] (R : Rel C ρ σ Z H) : ∀ {vs : List V} {rs : List RV} {ds : List PV}, DnRs C ρ σ Z H vs rs → peeks rs ρ = some ds → PkAll C.K Z H vs ds
  | [], [], ds, _, e => by cases e; trivial
  | v :: vs, r :: rs, ds, h, e => by
    unfold peeks at e
    cases q : peek r ρ with
    | none => rw [q] at e; cases e
    | some d =>
      cases q2 : peeks rs ρ with
      | none => rw [q, q2] at e; cases e
      | some es =>
        rw [q, q2] at e
        cases e
        exact ⟨h.1.pk R q, DnRs.pk R h.2 q2⟩
  | [], _ :: _, _, h, _ => h.elim
  | _ :: _, [], _, h, _ => h.elim
theorem DnRs.carry [Tabl] (R : Rel C ρ σ Z H) (R' : Rel (C.at ρ σ Z H) ρ' σ Z' H') : ∀ {vs : List V} {rs : List RV}, DnRs C ρ σ Z H vs rs → DnRs C ρ' σ Z' H' vs rs
  | [], [], _ => trivial
  | _ :: _, _ :: _, h => ⟨h.1.carry R R', DnRs.carry R R' h.2⟩
  | [], _ :: _, h => h.elim
  | _ :: _, [], h => h.elim
theorem DnRs.unbase [Tabl] {σ' : St} (R : Rel C ρ σ Z H) : ∀ {vs : List V} {rs : List RV}, DnRs (C.at ρ σ Z H) ρ' σ' Z' H' vs rs → DnRs C ρ' σ' Z' H' vs rs
  | [], [], _ => trivial
  | _ :: _, _ :: _, h => ⟨h.1.unbase R, DnRs.unbase R h.2⟩
  | [], _ :: _, h => h.elim
  | _ :: _, [], h => h.elim
end

/-! ### expressions -/
def fVal (o : PV) : Rho → Res RV := fun ρ => .ok (.val o) ρ
def fName (i : Nat) : Rho → Res RV := fun ρ => match ρ[i]? with
  | some (.val d) => .ok (.val d) ρ
  | some (.own _) => .ok (.ali i) ρ
  | some (.bor _) => .ok (.ali i) ρ
  | _ => .no
/-- made a value -/
def rVal (r : RV) (ρ : Rho) : Res RV := match toVal r ρ with
  | some (d, ρ') => .ok (.val d) ρ'
  | none => .no
def fV (f : Rho → Res RV) : Rho → Res RV := fun ρ => (f ρ).bind rVal
def fBin (p : PV → PV → Option OV) (f g : Rho → Res RV) : Rho → Res RV := fun ρ => (f ρ).bind fun a ρ1 => (g ρ1).bind fun b ρ2 =>
  match peek a ρ2, peek b ρ2 with
  | some x, some y => optR (p x y) ρ2
  | _, _ => .no
def fUn (p : PV → Option OV) (f : Rho → Res RV) : Rho → Res RV := fun ρ => (f ρ).bind fun a ρ1 =>
  match peek a ρ1 with
  | some x => optR (p x) ρ1
  | _ => .no
def fNil : Rho → Res (List RV) := fun ρ => .ok [] ρ
def fCons (f : Rho → Res RV) (g : Rho → Res (List RV)) : Rho → Res (List RV) := fun ρ => (f ρ).bind fun a ρ1 => (g ρ1).bind fun as ρ2 => .ok (a :: as) ρ2
def fApp (p : List PV → Option OV) (f : Rho → Res (List RV)) : Rho → Res RV := fun ρ => (f ρ).bind fun as ρ1 =>
  match peeks as ρ1 with
  | some xs => optR (p xs) ρ1
  | _ => .no
def vals : List RV → Option (List PV)
  | [] => some []
  | .val d :: rs => (vals rs).bind fun ds => some (d :: ds)
  | _ => none
def fTup (f : Rho → Res (List RV)) : Rho → Res RV := fun ρ => (f ρ).bind fun as ρ1 =>
  match vals as with
  | some ds => if ds.length ≤ 1000 then .ok (.val (.tup ds)) ρ1 else .no
  | none => .no
def fLst (f : Rho → Res (List RV)) : Rho → Res RV := fun ρ => (f ρ).bind fun as ρ1 =>
  match vals as with
  | some ds => if ds.length ≤ 1000 then .ok (.own (.lst ds)) ρ1 else .no
  | none => .no

theorem vals_ok {C : Ct} {ρ : Rho} {σ : St} {Z H : Hp} : ∀ {vs : List V} {rs : List RV} {ds : List PV}, DnRs C ρ σ Z H vs rs → vals rs = some ds → DnAll C.K Z vs ds
  | [], [], ds, _, e => by cases e; exact .nil
  | v :: vs, .val d :: rs, ds, h, e => by
    unfold vals at e
    cases q : vals rs with
    | none => rw [q] at e; cases e
    | some es =>
      rw [q] at e
      cases e
      exact .cons h.1 (vals_ok h.2 q)
  | _ :: _, .own _ :: _, _, _, e => by cases e
  | _ :: _, .ali _ :: _, _, _, e => by cases e
  | [], _ :: _, _, h, _ => h.elim
  | _ :: _, [], _, h, _ => h.elim

section
variable {X : Cx} {W : WX} {a b c : Expr} {es : List Expr} {f g : Rho → Res RV} {pos : Pos}
theorem se_of [Tabl] {e : Expr} {t : TE} (h : PE X e t) (i : ∀ C ρ σ Z H Q, C.K = X.K → C.mg = X.mg → Rel C ρ σ Z H → Aft C W σ Z (f ρ) Q → t σ H Q) : SE X W e f :=
  pe_imp h fun σ H Q ⟨C, ρ, Z, hK, hm, R, q⟩ => i C ρ σ Z H Q hK hm R q
theorem se_name [Tabl] (i : Nat) {x : Str} {pos : Pos} (hN : X.N[i]? = some x := by rfl) (hv : Vis X.env.scope x := by first | exact Or.inl rfl | exact Or.inr (Or.inl rfl) | exact Or.inr (Or.inr rfl)) (hd : (x == ("__debug__" : Str)) = false := by decide)
    (hcd : (x == ("__classdict__" : Str)) = false := by decide) : SE X W (.Name x pos) (fName i) :=
  se_of (pe_var hN hv hd hcd) fun C ρ σ Z H Q hK hm R q => by
    unfold fName at q
    cases e : ρ[i]? with
    | none => rw [e] at q; exact q.elim
    | some s =>
      rw [e] at q
      cases s with
      | un => exact q.elim
      | val d =>
        obtain ⟨v, h1, h2⟩ := R.val i d e
        exact ⟨v, h1, q v Z H R (Zle.refl _) h2⟩
      | own d =>
        obtain ⟨a, h1, _⟩ := R.obj i _ d e rfl rfl
        exact ⟨_, h1, q _ Z H R (Zle.refl _) h1⟩
      | bor d =>
        obtain ⟨a, h1, _⟩ := R.obj i _ d e rfl rfl
        exact ⟨_, h1, q _ Z H R (Zle.refl _) h1⟩
theorem se_c [Tabl] {e : Expr} {v : V} {d : PV} (h : PE X e (tC v)) (hd : ∀ K Z, Dn K Z v d) : SE X W e (fVal d) :=
  se_of h fun C ρ σ Z H Q hK hm R q => q v Z H R (Zle.refl _) (hd _ _)
theorem se_int [Tabl] {i j pos} : SE X W (.Constant (.int i) j pos) (fVal (.int i)) := se_c pe_int fun _ _ => .int _
theorem se_bl [Tabl] {b j pos} : SE X W (.Constant (.bool b) j pos) (fVal (.bl b)) := se_c pe_bl fun _ _ => .bl _
theorem se_non [Tabl] {j pos} : SE X W (.Constant .none j pos) (fVal .non) := se_c pe_non fun _ _ => .non
theorem se_str [Tabl] {x j pos} : SE X W (.Constant (.str x) j pos) (fVal (.str x)) := se_c pe_str fun _ _ => .str _
theorem se_v [Tabl] (ha : SE X W a f) : SE X W a (fV f) :=
  se_of ha fun C ρ σ Z H Q hK hm R q => by
    rw [← hK, ← hm]
    refine tf_bind (P := fun r => Aft C W σ Z r Q) R q (fun _ _ h => h) (fun h => h) fun a ρ1 v Z1 H1 R1 l dn h => ?_
    unfold rVal at h
    cases e : toVal a ρ1 with
    | none => rw [e] at h; exact h.elim
    | some p =>
      obtain ⟨d, ρ'⟩ := p
      rw [e] at h
      obtain ⟨Z', R', l', dn'⟩ := toVal_ok R1 dn e
      exact h v Z' H1 R' (l.trans l') dn'
theorem fin2 [Tabl] {C : Ct} {ρ : Rho} {σ : St} {Z Z0 H : Hp} {r : R2} {p : PV → PV → Option OV} {x y : V} {a b : RV} {Q : VK} (hr : Op2 C.K r p) (R : Rel C ρ σ Z H) (l : Zle Z0 Z) (d1 : DnR C ρ σ Z H x a) (d2 : DnR C ρ σ Z H y b)
    (h : Aft C W σ Z0 (match peek a ρ, peek b ρ with
      | some x, some y => optR (p x y) ρ
      | _, _ => .no) Q) : r x y H Q := by
  cases e1 : peek a ρ with
  | none => rw [e1] at h; exact h.elim
  | some d =>
    cases e2 : peek b ρ with
    | none => rw [e1, e2] at h; exact h.elim
    | some e =>
      rw [e1, e2] at h
      simp only at h
      cases e3 : p d e with
      | none => rw [e3] at h; exact h.elim
      | some o =>
        rw [e3] at h
        exact hr Z H x y d e o Q R.le (d1.pk R e1) (d2.pk R e2) e3 (want_of R h l)
theorem se_bin [Tabl] {op : Operator} {r : R2} {p : PV → PV → Option OV} (ho : OpR X (binaryOp op) r) (hr : Op2 X.K r p) (ha : SE X W a f) (hb : SE X W b g) : SE X W (.BinOp a op b pos) (fBin p f g) :=
  se_of (pe_op ho ha hb) fun C ρ σ Z H Q hK hm R q => by
    show TF X.K X.mg W f σ H fun x H1 => TF X.K X.mg W g σ H1 fun y H2 => r x y H2 Q
    rw [← hK, ← hm]
    refine tf_two (P := fun r => Aft C W σ Z r Q) R q (fun _ _ h => h) (fun h => h) fun a b ρ2 x y Z2 H2 R2 l d1 d2 h => ?_
    exact fin2 (by rw [hK]; exact hr) R2 l d1 d2 h
theorem se_cmp [Tabl] {op : CmpOp} {r : R2} {p : PV → PV → Option OV} (ho : OpR X (compareOp op) r) (hr : Op2 X.K r p) (ha : SE X W a f) (hb : SE X W b g) (hm : behindInMarks op b = false) : SE X W (.Compare a [op] [b] pos) (fBin p f g) :=
  se_of (pe_cmpR ho ha hb hm) fun C ρ σ Z H Q hK hm R q => by
    show TF X.K X.mg W f σ H fun x H1 => TF X.K X.mg W g σ H1 fun y H2 => r x y H2 Q
    rw [← hK, ← hm]
    refine tf_two (P := fun r => Aft C W σ Z r Q) R q (fun _ _ h => h) (fun h => h) fun a b ρ2 x y Z2 H2 R2 l d1 d2 h => ?_
    exact fin2 (by rw [hK]; exact hr) R2 l d1 d2 h
theorem se_un [Tabl] {op : UnaryOp} {r : V → Hp → VK → Prop} {p : PV → Option OV} (ho : UnR X (unaryOp op) r) (hr : Op1 X.K r p) (ha : SE X W a f) : SE X W (.UnaryOp op a pos) (fUn p f) :=
  se_of (pe_un ho ha) fun C ρ σ Z H Q hK hm R q => by
    show TF X.K X.mg W f σ H fun x H1 => r x H1 Q
    rw [← hK, ← hm]
    refine tf_bind (P := fun r => Aft C W σ Z r Q) R q (fun _ _ h => h) (fun h => h) fun a ρ1 v Z1 H1 R1 l dn h => ?_
    cases e1 : peek a ρ1 with
    | none => rw [e1] at h; exact h.elim
    | some d =>
      rw [e1] at h
      simp only at h
      cases e3 : p d with
      | none => rw [e3] at h; exact h.elim
      | some o =>
        rw [e3] at h
        exact hr Z1 H1 v d o Q R1.le (by rw [← hK]; exact dn.pk R1 e1) e3 (by rw [← hK]; exact want_of R1 h l)
/-! arguments -/
theorem sa_of [Tabl] {es : List Expr} {t : TA} {f : Rho → Res (List RV)} (h : PA X es t) (i : ∀ C ρ σ Z H Q, C.K = X.K → C.mg = X.mg → Rel C ρ σ Z H → AftA C W σ Z (f ρ) Q → t σ H Q) : SA X W es f :=
  pa_imp h fun σ H Q ⟨C, ρ, Z, hK, hm, R, q⟩ => i C ρ σ Z H Q hK hm R q
theorem sa_nil [Tabl] : SA X W [] fNil := sa_of pa_nil fun C ρ σ Z H Q hK hm R q => q [] Z H R (Zle.refl _) trivial
theorem AftA.mono [Tabl] {C : Ct} {W : WX} {σ : St} {Z Z1 : Hp} {Q : List V → Hp → Prop} {r : Res (List RV)} (h : AftA C W σ Z r Q) (l : Zle Z Z1) : AftA C W σ Z1 r Q := by
  cases r with
  | ok a ρ' => exact fun v Z' H' R z q => h v Z' H' R (l.trans z) q
  | er x ρ' => exact AftX.mono h l
  | no => exact h
theorem sa_cons [Tabl] {g : Rho → Res (List RV)} (ha : SE X W a f) (hr : SA X W es g) (hs : starEach (a :: es) X.env = (false, eval a X.env) :: starEach es X.env := by rfl) : SA X W (a :: es) (fCons f g) :=
  sa_of (pa_cons ha hr hs) fun C ρ σ Z H Q hK hm R q => by
    show TF X.K X.mg W f σ H fun x H1 => TAr X.K X.mg W g σ H1 fun xs H2 => Q (x :: xs) H2
    rw [← hK, ← hm]
    refine tf_bind (P := fun r => AftA C W σ Z r Q) R q (fun _ _ h => h) (fun h => h) fun a ρ1 x Z1 H1 R1 l1 d1 h => ?_
    refine ⟨C.at ρ1 σ Z1 H1, ρ1, Z1, rfl, rfl, R1.base, ?_⟩
    cases e : g ρ1 with
    | ok as ρ2 =>
      rw [e] at h
      exact fun vs Z2 H2 R2 l2 d2 => h (x :: vs) Z2 H2 (R1.unbase R2) (l1.trans l2) ⟨d1.carry R1 R2, DnRs.unbase R1 d2⟩
    | er x ρ2 => rw [e] at h; exact AftX.base R1 (AftX.mono h l1)
    | no => rw [e] at h; exact h
/-- what follows the arguments -/
theorem ta_bind [Tabl] {α : Type} {C : Ct} {ρ : Rho} {σ : St} {Z H : Hp} {Q : List V → Hp → Prop} {f : Rho → Res (List RV)} {k : List RV → Rho → Res α} {P : Res α → Prop} (R : Rel C ρ σ Z H) (h : P ((f ρ).bind k)) (hx : ∀ x ρ', P (.er x ρ') → AftX C W σ Z x ρ') (hn : ¬ P .no)
    (q : ∀ a ρ1 v Z1 H1, Rel C ρ1 σ Z1 H1 → Zle Z Z1 → DnRs C ρ1 σ Z1 H1 v a → P (k a ρ1) → Q v H1) : TAr C.K C.mg W f σ H Q := by
  refine ⟨C, ρ, Z, rfl, rfl, R, ?_⟩
  cases e : f ρ with
  | ok a ρ1 => rw [e] at h; exact fun v Z1 H1 R1 l dn => q a ρ1 v Z1 H1 R1 l dn h
  | er x ρ1 => rw [e] at h; exact hx x ρ1 h
  | no => rw [e] at h; exact (hn h).elim
theorem DnAll.small {K : PySem.W.Frag} {Z : Hp} {vs : List V} {ds : List PV} (h : DnAll K Z vs ds) (l : ds.length ≤ 1000) : vs.length ≤ sizeLine := by
  have := h.length
  have := sizeLine_eq
  omega
theorem se_tup [Tabl] {f : Rho → Res (List RV)} {x1} (h : SA X W es f) : SE X W (.Tuple es x1 pos) (fTup f) :=
  se_of (pe_tup h) fun C ρ σ Z H Q hK hm R q => by
    show TAr X.K X.mg W f σ H _
    rw [← hK, ← hm]
    refine ta_bind (P := fun r => Aft C W σ Z r Q) R q (fun _ _ h => h) (fun h => h) fun as ρ1 vs Z1 H1 R1 l1 d1 h => ?_
    cases e : vals as with
    | none => rw [e] at h; exact h.elim
    | some ds =>
      rw [e] at h
      simp only at h
      by_cases hl : ds.length ≤ 1000
      · rw [if_pos hl] at h
        have dn := vals_ok d1 e
        exact ⟨dn.small hl, fun p hp => (want_of (o := .val (.tup ds)) R1 h l1).2 vs ds p rfl hp dn⟩
      · rw [if_neg hl] at h; exact h.elim
theorem se_lst [Tabl] {f : Rho → Res (List RV)} (h : SA X W es f) : SE X W (.List es pos) (fLst f) :=
  se_of (pe_lst h) fun C ρ σ Z H Q hK hm R q => by
    show TAr X.K X.mg W f σ H _
    rw [← hK, ← hm]
    refine ta_bind (P := fun r => Aft C W σ Z r Q) R q (fun _ _ h => h) (fun h => h) fun as ρ1 vs Z1 H1 R1 l1 d1 h => ?_
    cases e : vals as with
    | none => rw [e] at h; exact h.elim
    | some ds =>
      rw [e] at h
      simp only at h
      by_cases hl : ds.length ≤ 1000
      · rw [if_pos hl] at h
        have dn := vals_ok d1 e
        exact ⟨dn.small hl, fun p hp => want_of (o := .own (.lst ds)) R1 h l1 vs ds p rfl hp dn⟩
      · rw [if_neg hl] at h; exact h.elim
/-- a built-in of values -/
theorem fin_app [Tabl] {C : Ct} {ρ : Rho} {σ : St} {Z Z0 H : Hp} {r : List V → Hp → VK → Prop} {p : List PV → Option OV} {vs : List V} {as : List RV} {Q : VK} (hr : OpN C.K r p) (R : Rel C ρ σ Z H) (l : Zle Z0 Z) (d : DnRs C ρ σ Z H vs as)
    (h : Aft C W σ Z0 (match peeks as ρ with
      | some xs => optR (p xs) ρ
      | _ => .no) Q) : r vs H Q := by
  cases e1 : peeks as ρ with
  | none => rw [e1] at h; exact h.elim
  | some ds =>
    rw [e1] at h
    simp only at h
    cases e3 : p ds with
    | none => rw [e3] at h; exact h.elim
    | some o =>
      rw [e3] at h
      exact hr Z H vs ds o Q R.le (DnRs.pk R d e1) e3 (want_of R h l)
theorem se_callB [Tabl] {x : Str} {p' : Pos} {e : Expr} {id : String} {r : List V → Hp → VK → Prop} {p : List PV → Option OV} {f : Rho → Res (List RV)} (hc : CallR X (.builtin id) r) (hr : OpN X.K r p) (hg : Gl X x) (hm : X.mg x = none) (hv : bootBuiltins x = some (.builtin id)) (ha : SA X W (e :: es) f)
    (hn : x ≠ "__name__" := by decide) (hdb : (x == ("__debug__" : Str)) = false := by decide) (he : starEach (e :: es) X.env = (false, eval e X.env) :: starEach es X.env := by rfl) (hpl : (backTo pos (starEach es X.env)).any (·.1) = false := by rfl) :
    SE X W (.Call (.Name x p') (e :: es) [] pos) (fApp p f) :=
  se_of (pe_callB hc hg hm hv ha hn hdb he hpl) fun C ρ σ Z H Q hK hm R q => by
    show TAr X.K X.mg W f σ H _
    rw [← hK, ← hm]
    refine ta_bind (P := fun r => Aft C W σ Z r Q) R q (fun _ _ h => h) (fun h => h) fun as ρ1 vs Z1 H1 R1 l1 d1 h => ?_
    exact fin_app (by rw [hK]; exact hr) R1 l1 d1 h
theorem se_callTy [Tabl] {x : Str} {p' : Pos} {e : Expr} {T : String} {r : List V → Hp → VK → Prop} {p : List PV → Option OV} {f : Rho → Res (List RV)} (hc : CallR X (.type T) r) (hr : OpN X.K r p) (hg : Gl X x) (hm : X.mg x = none) (hv : bootBuiltins x = some (.type T)) (ha : SA X W (e :: es) f)
    (hn : x ≠ "__name__" := by decide) (hdb : (x == ("__debug__" : Str)) = false := by decide) (he : starEach (e :: es) X.env = (false, eval e X.env) :: starEach es X.env := by rfl) (hpl : (backTo pos (starEach es X.env)).any (·.1) = false := by rfl) :
    SE X W (.Call (.Name x p') (e :: es) [] pos) (fApp p f) :=
  se_of (pe_callTy hc hg hm hv ha hn hdb he hpl) fun C ρ σ Z H Q hK hm R q => by
    show TAr X.K X.mg W f σ H _
    rw [← hK, ← hm]
    refine ta_bind (P := fun r => Aft C W σ Z r Q) R q (fun _ _ h => h) (fun h => h) fun as ρ1 vs Z1 H1 R1 l1 d1 h => ?_
    exact fin_app (by rw [hK]; exact hr) R1 l1 d1 h
end
end TT

set_option Elab.async false
set_option linter.all false
set_option maxRecDepth 100000
namespace TT
open PySem PySem.Spec L2

/-! ### tests -/
def tvB (r : Res RV) : Res Bool := match r with
  | .ok (.val (.bl b)) ρ => .ok b ρ
  | .er x ρ => .er x ρ
  | _ => .no
def fTB (f : Rho → Res RV) : Rho → Res Bool := fun ρ => tvB (f ρ)
def truth : PV → Option Bool
  | .non => some false
  | .bl b => some b
  | .int i => some (i != 0)
  | .str x => if x.length ≤ 1000000 then some ((x.length : Int) != 0) else none
  | .tup xs => some (!xs.isEmpty)
  | .lst xs => some (!xs.isEmpty)
  | .scr xs => some (!xs.isEmpty)
  | .dct ks _ => some (!ks.isEmpty)
  | _ => none
def fTru (f : Rho → Res RV) : Rho → Res Bool := fun ρ => (f ρ).bind fun a ρ1 => match peek a ρ1 with
  | some d => (match truth d with
    | some b => .ok b ρ1
    | none => .no)
  | none => .no
def fAnd (f g : Rho → Res Bool) : Rho → Res Bool := fun ρ => (f ρ).bind fun b ρ1 => if b = true then g ρ1 else .ok false ρ1
def fOr (f g : Rho → Res Bool) : Rho → Res Bool := fun ρ => (f ρ).bind fun b ρ1 => if b = true then .ok true ρ1 else g ρ1
def fNot (f : Rho → Res Bool) : Rho → Res Bool := fun ρ => (f ρ).bind fun b ρ1 => .ok (!b) ρ1
def fAndV (f g : Rho → Res RV) : Rho → Res RV := fun ρ => (tvB (f ρ)).bind fun b ρ1 => if b = true then g ρ1 else .ok (.val (.bl false)) ρ1
def fOrV (f g : Rho → Res RV) : Rho → Res RV := fun ρ => (tvB (f ρ)).bind fun b ρ1 => if b = true then .ok (.val (.bl true)) ρ1 else g ρ1
def fNotV (f : Rho → Res RV) : Rho → Res RV := fun ρ => (tvB (f ρ)).bind fun b ρ1 => .ok (.val (.bl !b)) ρ1
def fIfE (c : Rho → Res Bool) (f g : Rho → Res RV) : Rho → Res RV := fun ρ => (c ρ).bind fun b ρ1 => if b = true then f ρ1 else g ρ1
/-- a op b op' c -/
def fChain (p p' : PV → PV → Option OV) (f g h : Rho → Res RV) : Rho → Res RV := fun ρ => (f ρ).bind fun a ρ1 => (g ρ1).bind fun b ρ2 =>
  match peek a ρ2, peek b ρ2 with
  | some x, some y => (match p x y with
    | some (.val (.bl true)) => (h ρ2).bind fun c ρ3 => (match peek b ρ3, peek c ρ3 with
      | some y, some z => optR (p' y z) ρ3
      | _, _ => .no)
    | some (.val (.bl false)) => .ok (.val (.bl false)) ρ2
    | _ => .no)
  | _, _ => .no

section
variable {C : Ct} {W : WX} {ρ ρ' : Rho} {σ : Sg} {Z Z1 H H' : Hp} {Q : Bool → Hp → Prop}
theorem aft_tvB [Tabl] {r : Res RV} (h : AftB C W σ Z (tvB r) Q) : Aft C W σ Z r fun x H' => ∃ k, x = .bl k ∧ Q k H' := by
  cases r with
  | ok a ρ' =>
    cases a with
    | val d =>
      cases d with
      | bl b =>
        intro v Z' H' R l dn
        have dn' : Dn C.K Z' v (.bl b) := dn
        cases dn'
        exact ⟨b, rfl, h Z' H' R l⟩
      | _ => exact h.elim
    | _ => exact h.elim
  | er x ρ' => exact h
  | no => exact h.elim
theorem AftB.mono [Tabl] {r : Res Bool} (h : AftB C W σ Z r Q) (l : Zle Z Z1) : AftB C W σ Z1 r Q := by
  cases r with
  | ok a ρ' => exact fun Z' H' R z => h Z' H' R (l.trans z)
  | er x ρ' => exact AftX.mono h l
  | no => exact h
theorem tb_of [Tabl] {f : Rho → Res Bool} (R : Rel C ρ σ Z H) (h : AftB C W σ Z (f ρ) Q) : TB C.K C.mg W f σ H Q := ⟨C, ρ, Z, rfl, rfl, R, h⟩
theorem tb_bind [Tabl] {α : Type} {f : Rho → Res Bool} {k : Bool → Rho → Res α} {P : Res α → Prop} (R : Rel C ρ σ Z H) (h : P ((f ρ).bind k)) (hx : ∀ x ρ', P (.er x ρ') → AftX C W σ Z x ρ') (hn : ¬ P .no)
    (q : ∀ a ρ1 Z1 H1, Rel C ρ1 σ Z1 H1 → Zle Z Z1 → P (k a ρ1) → Q a H1) : TB C.K C.mg W f σ H Q := by
  refine tb_of R ?_
  cases e : f ρ with
  | ok a ρ1 => rw [e] at h; exact fun Z1 H1 R1 l => q a ρ1 Z1 H1 R1 l h
  | er x ρ1 => rw [e] at h; exact hx x ρ1 h
  | no => rw [e] at h; exact (hn h).elim
end

section
variable {X : Cx} {W : WX} {a b c : Expr} {es : List Expr} {f g h : Rho → Res RV} {pos : Pos}
theorem st_of [Tabl] {e : Expr} {t : TT} {f : Rho → Res Bool} (h : PT X e t) (i : ∀ C ρ σ Z H Q, C.K = X.K → C.mg = X.mg → Rel C ρ σ Z H → AftB C W σ Z (f ρ) Q → t σ H Q) : ST X W e f :=
  pt_imp h fun σ H Q ⟨C, ρ, Z, hK, hm, R, q⟩ => i C ρ σ Z H Q hK hm R q
theorem tf_bin [Tabl] {r : R2} {p : PV → PV → Option OV} (hr : Op2 X.K r p) {C : Ct} {ρ : Rho} {σ : Sg} {Z H : Hp} {Q : VK} (hK : C.K = X.K) (hm : C.mg = X.mg) (R : Rel C ρ σ Z H) (q : Aft C W σ Z (fBin p f g ρ) Q) :
    tOp r (TF X.K X.mg W f) (TF X.K X.mg W g) σ H Q := by
  show TF X.K X.mg W f σ H fun x H1 => TF X.K X.mg W g σ H1 fun y H2 => r x y H2 Q
  rw [← hK, ← hm]
  refine tf_two (P := fun r => Aft C W σ Z r Q) R q (fun _ _ h => h) (fun h => h) fun a b ρ2 x y Z2 H2 R2 l d1 d2 h => ?_
  exact fin2 (by rw [hK]; exact hr) R2 l d1 d2 h
theorem st_cmp [Tabl] {op : CmpOp} {r : R2} {p : PV → PV → Option OV} (ho : OpR X (compareOp op) r) (hr : Op2 X.K r p) (ha : SE X W a f) (hb : SE X W b g) (hm : behindInMarks op b = false) : ST X W (.Compare a [op] [b] pos) (fTB (fBin p f g)) :=
  st_of (pt_cmpR ho ha hb hm) fun C ρ σ Z H Q hK hm R q => tf_bin hr hK hm R (aft_tvB q)
theorem tf_chain [Tabl] {r r' : R2} {p p' : PV → PV → Option OV} (hr : Op2 X.K r p) (hr' : Op2 X.K r' p') {C : Ct} {ρ : Rho} {σ : Sg} {Z H : Hp} {Q : VK} (hK : C.K = X.K) (hm : C.mg = X.mg) (R : Rel C ρ σ Z H) (q : Aft C W σ Z (fChain p p' f g h ρ) Q) :
    tChain r r' (TF X.K X.mg W f) (TF X.K X.mg W g) (TF X.K X.mg W h) σ H Q := by
  show TF X.K X.mg W f σ H fun x H1 => TF X.K X.mg W g σ H1 fun y H2 => r x y H2 fun z H3 => ∃ k, z = .bl k ∧ (if k = true then TF X.K X.mg W h σ H3 fun w' H4 => r' y w' H4 Q else Q (.bl false) H3)
  rw [← hK, ← hm]
  refine tf_two (P := fun r => Aft C W σ Z r Q) R q (fun _ _ h => h) (fun h => h) fun a b ρ2 x y Z2 H2 R2 l d1 d2 q => ?_
  cases e1 : peek a ρ2 with
  | none => rw [e1] at q; exact q.elim
  | some d =>
    cases e2 : peek b ρ2 with
    | none => rw [e1, e2] at q; exact q.elim
    | some e =>
      rw [e1, e2] at q
      simp only at q
      cases e3 : p d e with
      | none => rw [e3] at q; exact q.elim
      | some o =>
        rw [e3] at q
        have hr0 := hr
        rw [← hK] at hr0
        cases o with
        | own d => exact q.elim
        | val d' =>
          cases d' with
          | bl k =>
            refine hr0 Z2 H2 x y d e _ _ R2.le (d1.pk R2 e1) (d2.pk R2 e2) e3 ⟨fun v dn => ?_, fun xs ds p ee => by cases ee⟩
            cases dn
            refine ⟨k, rfl, ?_⟩
            cases k with
            | false =>
              rw [if_neg Bool.false_ne_true]
              exact q (.bl false) Z2 H2 R2 l (.bl false)
            | true =>
              rw [if_pos rfl]
              have R2b := R2.base
              refine tf_bind (C := C.at ρ2 σ Z2 H2) (P := fun r => Aft C W σ Z r Q) R2b q (fun y ρ' hy => AftX.base R2 (AftX.mono hy l)) (fun h => h) fun c ρ3 z Z3 H3 R3 l3 d3 q3 => ?_
              have hr2 := hr'
              rw [← hK] at hr2
              exact fin2 hr2 (R2.unbase R3) (l.trans l3) (d2.carry R2 R3) (d3.unbase R2) q3
          | _ => exact q.elim
theorem se_chain [Tabl] {op op' : CmpOp} {r r' : R2} {p p' : PV → PV → Option OV} (ho : OpR X (compareOp op) r) (ho' : OpR X (compareOp op') r') (hr : Op2 X.K r p) (hr' : Op2 X.K r' p') (ha : SE X W a f) (hb : SE X W b g) (hc : SE X W c h)
    (hm : lastMarks [op, op'] [b, c] = false := by with_unfolding_all rfl) : SE X W (.Compare a [op, op'] [b, c] pos) (fChain p p' f g h) :=
  se_of (pe_chain ho ho' ha hb hc hm) fun C ρ σ Z H Q hK hm R q => tf_chain hr hr' hK hm R q
theorem st_chain [Tabl] {op op' : CmpOp} {r r' : R2} {p p' : PV → PV → Option OV} (ho : OpR X (compareOp op) r) (ho' : OpR X (compareOp op') r') (hr : Op2 X.K r p) (hr' : Op2 X.K r' p') (ha : SE X W a f) (hb : SE X W b g) (hc : SE X W c h)
    (hm : lastMarks [op, op'] [b, c] = false := by with_unfolding_all rfl) : ST X W (.Compare a [op, op'] [b, c] pos) (fTB (fChain p p' f g h)) :=
  st_of (pt_chain ho ho' ha hb hc hm) fun C ρ σ Z H Q hK hm R q => tf_chain hr hr' hK hm R (aft_tvB q)
theorem tru_of {K : PySem.W.Frag} {Z H : Hp} {v : V} {d : PV} {b : Bool} (l : Zle Z H) (h : Pk K Z H v d) (e : truth d = some b) : TruV K v H b := by
  cases d with
  | non => cases h; cases e; rfl
  | bl k => cases h; cases e; rfl
  | int i => cases h; cases e; rfl
  | str x =>
    cases h
    have e : (if x.length ≤ 1000000 then some ((x.length : Int) != 0) else none) = some b := e
    by_cases hl : x.length ≤ 1000000
    · rw [if_pos hl] at e
      cases e
      exact ⟨by rw [sizeLine_eq]; omega, rfl⟩
    · rw [if_neg hl] at e; cases e
  | tup xs =>
    cases h with
    | tup hs t =>
      cases e
      refine .inr (.inl ⟨_, l.sqT hs, ?_⟩)
      cases t <;> rfl
  | lst xs =>
    obtain ⟨a, vs, rfl, hs, t⟩ := h
    cases e
    refine .inl ⟨_, .of hs, ?_⟩
    cases t <;> rfl
  | rng lo hi => cases e
  | dcT ks ds => cases e
  | dct ks ds =>
    obtain ⟨a, vs, rfl, hs, hl, t⟩ := h
    cases e
    refine .inr (.inr ⟨_, hs, ?_⟩)
    have hl2 := t.length
    cases ks with
    | nil => rfl
    | cons k ks =>
      cases vs with
      | nil => cases ds with
        | nil => cases hl
        | cons _ _ => cases hl2
      | cons _ _ => rfl
  | scr xs =>
    cases h with
    | scr hs t =>
      cases e
      refine .inl ⟨_, l.sqL hs, ?_⟩
      cases t <;> rfl
  | obj => cases e
theorem st_tru [Tabl] (ha : SE X W a f) (he : ∀ whole, isTrue a X.env whole = (do let v ← whole; standAt a.pos; holding [v] (truthy v)) := by intro _; rfl) : ST X W a (fTru f) :=
  st_of (pt_truth ha he) fun C ρ σ Z H Q hK hm R q => by
    show TF X.K X.mg W f σ H _
    rw [← hK, ← hm]
    refine tf_bind (P := fun r => AftB C W σ Z r Q) R q (fun _ _ h => h) (fun h => h) fun a ρ1 v Z1 H1 R1 l dn q => ?_
    cases e1 : peek a ρ1 with
    | none => rw [e1] at q; exact q.elim
    | some d =>
      rw [e1] at q
      simp only at q
      cases e2 : truth d with
      | none => rw [e2] at q; exact q.elim
      | some b =>
        rw [e2] at q
        exact ⟨b, tru_of R1.le (dn.pk R1 e1) e2, q Z1 H1 R1 l⟩
abbrev SW [Tabl] (X : Cx) (W : WX) (e : Expr) (f : Rho → Res Bool) : Prop := PW X e (TB X.K X.mg W f)
theorem pw_imp {e : Expr} {t t' : TT} (h : PW X e t) (i : ∀ σ H Q, t' σ H Q → t σ H Q) : PW X e t' := ⟨fun wh pins s σ H Q I q => h.run wh pins s σ H Q I (i σ H Q q)⟩
variable {fb gb : Rho → Res Bool} {rest : List Expr}
theorem sw_and1 [Tabl] (ha : ST X W a fb) : SW X W (.BoolOp .And [a] pos) fb := pw_and1 ha
theorem sw_or1 [Tabl] (ha : ST X W a fb) : SW X W (.BoolOp .Or [a] pos) fb := pw_or1 ha
theorem sw_and [Tabl] (ha : ST X W a fb) (hb : SW X W (.BoolOp .And (b :: rest) pos) gb) : SW X W (.BoolOp .And (a :: b :: rest) pos) (fAnd fb gb) :=
  pw_imp (pw_and ha hb) fun σ H Q ⟨C, ρ, Z, hK, hm, R, q⟩ => by
    show TB X.K X.mg W fb σ H fun c H1 => if c = true then TB X.K X.mg W gb σ H1 Q else Q false H1
    rw [← hK, ← hm]
    refine tb_bind (P := fun r => AftB C W σ Z r Q) R q (fun _ _ h => h) (fun h => h) fun k ρ1 Z1 H1 R1 l q => ?_
    cases k with
    | true => rw [if_pos rfl] at q ⊢; exact tb_of R1 (AftB.mono q l)
    | false => rw [if_neg Bool.false_ne_true] at q ⊢; exact q Z1 H1 R1 l
theorem sw_or [Tabl] (ha : ST X W a fb) (hb : SW X W (.BoolOp .Or (b :: rest) pos) gb) : SW X W (.BoolOp .Or (a :: b :: rest) pos) (fOr fb gb) :=
  pw_imp (pw_or ha hb) fun σ H Q ⟨C, ρ, Z, hK, hm, R, q⟩ => by
    show TB X.K X.mg W fb σ H fun c H1 => if c = true then Q true H1 else TB X.K X.mg W gb σ H1 Q
    rw [← hK, ← hm]
    refine tb_bind (P := fun r => AftB C W σ Z r Q) R q (fun _ _ h => h) (fun h => h) fun k ρ1 Z1 H1 R1 l q => ?_
    cases k with
    | true => rw [if_pos rfl] at q ⊢; exact q Z1 H1 R1 l
    | false => rw [if_neg Bool.false_ne_true] at q ⊢; exact tb_of R1 (AftB.mono q l)
theorem st_w [Tabl] {e : Expr} (h : SW X W e fb) : ST X W e fb := h.pt
theorem st_not [Tabl] (ha : ST X W a fb) : ST X W (.UnaryOp .Not a pos) (fNot fb) :=
  st_of (pt_not ha) fun C ρ σ Z H Q hK hm R q => by
    show TB X.K X.mg W fb σ H fun c H1 => Q (!c) H1
    rw [← hK, ← hm]
    exact tb_bind (P := fun r => AftB C W σ Z r Q) R q (fun _ _ h => h) (fun h => h) fun k ρ1 Z1 H1 R1 l q => q Z1 H1 R1 l
/-- what follows a bool value -/
theorem tf_tvB [Tabl] {α : Type} {C : Ct} {ρ : Rho} {σ : Sg} {Z H : Hp} {Q : VK} {k : Bool → Rho → Res α} {P : Res α → Prop} (R : Rel C ρ σ Z H) (h : P ((tvB (f ρ)).bind k)) (hx : ∀ x ρ', P (.er x ρ') → AftX C W σ Z x ρ') (hn : ¬ P .no)
    (q : ∀ b ρ1 Z1 H1, Rel C ρ1 σ Z1 H1 → Zle Z Z1 → P (k b ρ1) → Q (.bl b) H1) : TF C.K C.mg W f σ H Q := by
  refine tf_of R ?_
  cases e : f ρ with
  | ok a ρ1 =>
    rw [e] at h
    cases a with
    | val d =>
      cases d with
      | bl b =>
        intro v Z1 H1 R1 l dn
        have dn' : Dn C.K Z1 v (.bl b) := dn
        cases dn'
        exact q b ρ1 Z1 H1 R1 l h
      | _ => exact (hn h).elim
    | _ => exact (hn h).elim
  | er x ρ1 => rw [e] at h; exact hx x ρ1 h
  | no => rw [e] at h; exact (hn h).elim
theorem se_one [Tabl] {op} (ha : SE X W a f) : SE X W (.BoolOp op [a] pos) f := pe_one ha
theorem se_and [Tabl] (ha : SE X W a f) (hb : SE X W (.BoolOp .And (b :: rest) pos) g) : SE X W (.BoolOp .And (a :: b :: rest) pos) (fAndV f g) :=
  se_of (pe_and ha hb) fun C ρ σ Z H Q hK hm R q => by
    show TF X.K X.mg W f σ H fun x H1 => ∃ c, x = .bl c ∧ if c = true then TF X.K X.mg W g σ H1 Q else Q (.bl false) H1
    rw [← hK, ← hm]
    refine tf_tvB (P := fun r => Aft C W σ Z r Q) R q (fun _ _ h => h) (fun h => h) fun k ρ1 Z1 H1 R1 l q => ⟨k, rfl, ?_⟩
    cases k with
    | true => rw [if_pos rfl] at q ⊢; exact tf_of R1 (Aft.mono q l)
    | false => rw [if_neg Bool.false_ne_true] at q ⊢; exact q _ Z1 H1 R1 l (.bl false)
theorem se_or [Tabl] (ha : SE X W a f) (hb : SE X W (.BoolOp .Or (b :: rest) pos) g) : SE X W (.BoolOp .Or (a :: b :: rest) pos) (fOrV f g) :=
  se_of (pe_or ha hb) fun C ρ σ Z H Q hK hm R q => by
    show TF X.K X.mg W f σ H fun x H1 => ∃ c, x = .bl c ∧ if c = true then Q (.bl true) H1 else TF X.K X.mg W g σ H1 Q
    rw [← hK, ← hm]
    refine tf_tvB (P := fun r => Aft C W σ Z r Q) R q (fun _ _ h => h) (fun h => h) fun k ρ1 Z1 H1 R1 l q => ⟨k, rfl, ?_⟩
    cases k with
    | true => rw [if_pos rfl] at q ⊢; exact q _ Z1 H1 R1 l (.bl true)
    | false => rw [if_neg Bool.false_ne_true] at q ⊢; exact tf_of R1 (Aft.mono q l)
theorem se_not [Tabl] (ha : SE X W a f) : SE X W (.UnaryOp .Not a pos) (fNotV f) :=
  se_of (pe_not ha) fun C ρ σ Z H Q hK hm R q => by
    show TF X.K X.mg W f σ H fun x H1 => ∃ c, x = .bl c ∧ Q (.bl (!c)) H1
    rw [← hK, ← hm]
    exact tf_tvB (P := fun r => Aft C W σ Z r Q) R q (fun _ _ h => h) (fun h => h) fun k ρ1 Z1 H1 R1 l q => ⟨k, rfl, q _ Z1 H1 R1 l (.bl _)⟩
theorem se_if [Tabl] {c : Expr} (hc : ST X W c fb) (ha : SE X W a f) (hb : SE X W b g) : SE X W (.IfExp c a b pos) (fIfE fb f g) :=
  se_of (pe_ifExp hc ha hb) fun C ρ σ Z H Q hK hm R q => by
    show TB X.K X.mg W fb σ H fun c H1 => if c = true then TF X.K X.mg W f σ H1 Q else TF X.K X.mg W g σ H1 Q
    rw [← hK, ← hm]
    refine tb_bind (P := fun r => Aft C W σ Z r Q) R q (fun _ _ h => h) (fun h => h) fun k ρ1 Z1 H1 R1 l q => ?_
    cases k with
    | true => rw [if_pos rfl] at q ⊢; exact tf_of R1 (Aft.mono q l)
    | false => rw [if_neg Bool.false_ne_true] at q ⊢; exact tf_of R1 (Aft.mono q l)
end

/-! ### statements -/
inductive Fl where
  | nx | rt (r : RV) | bk | ct
def AftS [Tabl] (C : Ct) (W : WX) (Z : Hp) (r : Res Fl) (D : Ends) : Prop := match r with
  | .ok .nx ρ' => ∀ σ' Z' H', Rel C ρ' σ' Z' H' → Zle Z Z' → D.nx σ' H'
  | .ok (.rt rv) ρ' => ∀ v σ' Z' H', Rel C ρ' σ' Z' H' → Zle Z Z' → DnR C ρ' σ' Z' H' v rv → D.rt v H'
  | .ok .bk ρ' => ∀ σ' Z' H', Rel C ρ' σ' Z' H' → Zle Z Z' → D.bk σ' H'
  | .ok .ct ρ' => ∀ σ' Z' H', Rel C ρ' σ' Z' H' → Zle Z Z' → D.ct σ' H'
  | .er x ρ' => ∀ σ', AftX C W σ' Z x ρ'
  | .no => False
def TSF [Tabl] (K : PySem.W.Frag) (mg : Str → Option Value) (W : WX) (f : Rho → Res Fl) : TS := fun D σ H => ∃ C ρ Z, C.K = K ∧ C.mg = mg ∧ Rel C ρ σ Z H ∧ AftS C W Z (f ρ) D
abbrev SS [Tabl] (X : Cx) (W : WX) (st : Stmt) (f : Rho → Res Fl) : Prop := PS X st (TSF X.K X.mg W f)
abbrev SSs [Tabl] (X : Cx) (W : WX) (sts : List Stmt) (f : Rho → Res Fl) : Prop := PSs X sts (TSF X.K X.mg W f)
theorem ps_imp {X : Cx} {st : Stmt} {t t' : TS} (h : PS X st t) (i : ∀ D σ H, t' D σ H → t D σ H) : PS X st t' := ⟨fun pins s σ H D I q => h.run pins s σ H D I (i D σ H q)⟩
theorem pss_imp {X : Cx} {st : List Stmt} {t t' : TS} (h : PSs X st t) (i : ∀ D σ H, t' D σ H → t D σ H) : PSs X st t' := ⟨fun pins s σ H D I q => h.run pins s σ H D I (i D σ H q)⟩
theorem AftS.mono [Tabl] {C : Ct} {W : WX} {Z Z1 : Hp} {D : Ends} {r : Res Fl} (h : AftS C W Z r D) (l : Zle Z Z1) : AftS C W Z1 r D := by
  cases r with
  | ok a ρ' =>
    cases a with
    | nx => exact fun σ' Z' H' R z => h σ' Z' H' R (l.trans z)
    | bk => exact fun σ' Z' H' R z => h σ' Z' H' R (l.trans z)
    | ct => exact fun σ' Z' H' R z => h σ' Z' H' R (l.trans z)
    | rt r => exact fun v σ' Z' H' R z q => h v σ' Z' H' R (l.trans z) q
  | er x ρ' => exact fun σ' => AftX.mono (h σ') l
  | no => exact h
theorem AftS.ends [Tabl] {C : Ct} {W : WX} {Z : Hp} {D D' : Ends} {r : Res Fl} (h : AftS C W Z r D) (hn : ∀ σ H, D.nx σ H → D'.nx σ H) (hr : ∀ v H, D.rt v H → D'.rt v H) (hb : ∀ σ H, D.bk σ H → D'.bk σ H) (hc : ∀ σ H, D.ct σ H → D'.ct σ H) : AftS C W Z r D' := by
  cases r with
  | ok a ρ' =>
    cases a with
    | nx => exact fun σ' Z' H' R z => hn _ _ (h σ' Z' H' R z)
    | bk => exact fun σ' Z' H' R z => hb _ _ (h σ' Z' H' R z)
    | ct => exact fun σ' Z' H' R z => hc _ _ (h σ' Z' H' R z)
    | rt r => exact fun v σ' Z' H' R z q => hr _ _ (h v σ' Z' H' R z q)
  | er x ρ' => exact h
  | no => exact h

def fSkip : Rho → Res Fl := fun ρ => .ok .nx ρ
def fBrk : Rho → Res Fl := fun ρ => .ok .bk ρ
def fCnt : Rho → Res Fl := fun ρ => .ok .ct ρ
def seqF (r : Res Fl) (g : Rho → Res Fl) : Res Fl := match r with
  | .ok .nx ρ => g ρ
  | r => r
def fSeq (f g : Rho → Res Fl) : Rho → Res Fl := fun ρ => seqF (f ρ) g
def fIfS (c : Rho → Res Bool) (f g : Rho → Res Fl) : Rho → Res Fl := fun ρ => (c ρ).bind fun b ρ1 => if b = true then f ρ1 else g ρ1
def fDrop (f : Rho → Res RV) : Rho → Res Fl := fun ρ => (f ρ).bind fun _ ρ1 => .ok .nx ρ1
def retF (r : RV) (ρ : Rho) : Res Fl := match r with
  | .val d => .ok (.rt (.val d)) ρ
  | .own d => .ok (.rt (.own d)) ρ
  | .ali i => match ρ[i]? with
    | some (.val d) => .ok (.rt (.val d)) ρ
    | some (.own d) => .ok (.rt (.own d)) (ρ.set i .un)
    | _ => .no
def fRet (f : Rho → Res RV) : Rho → Res Fl := fun ρ => (f ρ).bind retF
def fRetN : Rho → Res Fl := fun ρ => .ok (.rt (.val .non)) ρ
def isBor (ρ : Rho) (i : Nat) : Bool := match ρ[i]? with
  | some (.bor _) => true
  | _ => false
/-- slot i gets a result -/
def asgR (i : Nat) (r : RV) (ρ : Rho) : Option Rho := if isBor ρ i || !decide (i < ρ.length) then none else match r with
  | .val d => some (ρ.set i (.val d))
  | .own d => some (ρ.set i (.own d))
  | .ali j => match toVal (.ali j) ρ with
    | some (d, ρ1) => some (ρ1.set i (.val d))
    | none => none
def optF (o : Option Rho) : Res Fl := match o with
  | some ρ => .ok .nx ρ
  | none => .no
def fSet (i : Nat) (f : Rho → Res RV) : Rho → Res Fl := fun ρ => (f ρ).bind fun r ρ1 => optF (asgR i r ρ1)

section
variable {C : Ct} {W : WX} {ρ ρ' : Rho} {σ : Sg} {Z Z1 H H' : Hp} {v : V} {d : PV}
theorem isObj_set {i j : Nat} {s : SV} (h : isObj (ρ.set i s) j) : j = i ∨ isObj ρ j := by
  obtain ⟨t, e, o⟩ := h
  by_cases hj : j = i
  · exact .inl hj
  · rw [List.getElem?_set_ne (Ne.symm hj)] at e
    exact .inr ⟨t, e, o⟩
theorem Rel.asgVal [Tabl] (R : Rel C ρ σ Z H) {i : Nat} (dn : Dn C.K Z v d) : Rel C (ρ.set i (.val d)) (σ.set i (some v)) Z H := by
  refine ⟨by rw [List.length_set, List.length_set]; exact R.len, R.le, fun j e he => ?_, fun j s e he q g => ?_, fun j k a hj hk => ?_, fun j e he => ?_, R.keep, R.zle, R.here, R.tab, R.n0, R.zt⟩
  · by_cases hj : j = i
    · subst hj
      have hlt : j < ρ.length := by
        have := (List.getElem?_eq_some_iff.mp he).1
        simpa using this
      rw [List.getElem?_set_self hlt] at he
      cases he
      exact ⟨v, List.getElem?_set_self (by rw [← R.len]; exact hlt), dn⟩
    · rw [List.getElem?_set_ne (Ne.symm hj)] at he ⊢
      exact R.val j e he
  · obtain ⟨⟨t, e', o⟩, hj⟩ := isObj_set_val rfl ⟨s, he, q⟩
    rw [List.getElem?_set_ne (Ne.symm hj)] at he ⊢
    exact R.obj j s e he q g
  · obtain ⟨h1, n1⟩ := isObj_set_val rfl hj
    obtain ⟨h2, n2⟩ := isObj_set_val rfl hk
    rw [List.getElem?_set_ne (Ne.symm n1), List.getElem?_set_ne (Ne.symm n2)]
    exact R.inj j k a h1 h2
  · by_cases hj : j = i
    · subst hj
      have hlt : j < ρ.length := by
        have := (List.getElem?_eq_some_iff.mp he).1
        simpa using this
      rw [List.getElem?_set_self hlt] at he
      cases he
    · rw [List.getElem?_set_ne (Ne.symm hj)] at he ⊢
      exact R.bor j e he
theorem Rel.asgOwn [Tabl] (R : Rel C ρ σ Z H) {i : Nat} {a : Addr} (hz : Z a = none) (ho : Ob C.K Z H a d) (h0 : C.H0 a = none ∨ C.M a) (hn : ∀ i, isObj ρ i → σ[i]? ≠ some (some (.ref a))) : Rel C (ρ.set i (.own d)) (σ.set i (some (.ref a))) Z H := by
  have lt : ∀ {s : SV}, (ρ.set i (.own d))[i]? = some s → i < ρ.length ∧ s = .own d := fun {s} he => by
    have hlt : i < ρ.length := by
      have := (List.getElem?_eq_some_iff.mp he).1
      simpa using this
    rw [List.getElem?_set_self hlt] at he
    cases he
    exact ⟨hlt, rfl⟩
  refine ⟨by rw [List.length_set, List.length_set]; exact R.len, R.le, fun j e he => ?_, fun j s e he q g => ?_, fun j k b hj hk ej ek => ?_, fun j e he => ?_, R.keep, R.zle, R.here, R.tab, R.n0, R.zt⟩
  · by_cases hj : j = i
    · subst hj
      obtain ⟨_, z⟩ := lt he
      cases z
    · rw [List.getElem?_set_ne (Ne.symm hj)] at he ⊢
      exact R.val j e he
  · by_cases hj : j = i
    · subst hj
      obtain ⟨hlt, z⟩ := lt he
      subst z
      cases g
      exact ⟨a, List.getElem?_set_self (by rw [← R.len]; exact hlt), hz, ho, h0⟩
    · rw [List.getElem?_set_ne (Ne.symm hj)] at he ⊢
      exact R.obj j s e he q g
  · by_cases h1 : j = i
    · by_cases h2 : k = i
      · rw [h1, h2]
      · subst h1
        have hk' : isObj ρ k := (isObj_set hk).resolve_left h2
        rw [List.getElem?_set_ne (Ne.symm h2)] at ek
        obtain ⟨s, es, _⟩ := hj
        obtain ⟨hlt, _⟩ := lt es
        rw [List.getElem?_set_self (by rw [← R.len]; exact hlt)] at ej
        cases ej
        exact absurd ek (hn k hk')
    · by_cases h2 : k = i
      · subst h2
        have hj' : isObj ρ j := (isObj_set hj).resolve_left h1
        rw [List.getElem?_set_ne (Ne.symm h1)] at ej
        obtain ⟨s, es, _⟩ := hk
        obtain ⟨hlt, _⟩ := lt es
        rw [List.getElem?_set_self (by rw [← R.len]; exact hlt)] at ek
        cases ek
        exact absurd ej (hn j hj')
      · rw [List.getElem?_set_ne (Ne.symm h1)] at ej
        rw [List.getElem?_set_ne (Ne.symm h2)] at ek
        exact R.inj j k b ((isObj_set hj).resolve_left h1) ((isObj_set hk).resolve_left h2) ej ek
  · by_cases hj : j = i
    · subst hj
      obtain ⟨_, z⟩ := lt he
      cases z
    · rw [List.getElem?_set_ne (Ne.symm hj)] at he ⊢
      exact R.bor j e he
theorem Rel.asg [Tabl] (R : Rel C ρ σ Z H) {i : Nat} {r : RV} (dn : DnR C ρ σ Z H v r) (e : asgR i r ρ = some ρ') : ∃ Z', Rel C ρ' (σ.set i (some v)) Z' H ∧ Zle Z Z' := by
  unfold asgR at e
  split at e
  · cases e
  · cases r with
    | val d => cases e; exact ⟨Z, R.asgVal dn, Zle.refl _⟩
    | own d =>
      cases e
      obtain ⟨a, rfl, h2, h3, h4, h5⟩ := dn
      exact ⟨Z, R.asgOwn h2 h3 h4 h5, Zle.refl _⟩
    | ali j =>
      simp only at e
      cases q : toVal (.ali j) ρ with
      | none => rw [q] at e; cases e
      | some p =>
        obtain ⟨d, ρ1⟩ := p
        rw [q] at e
        cases e
        obtain ⟨Z', R', l, dn'⟩ := toVal_ok R dn q
        exact ⟨Z', R'.asgVal dn', l⟩
end
section
variable {X : Cx} {W : WX} {st : Stmt} {rest sts sts2 : List Stmt} {e c : Expr} {f : Rho → Res RV} {fs gs : Rho → Res Fl} {fb : Rho → Res Bool} {pos : Pos}
theorem ss_of [Tabl] {t : TS} {f : Rho → Res Fl} (h : PS X st t) (i : ∀ C ρ σ Z H D, C.K = X.K → C.mg = X.mg → Rel C ρ σ Z H → AftS C W Z (f ρ) D → t D σ H) : SS X W st f :=
  ps_imp h fun D σ H ⟨C, ρ, Z, hK, hm, R, q⟩ => i C ρ σ Z H D hK hm R q
theorem sss_nil [Tabl] : SSs X W [] fSkip := pss_imp pss_nil fun D σ H ⟨C, ρ, Z, hK, hm, R, q⟩ => q σ Z H R (Zle.refl _)
theorem sss_one [Tabl] (h : SS X W st fs) : SSs X W [st] fs := pss_one h
theorem tsf_seq [Tabl] {C : Ct} {ρ : Rho} {σ : Sg} {Z H : Hp} {D : Ends} (R : Rel C ρ σ Z H) (q : AftS C W Z (fSeq fs gs ρ) D) : TSF C.K C.mg W fs { D with nx := TSF C.K C.mg W gs D } σ H := by
  refine ⟨C, ρ, Z, rfl, rfl, R, ?_⟩
  have q' : AftS C W Z (seqF (fs ρ) gs) D := q
  cases e : fs ρ with
  | ok a ρ1 =>
    rw [e] at q'
    cases a with
    | nx => exact fun σ' Z' H' R' l => ⟨C, ρ1, Z', rfl, rfl, R', AftS.mono q' l⟩
    | rt r => exact q'
    | bk => exact q'
    | ct => exact q'
  | er x ρ1 => rw [e] at q'; exact q'
  | no => rw [e] at q'; exact q'
theorem sss_cons [Tabl] (h1 : SS X W st fs) (h2 : SSs X W rest gs) : SSs X W (st :: rest) (fSeq fs gs) :=
  pss_imp (pss_cons h1 h2) fun D σ H ⟨C, ρ, Z, hK, hm, R, q⟩ => by
    show TSF X.K X.mg W fs { D with nx := TSF X.K X.mg W gs D } σ H
    rw [← hK, ← hm]
    exact tsf_seq R q
theorem ss_pass [Tabl] : SS X W (.Pass pos) fSkip := ss_of ps_pass fun C ρ σ Z H D hK hm R q => q σ Z H R (Zle.refl _)
theorem ss_break [Tabl] : SS X W (.Break pos) fBrk := ss_of ps_break fun C ρ σ Z H D hK hm R q => q σ Z H R (Zle.refl _)
theorem ss_continue [Tabl] : SS X W (.Continue pos) fCnt := ss_of ps_continue fun C ρ σ Z H D hK hm R q => q σ Z H R (Zle.refl _)
/-- an error's wish at any slots -/
theorem ss_expr [Tabl] (he : SE X W e f) (hs : swapsWith e none pos.line X.env = pure false := by rfl) : SS X W (.Expr e pos) (fDrop f) :=
  ss_of (ps_expr he hs) fun C ρ σ Z H D hK hm R q => by
    show TF X.K X.mg W f σ H fun _ H1 => D.nx σ H1
    rw [← hK, ← hm]
    exact tf_bind (P := fun r => AftS C W Z r D) R q (fun _ _ h => h σ) (fun h => h) fun a ρ1 v Z1 H1 R1 l dn q => q σ Z1 H1 R1 l
theorem ss_if [Tabl] {a b : List Stmt} (hc : ST X W c fb) (ha : SSs X W a fs) (hb : SSs X W b gs) : SS X W (.If c a b pos) (fIfS fb fs gs) :=
  ss_of (ps_if hc ha hb) fun C ρ σ Z H D hK hm R q => by
    show TB X.K X.mg W fb σ H fun b H1 => if b = true then TSF X.K X.mg W fs D σ H1 else TSF X.K X.mg W gs D σ H1
    rw [← hK, ← hm]
    refine tb_bind (P := fun r => AftS C W Z r D) R q (fun _ _ h => h σ) (fun h => h) fun k ρ1 Z1 H1 R1 l q => ?_
    cases k with
    | true => rw [if_pos rfl] at q ⊢; exact ⟨C, ρ1, Z1, rfl, rfl, R1, AftS.mono q l⟩
    | false => rw [if_neg Bool.false_ne_true] at q ⊢; exact ⟨C, ρ1, Z1, rfl, rfl, R1, AftS.mono q l⟩
theorem ss_retN [Tabl] : SS X W (.Return none pos) fRetN := ss_of ps_retN fun C ρ σ Z H D hK hm R q => q .non σ Z H R (Zle.refl _) .non
theorem ss_ret [Tabl] (he : SE X W e f) : SS X W (.Return (some e) pos) (fRet f) :=
  ss_of (ps_ret he) fun C ρ σ Z H D hK hm R q => by
    show TF X.K X.mg W f σ H D.rt
    rw [← hK, ← hm]
    refine tf_bind (P := fun r => AftS C W Z r D) R q (fun _ _ h => h σ) (fun h => h) fun a ρ1 v Z1 H1 R1 l dn q => ?_
    cases a with
    | val d => exact q v σ Z1 H1 R1 l dn
    | own d => exact q v σ Z1 H1 R1 l dn
    | ali i =>
      have dn' : σ[i]? = some (some v) := dn
      have q' : AftS C W Z (retF (.ali i) ρ1) D := q
      unfold retF at q'
      simp only at q'
      split at q'
      · rename_i d eq
        obtain ⟨u, h1, h2⟩ := R1.val i _ eq
        rw [dn'] at h1; cases h1
        exact q' v σ Z1 H1 R1 l h2
      · rename_i d eq
        obtain ⟨a, h1, h2, h3, h4⟩ := R1.obj i _ d eq rfl rfl
        rw [dn'] at h1; cases h1
        have hno : ∀ j, isObj (ρ1.set i .un) j → σ[j]? ≠ some (some (.ref a)) := fun j hj e2 => by
          obtain ⟨hj1, hj2⟩ := isObj_set_val rfl hj
          exact hj2 (R1.inj j i a hj1 ⟨_, eq, rfl⟩ e2 dn')
        exact q' (.ref a) σ Z1 H1 (R1.drop i) l ⟨a, rfl, h2, h3, h4, hno⟩
      · exact q'.elim
theorem ss_set [Tabl] {i : Nat} {x : Str} {pos' : Pos} (hN : X.N.Nodup) (hi : X.N[i]? = some x) (hx : Loc X.env.scope x) (he : SE X W e f) (hs : swapsWith e (some (.Name x pos')) pos.line X.env = pure false := by rfl) (hf : X.fn x = true ∨ X.env.scope.names.lookup x = some .local := by first | exact .inl rfl | exact .inr rfl | assumption) :
    SS X W (.Assign [.Name x pos'] e pos) (fSet i f) :=
  ss_of (ps_set hN hi hx he hs hf) fun C ρ σ Z H D hK hm R q => by
    show TF X.K X.mg W f σ H fun x H1 => D.nx (σ.set i (some x)) H1
    rw [← hK, ← hm]
    refine tf_bind (P := fun r => AftS C W Z r D) R q (fun _ _ h => h σ) (fun h => h) fun a ρ1 v Z1 H1 R1 l dn q => ?_
    cases e1 : asgR i a ρ1 with
    | none => rw [e1] at q; exact q.elim
    | some ρ2 =>
      rw [e1] at q
      obtain ⟨Z', R', l'⟩ := R1.asg dn e1
      exact q _ Z' H1 R' (l.trans l')
end
end TT

set_option Elab.async false
set_option linter.all false
set_option maxRecDepth 100000
namespace TT
open PySem PySem.Spec L2

/-! ### own objects change -/
def SV.put (s : SV) (d : PV) : SV := match s with
  | .own _ => .own d
  | .bor _ => .bor d
  | s => s
def slotL (ρ : Rho) (i : Nat) : Option (List PV) := match ρ[i]? with
  | some (.own (.lst ds)) => some ds
  | some (.bor (.lst ds)) => some ds
  | _ => none
def putL (ρ : Rho) (i : Nat) (ds : List PV) : Rho := match ρ[i]? with
  | some s => ρ.set i (s.put (.lst ds))
  | none => ρ
section
variable {C : Ct} {W : WX} {ρ ρ' : Rho} {σ σ' : Sg} {Z Z' H H' : Hp} {v : V} {d : PV}
theorem slotL_ok [Tabl] {i : Nat} {ds : List PV} (R : Rel C ρ σ Z H) (e : slotL ρ i = some ds) : ∃ s a xs, ρ[i]? = some s ∧ s.isObj = true ∧ s.get = some (.lst ds) ∧ σ[i]? = some (some (.ref a)) ∧ Z a = none ∧ H a = some (.lst xs) ∧ DnAll C.K Z xs ds := by
  unfold slotL at e
  split at e
  · rename_i es q
    cases e
    obtain ⟨a, h1, h2, ⟨xs, h3, h4⟩, _⟩ := R.obj i _ _ q rfl rfl
    exact ⟨_, a, xs, q, rfl, rfl, h1, h2, h3, h4⟩
  · rename_i es q
    cases e
    obtain ⟨a, h1, h2, ⟨xs, h3, h4⟩, _⟩ := R.obj i _ _ q rfl rfl
    exact ⟨_, a, xs, q, rfl, rfl, h1, h2, h3, h4⟩
  · cases e
theorem Rel.put [Tabl] (R : Rel C ρ σ Z H) {i : Nat} {s : SV} {a : Addr} {o : HO} {d' : PV} (e : ρ[i]? = some s) (ob : s.isObj = true) (ha : σ[i]? = some (some (.ref a))) (hob : Ob C.K Z (upd H a o) a d') : Rel C (ρ.set i (s.put d')) σ Z (upd H a o) := by
  have hi : i < ρ.length := (List.getElem?_eq_some_iff.mp e).1
  have hio : isObj ρ i := ⟨s, e, ob⟩
  obtain ⟨a', d0, ha', hz, ho, h0⟩ := R.objA hio
  rw [ha] at ha'; cases ha'
  have hput : (s.put d').isObj = true := by cases s <;> first | rfl | cases ob
  have gput : (s.put d').get = some d' := by cases s <;> first | rfl | cases ob
  have back : ∀ {j : Nat}, isObj (ρ.set i (s.put d')) j → isObj ρ j := fun {j} h => by
    rcases isObj_set h with rfl | h
    · exact hio
    · exact h
  refine ⟨by rw [List.length_set]; exact R.len, fun b u q => ?_, fun j d q => ?_, fun j t d q t1 t2 => ?_, fun j k b hj hk => R.inj j k b (back hj) (back hk), fun j d q => ?_, fun b h1 h2 => ?_, R.zle, fun b h => ?_, by obtain ⟨u, k1, k2, k3⟩ := ho.noT; exact tabs_put R.tab k1 k2 k3, R.n0, R.zt⟩
  · rw [upd_ne (ne_of_none q hz)]; exact R.le b u q
  · by_cases hj : j = i
    · subst hj
      rw [List.getElem?_set_self hi] at q
      cases s <;> cases q <;> cases ob
    · rw [List.getElem?_set_ne (Ne.symm hj)] at q
      exact R.val j d q
  · by_cases hj : j = i
    · subst hj
      rw [List.getElem?_set_self hi] at q
      cases q
      rw [gput] at t2
      cases t2
      exact ⟨a, ha, hz, hob, h0⟩
    · rw [List.getElem?_set_ne (Ne.symm hj)] at q
      obtain ⟨b, h1, h2, h3, h4⟩ := R.obj j t d q t1 t2
      have ne : b ≠ a := fun z => hj (R.inj j i a ⟨t, q, t1⟩ hio (z ▸ h1) ha)
      exact ⟨b, h1, h2, h3.mono (Zle.refl _) (upd_ne ne), h4⟩
  · by_cases hj : j = i
    · subst hj
      rw [List.getElem?_set_self hi] at q
      cases s with
      | bor d2 => exact R.bor j d2 e
      | own d2 => cases q
      | _ => cases ob
    · rw [List.getElem?_set_ne (Ne.symm hj)] at q
      exact R.bor j d q
  · have ne : b ≠ a := fun z => by
      subst z
      rcases h0 with h0 | h0
      · exact h1 h0
      · exact h2 h0
    rw [upd_ne ne]
    exact R.keep b h1 h2
  · by_cases hb : b = a
    · subst hb; exact hob.ntn
    · rw [nt_upd_ne hb]; exact R.here b h
theorem Rel.putL [Tabl] (R : Rel C ρ σ Z H) {i : Nat} {ds es : List PV} (e : slotL ρ i = some ds) : ∃ a xs, σ[i]? = some (some (.ref a)) ∧ H a = some (.lst xs) ∧ DnAll C.K Z xs ds ∧ ∀ ys, DnAll C.K Z ys es → Rel C (putL ρ i es) σ Z (upd H a (.lst ys)) := by
  obtain ⟨s, a, xs, q, ob, _, h1, h2, h3, h4⟩ := slotL_ok R e
  refine ⟨a, xs, h1, h3, h4, fun ys hy => ?_⟩
  unfold TT.putL
  rw [q]
  exact R.put q ob h1 ⟨ys, upd_same, hy⟩
end
def bigN : Nat := 1000000
theorem bigN_line : bigN < sizeLine := by rw [sizeLine_eq]; decide
/-- xs.append(e) -/
def fAppend (i : Nat) (f : Rho → Res RV) : Rho → Res RV := fun ρ => match slotL ρ i with
  | none => .no
  | some _ => (fV f ρ).bind fun r ρ1 => (match r, slotL ρ1 i with
    | .val d, some ds => if ds.length < bigN then .ok (.val .non) (putL ρ1 i (ds ++ [d])) else .no
    | _, _ => .no)
/-- xs.extend(e) of a list -/
def fExtend (i : Nat) (f : Rho → Res RV) : Rho → Res RV := fun ρ => match slotL ρ i with
  | none => .no
  | some _ => (fV f ρ).bind fun r ρ1 => (match r, slotL ρ1 i with
    | .val (.lst es), some ds => if ds.length + es.length < bigN then .ok (.val .non) (putL ρ1 i (ds ++ es)) else .no
    | _, _ => .no)
/-- xs.pop() -/
def fPop (i : Nat) : Rho → Res RV := fun ρ => match slotL ρ i with
  | none => .no
  | some ds => match ds[ds.length - 1]? with
    | some d => .ok (.val d) (putL ρ i ds.dropLast)
    | none => .no
section
variable {X : Cx} {W : WX} {e : Expr} {f : Rho → Res RV} {i : Nat} {x : Str} {p apos cpos : Pos}
theorem se_append [Tabl] (hN : X.N[i]? = some x) (hv : Vis X.env.scope x) (hd : (x == ("__debug__" : Str)) = false) (hcd : (x == ("__classdict__" : Str)) = false) (he : SE X W e f)
    (hbase : attributeBase (.Name x p) "append" X.env (eval (.Name x p) X.env) = eval (.Name x p) X.env := by rfl)
    (hfew : ((backTo cpos (starEach [e] X.env)).all (fun x => !x.1) && (backToKw cpos (keywordEach [] X.env)).all (fun x => x.1.isSome)
      && decide ([e].length + ([] : List Keyword).length + (if ([] : List Keyword).isEmpty then 0 else 1) < 30)) = true := by rfl)
    (hline : (apos.endLine == cpos.line) = true := by rfl) (hs : starEach [e] X.env = (false, eval e X.env) :: starEach [] X.env := by rfl) (hplain : (backTo cpos (starEach [] X.env)).any (·.1) = false := by rfl) :
    SE X W (.Call (.Attribute (.Name x p) "append" apos) [e] [] cpos) (fAppend i f) :=
  se_of (pe_bm PySem.F.plainAttrs_list PySem.F.slot_list_append PySem.F.type_list_append mt_append (pe_var hN hv hd hcd) (pa_cons (se_v he) pa_nil hs) hbase hfew hline hs hplain) fun C ρ σ Z H Q hK hm R q => by
    unfold fAppend at q
    cases e1 : slotL ρ i with
    | none => rw [e1] at q; exact q.elim
    | some ds =>
      rw [e1] at q
      obtain ⟨s, a, xs, q1, ob, _, h1, h2, h3, h4⟩ := slotL_ok R e1
      refine ⟨.ref a, h1, .inl ⟨rfl, xs, .of h3⟩, ?_⟩
      show TF X.K X.mg W (fV f) σ H _
      rw [← hK, ← hm]
      refine tf_bind (P := fun r => Aft C W σ Z r Q) R q (fun _ _ h => h) (fun h => h) fun r ρ1 v Z1 H1 R1 l dn q => ?_
      cases r with
      | val d =>
        cases e2 : slotL ρ1 i with
        | none => rw [e2] at q; exact q.elim
        | some es =>
          rw [e2] at q
          simp only at q
          obtain ⟨a', ys, g1, g2, g3, g4⟩ := R1.putL (es := es ++ [d]) e2
          rw [h1] at g1; cases g1
          by_cases hl : es.length < bigN
          · rw [if_pos hl] at q
            refine ⟨a, ys, v, rfl, rfl, g2, ?_, ?_⟩
            · have := g3.length
              have := bigN_line
              omega
            · exact q .non Z1 _ (g4 _ (g3.append (.cons dn .nil))) l .non
          · rw [if_neg hl] at q; exact q.elim
      | own d => exact q.elim
      | ali j => exact q.elim
theorem se_extend [Tabl] (hN : X.N[i]? = some x) (hv : Vis X.env.scope x) (hd : (x == ("__debug__" : Str)) = false) (hcd : (x == ("__classdict__" : Str)) = false) (he : SE X W e f)
    (hbase : attributeBase (.Name x p) "extend" X.env (eval (.Name x p) X.env) = eval (.Name x p) X.env := by rfl)
    (hfew : ((backTo cpos (starEach [e] X.env)).all (fun x => !x.1) && (backToKw cpos (keywordEach [] X.env)).all (fun x => x.1.isSome)
      && decide ([e].length + ([] : List Keyword).length + (if ([] : List Keyword).isEmpty then 0 else 1) < 30)) = true := by rfl)
    (hline : (apos.endLine == cpos.line) = true := by rfl) (hs : starEach [e] X.env = (false, eval e X.env) :: starEach [] X.env := by rfl) (hplain : (backTo cpos (starEach [] X.env)).any (·.1) = false := by rfl) :
    SE X W (.Call (.Attribute (.Name x p) "extend" apos) [e] [] cpos) (fExtend i f) :=
  se_of (pe_bm PySem.F.plainAttrs_list PySem.F.slot_list_extend PySem.F.type_list_extend mt_extend (pe_var hN hv hd hcd) (pa_cons (se_v he) pa_nil hs) hbase hfew hline hs hplain) fun C ρ σ Z H Q hK hm R q => by
    unfold fExtend at q
    cases e1 : slotL ρ i with
    | none => rw [e1] at q; exact q.elim
    | some ds =>
      rw [e1] at q
      obtain ⟨s, a, xs, q1, ob, _, h1, h2, h3, h4⟩ := slotL_ok R e1
      refine ⟨.ref a, h1, .inl ⟨rfl, xs, .of h3⟩, ?_⟩
      show TF X.K X.mg W (fV f) σ H _
      rw [← hK, ← hm]
      refine tf_bind (P := fun r => Aft C W σ Z r Q) R q (fun _ _ h => h) (fun h => h) fun r ρ1 v Z1 H1 R1 l dn q => ?_
      cases r with
      | val d =>
        cases d with
        | lst fs =>
          cases e2 : slotL ρ1 i with
          | none => rw [e2] at q; exact q.elim
          | some es =>
            rw [e2] at q
            simp only at q
            obtain ⟨a', ys, g1, g2, g3, g4⟩ := R1.putL (es := es ++ fs) e2
            rw [h1] at g1; cases g1
            by_cases hl : es.length + fs.length < bigN
            · rw [if_pos hl] at q
              obtain ⟨b, zs, rfl, hz, t⟩ := Dn.lst_inv dn
              refine ⟨a, b, ys, zs, rfl, rfl, g2, R1.le _ _ hz, ?_, ?_⟩
              · have := g3.length
                have := t.length
                have := bigN_line
                omega
              · exact q .non Z1 _ (g4 _ (g3.append t)) l .non
            · rw [if_neg hl] at q; exact q.elim
        | _ => exact q.elim
      | own d => exact q.elim
      | ali j => exact q.elim
theorem se_pop [Tabl] (hN : X.N[i]? = some x) (hv : Vis X.env.scope x) (hd : (x == ("__debug__" : Str)) = false) (hcd : (x == ("__classdict__" : Str)) = false)
    (hbase : attributeBase (.Name x p) "pop" X.env (eval (.Name x p) X.env) = eval (.Name x p) X.env := by rfl) (hline : (apos.endLine == cpos.line) = true := by rfl) :
    SE X W (.Call (.Attribute (.Name x p) "pop" apos) [] [] cpos) (fPop i) :=
  se_of (pe_bm0 PySem.F.plainAttrs_list PySem.F.slot_list_pop PySem.F.type_list_pop mt_pop (pe_var hN hv hd hcd) hbase hline) fun C ρ σ Z H Q hK hm R q => by
    unfold fPop at q
    cases e1 : slotL ρ i with
    | none => rw [e1] at q; exact q.elim
    | some ds =>
      rw [e1] at q
      simp only at q
      obtain ⟨a, xs, h1, h3, h4, g4⟩ := R.putL (es := ds.dropLast) e1
      cases e2 : ds[ds.length - 1]? with
      | none => rw [e2] at q; exact q.elim
      | some d =>
        rw [e2] at q
        obtain ⟨v, hv', dv⟩ := h4.get e2
        refine ⟨.ref a, h1, .inl ⟨rfl, xs, .of h3⟩, a, xs, v, rfl, rfl, h3, by rw [h4.length]; exact hv', ?_⟩
        exact q v Z _ (g4 _ h4.dropLast) (Zle.refl _) dv
end

theorem pk_int {K : PySem.W.Frag} {Z H : Hp} {y : V} {j : Int} (h : Pk K Z H y (.int j)) : y = .int j := Dn.int_inv (K := K) (Z := Z) h
/-! ### xs[i] = e -/
def fStore (i : Nat) (fi fv : Rho → Res RV) : Rho → Res Fl := fun ρ => (fV fv ρ).bind fun r ρ1 => (match slotL ρ1 i with
  | none => .no
  | some _ => (fi ρ1).bind fun k ρ2 => (match r, peek k ρ2, slotL ρ2 i with
    | .val d, some (.int j), some ds => (match ixN ds.length j with
      | some n => .ok .nx (putL ρ2 i (ds.set n d))
      | none => .no)
    | _, _, _ => .no))
section
variable {X : Cx} {W : WX} {e ei : Expr} {fi fv : Rho → Res RV} {i : Nat} {x : Str} {p tpos pos : Pos}
theorem ss_store [Tabl] (hN : X.N[i]? = some x) (hv : Vis X.env.scope x) (hd : (x == ("__debug__" : Str)) = false) (hcd : (x == ("__classdict__" : Str)) = false) (hi : SE X W ei fi) (he : SE X W e fv)
    (hs : swapsWithSole [.Subscript (.Name x p) ei tpos] e pos.line X.env = pure false := by rfl) (hw : swappedStores [.Subscript (.Name x p) ei tpos] e X.env = pure none := by rfl)
    (h1 : (assignEach [.Subscript (.Name x p) ei tpos] X.env).map (·.2) = [assign (.Subscript (.Name x p) ei tpos) X.env] := by rfl)
    (ha : ∀ v, assign (.Subscript (.Name x p) ei tpos) X.env v = (do
      let ov ← holding [v] (eval (.Name x p) X.env)
      let iv ← holding [v, ov] (eval ei X.env)
      standAt tpos
      holding [v, ov, iv] (setItem ov iv v)
      release [v, ov, iv] []) := by intro _; rfl) : SS X W (.Assign [.Subscript (.Name x p) ei tpos] e pos) (fStore i fi fv) :=
  ss_of (ps_asg (se_v he) (pg_sub (pe_var hN hv hd hcd) hi set_list ha) hs hw h1) fun C ρ σ Z H D hK hm R q => by
    show TF X.K X.mg W (fV fv) σ H _
    rw [← hK, ← hm]
    refine tf_bind (P := fun r => AftS C W Z r D) R q (fun _ _ h => h σ) (fun h => h) fun r ρ1 v Z1 H1 R1 l dn q => ?_
    cases e1 : slotL ρ1 i with
    | none => rw [e1] at q; exact q.elim
    | some ds =>
      rw [e1] at q
      simp only at q
      obtain ⟨s, a, xs, q1, ob, _, h1, h2, h3, h4⟩ := slotL_ok R1 e1
      refine ⟨.ref a, h1, ?_⟩
      show TF C.K C.mg W fi σ H1 _
      have R1b := R1.base
      refine tf_bind (C := C.at ρ1 σ Z1 H1) (P := fun r => AftS C W Z r D) R1b q (fun y ρ' hy => AftX.base R1 (AftX.mono (hy σ) l)) (fun h => h) fun k ρ2 y Z2 H2 R2' l2 d2 q => ?_
      have R2 := R1.unbase R2'
      cases r with
      | val d =>
        cases e2 : peek k ρ2 with
        | none => rw [e2] at q; exact q.elim
        | some kd =>
          cases kd with
          | int j =>
            cases e3 : slotL ρ2 i with
            | none => rw [e2, e3] at q; exact q.elim
            | some es =>
              rw [e2, e3] at q
              simp only at q
              cases e4 : ixN es.length j with
              | none => rw [e4] at q; exact q.elim
              | some n =>
                rw [e4] at q
                obtain ⟨a', ys, g1, g2, g3, g4⟩ := R2.putL (es := es.set n d) e3
                rw [h1] at g1; cases g1
                have pk := (d2.unbase R1).pk R2 e2
                refine ⟨a, ys, j, n, rfl, pk_int pk, g2, by rw [g3.length]; exact e4, ?_⟩
                exact q σ Z2 _ (g4 _ (DnAll.set (Dn.mono l2 dn) n g3)) (l.trans l2)
          | _ => rw [e2] at q; exact q.elim
      | own d => exact q.elim
      | ali j => exact q.elim
end

/-! ### targets -/
theorem wipe_at {σ : Sg} {i : Nat} : ∀ {vs : List Nat}, i ∈ vs → (wipe σ vs)[i]? = if i < σ.length then some none else none
  | v :: vs, h => by
    unfold wipe
    by_cases e : v = i
    · subst e
      by_cases hl : v < σ.length
      · rw [List.getElem?_set_self (by rw [wipe_length]; exact hl), if_pos hl]
      · rw [if_neg hl, List.getElem?_eq_none (by rw [List.length_set, wipe_length]; omega)]
    · rw [List.getElem?_set_ne e]
      have h' : i ∈ vs := by
        rcases List.mem_cons.mp h with h | h
        · exact absurd h.symm e
        · exact h
      exact wipe_at h'
theorem wipe_set {σ : Sg} {i : Nat} {v : Option V} {vs : List Nat} (h : i ∈ vs) : wipe (σ.set i v) vs = wipe σ vs := by
  apply List.ext_getElem?
  intro j
  by_cases hj : j ∈ vs
  · rw [wipe_at hj, wipe_at hj, List.length_set]
  · rw [wipe_out hj, wipe_out hj, List.getElem?_set_ne (show i ≠ j from fun e => hj (by rw [← e]; exact h))]
def wipeR (ρ : Rho) : List Nat → Rho
  | [] => ρ
  | v :: vs => (wipeR ρ vs).set v .un
theorem Rel.wipe [Tabl] {C : Ct} {ρ : Rho} {σ : Sg} {Z H : Hp} (R : Rel C ρ σ Z H) : ∀ vs : List Nat, Rel C (wipeR ρ vs) (wipe σ vs) Z H
  | [] => R
  | v :: vs => by
    have R' := Rel.wipe R vs
    have R2 := R'.drop v
    refine ⟨by rw [show wipeR ρ (v :: vs) = (wipeR ρ vs).set v .un from rfl, show L2.wipe σ (v :: vs) = (L2.wipe σ vs).set v none from rfl, List.length_set, List.length_set]; exact R'.len, R2.le, fun i d e => ?_, fun i s d e o g => ?_, fun i j a hi hj e1 e2 => ?_, fun i d e => ?_, R2.keep, R2.zle, R2.here, R2.tab, R2.n0, R2.zt⟩
    · have ne : v ≠ i := fun z => by
        subst z
        have e' : ((wipeR ρ vs).set v .un)[v]? = some (.val d) := e
        rw [List.getElem?_set] at e'
        simp only [if_true] at e'
        split at e' <;> cases e'
      obtain ⟨u, h1, h2⟩ := R2.val i d e
      exact ⟨u, (List.getElem?_set_ne ne).trans h1, h2⟩
    · obtain ⟨hi, ne⟩ := isObj_set_val (i := v) (s := .un) rfl ⟨s, e, o⟩
      obtain ⟨a, h1, h2⟩ := R2.obj i s d e o g
      exact ⟨a, (List.getElem?_set_ne (Ne.symm ne)).trans h1, h2⟩
    · obtain ⟨hi', ne1⟩ := isObj_set_val (i := v) (s := .un) rfl hi
      obtain ⟨hj', ne2⟩ := isObj_set_val (i := v) (s := .un) rfl hj
      exact R2.inj i j a hi hj ((List.getElem?_set_ne (Ne.symm ne1)).symm.trans e1) ((List.getElem?_set_ne (Ne.symm ne2)).symm.trans e2)
    · have ne : v ≠ i := fun z => by
        subst z
        have e' : ((wipeR ρ vs).set v .un)[v]? = some (.bor d) := e
        rw [List.getElem?_set] at e'
        simp only [if_true] at e'
        split at e' <;> cases e'
      obtain ⟨a, h1, h2⟩ := R2.bor i d e
      exact ⟨a, h1, (List.getElem?_set_ne ne).trans h2⟩
/-- a target: slots among vs -/
def TGc [Tabl] (K : PySem.W.Frag) (mg : Str → Option Value) (vs : List Nat) (fg : PV → Rho → Option Rho) : TG := fun v σ H Q => ∃ C ρ Z d, C.K = K ∧ C.mg = mg ∧ Rel C ρ σ Z H ∧ Dn C.K Z v d ∧
  match fg d ρ with
  | some ρ' => ∀ σ', Rel C ρ' σ' Z H → wipe σ' vs = wipe σ vs → Q σ' H
  | none => False
def TGs [Tabl] (K : PySem.W.Frag) (mg : Str → Option Value) (vs : List Nat) (fg : List PV → Rho → Option Rho) : L2.TGs := fun us σ H Q => ∃ C ρ Z ds, C.K = K ∧ C.mg = mg ∧ Rel C ρ σ Z H ∧ DnAll C.K Z us ds ∧
  match fg ds ρ with
  | some ρ' => ∀ σ', Rel C ρ' σ' Z H → wipe σ' vs = wipe σ vs → Q σ' H
  | none => False
abbrev SG [Tabl] (X : Cx) (vs : List Nat) (tg : Expr) (fg : PV → Rho → Option Rho) : Prop := PG X tg (TGc X.K X.mg vs fg)
abbrev SGs [Tabl] (X : Cx) (vs : List Nat) (tg : List Expr) (fg : List PV → Rho → Option Rho) : Prop := PGs X tg (TGs X.K X.mg vs fg)
def gN (i : Nat) : PV → Rho → Option Rho := fun d ρ => if isBor ρ i || !decide (i < ρ.length) then none else some (ρ.set i (.val d))
def gNl : List PV → Rho → Option Rho := fun ds ρ => match ds with
  | [] => some ρ
  | _ => none
def gCs (f : PV → Rho → Option Rho) (g : List PV → Rho → Option Rho) : List PV → Rho → Option Rho := fun ds ρ => match ds with
  | d :: ds => (f d ρ).bind fun ρ1 => g ds ρ1
  | [] => none
def gTp (n : Nat) (g : List PV → Rho → Option Rho) : PV → Rho → Option Rho := fun d ρ => match d with
  | .tup ds => if ds.length = n then g ds ρ else none
  | _ => none
section
variable {X : Cx} {vs : List Nat} {e : Expr} {es : List Expr} {pos : Pos}
theorem pg_imp {t t' : TG} (h : PG X e t) (i : ∀ v σ H Q, t' v σ H Q → t v σ H Q) : PG X e t' := ⟨fun pins s σ H v u Q I r q => h.run pins s σ H v u Q I r (i v σ H Q q)⟩
theorem pgs_imp {t t' : L2.TGs} (h : PGs X es t) (i : ∀ v σ H Q, t' v σ H Q → t v σ H Q) : PGs X es t' := ⟨fun pins s σ H v u Q I r q => h.run pins s σ H v u Q I r (i v σ H Q q)⟩
theorem sg_name [Tabl] {i : Nat} {x : Str} (hN : X.N.Nodup) (hi : X.N[i]? = some x) (hx : Loc X.env.scope x) (hm : i ∈ vs := by decide) (hf : X.fn x = true ∨ X.env.scope.names.lookup x = some .local := by first | exact .inl rfl | exact .inr rfl | assumption) : SG X vs (.Name x pos) (gN i) :=
  pg_imp (pg_name hN hi hx hf) fun v σ H Q ⟨C, ρ, Z, d, hK, hm', R, dn, q⟩ => by
    unfold gN at q
    split at q
    · rename_i ρ' e1
      split at e1
      · cases e1
      · cases e1
        exact q _ (R.asgVal dn) (wipe_set hm)
    · exact q.elim
theorem sgs_nil [Tabl] : SGs X vs [] gNl :=
  pgs_imp pgs_nil fun us σ H Q ⟨C, ρ, Z, ds, hK, hm', R, dn, q⟩ => by
    cases ds with
    | nil => exact ⟨dn.nil_inv, q σ R rfl⟩
    | cons _ _ => exact q.elim
theorem sgs_cons [Tabl] {f : PV → Rho → Option Rho} {g : List PV → Rho → Option Rho} (h1 : SG X vs e f) (h2 : SGs X vs es g) (hs : (assignEach (e :: es) X.env).map (·.2) = assign e X.env :: (assignEach es X.env).map (·.2) := by rfl) : SGs X vs (e :: es) (gCs f g) :=
  pgs_imp (pgs_cons h1 h2 hs) fun us σ H Q ⟨C, ρ, Z, ds, hK, hm', R, dn, q⟩ => by
    cases ds with
    | nil => exact q.elim
    | cons d dr' =>
      obtain ⟨v, vr, rfl, d0, dr⟩ := dn.cons_inv
      refine ⟨v, vr, rfl, C, ρ, Z, d, hK, hm', R, d0, ?_⟩
      unfold gCs at q
      simp only at q
      cases e1 : f d ρ with
      | none => rw [e1] at q; exact q.elim
      | some ρ1 =>
        rw [e1] at q
        intro σ1 R1 w1
        refine ⟨C, ρ1, Z, dr', hK, hm', R1, dr, ?_⟩
        have q' : (match g dr' ρ1 with
          | some ρ' => ∀ σ', Rel C ρ' σ' Z H → wipe σ' vs = wipe σ vs → Q σ' H
          | none => False) := q
        cases e2 : g dr' ρ1 with
        | none => rw [e2] at q'; exact q'.elim
        | some ρ2 =>
          rw [e2] at q'
          exact fun σ' R' w' => q' σ' R' (w'.trans w1)
theorem sg_tup [Tabl] {k n : Nat} {g : List PV → Rho → Option Rho} (hc : X.calm = true) (h : SGs X vs es g) (hn : (assignEach es X.env).length = n := by rfl) (hst : (assignEach es X.env).findIdx? (·.1) = none := by rfl) : SG X vs (.Tuple es k pos) (gTp n g) :=
  pg_imp (pg_tup hc h hn hst) fun v σ H Q ⟨C, ρ, Z, d, hK, hm', R, dn, q⟩ => by
    unfold gTp at q
    cases d with
    | tup ds =>
      simp only at q
      obtain ⟨a, xs, rfl, hs, t⟩ := dn.tup_inv
      by_cases hl : ds.length = n
      · rw [if_pos hl] at q
        exact ⟨a, xs, rfl, by rw [← hK]; exact R.le.sqT hs, by rw [t.length]; exact hl, C, ρ, Z, ds, hK, hm', R, t, q⟩
      · rw [if_neg hl] at q; exact q.elim
    | _ => exact q.elim
end
end TT

set_option Elab.async false
set_option linter.all false
set_option maxRecDepth 100000
namespace TT
open PySem PySem.Spec L2

/-! ### what is walked -/
/-- an item that comes: an old value, or a new tuple -/
def Yv (K : PySem.W.Frag) (Z H : Hp) (x : V) (H'' : Hp) (d : PV) : Prop :=
  (H'' = H ∧ Dn K Z x d) ∨ ∃ p xs ds, d = .tup ds ∧ x = .ref p ∧ H p = none ∧ H'' = upd H p (.tup xs) ∧ DnAll K Z xs ds
def Walks (K : PySem.W.Frag) (Z : Hp) (J : It) (items : List PV) : Prop := ∀ Z' H', Zle Z Z' → Zle Z' H' → J.stop items.length H' ∧
  ∀ i d, items[i]? = some d → J.go i H' ∧ ∀ x H'', J.yld i H' x H'' → Yv K Z' H' x H'' d
theorem Rel.yv [Tabl] {C : Ct} {ρ : Rho} {σ : Sg} {Z H H'' : Hp} {x : V} {d : PV} (R : Rel C ρ σ Z H) (h : Yv C.K Z H x H'' d) : ∃ Z'', Rel C ρ σ Z'' H'' ∧ Zle Z Z'' ∧ Dn C.K Z'' x d := by
  rcases h with ⟨rfl, dn⟩ | ⟨p, xs, ds, rfl, rfl, hp, rfl, dn⟩
  · exact ⟨Z, R, Zle.refl _, dn⟩
  · obtain ⟨R', zl⟩ := R.newZ (o := .tup xs) hp
    exact ⟨_, R', zl, .tup (.of upd_same) (dn.mono zl)⟩
def AftI [Tabl] (C : Ct) (W : WX) (σ : Sg) (Z : Hp) (r : Res (List PV)) (Rr : It → Hp → Prop) : Prop := match r with
  | .ok items ρ' => ∀ J Z' H', Rel C ρ' σ Z' H' → Zle Z Z' → Walks C.K Z' J items → Rr J H'
  | .er x ρ' => AftX C W σ Z x ρ'
  | .no => False
def TIc [Tabl] (K : PySem.W.Frag) (mg : Str → Option Value) (W : WX) (f : Rho → Res (List PV)) : TI := fun σ H Rr => ∃ C ρ Z, C.K = K ∧ C.mg = mg ∧ Rel C ρ σ Z H ∧ AftI C W σ Z (f ρ) Rr
abbrev SI [Tabl] (X : Cx) (W : WX) (tg iter : Expr) (f : Rho → Res (List PV)) : Prop := PI X tg iter (TIc X.K X.mg W f)
theorem pi_imp {X : Cx} {tg e : Expr} {t t' : TI} (h : PI X tg e t) (i : ∀ σ H Q, t' σ H Q → t σ H Q) : PI X tg e t' := ⟨fun pins s σ H Q I q => h.run pins s σ H Q I (i σ H Q q)⟩
theorem si_of [Tabl] {X : Cx} {W : WX} {tg e : Expr} {t : TI} {f : Rho → Res (List PV)} (h : PI X tg e t) (i : ∀ C ρ σ Z H Q, C.K = X.K → C.mg = X.mg → Rel C ρ σ Z H → AftI C W σ Z (f ρ) Q → t σ H Q) : SI X W tg e f :=
  pi_imp h fun σ H Q ⟨C, ρ, Z, hK, hm, R, q⟩ => i C ρ σ Z H Q hK hm R q

/-- a list or a tuple -/
def iSeq (K : PySem.W.Frag) (tl : TE) : TI := fun σ H R => tl σ H fun x H1 => ∃ a, x = .ref a ∧ (((∃ xs, SqL K H1 a xs) ∧ R (Itl K a) H1) ∨ ((∃ xs, SqT K H1 a xs) ∧ R (Itt K a) H1) ∨ ∃ lo hi : Int, H1 a = some (.rng lo hi) ∧ (-(2 ^ 62) ≤ lo ∧ lo < 2 ^ 62 ∧ -(2 ^ 62) ≤ hi ∧ hi < 2 ^ 62) ∧ R (Itr lo (hi - lo).toNat) H1)
theorem pi_seq {X : Cx} {tg l : Expr} {tl : TE} (hl : PE X l tl) : PI X tg l (iSeq X.K tl) := by
  refine ⟨fun pins s σ H R I h => ?_⟩
  refine thn (hl.run pins s σ H _ I h) fun v s1 ⟨x, H1, I1, r1, q1⟩ => ?_
  obtain ⟨a, e, q1⟩ := q1
  subst e
  cases r1
  rcases q1 with ⟨⟨xs, hq⟩, q⟩ | ⟨⟨xs, hq⟩, q⟩ | ⟨lo, hi, hq, ⟨b1, b2, b3, b4⟩, q⟩
  · obtain ⟨its, rv, p, hz⟩ := I1.list hq
    refine wpAny_pyIter_list p.isList ?_
    refine ⟨s1.heap.objs.size, [s1.heap.objs.size], _, _, H1, rfl, I1.kept (t' := s1.toks) fun b o e => Heap.get?_push_of_some _ e, turn_list a _, ⟨_, Heap.get?_push_size _ rfl, rfl, rfl⟩, fun b hb => ?_, q⟩
    have e : b = s1.heap.objs.size := by simpa using hb
    subst e
    exact I1.fpOk (Nat.le_refl _) (I1.hok.fresh (Nat.le_refl _))
  · obtain ⟨its, rv, p, hz⟩ := I1.tuple hq
    refine wpAny_pyIter_tuple (show s1.heap.IsTuple a its.toArray from p) ?_
    refine ⟨s1.heap.objs.size, [s1.heap.objs.size], _, _, H1, rfl, I1.kept (t' := s1.toks) fun b o e => Heap.get?_push_of_some _ e, turn_tuple a _, ⟨_, Heap.get?_push_size _ rfl, rfl, rfl⟩, fun b hb => ?_, q⟩
    have e : b = s1.heap.objs.size := by simpa using hb
    subst e
    exact I1.fpOk (Nat.le_refl _) (I1.hok.fresh (Nat.le_refl _))
  · obtain ⟨t, u, v, hr⟩ := I1.hok a _ hq
    refine wpAny_pyIter_range (show IsRange s1.heap a lo hi 1 t u v from hr) (small_one b1 b2 b3 b4) ?_
    refine ⟨s1.heap.objs.size, [s1.heap.objs.size], _, _, H1, rfl, I1.kept (t' := s1.toks) fun b o e => Heap.get?_push_of_some _ e, turn_range _ lo (hi - lo).toNat, ?_, fun b hb => ?_, q⟩
    · have e1 : lo + ((0 : Nat) : Int) * 1 = lo := by simp
      have e2 : (((hi - lo).toNat : Nat) : Int) - ((0 : Nat) : Int) = Builtin.Range.rangeSize lo hi 1 := by rw [rangeSize_one]; split <;> omega
      show IsRangeIter _ _ (lo + ((0 : Nat) : Int) * 1) ((((hi - lo).toNat : Nat) : Int) - ((0 : Nat) : Int)) 1
      rw [e1, e2]
      exact Heap.get?_push_size _ rfl
    · have e : b = s1.heap.objs.size := by simpa using hb
      subst e
      exact I1.fpOk (Nat.le_refl _) (I1.hok.fresh (Nat.le_refl _))
theorem SqL.inj {K : PySem.W.Frag} {H : Hp} {a : Addr} {xs : List V} (h : H a = some (.lst xs)) : ∀ ys, SqL K H a ys → (∃ o its n, K.lookup a = some o ∧ o.cls = .type "list" ∧ o.dict = none ∧ o.data = .seq its n ∧ its.size ≤ sizeLine ∧ Vals ys its.toList) ∨ ys = xs := fun ys hy => by
  rcases hy with (hy | ⟨o, hy⟩) | hy
  · rw [h] at hy; cases hy; exact .inr rfl
  · rw [h] at hy; cases hy
  · exact .inl hy
def rngL (lo : Int) (n : Nat) : List PV := (List.range n).map fun (i : Nat) => PV.int (lo + (i : Int))
def okR (i : Int) : Bool := decide (i.natAbs < 2 ^ 62)
theorem okR_of {i : Int} (h : okR i = true) : -(2 ^ 62) ≤ i ∧ i < 2 ^ 62 := by
  have := of_decide_eq_true h
  omega
def itemsOf : PV → Option (List PV)
  | .lst ds => some ds
  | .tup ds => some ds
  | .scr ds => some ds
  | .rng lo hi => if okR lo = true ∧ okR hi = true then some (rngL lo (hi - lo).toNat) else none
  | _ => none
def fIt (f : Rho → Res RV) : Rho → Res (List PV) := fun ρ => (fV f ρ).bind fun r ρ1 => match r with
  | .val d => (match itemsOf d with
    | some ds => .ok ds ρ1
    | none => .no)
  | _ => .no
theorem walks_L {K : PySem.W.Frag} {Z : Hp} {a : Addr} {xs : List V} {ds : List PV} (h : SqL K Z a xs) (t : DnAll K Z xs ds) : Walks K Z (Itl K a) ds := fun Z' H' l1 l2 => by
  have h' : SqL K H' a xs := l2.sqL (l1.sqL h)
  refine ⟨⟨xs, h', by rw [t.length]; exact Nat.le_refl _⟩, fun i d e => ?_⟩
  obtain ⟨v, hv, dv⟩ := t.get e
  refine ⟨⟨xs, v, h', hv⟩, fun x H'' y => .inl ⟨y.1, ?_⟩⟩
  have := y.2 xs h'
  rw [hv] at this
  cases this
  exact dv.mono l1
theorem walks_T {K : PySem.W.Frag} {Z : Hp} {a : Addr} {xs : List V} {ds : List PV} (h : SqT K Z a xs) (t : DnAll K Z xs ds) : Walks K Z (Itt K a) ds := fun Z' H' l1 l2 => by
  have h' : SqT K H' a xs := l2.sqT (l1.sqT h)
  refine ⟨⟨xs, h', by rw [t.length]; exact Nat.le_refl _⟩, fun i d e => ?_⟩
  obtain ⟨v, hv, dv⟩ := t.get e
  refine ⟨⟨xs, v, h', hv⟩, fun x H'' y => .inl ⟨y.1, ?_⟩⟩
  have := y.2 xs h'
  rw [hv] at this
  cases this
  exact dv.mono l1
theorem walks_R {K : PySem.W.Frag} {Z : Hp} {lo : Int} {n : Nat} : Walks K Z (Itr lo n) (rngL lo n) := fun Z' H' l1 l2 => by
  refine ⟨by show n ≤ (rngL lo n).length; unfold rngL; simp, fun i d e => ?_⟩
  unfold rngL at e
  rw [List.getElem?_map] at e
  have hi : i < n := by
    by_cases h : i < n
    · exact h
    · rw [List.getElem?_eq_none (by simp; omega)] at e; cases e
  rw [List.getElem?_eq_getElem (by simp; exact hi)] at e
  simp at e
  subst e
  exact ⟨hi, fun x H'' y => .inl ⟨y.1, by rw [y.2]; exact .int _⟩⟩
section
variable {X : Cx} {W : WX} {tg e : Expr} {f : Rho → Res RV}
theorem si_seq [Tabl] (he : SE X W e f) : SI X W tg e (fIt f) :=
  si_of (pi_seq (se_v he)) fun C ρ σ Z H Q hK hm R q => by
    show TF X.K X.mg W (fV f) σ H _
    rw [← hK, ← hm]
    refine tf_bind (P := fun r => AftI C W σ Z r Q) R q (fun _ _ h => h) (fun h => h) fun r ρ1 v Z1 H1 R1 l dn q => ?_
    cases r with
    | own d => exact q.elim
    | ali j => exact q.elim
    | val d =>
      have dn' : Dn C.K Z1 v d := dn
      cases d with
      | lst ds =>
        obtain ⟨a, xs, rfl, h, t⟩ := dn'.lst_inv
        exact ⟨a, rfl, .inl ⟨⟨xs, R1.le.sqL (.of h)⟩, q _ Z1 H1 R1 l (walks_L (.of h) t)⟩⟩
      | scr ds =>
        obtain ⟨a, xs, rfl, h, t⟩ := dn'.scr_inv
        exact ⟨a, rfl, .inl ⟨⟨xs, R1.le.sqL h⟩, q _ Z1 H1 R1 l (walks_L h t)⟩⟩
      | tup ds =>
        obtain ⟨a, xs, rfl, h, t⟩ := dn'.tup_inv
        exact ⟨a, rfl, .inr (.inl ⟨⟨xs, R1.le.sqT h⟩, q _ Z1 H1 R1 l (walks_T h t)⟩)⟩
      | rng lo hi =>
        obtain ⟨a, rfl, h⟩ := dn'.rng_inv
        simp only [itemsOf] at q
        by_cases hb : okR lo = true ∧ okR hi = true
        · rw [if_pos hb] at q
          obtain ⟨b1, b2⟩ := okR_of hb.1
          obtain ⟨b3, b4⟩ := okR_of hb.2
          exact ⟨a, rfl, .inr (.inr ⟨lo, hi, R1.le _ _ h, ⟨b1, b2, b3, b4⟩, q _ Z1 H1 R1 l walks_R⟩)⟩
        · rw [if_neg hb] at q
          exact q.elim
      | _ => exact q.elim
end
/-! ranges -/
def fRng1 (f : Rho → Res (List RV)) : Rho → Res (List PV) := fun ρ => (f ρ).bind fun rs ρ1 => match rs with
  | [.val (.int j)] => if okR j = true then .ok (rngL 0 j.toNat) ρ1 else .no
  | _ => .no
def fRng2 (f : Rho → Res (List RV)) : Rho → Res (List PV) := fun ρ => (f ρ).bind fun rs ρ1 => match rs with
  | [.val (.int i), .val (.int j)] => if okR i = true ∧ okR j = true then .ok (rngL i (j - i).toNat) ρ1 else .no
  | _ => .no
section
variable {X : Cx} {W : WX} {tg a b : Expr} {f : Rho → Res (List RV)} {p pos : Pos}
theorem si_rng1 [Tabl] (hg : Gl X "range") (hm0 : X.mg "range" = none) (ha : SA X W [a] f) (hs : starEach [a] X.env = [(false, eval a X.env)] := by rfl) : SI X W tg (.Call (.Name "range" p) [a] [] pos) (fRng1 f) :=
  si_of (pi_range1 hg hm0 ha hs) fun C ρ σ Z H Q hK hm R q => by
    show TAr X.K X.mg W f σ H _
    rw [← hK, ← hm]
    refine ta_bind (P := fun r => AftI C W σ Z r Q) R q (fun _ _ h => h) (fun h => h) fun rs ρ1 vs Z1 H1 R1 l dn q => ?_
    split at q
    · rename_i j
      split at q
      · rename_i hj
        have hj := okR_of hj
        match vs, dn with
        | [v], ⟨d1, _⟩ =>
          have e := Dn.int_inv (K := C.K) (Z := Z1) d1
          subst e
          exact ⟨j, rfl, hj.1, hj.2, q _ Z1 H1 R1 l walks_R⟩
      · exact q.elim
    · exact q.elim
theorem si_rng2 [Tabl] (hg : Gl X "range") (hm0 : X.mg "range" = none) (ha : SA X W [a, b] f) (hs : starEach [a, b] X.env = [(false, eval a X.env), (false, eval b X.env)] := by rfl) (hs2 : starEach [b] X.env = [(false, eval b X.env)] := by rfl) :
    SI X W tg (.Call (.Name "range" p) [a, b] [] pos) (fRng2 f) :=
  si_of (pi_range2 hg hm0 ha hs hs2) fun C ρ σ Z H Q hK hm R q => by
    show TAr X.K X.mg W f σ H _
    rw [← hK, ← hm]
    refine ta_bind (P := fun r => AftI C W σ Z r Q) R q (fun _ _ h => h) (fun h => h) fun rs ρ1 vs Z1 H1 R1 l dn q => ?_
    split at q
    · rename_i i j
      split at q
      · rename_i hj
        have hj := And.intro (okR_of hj.1) (okR_of hj.2)
        match vs, dn with
        | [v, w], ⟨d1, d2, _⟩ =>
          have e := Dn.int_inv (K := C.K) (Z := Z1) d1
          have e2 := Dn.int_inv (K := C.K) (Z := Z1) d2
          subst e e2
          exact ⟨i, j, rfl, ⟨hj.1.1, hj.1.2, hj.2.1, hj.2.2⟩, q _ Z1 H1 R1 l walks_R⟩
      · exact q.elim
    · exact q.elim
end

/-! ### for, while -/
def forL : List PV → (PV → Rho → Res Fl) → Rho → Res Fl
  | [], _, ρ => .ok .nx ρ
  | d :: ds, b, ρ => match b d ρ with
    | .ok .nx ρ1 => forL ds b ρ1
    | .ok .ct ρ1 => forL ds b ρ1
    | .ok .bk ρ1 => .ok .nx ρ1
    | .ok (.rt r) ρ1 => .ok (.rt r) ρ1
    | .er x ρ1 => .er x ρ1
    | .no => .no
def turnF (fg : PV → Rho → Option Rho) (fb : Rho → Res Fl) : PV → Rho → Res Fl := fun d ρ => match fg d ρ with
  | some ρ1 => fb ρ1
  | none => .no
def fFor (fi : Rho → Res (List PV)) (fg : PV → Rho → Option Rho) (fb : Rho → Res Fl) : Rho → Res Fl := fun ρ => (fi ρ).bind fun items ρ1 => forL items (turnF fg fb) ρ1
def whileL : Nat → (Rho → Res Bool) → (Rho → Res Fl) → Rho → Res Fl
  | 0, _, _, _ => .no
  | n + 1, c, b, ρ => (c ρ).bind fun k ρ1 => if k = true then (match b ρ1 with
    | .ok .nx ρ2 => whileL n c b ρ2
    | .ok .ct ρ2 => whileL n c b ρ2
    | .ok .bk ρ2 => .ok .nx ρ2
    | .ok (.rt r) ρ2 => .ok (.rt r) ρ2
    | .er x ρ2 => .er x ρ2
    | .no => .no) else .ok .nx ρ1
def fWhile (c : Rho → Res Bool) (b : Rho → Res Fl) : Rho → Res Fl := whileL bigN c b
section
variable {X : Cx} {W : WX} {tg iter c : Expr} {body : List Stmt} {fi : Rho → Res (List PV)} {fg : PV → Rho → Option Rho} {fb : Rho → Res Fl} {fc : Rho → Res Bool} {vs : List Nat} {pos : Pos}
/-- what follows an iteration's head -/
theorem ti_bind [Tabl] {α : Type} {C : Ct} {ρ : Rho} {σ : Sg} {Z H : Hp} {Q : It → Hp → Prop} {k : List PV → Rho → Res α} {P : Res α → Prop} (R : Rel C ρ σ Z H) (h : P ((fi ρ).bind k)) (hx : ∀ x ρ', P (.er x ρ') → AftX C W σ Z x ρ') (hn : ¬ P .no)
    (q : ∀ items ρ1 J Z1 H1, Rel C ρ1 σ Z1 H1 → Zle Z Z1 → Walks C.K Z1 J items → P (k items ρ1) → Q J H1) : TIc C.K C.mg W fi σ H Q := by
  refine ⟨C, ρ, Z, rfl, rfl, R, ?_⟩
  cases e : fi ρ with
  | ok a ρ1 => rw [e] at h; exact fun J Z1 H1 R1 l wk => q a ρ1 J Z1 H1 R1 l wk h
  | er x ρ1 => rw [e] at h; exact hx x ρ1 h
  | no => rw [e] at h; exact (hn h).elim
theorem ss_for [Tabl] (hp : PassesOwn (model X.prog X.w) X.A X.env X.xe) (hc : X.calm = true) (hi : SI X W tg iter fi) (hg : SG X vs tg fg) (hb : SSs X W body fb) (hs : ∀ x, foldedSetIterable iter X.env x = pure x := by intro _; rfl) :
    SS X W (.For tg iter body [] pos) (fFor fi fg fb) :=
  ss_of (ps_for hp hc hi hg hb hs) fun C ρ σ Z H D hK hm R q => by
    show TIc X.K X.mg W fi σ H _
    rw [← hK, ← hm]
    refine ti_bind (P := fun r => AftS C W Z r D) R q (fun _ _ h => h σ) (fun h => h) fun items ρ1 J Z1 H1 R1 l1 wk q => ?_
    refine ⟨fun i m σ H => m + i = items.length ∧ ∃ ρ Z', Rel C ρ σ Z' H ∧ Zle Z1 Z' ∧ AftS C W Z' (forL (items.drop i) (turnF fg fb) ρ) D, ⟨items.length, by simp, ρ1, Z1, R1, Zle.refl _, AftS.mono q l1⟩, ?_⟩
    rintro i m σ2 H2 ⟨hm2, ρ2, Z2, R2, l2, q2⟩
    obtain ⟨w1, w2⟩ := wk Z2 H2 l2 R2.le
    by_cases hlt : i < items.length
    · obtain ⟨g1, g2⟩ := w2 i items[i] (List.getElem?_eq_getElem hlt)
      rw [List.drop_eq_getElem_cons hlt] at q2
      refine .inr ⟨g1, fun σ3 H3 => ∃ ρ Z', Rel C ρ σ3 Z' H3 ∧ Zle Z1 Z' ∧ AftS C W Z' (forL (items.drop (i + 1)) (turnF fg fb) ρ) D, fun σ3 H3 ⟨ρ3, Z3, R3, l3, q3⟩ => ⟨m - 1, by omega, by omega, ρ3, Z3, R3, l3, q3⟩, fun x H3 hy => ?_⟩
      obtain ⟨Z3, R3, l3, dn⟩ := R2.yv (g2 x H3 hy)
      refine ⟨C, ρ2, Z3, items[i], rfl, rfl, R3, dn, ?_⟩
      have q3 : AftS C W Z2 (match turnF fg fb items[i] ρ2 with
        | .ok .nx ρ1 => forL (items.drop (i + 1)) (turnF fg fb) ρ1
        | .ok .ct ρ1 => forL (items.drop (i + 1)) (turnF fg fb) ρ1
        | .ok .bk ρ1 => .ok .nx ρ1
        | .ok (.rt r) ρ1 => .ok (.rt r) ρ1
        | .er x ρ1 => .er x ρ1
        | .no => .no) D := q2
      unfold turnF at q3
      cases eg : fg items[i] ρ2 with
      | none => rw [eg] at q3; exact q3.elim
      | some ρ3 =>
        rw [eg] at q3
        simp only at q3 ⊢
        intro σ4 R4 _
        refine ⟨C, ρ3, Z3, hK ▸ rfl, hm ▸ rfl, R4, ?_⟩
        have lz : Zle Z1 Z3 := l2.trans l3
        cases eb : fb ρ3 with
        | ok fl ρ5 =>
          rw [eb] at q3
          cases fl with
          | nx => exact fun σ5 Z5 H5 R5 l5 => ⟨ρ5, Z5, R5, lz.trans l5, AftS.mono q3 (l3.trans l5)⟩
          | ct => exact fun σ5 Z5 H5 R5 l5 => ⟨ρ5, Z5, R5, lz.trans l5, AftS.mono q3 (l3.trans l5)⟩
          | bk => exact fun σ5 Z5 H5 R5 l5 => q3 σ5 Z5 H5 R5 (l3.trans l5)
          | rt r => exact fun v σ5 Z5 H5 R5 l5 dn => q3 v σ5 Z5 H5 R5 (l3.trans l5) dn
        | er x ρ5 => rw [eb] at q3; exact fun σ' => AftX.mono (q3 σ') l3
        | no => rw [eb] at q3; exact q3
    · have e0 : items.drop i = [] := List.drop_eq_nil_of_le (by omega)
      rw [e0] at q2
      have hi' : i = items.length := by omega
      subst hi'
      exact .inl ⟨w1, q2 σ2 Z2 H2 R2 (Zle.refl _)⟩
theorem while_ok [Tabl] {C : Ct} {D : Ends} {K : PySem.W.Frag} {mg : Str → Option Value} (hK : C.K = K) (hm : C.mg = mg) {n : Nat} {ρ : Rho} {σ : Sg} {Z H : Hp} (R : Rel C ρ σ Z H) (q : AftS C W Z (whileL n fc fb ρ) D) : tWhile (TB K mg W fc) (TSF K mg W fb) D σ H := by
  refine ⟨fun m σ H => ∃ ρ Z, Rel C ρ σ Z H ∧ AftS C W Z (whileL m fc fb ρ) D, ⟨n, ρ, Z, R, q⟩, ?_⟩
  rintro m σ2 H2 ⟨ρ2, Z2, R2, q2⟩
  cases m with
  | zero => exact q2.elim
  | succ m =>
    rw [← hK, ← hm]
    refine tb_bind (P := fun r => AftS C W Z2 r D) R2 q2 (fun _ _ h => h σ2) (fun h => h) fun k ρ3 Z3 H3 R3 l3 q3 => ?_
    cases k with
    | false =>
      rw [if_neg Bool.false_ne_true] at q3 ⊢
      exact q3 σ2 Z3 H3 R3 l3
    | true =>
      rw [if_pos rfl] at q3 ⊢
      refine ⟨fun σ4 H4 => ∃ ρ4 Z4, Rel C ρ4 σ4 Z4 H4 ∧ AftS C W Z4 (whileL m fc fb ρ4) D, fun σ4 H4 h => ⟨m, Nat.lt_succ_self m, h⟩, C, ρ3, Z3, rfl, rfl, R3, ?_⟩
      cases eb : fb ρ3 with
      | ok fl ρ5 =>
        rw [eb] at q3
        cases fl with
        | nx => exact fun σ5 Z5 H5 R5 l5 => ⟨ρ5, Z5, R5, AftS.mono q3 (l3.trans l5)⟩
        | ct => exact fun σ5 Z5 H5 R5 l5 => ⟨ρ5, Z5, R5, AftS.mono q3 (l3.trans l5)⟩
        | bk => exact fun σ5 Z5 H5 R5 l5 => q3 σ5 Z5 H5 R5 (l3.trans l5)
        | rt r => exact fun v σ5 Z5 H5 R5 l5 dn => q3 v σ5 Z5 H5 R5 (l3.trans l5) dn
      | er x ρ5 => rw [eb] at q3; exact fun σ' => AftX.mono (q3 σ') l3
      | no => rw [eb] at q3; exact q3
theorem ss_while [Tabl] (hp : PassesOwn (model X.prog X.w) X.A X.env X.xe) (hc : ST X W c fc) (hb : SSs X W body fb) : SS X W (.While c body [] pos) (fWhile fc fb) :=
  ss_of (ps_while hp hc hb) fun C ρ σ Z H D hK hm R q => while_ok hK hm R q
end

/-! ### list comprehensions -/
def W0 : WX := fun _ _ _ _ => False
def noEr {α : Type} (r : Res α) : Res α := match r with
  | .ok a ρ => .ok a ρ
  | _ => .no
def lcL (vs : List Nat) (fg : PV → Rho → Option Rho) (ft : Rho → Res Bool) (fe : Rho → Res RV) : List PV → List PV → Rho → Res (List PV)
  | [], acc, ρ => .ok acc ρ
  | d :: ds, acc, ρ => match fg d ρ with
    | none => .no
    | some ρ1 => (noEr (ft ρ1)).bind fun b ρ2 => if b = true then (noEr (fV fe ρ2)).bind fun r ρ3 => (match r with
        | .val e => if acc.length < bigN then lcL vs fg ft fe ds (acc ++ [e]) (wipeR ρ3 vs) else .no
        | _ => .no)
      else lcL vs fg ft fe ds acc (wipeR ρ2 vs)
/-- the slots of the block are no objects -/
def savable (ρ : Rho) (vs : List Nat) : Bool := vs.all fun i => match ρ[i]? with
  | some .un => true
  | some (.val _) => true
  | _ => false
def restoreR (ρ2 ρ1 : Rho) : List Nat → Rho
  | [] => ρ2
  | v :: vs => match ρ1[v]? with
    | some s => (restoreR ρ2 ρ1 vs).set v s
    | none => restoreR ρ2 ρ1 vs
def fLc (vs : List Nat) (fi : Rho → Res (List PV)) (fg : PV → Rho → Option Rho) (ft : Rho → Res Bool) (fe : Rho → Res RV) : Rho → Res RV := fun ρ => (fi ρ).bind fun items ρ1 =>
  if savable ρ1 vs = true then (lcL vs fg ft fe items [] (wipeR ρ1 vs)).bind fun ds ρ2 => .ok (.own (.lst ds)) (restoreR ρ2 ρ1 vs) else .no
section
variable {C : Ct} {W : WX} {ρ ρ1 ρ' : Rho} {σ σ' : Sg} {Z Z' Z1 H H' H1 : Hp} {v : V} {d : PV}
theorem carryOwn [Tabl] (R : Rel C ρ σ Z H) (R' : Rel (C.at ρ σ Z H) ρ' σ' Z' H') (h : DnR C ρ σ Z H v (.own d)) : DnR C ρ' σ' Z' H' v (.own d) := by
  obtain ⟨a, rfl, h2, h3, h4, h5⟩ := h
  have nM : ¬ (C.at ρ σ Z H).M a := fun ⟨i, hi, e⟩ => h5 i hi e
  have hs := h3.there
  obtain ⟨k1', k2⟩ := R'.keep a h3.ntn nM
  have k1 := k1'.trans h3.nt
  refine ⟨a, rfl, k2.trans h2, h3.mono R'.zle k1, h4, fun i hi e => ?_⟩
  obtain ⟨b, d', e', _, _, q⟩ := R'.objA hi
  rw [e] at e'; cases e'
  rcases q with q | q
  · exact h3.ntn q
  · exact nM q
/-- an own temporary changes -/
theorem Rel.updOwn [Tabl] (R : Rel C ρ σ Z H) {p : Addr} {o : HO} (hz : Z p = none) (h0 : C.H0 p = none ∨ C.M p) (hs : ∀ i, isObj ρ i → σ[i]? ≠ some (some (.ref p))) (hq : ∃ u, H p = some u ∧ (∀ ps, u ≠ .tbl ps) ∧ ∀ c q, u ≠ LamX.CodeO c q) (ho : ∀ ps, o ≠ HO.tbl ps := by intro _ z; cases z) : Rel C ρ σ Z (upd H p o) := by
  refine ⟨R.len, fun a u e => ?_, R.val, fun i s d e q g => ?_, R.inj, R.bor, fun a h1 h2 => ?_, R.zle, fun a h => ?_, by obtain ⟨u, k1, k2, k3⟩ := hq; exact tabs_put R.tab k1 k2 k3, R.n0, R.zt⟩
  · rw [upd_ne (ne_of_none e hz)]; exact R.le a u e
  · obtain ⟨a, h1, h2, h3, h4⟩ := R.obj i s d e q g
    refine ⟨a, h1, h2, h3.mono (Zle.refl _) (upd_ne fun z => ?_), h4⟩
    subst z
    exact hs i ⟨s, e, q⟩ h1
  · have ne : a ≠ p := fun z => by
      subst z
      rcases h0 with h0 | h0
      · exact h1 h0
      · exact h2 h0
    rw [upd_ne ne]
    exact R.keep a h1 h2
  · by_cases hb : a = p
    · subst hb; rw [nt_of upd_same ho]; simp
    · rw [nt_upd_ne hb]; exact R.here a h
theorem wipeR_length : ∀ (ρ : Rho) (vs : List Nat), (wipeR ρ vs).length = ρ.length
  | _, [] => rfl
  | ρ, v :: vs => by unfold wipeR; rw [List.length_set, wipeR_length ρ vs]
theorem wipeR_out {i : Nat} : ∀ {vs : List Nat}, i ∉ vs → (wipeR ρ vs)[i]? = ρ[i]?
  | [], _ => rfl
  | v :: vs, h => by
    unfold wipeR
    rw [List.getElem?_set_ne (show v ≠ i from fun e => h (by rw [e]; exact List.mem_cons_self))]
    exact wipeR_out fun m => h (List.mem_cons_of_mem _ m)
theorem isObj_wipe {i : Nat} : ∀ {vs : List Nat}, isObj (wipeR ρ vs) i → isObj ρ i ∧ i ∉ vs
  | [], h => ⟨h, by simp⟩
  | v :: vs, h => by
    obtain ⟨h1, h2⟩ := isObj_set_val (ρ := wipeR ρ vs) (i := v) (s := .un) rfl h
    obtain ⟨h3, h4⟩ := isObj_wipe h1
    exact ⟨h3, by simp only [List.mem_cons, not_or]; exact ⟨h2, h4⟩⟩
theorem DnR.wipe (h : DnR C ρ σ Z H v (.own d)) (vs : List Nat) : DnR C (wipeR ρ vs) (L2.wipe σ vs) Z H v (.own d) := by
  obtain ⟨a, rfl, h2, h3, h4, h5⟩ := h
  refine ⟨a, rfl, h2, h3, h4, fun i hi e => ?_⟩
  obtain ⟨g1, g2⟩ := isObj_wipe hi
  rw [wipe_out g2] at e
  exact h5 i g1 e
theorem savable_obj {vs : List Nat} {i : Nat} {s : SV} (sv : savable ρ vs = true) (hi : i ∈ vs) (e : ρ[i]? = some s) : s.isObj = false := by
  have h := List.all_eq_true.mp sv i hi
  rw [e] at h
  cases s with
  | un => rfl
  | val d => rfl
  | own d => exact absurd h Bool.false_ne_true
  | bor d => exact absurd h Bool.false_ne_true
theorem restore_length {ρ2 : Rho} : ∀ vs : List Nat, (restoreR ρ2 ρ1 vs).length = ρ2.length
  | [] => rfl
  | v :: vs => by
    unfold restoreR
    split
    · rw [List.length_set, restore_length vs]
    · exact restore_length vs
theorem restore_out {ρ2 : Rho} {i : Nat} : ∀ {vs : List Nat}, i ∉ vs → (restoreR ρ2 ρ1 vs)[i]? = ρ2[i]?
  | [], _ => rfl
  | v :: vs, h => by
    have ne : v ≠ i := fun e => h (by rw [e]; exact List.mem_cons_self)
    have h' : i ∉ vs := fun m => h (List.mem_cons_of_mem _ m)
    unfold restoreR
    split
    · rw [List.getElem?_set_ne ne]; exact restore_out h'
    · exact restore_out h'
theorem restore_in {ρ2 : Rho} {i : Nat} {s : SV} (hl : ρ1.length = ρ2.length) : ∀ {vs : List Nat}, i ∈ vs → (restoreR ρ2 ρ1 vs)[i]? = some s → ρ1[i]? = some s
  | v :: vs, h, e => by
    unfold restoreR at e
    by_cases hv : v = i
    · subst hv
      split at e
      · rename_i s' q
        have hlt : v < (restoreR ρ2 ρ1 vs).length := by
          rw [restore_length, ← hl]
          exact (List.getElem?_eq_some_iff.mp q).1
        rw [List.getElem?_set_self hlt] at e
        cases e
        exact q
      · rename_i q
        have : (restoreR ρ2 ρ1 vs).length ≤ v := by
          rw [restore_length, ← hl]
          exact List.getElem?_eq_none_iff.mp q
        rw [List.getElem?_eq_none this] at e
        cases e
    · have h' : i ∈ vs := by
        rcases List.mem_cons.mp h with h | h
        · exact absurd h.symm hv
        · exact h
      split at e
      · rw [List.getElem?_set_ne hv] at e; exact restore_in hl h' e
      · exact restore_in hl h' e
theorem Rel.restore [Tabl] {ρ2 : Rho} (R1 : Rel C ρ1 σ Z1 H1) (l : Zle Z1 Z) {vs : List Nat} (sv : savable ρ1 vs = true) (R : Rel C ρ2 (L2.wipe σ vs) Z H) : Rel C (restoreR ρ2 ρ1 vs) σ Z H := by
  have hl : ρ1.length = ρ2.length := by rw [R1.len, R.len, wipe_length]
  have nob : ∀ (i : Nat) (s : SV), i ∈ vs → ρ1[i]? = some s → s.isObj = false := fun i s hi e => savable_obj sv hi e
  have spl : ∀ {i : Nat}, isObj (restoreR ρ2 ρ1 vs) i → isObj ρ2 i ∧ i ∉ vs := fun {i} ⟨s, e, o⟩ => by
    by_cases hi : i ∈ vs
    · have e' := restore_in hl hi e
      rw [nob i s hi e'] at o
      cases o
    · rw [restore_out hi] at e
      exact ⟨⟨s, e, o⟩, hi⟩
  refine ⟨by rw [restore_length, R.len, wipe_length], R.le, fun i d e => ?_, fun i s d e o g => ?_, fun i j a hi hj e1 e2 => ?_, fun i d e => ?_, R.keep, R.zle, R.here, R.tab, R.n0, R.zt⟩
  · by_cases hi : i ∈ vs
    · obtain ⟨v, h1, h2⟩ := R1.val i d (restore_in hl hi e)
      exact ⟨v, h1, h2.mono l⟩
    · rw [restore_out hi] at e
      obtain ⟨v, h1, h2⟩ := R.val i d e
      rw [wipe_out hi] at h1
      exact ⟨v, h1, h2⟩
  · obtain ⟨_, hi⟩ := spl ⟨s, e, o⟩
    rw [restore_out hi] at e
    obtain ⟨a, h1, h2⟩ := R.obj i s d e o g
    rw [wipe_out hi] at h1
    exact ⟨a, h1, h2⟩
  · obtain ⟨h1, n1⟩ := spl hi
    obtain ⟨h2, n2⟩ := spl hj
    exact R.inj i j a h1 h2 ((wipe_out n1).trans e1) ((wipe_out n2).trans e2)
  · obtain ⟨_, hi⟩ := spl ⟨_, e, rfl⟩
    rw [restore_out hi] at e
    obtain ⟨a, h1, h2⟩ := R.bor i d e
    rw [wipe_out hi] at h2
    exact ⟨a, h1, h2⟩
end
section
variable {X : Cx} {W : WX} {elt tg iter : Expr} {ifs : List Expr} {scope : Scope} {own : List (Str × Nat)} {pos : Pos} {fi : Rho → Res (List PV)} {fg : PV → Rho → Option Rho} {ft : Rho → Res Bool} {fe : Rho → Res RV}
abbrev SPt [Tabl] (X : Cx) (W : WX) (es : List Expr) (f : Rho → Res Bool) : Prop := PTs X es (TB X.K X.mg W f)
def fYes : Rho → Res Bool := fun ρ => .ok true ρ
theorem spt_nil [Tabl] : SPt X W [] fYes := ⟨fun _ _ σ H _ I ⟨C, ρ, Z, hK, hm, R, q⟩ => pts_nil.run _ _ σ H _ I (q Z H R (Zle.refl _))⟩
theorem spt_one [Tabl] {c : Expr} {f : Rho → Res Bool} (h : ST X W c f) : SPt X W [c] f := pts_one h
theorem lc_ok [Tabl] {C : Ct} {ρ : Rho} {σ : Sg} {Z H : Hp} {Q : VK} {vs : List Nat} (R : Rel C ρ σ Z H) (q : Aft C W σ Z (fLc vs fi fg ft fe ρ) Q) :
    tLc (TIc C.K C.mg W fi) (TGc C.K C.mg vs fg) (TB C.K C.mg W0 ft) (TF C.K C.mg W0 (fV fe)) vs σ H Q := by
  show TIc C.K C.mg W fi σ H _
  refine ti_bind (P := fun r => Aft C W σ Z r Q) R q (fun _ _ h => h) (fun h => h) fun items ρ1 J Z1 H1 R1 l1 wk q => ?_
  by_cases sv : savable ρ1 vs = true
  · rw [if_pos sv] at q
    intro D hD
    obtain ⟨hDz, hD0⟩ := R1.fresh hD
    refine ⟨fun i m H => m + i = items.length ∧ ∃ ρ Z' acc, Rel C ρ (wipe σ vs) Z' H ∧ Zle Z1 Z' ∧ DnR C ρ (wipe σ vs) Z' H (.ref D) (.own (.lst acc)) ∧
      Aft C W σ Z' ((lcL vs fg ft fe (items.drop i) acc ρ).bind fun ds ρ2 => .ok (.own (.lst ds)) (restoreR ρ2 ρ1 vs)) Q, ⟨items.length, by simp, wipeR ρ1 vs, Z1, [], ?_, Zle.refl _, ?_, Aft.mono q l1⟩, ?_⟩
    · exact (R1.wipe vs).new hD
    · refine ⟨D, rfl, hDz, ⟨[], upd_same, .nil⟩, .inl hD0, fun i hi e => ?_⟩
      obtain ⟨a, d', e', _, ob, _⟩ := (R1.wipe vs).objA hi
      rw [e] at e'; cases e'
      exact ob.there hD
    · rintro i m H2 ⟨hm2, ρ2, Z2, acc, R2, l2, d2, q2⟩
      obtain ⟨w1, w2⟩ := wk Z2 H2 l2 R2.le
      by_cases hlt : i < items.length
      · obtain ⟨g1, g2⟩ := w2 i items[i] (List.getElem?_eq_getElem hlt)
        rw [List.drop_eq_getElem_cons hlt] at q2
        refine .inr ⟨g1, fun H => ∃ ρ Z' acc, Rel C ρ (wipe σ vs) Z' H ∧ Zle Z1 Z' ∧ DnR C ρ (wipe σ vs) Z' H (.ref D) (.own (.lst acc)) ∧
          Aft C W σ Z' ((lcL vs fg ft fe (items.drop (i + 1)) acc ρ).bind fun ds ρ2 => .ok (.own (.lst ds)) (restoreR ρ2 ρ1 vs)) Q, fun H3 ⟨ρ3, Z3, acc3, R3, l3, d3, q3⟩ => ⟨m - 1, by omega, by omega, ρ3, Z3, acc3, R3, l3, d3, q3⟩, fun x H3 hy => ?_⟩
        have R2b := R2.base
        obtain ⟨Z3, R3, l3, dn⟩ := R2b.yv (g2 x H3 hy)
        refine ⟨C.at ρ2 (wipe σ vs) Z2 H2, ρ2, Z3, items[i], rfl, rfl, R3, dn, ?_⟩
        unfold lcL at q2
        cases eg : fg items[i] ρ2 with
        | none => rw [eg] at q2; exact q2.elim
        | some ρ3 =>
          rw [eg] at q2
          simp only at q2 ⊢
          intro σ4 R4 w4
          have w4' : wipe σ4 vs = wipe σ vs := by
            rw [w4]
            apply List.ext_getElem?
            intro j
            by_cases hj : j ∈ vs
            · rw [wipe_at hj, wipe_at hj, wipe_length]
            · rw [wipe_out hj]
          refine ⟨w4', ?_⟩
          refine ⟨C.at ρ2 (wipe σ vs) Z2 H2, ρ3, Z3, rfl, rfl, R4, ?_⟩
          cases et : ft ρ3 with
          | er y ρ5 => rw [et] at q2; exact q2.elim
          | no => rw [et] at q2; exact q2.elim
          | ok b ρ5 =>
            rw [et] at q2
            have q3 : Aft C W σ Z2 (Res.bind (if b = true then (noEr (fV fe ρ5)).bind fun r ρ3 => (match r with
              | .val e => if acc.length < bigN then lcL vs fg ft fe (items.drop (i + 1)) (acc ++ [e]) (wipeR ρ3 vs) else .no
              | _ => .no)
              else lcL vs fg ft fe (items.drop (i + 1)) acc (wipeR ρ5 vs)) fun ds ρ2 => .ok (.own (.lst ds)) (restoreR ρ2 ρ1 vs)) Q := q2
            intro Z5 H5 R5 l5
            cases b with
            | false =>
              rw [if_neg Bool.false_ne_true] at q3 ⊢
              have R5' := (R2.unbase R5).wipe vs
              have d5 := (carryOwn R2 R5 d2).wipe vs
              rw [w4'] at R5' d5
              exact ⟨_, Z5, acc, R5', l2.trans (l3.trans l5), d5, Aft.mono q3 (l3.trans l5)⟩
            | true =>
              rw [if_pos rfl] at q3 ⊢
              refine ⟨C.at ρ2 (wipe σ vs) Z2 H2, ρ5, Z5, rfl, rfl, R5, ?_⟩
              cases ee : fV fe ρ5 with
              | er y ρ6 => rw [ee] at q3; exact q3.elim
              | no => rw [ee] at q3; exact q3.elim
              | ok r ρ6 =>
                rw [ee] at q3
                cases r with
                | own d => exact q3.elim
                | ali j => exact q3.elim
                | val d =>
                  intro v Z6 H6 R6 l6 dn6
                  have q4 : Aft C W σ Z2 (Res.bind (if acc.length < bigN then lcL vs fg ft fe (items.drop (i + 1)) (acc ++ [d]) (wipeR ρ6 vs) else .no) fun ds ρ2 => .ok (.own (.lst ds)) (restoreR ρ2 ρ1 vs)) Q := q3
                  by_cases hl : acc.length < bigN
                  · rw [if_pos hl] at q4
                    have R6' := R2.unbase R6
                    have d6 := carryOwn R2 R6 d2
                    obtain ⟨a, ea, hz6, ⟨xs, hx, hxs⟩, h06, hs6⟩ := d6
                    cases ea
                    have hlen := hxs.length
                    have hbig := bigN_line
                    refine ⟨xs, hx, by omega, ?_⟩
                    have R7 := R6'.updOwn (o := .lst (xs ++ [v])) hz6 h06 hs6 ⟨_, hx, fun _ z => (by cases z), fun _ _ z => (by unfold LamX.CodeO at z; cases z)⟩
                    have d7 : DnR C ρ6 σ4 Z6 (upd H6 D (.lst (xs ++ [v]))) (.ref D) (.own (.lst (acc ++ [d]))) := ⟨D, rfl, hz6, ⟨_, upd_same, hxs.append (.cons dn6 .nil)⟩, h06, hs6⟩
                    have R8 := R7.wipe vs
                    have d8 := d7.wipe vs
                    rw [w4'] at R8 d8
                    exact ⟨_, Z6, _, R8, l2.trans (l3.trans (l5.trans l6)), d8, Aft.mono q4 (l3.trans (l5.trans l6))⟩
                  · rw [if_neg hl] at q4; exact q4.elim
      · have e0 : items.drop i = [] := List.drop_eq_nil_of_le (by omega)
        rw [e0] at q2
        have hi' : i = items.length := by omega
        subst hi'
        refine .inl ⟨w1, ?_⟩
        have R3 := R1.restore l2 sv R2
        refine q2 (.ref D) Z2 H2 R3 (Zle.refl _) ?_
        obtain ⟨a, ea, hz, ob, h0, hs⟩ := d2
        cases ea
        refine ⟨D, rfl, hz, ob, h0, fun j hj e => ?_⟩
        have hl : ρ1.length = ρ2.length := by rw [R1.len, R2.len, wipe_length]
        by_cases hjv : j ∈ vs
        · obtain ⟨s, es, os⟩ := hj
          have e' := restore_in hl hjv es
          rw [savable_obj sv hjv e'] at os
          cases os
        · obtain ⟨s, es, os⟩ := hj
          rw [restore_out hjv] at es
          exact hs j ⟨s, es, os⟩ ((wipe_out hjv).trans e)
  · rw [if_neg sv] at q; exact q.elim
theorem se_lc [Tabl] (hc : X.calm = true) (hN : X.N.Nodup) (hi : SI X W tg iter fi) (ok : BlkOk X.N X.env.scope scope own)
    (hg : ∀ (s : Shared) (H : Hp) (C : Addr) (cl : List (Str × Addr)) (fp : List Addr), SG (X.blk s H scope (compEnvC scope cl C X.env) fp) (own.map (·.2)) tg fg) (ht : ∀ (s : Shared) (H : Hp) (C : Addr) (cl : List (Str × Addr)) (fp : List Addr), SPt (X.blk s H scope (compEnvC scope cl C X.env) fp) W0 ifs ft)
    (he : ∀ (s : Shared) (H : Hp) (C : Addr) (cl : List (Str × Addr)) (fp : List Addr), SE (X.blk s H scope (compEnvC scope cl C X.env) fp) W0 elt fe) (hs : ∀ x, foldedSetIterable iter X.env x = pure x := by intro _; rfl) :
    SE X W (.ListComp elt [⟨tg, iter, ifs, 0⟩] scope pos) (fLc (own.map (·.2)) fi fg ft fe) :=
  se_of (pe_lc hc hN hi ok hg ht (fun s H C cl fp => se_v (he s H C cl fp)) hs) fun C ρ σ Z H Q hK hm R q => by
    have := lc_ok R q
    rw [hK, hm] at this
    exact this
theorem ss_setLc [Tabl] {i : Nat} {y : Str} {py spos : Pos} (hc : X.calm = true) (hN : X.N.Nodup) (hy : X.N[i]? = some y) (hyl : X.env.scope.names.lookup y = some .local)
    (hsw : swapsWith (.ListComp elt [⟨tg, iter, ifs, 0⟩] scope pos) (some (.Name y py)) spos.line X.env = pure true) (hi : SI X W tg iter fi) (ok : BlkOk X.N X.env.scope scope own)
    (hg : ∀ (s : Shared) (H : Hp) (C : Addr) (cl : List (Str × Addr)) (fp : List Addr), SG (X.blk s H scope (compEnvC scope cl C X.env) fp) (own.map (·.2)) tg fg) (ht : ∀ (s : Shared) (H : Hp) (C : Addr) (cl : List (Str × Addr)) (fp : List Addr), SPt (X.blk s H scope (compEnvC scope cl C X.env) fp) W0 ifs ft)
    (he : ∀ (s : Shared) (H : Hp) (C : Addr) (cl : List (Str × Addr)) (fp : List Addr), SE (X.blk s H scope (compEnvC scope cl C X.env) fp) W0 elt fe) (hs : ∀ x, foldedSetIterable iter X.env x = pure x := by intro _; rfl) :
    SS X W (.Assign [.Name y py] (.ListComp elt [⟨tg, iter, ifs, 0⟩] scope pos) spos) (fSet i (fLc (own.map (·.2)) fi fg ft fe)) :=
  ss_of (ps_setLc hc hN hy hyl hsw hi ok hg ht (fun s H C cl fp => se_v (he s H C cl fp)) hs) fun C ρ σ Z H D hK hm R q => by
    show tLc (TIc X.K X.mg W fi) (TGc X.K X.mg (own.map (·.2)) fg) (TB X.K X.mg W0 ft) (TF X.K X.mg W0 (fV fe)) (own.map (·.2)) σ H (fun x H1 => D.nx (σ.set i (some x)) H1)
    rw [← hK, ← hm]
    refine lc_ok (W := W) R ?_
    have q' : AftS C W Z ((fLc (own.map (·.2)) fi fg ft fe ρ).bind fun r ρ1 => optF (asgR i r ρ1)) D := q
    cases e : fLc (own.map (·.2)) fi fg ft fe ρ with
    | er x ρ1 => rw [e] at q'; exact q' σ
    | no => rw [e] at q'; exact q'
    | ok r ρ1 =>
      rw [e] at q'
      intro v Z1 H1 R1 l dn
      have q2 : AftS C W Z (optF (asgR i r ρ1)) D := q'
      cases e1 : asgR i r ρ1 with
      | none => rw [e1] at q2; exact q2.elim
      | some ρ2 =>
        rw [e1] at q2
        obtain ⟨Z', R', l'⟩ := R1.asg dn e1
        exact q2 _ Z' H1 R' (l.trans l')
end
end TT

set_option Elab.async false
set_option linter.all false
set_option maxRecDepth 100000
namespace TT
open PySem PySem.Spec L2

/-! ### defs -/
abbrev Sem1 := List SV → Res RV
def argOk (s : SV) : Bool := match s with
  | .val _ => true
  | .bor _ => true
  | _ => false
/-- what the parameters hold at the end: the borrowed ones what their slots hold -/
def merge : List SV → Rho → Option (List SV)
  | [], _ => some []
  | .bor _ :: as, .bor d :: ρ => (merge as ρ).bind fun r => some (.bor d :: r)
  | .bor _ :: _, _ => none
  | a :: as, _ :: ρ => (merge as ρ).bind fun r => some (a :: r)
  | _ :: _, [] => none
def exitF (args : List SV) (r : Res Fl) : Res RV := match r with
  | .ok (.rt (.val d)) ρ => (match merge args ρ with
    | some as => .ok (.val d) as
    | none => .no)
  | .ok (.rt (.own d)) ρ => (match merge args ρ with
    | some as => .ok (.own d) as
    | none => .no)
  | .ok .nx ρ => (match merge args ρ with
    | some as => .ok (.val .non) as
    | none => .no)
  | .er x ρ => (match merge args ρ with
    | some as => .er x as
    | none => .no)
  | _ => .no
/-- a def with n slots and p parameters -/
def runF (n p : Nat) (body : Rho → Res Fl) : Sem1 := fun args => if args.length = p ∧ args.all argOk = true then exitF args (body (args ++ List.replicate (n - p) .un)) else .no
def AftF [Tabl] (C : Ct) (Z : Hp) (σ : Sg) (r : Res RV) (Q : VK) (E : XK) : Prop := match r with
  | .ok rv ρ' => ∀ v Z' H', Rel C ρ' σ Z' H' → Zle Z Z' → DnR C ρ' σ Z' H' v rv → Q v H'
  | .er x ρ' => ∀ cls d Z' H', Rel C ρ' σ Z' H' → Zle Z Z' → Xc C.mg C.K Z' H' x cls d → E cls d H'
  | .no => False
/-- the promise of a def that does what F says -/
def spF [Tabl] (K : PySem.W.Frag) (mg : Str → Option Value) (n : Nat) (F : Sem1) : Sp := fun vs H Q E => vs.length = n ∧ ∃ C args Z, C.K = K ∧ C.mg = mg ∧ Rel C args (vs.map some) Z H ∧
  (∀ a, C.M a → ∃ (i : Nat) (d : PV), args[i]? = some (.bor d) ∧ C.B i = some a) ∧ AftF C Z (vs.map some) (F args) Q E
section
variable {C : Ct} {W : WX} {ρ ρ' : Rho} {σ σ' : Sg} {Z Z' H H' : Hp} {v : V} {d : PV}
theorem merge_at : ∀ {args : List SV} {ρ : Rho} {as : List SV} {i : Nat} {s : SV}, merge args ρ = some as → as[i]? = some s → (∃ a, args[i]? = some a ∧ s = a ∧ ∀ d, a ≠ .bor d) ∨ ∃ d0 d, args[i]? = some (.bor d0) ∧ ρ[i]? = some (.bor d) ∧ s = .bor d
  | [], _, as, i, s, h, e => by cases h; simp at e
  | .bor d0 :: args, [], as, i, s, h, e => by cases h
  | .bor d0 :: args, t :: ρ, as, i, s, h, e => by
    cases t with
    | bor d =>
      unfold merge at h
      cases q : merge args ρ with
      | none => rw [q] at h; cases h
      | some r =>
        rw [q] at h
        cases h
        cases i with
        | zero => simp at e; exact .inr ⟨d0, d, rfl, rfl, e.symm⟩
        | succ i => exact merge_at (i := i) q (by simpa using e)
    | _ => cases h
  | .val d0 :: args, t :: ρ, as, i, s, h, e => by
    unfold merge at h
    cases q : merge args ρ with
    | none => rw [q] at h; cases h
    | some r =>
      rw [q] at h
      cases h
      cases i with
      | zero => simp at e; exact .inl ⟨_, rfl, e.symm, fun d z => by cases z⟩
      | succ i => exact merge_at (i := i) q (by simpa using e)
  | .own d0 :: args, t :: ρ, as, i, s, h, e => by
    unfold merge at h
    cases q : merge args ρ with
    | none => rw [q] at h; cases h
    | some r =>
      rw [q] at h
      cases h
      cases i with
      | zero => simp at e; exact .inl ⟨_, rfl, e.symm, fun d z => by cases z⟩
      | succ i => exact merge_at (i := i) q (by simpa using e)
  | .un :: args, t :: ρ, as, i, s, h, e => by
    unfold merge at h
    cases q : merge args ρ with
    | none => rw [q] at h; cases h
    | some r =>
      rw [q] at h
      cases h
      cases i with
      | zero => simp at e; exact .inl ⟨_, rfl, e.symm, fun d z => by cases z⟩
      | succ i => exact merge_at (i := i) q (by simpa using e)
  | .val _ :: _, [], as, i, s, h, e => by cases h
  | .own _ :: _, [], as, i, s, h, e => by cases h
  | .un :: _, [], as, i, s, h, e => by cases h
theorem merge_len : ∀ {args : List SV} {ρ : Rho} {as : List SV}, merge args ρ = some as → as.length = args.length
  | [], _, as, h => by cases h; rfl
  | .bor d0 :: args, [], as, h => by cases h
  | .bor d0 :: args, t :: ρ, as, h => by
    cases t with
    | bor d =>
      unfold merge at h
      cases q : merge args ρ with
      | none => rw [q] at h; cases h
      | some r => rw [q] at h; cases h; simp [merge_len q]
    | _ => cases h
  | .val d0 :: args, t :: ρ, as, h => by
    unfold merge at h
    cases q : merge args ρ with
    | none => rw [q] at h; cases h
    | some r => rw [q] at h; cases h; simp [merge_len q]
  | .own d0 :: args, t :: ρ, as, h => by
    unfold merge at h
    cases q : merge args ρ with
    | none => rw [q] at h; cases h
    | some r => rw [q] at h; cases h; simp [merge_len q]
  | .un :: args, t :: ρ, as, h => by
    unfold merge at h
    cases q : merge args ρ with
    | none => rw [q] at h; cases h
    | some r => rw [q] at h; cases h; simp [merge_len q]
  | .val _ :: _, [], as, h => by cases h
  | .own _ :: _, [], as, h => by cases h
  | .un :: _, [], as, h => by cases h
/-- at a def's end -/
theorem Rel.exit [Tabl] {args : List SV} {vs : List V} {as : List SV} (ha : args.all argOk = true) (R : Rel C args (vs.map some) Z H) (hM : ∀ a, C.M a → ∃ (i : Nat) (d : PV), args[i]? = some (.bor d) ∧ C.B i = some a) (R' : Rel C ρ' σ' Z' H') (l : Zle Z Z') (e : merge args ρ' = some as) :
    Rel C as (vs.map some) Z' H' ∧ (∀ d v, DnR C ρ' σ' Z' H' v (.own d) → DnR C as (vs.map some) Z' H' v (.own d)) := by
  have key : ∀ {i : Nat} {s : SV}, as[i]? = some s → s.isObj = true → ∃ d0 d a, args[i]? = some (.bor d0) ∧ ρ'[i]? = some (.bor d) ∧ s = .bor d ∧ C.B i = some a ∧ (vs.map some)[i]? = some (some (.ref a)) ∧ σ'[i]? = some (some (.ref a)) := fun {i s} h o => by
    rcases merge_at e h with ⟨a, h1, h2, h3⟩ | ⟨d0, d, h1, h2, rfl⟩
    · have h4 := List.all_eq_true.mp ha a (List.mem_of_getElem? h1)
      rw [h2] at o
      cases a with
      | un => cases o
      | val d => cases o
      | own d => cases h4
      | bor d => exact absurd rfl (h3 d)
    · obtain ⟨a, b1, b2⟩ := R.bor i d0 h1
      obtain ⟨a', c1, c2⟩ := R'.bor i d h2
      rw [b1] at c1; cases c1
      exact ⟨d0, d, a, h1, h2, rfl, b1, b2, c2⟩
  refine ⟨⟨(merge_len e).trans R.len, R'.le, fun i d h => ?_, fun i s d h o g => ?_, fun i j a hi hj e1 e2 => ?_, fun i d h => ?_, R'.keep, R'.zle, R'.here, R'.tab, R'.n0, R'.zt⟩, fun d v dn => ?_⟩
  · rcases merge_at e h with ⟨a, h1, rfl, h3⟩ | ⟨d0, d', h1, h2, z⟩
    · obtain ⟨v, h4, h5⟩ := R.val i d h1
      exact ⟨v, h4, h5.mono l⟩
    · cases z
  · obtain ⟨d0, d', a, h1, h2, rfl, h4, h5, h6⟩ := key h o
    obtain ⟨a', g1, g2, g3, g4⟩ := R'.obj i _ d h2 rfl g
    rw [h6] at g1; cases g1
    exact ⟨a, h5, g2, g3, g4⟩
  · obtain ⟨s, es, os⟩ := hi
    obtain ⟨t, et, ot⟩ := hj
    obtain ⟨_, d1, a1, _, h2, _, _, h5, h6⟩ := key es os
    obtain ⟨_, d2, a2, _, k2, _, _, k5, k6⟩ := key et ot
    rw [e1] at h5; cases h5
    rw [e2] at k5; cases k5
    exact R'.inj i j a ⟨_, h2, rfl⟩ ⟨_, k2, rfl⟩ h6 k6
  · obtain ⟨d0, d', a, h1, h2, _, h4, h5, h6⟩ := key h rfl
    exact ⟨a, h4, h5⟩
  · obtain ⟨a, rfl, h2, h3, h4, h5⟩ := dn
    refine ⟨a, rfl, h2, h3, h4, fun i hi e1 => ?_⟩
    obtain ⟨s, es, os⟩ := hi
    obtain ⟨_, d1, a1, _, k2, _, _, k5, k6⟩ := key es os
    rw [e1] at k5; cases k5
    exact h5 i ⟨_, k2, rfl⟩ k6
/-- at a def's begin -/
theorem Rel.enter [Tabl] {args : List SV} {vs : List V} {N : Nat} (R : Rel C args (vs.map some) Z H) : Rel C (args ++ List.replicate (N - vs.length) .un) (vs.map some ++ List.replicate (N - vs.length) none) Z H := by
  have hl : args.length = vs.length := by have := R.len; simpa using this
  have at1 : ∀ {i : Nat} {s : SV}, (args ++ List.replicate (N - vs.length) .un)[i]? = some s → s ≠ .un → args[i]? = some s ∧ (vs.map some ++ List.replicate (N - vs.length) none)[i]? = (vs.map some)[i]? := fun {i s} h n => by
    by_cases hi : i < args.length
    · rw [List.getElem?_append_left hi] at h
      exact ⟨h, List.getElem?_append_left (by simp; omega)⟩
    · rw [List.getElem?_append_right (by omega), List.getElem?_replicate] at h
      split at h
      · cases h; exact absurd rfl n
      · cases h
  have ob1 : ∀ {i : Nat}, isObj (args ++ List.replicate (N - vs.length) .un) i → isObj args i ∧ (vs.map some ++ List.replicate (N - vs.length) none)[i]? = (vs.map some)[i]? := fun {i} ⟨s, e, o⟩ => by
    obtain ⟨h1, h2⟩ := at1 e (fun z => by subst z; cases o)
    exact ⟨⟨s, h1, o⟩, h2⟩
  refine ⟨by simp [hl], R.le, fun i d h => ?_, fun i s d h o g => ?_, fun i j a hi hj e1 e2 => ?_, fun i d h => ?_, R.keep, R.zle, R.here, R.tab, R.n0, R.zt⟩
  · obtain ⟨h1, h2⟩ := at1 h (fun z => by cases z)
    obtain ⟨v, g1, g2⟩ := R.val i d h1
    exact ⟨v, h2.trans g1, g2⟩
  · obtain ⟨h1, h2⟩ := at1 h (fun z => by subst z; cases o)
    obtain ⟨a, g1, g2⟩ := R.obj i s d h1 o g
    exact ⟨a, h2.trans g1, g2⟩
  · obtain ⟨h1, h2⟩ := ob1 hi
    obtain ⟨k1, k2⟩ := ob1 hj
    exact R.inj i j a h1 k1 (h2.symm.trans e1) (k2.symm.trans e2)
  · obtain ⟨h1, h2⟩ := at1 h (fun z => by cases z)
    obtain ⟨a, g1, g2⟩ := R.bor i d h1
    exact ⟨a, g1, h2.trans g2⟩
end
/-- THE RULE for a def -/
theorem fn_ok [Tabl] {P : Program} {w : World} {K : PySem.W.Frag} {mg : Str → Option Value} {base : Heap} {x qual : Str} {st : Stmt} {f : Addr} {fd : FuncData} {N ps : List Str} {k : Nat} {body : Rho → Res Fl} (F : Fun K x qual st f fd) (S : FnScope N ps (defScope st))
    (hbody : ∀ (cdv : Value) (A : Around) (outer : List Env) (s : Shared) (H : Hp) (E : XK), Room k (A.deeper (PyProof.Rows.envOfC qual (defScope st) s.heap.objs.size f cdv)) →
      SSs (cxOf (L2.CX P w) P w K mg base N qual (defScope st) f cdv A outer s H E) (fun cls d _ H => E cls d H) (defBody st) body) : FnOk P w K mg base (L2.CX P w) (k + 1) f fd ps (spF K mg ps.length (runF N.length ps.length body)) := by
  refine F.okX S (fun vs H Q E h => h.1) fun cdv A outer s H vs Q E hr h => ⟨_, hbody cdv A outer s H E hr, ?_⟩
  obtain ⟨hl, C, args, Z, hK, hm, R, hM, q⟩ := h
  unfold runF at q
  split at q
  · rename_i hc
    have R0 := R.enter (N := N.length)
    have hal : args.length = vs.length := by have := R.len; simpa using this
    refine ⟨C, _, Z, hK, hm, R0, ?_⟩
    have q' : AftF C Z (vs.map some) (exitF args (body (args ++ List.replicate (N.length - vs.length) .un))) Q E := by rw [hl]; exact q
    cases e : body (args ++ List.replicate (N.length - vs.length) .un) with
    | no => rw [e] at q'; exact q'
    | er x ρ1 =>
      rw [e] at q'
      simp only [exitF] at q'
      cases em : merge args ρ1 with
      | none => rw [em] at q'; exact q'.elim
      | some as =>
        rw [em] at q'
        exact fun σ' cls d Z' H' R' l hx => q' cls d Z' H' (R.exit hc.2 hM R' l em).1 l hx
    | ok fl ρ1 =>
      rw [e] at q'
      simp only [exitF] at q'
      cases fl with
      | bk => exact q'.elim
      | ct => exact q'.elim
      | nx =>
        simp only at q'
        cases em : merge args ρ1 with
        | none => rw [em] at q'; exact q'.elim
        | some as =>
          rw [em] at q'
          exact fun σ' Z' H' R' l => q' .non Z' H' (R.exit hc.2 hM R' l em).1 l .non
      | rt r =>
        cases r with
        | ali i => exact q'.elim
        | val d =>
          simp only at q'
          cases em : merge args ρ1 with
          | none => rw [em] at q'; exact q'.elim
          | some as =>
            rw [em] at q'
            exact fun v σ' Z' H' R' l dn => q' v Z' H' (R.exit hc.2 hM R' l em).1 l dn
        | own d =>
          simp only at q'
          cases em : merge args ρ1 with
          | none => rw [em] at q'; exact q'.elim
          | some as =>
            rw [em] at q'
            exact fun v σ' Z' H' R' l dn => q' v Z' H' (R.exit hc.2 hM R' l em).1 l ((R.exit hc.2 hM R' l em).2 d v dn)
  · exact q.elim

/-! ### calls -/
def asVals : List RV → Option (List SV)
  | [] => some []
  | .val d :: rs => (asVals rs).bind fun as => some (.val d :: as)
  | _ => none
/-- f(e, ..): every argument a value -/
def fCall (n : Nat) (F : Sem1) (f : Rho → Res (List RV)) : Rho → Res RV := fun ρ => (f ρ).bind fun rs ρ1 => match asVals rs with
  | some as => if as.length = n then (match F as with
    | .ok (.val d) _ => .ok (.val d) ρ1
    | .ok (.own d) _ => .ok (.own d) ρ1
    | .er x _ => .er x ρ1
    | _ => .no) else .no
  | none => .no
/-- f(dice, e, ..): the first argument is lent -/
def fCallD (n : Nat) (F : Sem1) (i : Nat) (f : Rho → Res (List RV)) : Rho → Res RV := fun ρ => match slotL ρ i with
  | none => .no
  | some _ => (f ρ).bind fun rs ρ1 => (match asVals rs, slotL ρ1 i with
    | some as, some ds => if as.length + 1 = n then (match F (.bor (.lst ds) :: as) with
      | .ok (.val d) (.bor (.lst es) :: _) => .ok (.val d) (putL ρ1 i es)
      | .ok (.own d) (.bor (.lst es) :: _) => .ok (.own d) (putL ρ1 i es)
      | .er x (.bor (.lst es) :: _) => .er x (putL ρ1 i es)
      | _ => .no) else .no
    | _, _ => .no)
section
variable {C : Ct} {W : WX} {ρ ρ' : Rho} {σ σ' : Sg} {Z Z' H H' : Hp} {v : V} {d : PV}
theorem asVals_dn : ∀ {vs : List V} {rs : List RV} {as : List SV}, DnRs C ρ σ Z H vs rs → asVals rs = some as → as.length = vs.length ∧ ∀ (i : Nat) (s : SV), as[i]? = some s → ∃ (v : V) (d : PV), s = .val d ∧ vs[i]? = some v ∧ Dn C.K Z v d
  | [], [], as, _, e => by cases e; exact ⟨rfl, fun i s h => by simp at h⟩
  | v :: vs, .val d :: rs, as, h, e => by
    unfold asVals at e
    cases q : asVals rs with
    | none => rw [q] at e; cases e
    | some bs =>
      rw [q] at e
      cases e
      obtain ⟨h1, h2⟩ := asVals_dn h.2 q
      refine ⟨by simp [h1], fun i s hs => ?_⟩
      cases i with
      | zero => simp at hs; exact ⟨v, d, hs.symm, rfl, h.1⟩
      | succ i => exact h2 i s (by simpa using hs)
  | _ :: _, .own _ :: _, _, _, e => by cases e
  | _ :: _, .ali _ :: _, _, _, e => by cases e
  | [], _ :: _, _, h, _ => h.elim
  | _ :: _, [], _, h, _ => h.elim
/-- the callee's entry -/
def Ct.call [Tabl] (C : Ct) (Z H : Hp) (o : Option Addr) : Ct := { C with Z0 := Z, H0 := nt H, M := fun a => o = some a, B := fun i => match i with
  | 0 => o
  | _ => none }
theorem Rel.callV [Tabl] (R : Rel C ρ σ Z H) {vs : List V} {as : List SV} (hl : as.length = vs.length) (hv : ∀ (i : Nat) (s : SV), as[i]? = some s → ∃ (v : V) (d : PV), s = .val d ∧ vs[i]? = some v ∧ Dn C.K Z v d) : Rel (C.call Z H none) as (vs.map some) Z H := by
  have nob : ∀ {i : Nat}, ¬ isObj as i := fun {i} ⟨s, e, o⟩ => by
    obtain ⟨v, d, rfl, _⟩ := hv i s e
    cases o
  refine ⟨by simpa using hl, R.le, fun i d h => ?_, fun i s d h o g => (nob ⟨s, h, o⟩).elim, fun i j a hi => (nob hi).elim, fun i d h => (nob ⟨_, h, rfl⟩).elim, fun a h _ => ⟨(nt_eq h).symm, rfl⟩, Zle.refl _, fun a h => h, R.tab, nt_NT, R.zt⟩
  obtain ⟨v, d', e1, e2, e3⟩ := hv i _ h
  cases e1
  exact ⟨v, by rw [List.getElem?_map, e2]; rfl, e3⟩
/-- behind a call that was lent nothing -/
theorem Rel.backV [Tabl] {as : List SV} {vs : List V} (R : Rel C ρ σ Z H) (R' : Rel (C.call Z H none) as (vs.map some) Z' H') : Rel C ρ σ Z' H' := by
  have kp : ∀ a, nt H a ≠ none → H' a = nt H a ∧ Z' a = Z a := fun a h => R'.keep a h (fun z => by cases z)
  refine ⟨R.len, R'.le, fun i d h => ?_, fun i s d h o g => ?_, R.inj, R.bor, fun a h1 h2 => ?_, R.zle.trans R'.zle, fun a h => ?_, R'.tab, R.n0, R'.zt⟩
  · obtain ⟨v, h1, h2⟩ := R.val i d h
    exact ⟨v, h1, h2.mono R'.zle⟩
  · obtain ⟨a, h1, h2, h3, h4⟩ := R.obj i s d h o g
    obtain ⟨k1, k2⟩ := kp a h3.ntn
    exact ⟨a, h1, k2.trans h2, h3.mono R'.zle (k1.trans h3.nt), h4⟩
  · obtain ⟨k1, k2⟩ := R.keep a h1 h2
    obtain ⟨k3, k4⟩ := kp a (R.here a h1)
    exact ⟨(k3.trans (nt_keep R.n0 h1 k1)).trans k1, k4.trans k2⟩
  · exact R'.here a (R.here a h)
theorem own_backV [Tabl] {as : List SV} {vs : List V} {o : Option Addr} (R : Rel C ρ σ Z H) (hM : ∀ a, o = some a → ∃ i, isObj as i ∧ (vs.map some)[i]? = some (some (.ref a))) (dn : DnR (C.call Z H o) as (vs.map some) Z' H' v (.own d)) : ∃ a, v = .ref a ∧ Z' a = none ∧ Ob C.K Z' H' a d ∧ nt H a = none := by
  obtain ⟨a, rfl, h2, h3, h4, h5⟩ := dn
  refine ⟨a, rfl, h2, h3, ?_⟩
  rcases h4 with h4 | h4
  · exact h4
  · obtain ⟨i, hi, e⟩ := hM a h4
    exact absurd e (h5 i hi)
end
section
variable {X : Cx} {W : WX} {k : Nat} {fa : Addr} {fd : FuncData} {ps : List Str} {n : Nat} {F : Sem1} {x : Str} {p pos : Pos} {e : Expr} {es : List Expr} {f : Rho → Res (List RV)}
theorem se_call [Tabl] (tk : Takes X W) (G : FnOk X.prog X.w X.K X.mg X.base (L2.CX X.prog X.w) k fa fd ps (spF X.K X.mg n F)) (hr : Room k X.A) (hg : Gl X x) (hm0 : X.mg x = some (.ref fa)) (hk : PySem.W.keepIn X.K (.ref fa) = true) (hb : Binds X.K fd ps [])
    (ha : SA X W (e :: es) f) (hdb : (x == ("__debug__" : Str)) = false := by decide) (he : starEach (e :: es) X.env = (false, eval e X.env) :: starEach es X.env := by rfl) (hpl : (backTo pos (starEach es X.env)).any (·.1) = false := by rfl) :
    SE X W (.Call (.Name x p) (e :: es) [] pos) (fCall n F f) :=
  se_of (pe_callSD (E := WE W) G hr hg hm0 hk hb .nil (fun σ => passAt tk σ) ha hdb he hpl) fun C ρ σ Z H Q hK hm R q => by
    show TAr X.K X.mg W f σ H fun vs H1 => spF X.K X.mg n F (vs ++ []) H1 Q (WE W σ)
    rw [← hK, ← hm]
    refine ta_bind (P := fun r => Aft C W σ Z r Q) R q (fun _ _ h => h) (fun h => h) fun rs ρ1 vs Z1 H1 R1 l1 d1 q => ?_
    rw [List.append_nil]
    cases e1 : asVals rs with
    | none => rw [e1] at q; exact q.elim
    | some as =>
      rw [e1] at q
      simp only at q
      by_cases hn : as.length = n
      · rw [if_pos hn] at q
        obtain ⟨hl, hv⟩ := asVals_dn d1 e1
        have Rc := R1.callV hl hv
        refine ⟨hl.symm.trans hn, C.call Z1 H1 none, as, Z1, rfl, rfl, Rc, (fun a h => by cases (show none = some a from h)), ?_⟩
        cases e2 : F as with
        | no => rw [e2] at q; exact q.elim
        | er y as' =>
          rw [e2] at q
          exact fun cls d Z' H' R' l hx => q cls d Z' H' (R1.backV R') (l1.trans l) hx
        | ok r as' =>
          rw [e2] at q
          intro v Z' H' R' l dn
          cases r with
          | ali i => exact q.elim
          | val d => exact q v Z' H' (R1.backV R') (l1.trans l) dn
          | own d =>
            have Rb := R1.backV R'
            obtain ⟨a, rfl, h2, h3, h4⟩ := own_backV R1 (fun a h => by cases h) dn
            refine q _ Z' H' Rb (l1.trans l) ⟨a, rfl, h2, h3, .inl (R1.fresh0 h4), fun i hi ei => ?_⟩
            obtain ⟨b, d', e', _, ob, _⟩ := R1.objA hi
            rw [ei] at e'; cases e'
            exact ob.ntn h4
      · rw [if_neg hn] at q; exact q.elim
end
end TT

set_option Elab.async false
set_option linter.all false
set_option maxRecDepth 100000
namespace TT
open PySem PySem.Spec L2
section
variable {C : Ct} {W : WX} {ρ ρ' : Rho} {σ σ' : Sg} {Z Z' H H' : Hp} {v : V} {d : PV}
theorem Rel.callD [Tabl] (R : Rel C ρ σ Z H) {vs : List V} {as : List SV} {a : Addr} {ds : List PV} {xs : List V} (hz : Z a = none) (hx : H a = some (.lst xs)) (hd : DnAll C.K Z xs ds) (hl : as.length = vs.length)
    (hv : ∀ (i : Nat) (s : SV), as[i]? = some s → ∃ (v : V) (d : PV), s = .val d ∧ vs[i]? = some v ∧ Dn C.K Z v d) : Rel (C.call Z H (some a)) (.bor (.lst ds) :: as) ((.ref a :: vs).map some) Z H := by
  have ob0 : ∀ {i : Nat}, isObj (.bor (.lst ds) :: as) i → i = 0 := fun {i} ⟨s, e, o⟩ => by
    cases i with
    | zero => rfl
    | succ i =>
      obtain ⟨v, d, rfl, _⟩ := hv i s (by simpa using e)
      cases o
  refine ⟨by simpa using hl, R.le, fun i d h => ?_, fun i s d h o g => ?_, fun i j b hi hj _ _ => (ob0 hi).trans (ob0 hj).symm, fun i d h => ?_, fun a h _ => ⟨(nt_eq h).symm, rfl⟩, Zle.refl _, fun a h => h, R.tab, nt_NT, R.zt⟩
  · cases i with
    | zero => simp at h
    | succ i =>
      obtain ⟨v, d', e1, e2, e3⟩ := hv i _ (by simpa using h)
      cases e1
      exact ⟨v, by simp [e2], e3⟩
  · have h0 := ob0 ⟨s, h, o⟩
    subst h0
    simp at h
    subst h
    cases g
    exact ⟨a, rfl, hz, ⟨xs, hx, hd⟩, .inr rfl⟩
  · have h0 := ob0 ⟨_, h, rfl⟩
    subst h0
    exact ⟨a, rfl, rfl⟩
theorem Rel.backD [Tabl] (R : Rel C ρ σ Z H) {i : Nat} {ds es : List PV} {a : Addr} {as as' : List SV} {vs : List V} (e : slotL ρ i = some ds) (ha : σ[i]? = some (some (.ref a))) (R' : Rel (C.call Z H (some a)) (.bor (.lst es) :: as') ((.ref a :: vs).map some) Z' H') : Rel C (TT.putL ρ i es) σ Z' H' := by
  obtain ⟨s, a', xs, hs, os, _, ha', hz, hx, hd⟩ := slotL_ok R e
  rw [ha] at ha'; cases ha'
  have hi : i < ρ.length := (List.getElem?_eq_some_iff.mp hs).1
  have hio : isObj ρ i := ⟨s, hs, os⟩
  obtain ⟨_, _, ha'', _, _, h0⟩ := R.objA hio
  rw [ha] at ha''; cases ha''
  obtain ⟨b0, hb0, hz0, ob0, _⟩ := R'.obj 0 (.bor (.lst es)) (.lst es) rfl rfl rfl
  cases hb0
  have kp : ∀ b, b ≠ a → nt H b ≠ none → H' b = nt H b ∧ Z' b = Z b := fun b n h => R'.keep b h (fun z => n (by cases (show some a = some b from z); rfl))
  have hput : (s.put (.lst es)).isObj = true := by cases s <;> first | rfl | cases os
  have gput : (s.put (.lst es)).get = some (.lst es) := by cases s <;> first | rfl | cases os
  have ep : TT.putL ρ i es = ρ.set i (s.put (.lst es)) := by unfold TT.putL; rw [hs]
  rw [ep]
  have back : ∀ {j : Nat}, isObj (ρ.set i (s.put (.lst es))) j → isObj ρ j := fun {j} h => by
    rcases isObj_set h with rfl | h
    · exact hio
    · exact h
  refine ⟨by rw [List.length_set]; exact R.len, R'.le, fun j d q => ?_, fun j t d q t1 t2 => ?_, fun j k b hj hk => R.inj j k b (back hj) (back hk), fun j d q => ?_, fun b h1 h2 => ?_, R.zle.trans R'.zle, fun b h => ?_, R'.tab, R.n0, R'.zt⟩
  · by_cases hj : j = i
    · subst hj
      rw [List.getElem?_set_self hi] at q
      cases s <;> cases q <;> cases os
    · rw [List.getElem?_set_ne (Ne.symm hj)] at q
      obtain ⟨v, h1, h2⟩ := R.val j d q
      exact ⟨v, h1, h2.mono R'.zle⟩
  · by_cases hj : j = i
    · subst hj
      rw [List.getElem?_set_self hi] at q
      cases q
      rw [gput] at t2
      cases t2
      exact ⟨a, ha, hz0, ob0, h0⟩
    · rw [List.getElem?_set_ne (Ne.symm hj)] at q
      obtain ⟨b, h1, h2, h3, h4⟩ := R.obj j t d q t1 t2
      have ne : b ≠ a := fun z => hj (R.inj j i a ⟨t, q, t1⟩ hio (z ▸ h1) ha)
      obtain ⟨k1', k2⟩ := kp b ne h3.ntn
      have k1 := k1'.trans h3.nt
      exact ⟨b, h1, k2.trans h2, h3.mono R'.zle k1, h4⟩
  · by_cases hj : j = i
    · subst hj
      rw [List.getElem?_set_self hi] at q
      cases s with
      | bor d2 => exact R.bor j d2 hs
      | own d2 => cases q
      | _ => cases os
    · rw [List.getElem?_set_ne (Ne.symm hj)] at q
      exact R.bor j d q
  · have ne : b ≠ a := fun z => by
      subst z
      rcases h0 with h0 | h0
      · exact h1 h0
      · exact h2 h0
    obtain ⟨k1, k2⟩ := R.keep b h1 h2
    obtain ⟨k3, k4⟩ := kp b ne (R.here b h1)
    exact ⟨(k3.trans (nt_keep R.n0 h1 k1)).trans k1, k4.trans k2⟩
  · by_cases hb : b = a
    · subst hb; exact ob0.ntn
    · exact R'.here b (R.here b h)
theorem putL_obj {i j : Nat} {ds es : List PV} (e : slotL ρ i = some ds) (h : isObj (putL ρ i es) j) : isObj ρ j := by
  unfold slotL at e
  unfold TT.putL at h
  cases q : ρ[i]? with
  | none => rw [q] at e; cases e
  | some s =>
    rw [q] at h e
    rcases isObj_set h with rfl | h
    · refine ⟨s, q, ?_⟩
      cases s with
      | own d => rfl
      | bor d => rfl
      | _ => cases e
    · exact h
end
section
variable {X : Cx} {W : WX} {k : Nat} {fa : Addr} {fd : FuncData} {ps : List Str} {n i : Nat} {F : Sem1} {x y : Str} {p pos py : Pos} {es : List Expr} {f : Rho → Res (List RV)}
theorem se_callD [Tabl] (tk : Takes X W) (G : FnOk X.prog X.w X.K X.mg X.base (L2.CX X.prog X.w) k fa fd ps (spF X.K X.mg n F)) (hr : Room k X.A) (hg : Gl X x) (hm0 : X.mg x = some (.ref fa)) (hk : PySem.W.keepIn X.K (.ref fa) = true) (hb : Binds X.K fd ps [])
    (hN : X.N[i]? = some y) (hv : Vis X.env.scope y) (hd : (y == ("__debug__" : Str)) = false) (hcd : (y == ("__classdict__" : Str)) = false)
    (ha : SA X W es f) (hdb : (x == ("__debug__" : Str)) = false := by decide) (he : starEach (.Name y py :: es) X.env = (false, eval (.Name y py) X.env) :: starEach es X.env := by rfl) (hpl : (backTo pos (starEach es X.env)).any (·.1) = false := by rfl) :
    SE X W (.Call (.Name x p) (.Name y py :: es) [] pos) (fCallD n F i f) :=
  se_of (pe_callSD (E := WE W) G hr hg hm0 hk hb .nil (fun σ => passAt tk σ) (pa_cons (pe_var hN hv hd hcd) ha he) hdb he hpl) fun C ρ σ Z H Q hK hm R q => by
    unfold fCallD at q
    cases e0 : slotL ρ i with
    | none => rw [e0] at q; exact q.elim
    | some ds0 =>
      rw [e0] at q
      simp only at q
      obtain ⟨s, a, xs0, _, _, _, hsa, _, _, _⟩ := slotL_ok R e0
      refine ⟨.ref a, hsa, ?_⟩
      show TAr X.K X.mg W f σ H fun vs H1 => spF X.K X.mg n F ((.ref a :: vs) ++ []) H1 Q (WE W σ)
      rw [← hK, ← hm]
      refine ta_bind (P := fun r => Aft C W σ Z r Q) R q (fun _ _ h => h) (fun h => h) fun rs ρ1 vs Z1 H1 R1 l1 d1 q => ?_
      rw [List.append_nil]
      cases e1 : asVals rs with
      | none => rw [e1] at q; exact q.elim
      | some as =>
        cases e2 : slotL ρ1 i with
        | none => rw [e1, e2] at q; exact q.elim
        | some ds =>
          rw [e1, e2] at q
          simp only at q
          by_cases hn : as.length + 1 = n
          · rw [if_pos hn] at q
            obtain ⟨hl, hv⟩ := asVals_dn d1 e1
            obtain ⟨s1, a1, xs, _, _, _, hsa1, hz, hx, hdn⟩ := slotL_ok R1 e2
            rw [hsa] at hsa1; cases hsa1
            have Rc := R1.callD hz hx hdn hl hv
            refine ⟨by simp [← hn, hl], C.call Z1 H1 (some a), _, Z1, rfl, rfl, Rc, (fun b h => ⟨0, .lst ds, rfl, h⟩), ?_⟩
            cases e3 : F (.bor (.lst ds) :: as) with
            | no => rw [e3] at q; exact q.elim
            | er z as' =>
              rw [e3] at q
              cases as' with
              | nil => exact q.elim
              | cons t as' =>
                cases t with
                | bor t =>
                  cases t with
                  | lst es => exact fun cls d Z' H' R' l hx => q cls d Z' H' (R1.backD (as := as) e2 hsa R') (l1.trans l) hx
                  | _ => exact q.elim
                | _ => exact q.elim
            | ok r as' =>
              rw [e3] at q
              cases as' with
              | nil => cases r <;> exact q.elim
              | cons t as' =>
                cases t with
                | bor t =>
                  cases t with
                  | lst es =>
                    intro v Z' H' R' l dn
                    have Rb := R1.backD (as := as) e2 hsa R'
                    cases r with
                    | ali j => exact q.elim
                    | val d => exact q v Z' H' Rb (l1.trans l) dn
                    | own d =>
                      obtain ⟨b, rfl, h2, h3, h4⟩ := own_backV R1 (fun b h => ⟨0, ⟨_, rfl, rfl⟩, by cases h; rfl⟩) dn
                      refine q _ Z' H' Rb (l1.trans l) ⟨b, rfl, h2, h3, .inl (R1.fresh0 h4), fun j hj ej => ?_⟩
                      obtain ⟨c, d', e', _, ob, _⟩ := R1.objA (putL_obj e2 hj)
                      rw [ej] at e'; cases e'
                      exact ob.ntn h4
                  | _ => cases r <;> exact q.elim
                | _ => cases r <;> exact q.elim
          · rw [if_neg hn] at q; exact q.elim
end
end TT

set_option Elab.async false
set_option linter.all false
set_option maxRecDepth 100000
namespace TT
open PySem PySem.Spec L2

/-! ### pure values as data -/
mutual
def toD : PV → PyData
  | .non => .none
  | .bl b => .bool b
  | .int i => .int i
  | .str x => .str x
  | .tup xs => .tuple (toDs xs)
  | .lst xs => .list (toDs xs)
  | .scr xs => .list (toDs xs)
  | .obj _ _ => .none
  | .rng _ _ => .none
  | .dct _ _ => .none
  | .dcT _ _ => .none
def toDs : List PV → List PyData
  | [] => []
  | d :: ds => toD d :: toDs ds
end
mutual
def noObj : PV → Bool
  | .obj _ _ => false
  | .rng _ _ => false
  | .dct _ _ => false
  | .dcT _ _ => false
  | .tup xs => noObjs xs
  | .lst xs => noObjs xs
  | .scr xs => noObjs xs
  | _ => true
def noObjs : List PV → Bool
  | [] => true
  | d :: ds => noObj d && noObjs ds
end
mutual
theorem dp_of {K : PySem.W.Frag} {Z : Hp} : ∀ {v : V} {d : PV}, Dn K Z v d → noObj d = true → Dp K Z v (toD d)
  | _, _, .non, _ => .non
  | _, _, .bl b, _ => .bl b
  | _, _, .int i, _ => .int i
  | _, _, .str x, _ => .str x
  | _, _, .lst h t, e => .lst (.of h) (dpAll_of t e)
  | _, _, .scr h t, e => .lst h (dpAll_of t e)
  | _, _, .tup h t, e => .tup h (dpAll_of t e)
theorem dpAll_of {K : PySem.W.Frag} {Z : Hp} : ∀ {vs : List V} {ds : List PV}, DnAll K Z vs ds → noObjs ds = true → DpAll K Z vs (toDs ds)
  | _, _, .nil, _ => .nil
  | _, _, .cons h t, e => by
    have e' : (noObj _ && noObjs _) = true := e
    rw [Bool.and_eq_true] at e'
    exact .cons (dp_of h e'.1) (dpAll_of t e'.2)
end
theorem Pk.dp {K : PySem.W.Frag} {Z H : Hp} {v : V} {d : PV} (l : Zle Z H) (h : Pk K Z H v d) (e : noObj d = true) : Dp K H v (toD d) := by
  cases d with
  | lst ds => obtain ⟨a, xs, rfl, hx, t⟩ := h; exact .lst (.of hx) (dpAll_of (t.mono l) e)
  | obj c fs => exact absurd e Bool.false_ne_true
  | dct ks ds => exact absurd e Bool.false_ne_true
  | dcT ks ds => exact absurd e Bool.false_ne_true
  | _ => exact dp_of (Dn.mono l h) e
def dOk (d : PV) : Bool := noObj d && SeqAt.shaped (toD d)
def vB (b : Bool) : Option OV := some (.val (.bl b))
def vI (i : Int) : Option OV := some (.val (.int i))
def guard (c : Bool) (o : Option OV) : Option OV := if c = true then o else none
theorem guard_inv {c : Bool} {o : Option OV} {r : OV} (h : guard c o = some r) : c = true ∧ o = some r := by
  unfold guard at h
  split at h
  · rename_i hc; exact ⟨hc, h⟩
  · cases h

section
variable {K : PySem.W.Frag} {Z H : Hp} {v : V}
theorem Pk.tup {ds : List PV} (h : Pk K Z H v (.tup ds)) : ∃ a xs, v = .ref a ∧ SqT K Z a xs ∧ DnAll K Z xs ds := Dn.tup_inv h
theorem Pk.lst {ds : List PV} (h : Pk K Z H v (.lst ds)) : ∃ a xs, v = .ref a ∧ H a = some (.lst xs) ∧ DnAll K Z xs ds := h
theorem Pk.scr {ds : List PV} (h : Pk K Z H v (.scr ds)) : ∃ a xs, v = .ref a ∧ SqL K Z a xs ∧ DnAll K Z xs ds := Dn.scr_inv h
theorem Pk.int {i : Int} (h : Pk K Z H v (.int i)) : v = .int i := Dn.int_inv (K := K) (Z := Z) h
theorem Pk.bl {i : Bool} (h : Pk K Z H v (.bl i)) : v = .bl i := Dn.bl_inv (K := K) (Z := Z) h
theorem Pk.str {i : Str} (h : Pk K Z H v (.str i)) : v = .str i := Dn.str_inv (K := K) (Z := Z) h
theorem Pk.non (h : Pk K Z H v .non) : v = .non := Dn.non_inv (K := K) (Z := Z) h
theorem nil_iff {xs : List V} {ds : List PV} (t : DnAll K Z xs ds) : xs = [] ↔ ds = [] := by
  cases t with
  | nil => simp
  | cons _ _ => simp
end

/-! ### + - * // % ** -/
def pAdd : PV → PV → Option OV
  | .int i, .int j => vI (i + j)
  | .tup xs, .tup ys => guard (decide (xs.length + ys.length ≤ bigN)) (some (.val (.tup (xs ++ ys))))
  | .lst xs, .lst ys => guard (decide (xs.length + ys.length ≤ bigN)) (some (.own (.lst (xs ++ ys))))
  | .str x, .str y => guard (decide (x.length + y.length ≤ bigN)) (some (.val (.str (x ++ y))))
  | _, _ => none
abbrev rAddS : R2 := fun x y H Q => ∃ i j, x = .str i ∧ y = .str j ∧ i.length + j.length ≤ sizeLine ∧ Q (.str (i ++ j)) H
abbrev rAddA (K : PySem.W.Frag) : R2 := fun x y H Q => rI0 (fun i j => .int (i + j)) x y H Q ∨ (rCatA K x y H Q ∨ (rCat x y H Q ∨ rAddS x y H Q))
theorem or_addA {X : Cx} : OpR X (binaryOp .Add) (rAddA X.K) := op_add.or (op_catA.or (op_cat.or op_add_str))
theorem p_add {K : PySem.W.Frag} : Op2 K (rAddA K) pAdd := by
  intro Z H x y d e o Q l hx hy ho hw
  unfold pAdd at ho
  split at ho
  · rw [hx.int, hy.int]
    cases ho
    exact .inl ⟨_, _, rfl, rfl, hw.1 _ (.int _)⟩
  · rename_i ds es
    obtain ⟨hc, ho⟩ := guard_inv ho
    cases ho
    have hc' := of_decide_eq_true hc
    obtain ⟨a, xs, rfl, hs, t⟩ := hx.tup
    obtain ⟨b, ys, rfl, hs', t'⟩ := hy.tup
    have n1 := nil_iff t
    have n2 := nil_iff t'
    refine .inr (.inl ⟨a, b, xs, ys, rfl, rfl, l.sqT hs, l.sqT hs', ?_, fun e => ?_, fun _ e => ?_, fun _ _ p hp => ?_⟩)
    · have := t.length
      have := t'.length
      have := bigN_line
      omega
    · have e1 : ds = [] := n1.mp e
      subst e1
      exact hw.1 _ (.tup hs' t')
    · have e1 : es = [] := n2.mp e
      subst e1
      have := hw.1 (.ref a) (.tup hs (by rw [List.append_nil]; exact t))
      exact this
    · exact hw.2 _ _ p rfl hp (t.append t')
  · rename_i ds es
    obtain ⟨hc, ho⟩ := guard_inv ho
    cases ho
    have hc' := of_decide_eq_true hc
    obtain ⟨a, xs, rfl, hs, t⟩ := hx.lst
    obtain ⟨b, ys, rfl, hs', t'⟩ := hy.lst
    refine .inr (.inr (.inl ⟨a, b, xs, ys, rfl, rfl, hs, hs', ?_, fun p hp => hw _ _ p rfl hp (t.append t')⟩))
    have := t.length
    have := t'.length
    have := bigN_line
    omega
  · obtain ⟨hc, ho⟩ := guard_inv ho
    cases ho
    have hc' := of_decide_eq_true hc
    rw [hx.str, hy.str]
    refine .inr (.inr (.inr ⟨_, _, rfl, rfl, ?_, hw.1 _ (.str _)⟩))
    have := bigN_line
    omega
  · cases ho
def pSub : PV → PV → Option OV
  | .int i, .int j => vI (i - j)
  | _, _ => none
theorem p_sub {K : PySem.W.Frag} : Op2 K (rI0 fun i j => .int (i - j)) pSub := by
  intro Z H x y d e o Q l hx hy ho hw
  unfold pSub at ho
  split at ho
  · rw [hx.int, hy.int]
    cases ho
    exact ⟨_, _, rfl, rfl, hw.1 _ (.int _)⟩
  · cases ho
def mulOk (i j : Int) : Bool := decide (i.natAbs.log2 + j.natAbs.log2 < 1000000)
def pMul : PV → PV → Option OV
  | .int i, .int j => guard (mulOk i j) (vI (i * j))
  | .lst xs, .int k => guard (decide (0 ≤ k) && decide (k ≤ 1000) && decide (xs.length ≤ 1000)) (some (.own (.lst (List.replicate k.toNat xs).flatten)))
  | _, _ => none
abbrev rMulA (K : PySem.W.Frag) : R2 := fun x y H Q => rI CMulW (fun i j => .int (i * j)) x y H Q ∨ rRep x y H Q
theorem or_mulA {X : Cx} : OpR X (binaryOp .Mult) (rMulA X.K) := op_mulW.or op_rep
def divOk (i j : Int) : Bool := decide (0 < j) && decide (j.natAbs.log2 < 9000)
def pDiv : PV → PV → Option OV
  | .int i, .int j => guard (divOk i j) (vI (i / j))
  | _, _ => none
theorem p_div {K : PySem.W.Frag} : Op2 K (rI CDivW fun i j => .int (i / j)) pDiv := by
  intro Z H x y d e o Q l hx hy ho hw
  unfold pDiv at ho
  split at ho
  · rw [hx.int, hy.int]
    obtain ⟨hc, ho⟩ := guard_inv ho
    cases ho
    unfold divOk at hc
    rw [Bool.and_eq_true] at hc
    exact ⟨_, _, rfl, rfl, ⟨of_decide_eq_true hc.1, of_decide_eq_true hc.2⟩, hw.1 _ (.int _)⟩
  · cases ho
def pMod : PV → PV → Option OV
  | .int i, .int j => guard (decide (0 < j)) (vI (i % j))
  | _, _ => none
theorem p_mod {K : PySem.W.Frag} : Op2 K (rI (fun _ j => 0 < j) fun i j => .int (i % j)) pMod := by
  intro Z H x y d e o Q l hx hy ho hw
  unfold pMod at ho
  split at ho
  · rw [hx.int, hy.int]
    obtain ⟨hc, ho⟩ := guard_inv ho
    cases ho
    exact ⟨_, _, rfl, rfl, of_decide_eq_true hc, hw.1 _ (.int _)⟩
  · cases ho
def pPow : PV → PV → Option OV
  | .int i, .int j => guard (decide (0 ≤ j) && decide (j ≤ 1000) && decide (i.natAbs < 2 ^ 64)) (vI (i ^ j.toNat))
  | _, _ => none
theorem p_pow {K : PySem.W.Frag} : Op2 K (rI CPow fun i j => .int (i ^ j.toNat)) pPow := by
  intro Z H x y d e o Q l hx hy ho hw
  unfold pPow at ho
  split at ho
  · rw [hx.int, hy.int]
    obtain ⟨hc, ho⟩ := guard_inv ho
    cases ho
    rw [Bool.and_eq_true, Bool.and_eq_true] at hc
    have h1 := of_decide_eq_true hc.1.1
    have h2 := of_decide_eq_true hc.1.2
    exact ⟨_, _, rfl, rfl, ⟨h1, by omega, of_decide_eq_true hc.2⟩, hw.1 _ (.int _)⟩
  · cases ho
def pNeg : PV → Option OV
  | .int i => vI (-i)
  | _ => none
theorem p_neg {K : PySem.W.Frag} : Op1 K (rU fun i => .int (-i)) pNeg := by
  intro Z H x d o Q l hx ho hw
  unfold pNeg at ho
  split at ho
  · rw [hx.int]
    cases ho
    exact ⟨_, rfl, hw.1 _ (.int _)⟩
  · cases ho

/-! ### comparisons -/
def pLt : PV → PV → Option OV
  | .int i, .int j => vB (decide (i < j))
  | _, _ => none
def pLe : PV → PV → Option OV
  | .int i, .int j => vB (decide (i ≤ j))
  | _, _ => none
def pGt : PV → PV → Option OV
  | .int i, .int j => vB (decide (j < i))
  | _, _ => none
def pGe : PV → PV → Option OV
  | .int i, .int j => vB (decide (j ≤ i))
  | _, _ => none
theorem p_lt {K : PySem.W.Frag} : Op2 K (rI0 fun i j => .bl (decide (i < j))) pLt := by
  intro Z H x y d e o Q l hx hy ho hw
  unfold pLt at ho
  split at ho
  · rw [hx.int, hy.int]; cases ho; exact ⟨_, _, rfl, rfl, hw.1 _ (.bl _)⟩
  · cases ho
theorem p_le {K : PySem.W.Frag} : Op2 K (rI0 fun i j => .bl (decide (i ≤ j))) pLe := by
  intro Z H x y d e o Q l hx hy ho hw
  unfold pLe at ho
  split at ho
  · rw [hx.int, hy.int]; cases ho; exact ⟨_, _, rfl, rfl, hw.1 _ (.bl _)⟩
  · cases ho
theorem p_gt {K : PySem.W.Frag} : Op2 K (rI0 fun i j => .bl (decide (j < i))) pGt := by
  intro Z H x y d e o Q l hx hy ho hw
  unfold pGt at ho
  split at ho
  · rw [hx.int, hy.int]; cases ho; exact ⟨_, _, rfl, rfl, hw.1 _ (.bl _)⟩
  · cases ho
theorem p_ge {K : PySem.W.Frag} : Op2 K (rI0 fun i j => .bl (decide (j ≤ i))) pGe := by
  intro Z H x y d e o Q l hx hy ho hw
  unfold pGe at ho
  split at ho
  · rw [hx.int, hy.int]; cases ho; exact ⟨_, _, rfl, rfl, hw.1 _ (.bl _)⟩
  · cases ho
def eqP (d e : PV) : Bool := PyData.eqv (toD d) (toD e)
def pEq (d e : PV) : Option OV := guard (dOk d && dOk e) (vB (eqP d e))
def pNe (d e : PV) : Option OV := guard (dOk d && dOk e) (vB (!eqP d e))
theorem p_eq {K : PySem.W.Frag} : Op2 K (rEqD K) pEq := by
  intro Z H x y d e o Q l hx hy ho hw
  obtain ⟨hc, ho⟩ := guard_inv ho
  cases ho
  simp only [dOk, Bool.and_eq_true] at hc
  exact ⟨_, _, hx.dp l hc.1.1, hy.dp l hc.2.1, hc.1.2, hc.2.2, hw.1 _ (.bl _)⟩
theorem p_ne {K : PySem.W.Frag} : Op2 K (rNeD K) pNe := by
  intro Z H x y d e o Q l hx hy ho hw
  obtain ⟨hc, ho⟩ := guard_inv ho
  cases ho
  simp only [dOk, Bool.and_eq_true] at hc
  exact ⟨_, _, hx.dp l hc.1.1, hy.dp l hc.2.1, hc.1.2, hc.2.2, hw.1 _ (.bl _)⟩
/-! in -/
section
variable {X : Cx}
def rInT (K : PySem.W.Frag) : R2 := fun x y H Q => ∃ d ds, Dp K H x d ∧ Dp K H y (.tuple ds) ∧ SeqAt.shaped d = true ∧ SeqAt.shaped (.tuple ds) = true ∧ Q (.bl (ds.any fun z => PyData.eqv z d)) H
def rNotInT (K : PySem.W.Frag) : R2 := fun x y H Q => ∃ d ds, Dp K H x d ∧ Dp K H y (.tuple ds) ∧ SeqAt.shaped d = true ∧ SeqAt.shaped (.tuple ds) = true ∧ Q (.bl (!ds.any fun z => PyData.eqv z d)) H
theorem op_inT (hu : X.A.units + 65 < cLine) : OpR X (compareOp .In) (rInT X.K) := by
  intro pins s σ H x y v u Q I rx ry h
  obtain ⟨d, ds, hd, he, sd, se, q⟩ := h
  obtain ⟨as, r1⟩ := Dp.reads I d x v hd rx
  obtain ⟨bs, r2⟩ := Dp.reads I (.tuple ds) y u he ry
  exact SeqAt.in_tuple_reads r2 r1 (SeqAt.canLay_of_shaped se) (SeqAt.canLay_of_shaped sd) (PyProof.Rows.room_in_shaped sd hu) ⟨.bl _, H, I, rfl, q⟩
theorem op_notinT (hu : X.A.units + 65 < cLine) : OpR X (compareOp .NotIn) (rNotInT X.K) := by
  intro pins s σ H x y v u Q I rx ry h
  obtain ⟨d, ds, hd, he, sd, se, q⟩ := h
  obtain ⟨as, r1⟩ := Dp.reads I d x v hd rx
  obtain ⟨bs, r2⟩ := Dp.reads I (.tuple ds) y u he ry
  exact SeqAt.notIn_tuple_reads r2 r1 (SeqAt.canLay_of_shaped se) (SeqAt.canLay_of_shaped sd) (PyProof.Rows.room_in_shaped sd hu) ⟨.bl _, H, I, rfl, q⟩
end
abbrev rInStr : R2 := fun x y H Q => ∃ i j, x = .str i ∧ y = .str j ∧ Q (.bl (!(Builtin.Str.occurrences j i 0 j.length 1).isEmpty)) H
abbrev rNotInStr : R2 := fun x y H Q => ∃ i j, x = .str i ∧ y = .str j ∧ Q (.bl (!(!(Builtin.Str.occurrences j i 0 j.length 1).isEmpty))) H
abbrev rInA (K : PySem.W.Frag) : R2 := fun x y H Q => rInD K x y H Q ∨ (rInT K x y H Q ∨ rInStr x y H Q)
abbrev rNotInA (K : PySem.W.Frag) : R2 := fun x y H Q => rNotInD K x y H Q ∨ (rNotInT K x y H Q ∨ rNotInStr x y H Q)
theorem or_inA {X : Cx} (hu : X.A.units + 65 < cLine) : OpR X (compareOp .In) (rInA X.K) := (op_inD hu).or ((op_inT hu).or op_in_str)
theorem or_notInA {X : Cx} (hu : X.A.units + 65 < cLine) : OpR X (compareOp .NotIn) (rNotInA X.K) := (op_notInD hu).or ((op_notinT hu).or op_notin_str)
def anyP (d : PV) : List PV → Bool
  | [] => false
  | e :: es => eqP e d || anyP d es
theorem anyP_eq (d : PV) : ∀ es : List PV, ((toDs es).any fun z => PyData.eqv z (toD d)) = anyP d es
  | [] => rfl
  | e :: es => by
    show (PyData.eqv (toD e) (toD d) || (toDs es).any fun z => PyData.eqv z (toD d)) = _
    rw [anyP_eq d es]
    rfl
def inP (d e : PV) : Option Bool := match e with
  | .lst es => if (dOk d && dOk e) = true then some (anyP d es) else none
  | .scr es => if (dOk d && dOk e) = true then some (anyP d es) else none
  | .tup es => if (dOk d && dOk e) = true then some (anyP d es) else none
  | .str j => match d with
    | .str i => some (!(Builtin.Str.occurrences j i 0 j.length 1).isEmpty)
    | _ => none
  | _ => none
def pIn (d e : PV) : Option OV := (inP d e).bind fun b => vB b
def pNotIn (d e : PV) : Option OV := (inP d e).bind fun b => vB (!b)
theorem p_in {K : PySem.W.Frag} : Op2 K (rInA K) pIn := by
  intro Z H x y d e o Q l hx hy ho hw
  unfold pIn at ho
  cases e1 : inP d e with
  | none => rw [e1] at ho; cases ho
  | some b =>
    rw [e1] at ho
    cases ho
    have hq := hw.1 _ (.bl b)
    have hb := e1
    unfold inP at e1
    split at e1
    · split at e1
      · rename_i es hc
        simp only [dOk, Bool.and_eq_true] at hc
        cases e1
        exact .inl ⟨_, toDs es, hx.dp l hc.1.1, hy.dp l hc.2.1, hc.1.2, hc.2.2, by rw [anyP_eq]; exact hq⟩
      · cases e1
    · split at e1
      · rename_i es hc
        simp only [dOk, Bool.and_eq_true] at hc
        cases e1
        exact .inl ⟨_, toDs es, hx.dp l hc.1.1, hy.dp l hc.2.1, hc.1.2, hc.2.2, by rw [anyP_eq]; exact hq⟩
      · cases e1
    · split at e1
      · rename_i es hc
        simp only [dOk, Bool.and_eq_true] at hc
        cases e1
        exact .inr (.inl ⟨_, toDs es, hx.dp l hc.1.1, hy.dp l hc.2.1, hc.1.2, hc.2.2, by rw [anyP_eq]; exact hq⟩)
      · cases e1
    · split at e1
      · cases e1
        rw [hx.str, hy.str]
        exact .inr (.inr ⟨_, _, rfl, rfl, hq⟩)
      · cases e1
    · cases e1
theorem p_notIn {K : PySem.W.Frag} : Op2 K (rNotInA K) pNotIn := by
  intro Z H x y d e o Q l hx hy ho hw
  unfold pNotIn at ho
  cases e1 : inP d e with
  | none => rw [e1] at ho; cases ho
  | some b =>
    rw [e1] at ho
    cases ho
    have hq := hw.1 _ (.bl (!b))
    unfold inP at e1
    split at e1
    · split at e1
      · rename_i es hc
        simp only [dOk, Bool.and_eq_true] at hc
        cases e1
        exact .inl ⟨_, toDs es, hx.dp l hc.1.1, hy.dp l hc.2.1, hc.1.2, hc.2.2, by rw [anyP_eq]; exact hq⟩
      · cases e1
    · split at e1
      · rename_i es hc
        simp only [dOk, Bool.and_eq_true] at hc
        cases e1
        exact .inl ⟨_, toDs es, hx.dp l hc.1.1, hy.dp l hc.2.1, hc.1.2, hc.2.2, by rw [anyP_eq]; exact hq⟩
      · cases e1
    · split at e1
      · rename_i es hc
        simp only [dOk, Bool.and_eq_true] at hc
        cases e1
        exact .inr (.inl ⟨_, toDs es, hx.dp l hc.1.1, hy.dp l hc.2.1, hc.1.2, hc.2.2, by rw [anyP_eq]; exact hq⟩)
      · cases e1
    · split at e1
      · cases e1
        rw [hx.str, hy.str]
        exact .inr (.inr ⟨_, _, rfl, rfl, hq⟩)
      · cases e1
    · cases e1
end TT

set_option Elab.async false
set_option linter.all false
set_option maxRecDepth 100000
namespace TT
open PySem PySem.Spec PyProof.Rows L2
theorem tuple_mul1 (l : Addr) (items : Array Value) (n : Nat) (dd : Option Addr) (sl : Array (Option Value)) (x : Int) (u : Tok) (c0 : (decide (x < -(2 ^ 63)) || decide (x ≥ 2 ^ 63)) = false) (c1 : (items.isEmpty || x == 1) = true) :
    Meets (Builtin.«tuple.__mul__» ⟨[.ref l, .int x u], []⟩) (fun _ R s => s.heap.get? l = some { cls := .type "tuple", dict := dd, data := .seq items n, slots := sl } ∧ R (.ok (.ret (Value.ref l))) s) :=
  .of_wp fun prog w A R s h => by
    obtain ⟨hp, g, d, tk, os⟩ := s
    obtain ⟨hl, h⟩ := h
    have f1 := AutoSeq1.idx_int
    wp_walk using wpAny_loadPart' hl
    repeat (first
      | (refine wpAny_ite_false (decide_eq_false (by rw [c0]; exact Bool.false_ne_true)) ?_; wp_walk using wpAny_loadPart' hl)
      | (refine wpAny_ite_true (decide_eq_true (by rw [c1])) ?_; wp_walk using wpAny_loadPart' hl)
      | (refine wpAny_ite_true (decide_eq_true (by simp)) ?_; wp_walk using wpAny_loadPart' hl))
    exact ⟨_, rfl, h⟩
theorem tuple_mul0 (l : Addr) (items : Array Value) (n : Nat) (dd : Option Addr) (sl : Array (Option Value)) (x : Int) (u : Tok) (c0 : (decide (x < -(2 ^ 63)) || decide (x ≥ 2 ^ 63)) = false) (c1 : (items.isEmpty || x == 1) = false) (c2 : (decide (x ≤ 0) || items.isEmpty) = true) :
    Meets (Builtin.«tuple.__mul__» ⟨[.ref l, .int x u], []⟩) (fun _ R s => s.heap.get? l = some { cls := .type "tuple", dict := dd, data := .seq items n, slots := sl } ∧
      R (.ok (.ret (Value.ref s.heap.objs.size))) { s with heap := s.heap.push { cls := Value.type "tuple", data := Data.seq #[] }, toks := s.toks }) :=
  .of_wp fun prog w A R s h => by
    obtain ⟨hp, g, d, tk, os⟩ := s
    obtain ⟨hl, h⟩ := h
    have f1 := AutoSeq1.idx_int
    wp_walk using wpAny_loadPart' hl
    repeat (first
      | (refine wpAny_ite_false (decide_eq_false (by rw [c0]; exact Bool.false_ne_true)) ?_; wp_walk using wpAny_loadPart' hl)
      | (refine wpAny_ite_false (decide_eq_false (by rw [c1]; exact Bool.false_ne_true)) ?_; wp_walk using wpAny_loadPart' hl)
      | (refine wpAny_ite_true (decide_eq_true (by rw [c2])) ?_; wp_walk using wpAny_loadPart' hl)
      | (refine wpAny_ite_false (decide_eq_false (by decide)) ?_; wp_walk using wpAny_loadPart' hl))
    exact ⟨_, rfl, h⟩
/-- tuple * int, few times -/
def rRepA (K : PySem.W.Frag) : R2 := fun x y H Q => ∃ l k xs, x = .ref l ∧ y = .int k ∧ SqT K H l xs ∧ -1000 ≤ k ∧ k ≤ 1000 ∧ xs.length ≤ 1000 ∧
  ((xs = [] ∨ k = 1) → Q (.ref l) H) ∧ (xs ≠ [] → k ≠ 1 → ∀ p, H p = none → Q (.ref p) (upd H p (.tup (List.replicate k.toNat xs).flatten)))
section
variable {X : Cx}
theorem op_repA : OpR X (binaryOp .Mult) (rRepA X.K) := by
  intro pins s σ H x y v u Q I rx ry h
  obtain ⟨l, k, xs, rfl, rfl, hT, h1, h2, hz, q1, q2⟩ := h
  by_cases hA : xs = [] ∨ k = 1
  · cases rx
    obtain ⟨t, rfl⟩ := ry
    obtain ⟨its, r, ⟨⟨cls, dd, data, sl⟩, ho, hc, n, hd⟩, hs⟩ := I.tuple hT
    simp only at hc hd
    subst hc hd
    have c0 : (decide (k < -(2 ^ 63)) || decide (k ≥ 2 ^ 63)) = false := by
      rw [decide_eq_false (by omega), decide_eq_false (by omega)] <;> rfl
    have c1 : (its.toArray.isEmpty || k == 1) = true := by
      rcases hA with e | e
      · subst e
        cases r
        rfl
      · subst e
        simp
    refine wpAny_binaryOp_repeat_ref (T := "tuple") (U := "int") (by decide) ⟨_, ho, rfl⟩ (fun s' => typeIs_int s' k t) noFill_tuple_mul F.fills_int_mul F.slot_int_rmul repeat_tuple F.slot_int_index.lookup
      (call_meets F.slot_int_rmul (typeIs_int s k t) F.entry_int_rmul (F.args_int_rmul_2 _ _) (int_rmul_tuple k t l its.toArray n dd sl)
        ⟨ho, rfl, ⟨_, ho, rfl⟩, call_meets F.slot_tuple_mul ⟨_, ho, rfl⟩ F.entry_tuple_mul (F.args_tuple_mul_2 _ _) (tuple_mul1 l its.toArray n dd sl k t c0 c1) ⟨ho, ?_⟩⟩)
    exact ⟨.ref l, H, I, rfl, q1 hA⟩
  · have hne : xs ≠ [] := fun e => hA (.inl e)
    have hk1 : k ≠ 1 := fun e => hA (.inr e)
    by_cases hk : 2 ≤ k
    · exact op_repT pins s σ H _ _ v u Q I rx ry ⟨l, k, xs, rfl, rfl, hT, hne, hk, h2, hz, q2 hne hk1⟩
    · cases rx
      obtain ⟨t, rfl⟩ := ry
      obtain ⟨its, r, ⟨⟨cls, dd, data, sl⟩, ho, hc, n, hd⟩, hs⟩ := I.tuple hT
      simp only at hc hd
      subst hc hd
      have hn : its ≠ [] := fun e => hne (by
        subst e
        cases r
        rfl)
      have hi : its.toArray.isEmpty = false := by
        cases its with
        | nil => exact absurd rfl hn
        | cons a b => rfl
      have c0 : (decide (k < -(2 ^ 63)) || decide (k ≥ 2 ^ 63)) = false := by
        rw [decide_eq_false (by omega), decide_eq_false (by omega)] <;> rfl
      have c1 : (its.toArray.isEmpty || k == 1) = false := by
        rw [hi, Bool.false_or]
        exact beq_eq_false_iff_ne.mpr hk1
      have c2 : (decide (k ≤ 0) || its.toArray.isEmpty) = true := by
        rw [decide_eq_true (by omega)]
        rfl
      have hq := q2 hne hk1 s.heap.objs.size (I.hok.fresh (Nat.le_refl _))
      have hk0 : k.toNat = 0 := by omega
      rw [hk0] at hq
      refine wpAny_binaryOp_repeat_ref (T := "tuple") (U := "int") (by decide) ⟨_, ho, rfl⟩ (fun s' => typeIs_int s' k t) noFill_tuple_mul F.fills_int_mul F.slot_int_rmul repeat_tuple F.slot_int_index.lookup
        (call_meets F.slot_int_rmul (typeIs_int s k t) F.entry_int_rmul (F.args_int_rmul_2 _ _) (int_rmul_tuple k t l its.toArray n dd sl)
          ⟨ho, rfl, ⟨_, ho, rfl⟩, call_meets F.slot_tuple_mul ⟨_, ho, rfl⟩ F.entry_tuple_mul (F.args_tuple_mul_2 _ _) (tuple_mul0 l its.toArray n dd sl k t c0 c1 c2) ⟨ho, ?_⟩⟩)
      refine ⟨.ref s.heap.objs.size, _, I.laid (t' := s.toks) (o := .tup []) (fun b ob q => Heap.get?_push_of_some _ q) (Nat.le_refl _) ?_, rfl, hq⟩
      exact ⟨Nat.zero_le _, [], .nil, IsTup.new _ _⟩
end
end TT
namespace TT
open PySem PySem.Spec L2
/-! ### * -/
def pMulA : PV → PV → Option OV
  | .int i, .int j => guard (mulOk i j) (vI (i * j))
  | .lst xs, .int k => guard (decide (-1000 ≤ k) && decide (k ≤ 1000) && decide (xs.length ≤ 1000)) (some (.own (.lst (List.replicate k.toNat xs).flatten)))
  | .tup xs, .int k => guard (decide (-1000 ≤ k) && decide (k ≤ 1000) && decide (xs.length ≤ 1000)) (some (.val (.tup (List.replicate k.toNat xs).flatten)))
  | _, _ => none
abbrev rMulB (K : PySem.W.Frag) : R2 := fun x y H Q => rI CMulW (fun i j => .int (i * j)) x y H Q ∨ (rRep x y H Q ∨ rRepA K x y H Q)
theorem or_mulB {X : Cx} : OpR X (binaryOp .Mult) (rMulB X.K) := op_mulW.or (op_rep.or op_repA)
theorem p_mul {K : PySem.W.Frag} : Op2 K (rMulB K) pMulA := by
  intro Z H x y d e o Q l hx hy ho hw
  unfold pMulA at ho
  split at ho
  · rw [hx.int, hy.int]
    obtain ⟨hc, ho⟩ := guard_inv ho
    cases ho
    unfold mulOk at hc
    have hc' := of_decide_eq_true hc
    exact .inl ⟨_, _, rfl, rfl, hc', hw.1 _ (.int _)⟩
  · rename_i ds k
    obtain ⟨hc, ho⟩ := guard_inv ho
    cases ho
    simp only [Bool.and_eq_true, decide_eq_true_eq] at hc
    obtain ⟨⟨h1, h2⟩, h3⟩ := hc
    obtain ⟨a, xs, rfl, hs, t⟩ := hx.lst
    rw [hy.int]
    have hl := t.length
    refine .inr (.inl ⟨a, k, xs, rfl, rfl, hs, by omega, by omega, ?_, fun p hp => hw _ _ p rfl hp (t.rep _)⟩)
    rw [sizeLine_eq]
    have a1 : xs.length * k.toNat ≤ 1000 * 1000 := Nat.mul_le_mul (by omega) (by omega)
    omega
  · rename_i ds k
    obtain ⟨hc, ho⟩ := guard_inv ho
    cases ho
    simp only [Bool.and_eq_true, decide_eq_true_eq] at hc
    obtain ⟨⟨h1, h2⟩, h3⟩ := hc
    obtain ⟨a, xs, rfl, hs, t⟩ := hx.tup
    rw [hy.int]
    have hl := t.length
    refine .inr (.inr ⟨a, k, xs, rfl, rfl, l.sqT hs, h1, h2, by omega, fun e => ?_, fun _ _ p hp => hw.2 _ _ p rfl hp (t.rep _)⟩)
    rcases e with e | e
    · have e2 : ds = [] := (nil_iff t).mp e
      subst e2
      have := hw.1 (.ref a) (.tup hs (by
        have : (List.replicate k.toNat ([] : List PV)).flatten = [] := by
          generalize k.toNat = m
          induction m with
          | zero => rfl
          | succ m ih => rw [List.replicate_succ, List.flatten_cons, ih]; rfl
        rw [this]; exact t))
      exact this
    · subst e
      exact hw.1 (.ref a) (.tup hs (by
        have : (List.replicate (1 : Int).toNat ds).flatten = ds := by simp
        rw [this]; exact t))
  · cases ho
/-! ### is None, is a bool -/
def isNonP : PV → Bool
  | .non => true
  | _ => false
def pIs (d e : PV) : Option OV := match e with
  | .non => vB (isNonP d)
  | _ => none
def pIsNot (d e : PV) : Option OV := match e with
  | .non => vB (!isNonP d)
  | _ => none
theorem Pk.isNon {K : PySem.W.Frag} {Z H : Hp} {v : V} {d : PV} (h : Pk K Z H v d) : (decide (v = .non)) = isNonP d := by
  cases d with
  | lst ds => obtain ⟨a, xs, rfl, _⟩ := h.lst; rfl
  | tup ds => obtain ⟨a, xs, rfl, _⟩ := h.tup; rfl
  | scr ds => obtain ⟨a, xs, rfl, _⟩ := h.scr; rfl
  | rng lo hi => obtain ⟨a, rfl, _⟩ := Dn.rng_inv h; rfl
  | dct ks ds => obtain ⟨a, xs, rfl, _⟩ := h; rfl
  | dcT ks ds => obtain ⟨a, xs, rfl, _⟩ := h; rfl
  | non => have := h.non; subst this; rfl
  | bl b => have := h.bl; subst this; rfl
  | int i => have := h.int; subst this; rfl
  | str x => have := h.str; subst this; rfl
  | obj c fs => obtain ⟨a, dx, ns, xs, ds, rfl, _⟩ := h; rfl
theorem p_is {K : PySem.W.Frag} : Op2 K (fun x y H Q => y = .non ∧ Q (.bl (decide (x = .non))) H) pIs := by
  intro Z H x y d e o Q l hx hy ho hw
  unfold pIs at ho
  split at ho
  · refine ⟨hy.non, ?_⟩
    rw [hx.isNon]
    cases ho
    exact hw.1 _ (.bl _)
  · cases ho
theorem p_isNot {K : PySem.W.Frag} : Op2 K (fun x y H Q => y = .non ∧ Q (.bl (!decide (x = .non))) H) pIsNot := by
  intro Z H x y d e o Q l hx hy ho hw
  unfold pIsNot at ho
  split at ho
  · refine ⟨hy.non, ?_⟩
    rw [hx.isNon]
    cases ho
    exact hw.1 _ (.bl _)
  · cases ho

/-! ### built-ins -/
section
variable {K : PySem.W.Frag} {Z H : Hp}
theorem pk1 {xs : List V} {d : PV} (h : PkAll K Z H xs [d]) : ∃ v, xs = [v] ∧ Pk K Z H v d := by
  match xs, h with
  | [v], ⟨h, _⟩ => exact ⟨v, rfl, h⟩
theorem pk2 {xs : List V} {d e : PV} (h : PkAll K Z H xs [d, e]) : ∃ v w, xs = [v, w] ∧ Pk K Z H v d ∧ Pk K Z H w e := by
  match xs, h with
  | [v, w], ⟨h, h', _⟩ => exact ⟨v, w, rfl, h, h'⟩
theorem ints_of : ∀ {xs : List V} {ns : List Int}, DnAll K Z xs (ns.map PV.int) → xs = ns.map V.int
  | _, [], h => h.nil_inv
  | _, n :: ns, h => by
    obtain ⟨w, ws, rfl, h1, h2⟩ := DnAll.cons_inv h
    rw [h1.int_inv, ints_of h2]
    rfl
theorem bls_of : ∀ {xs : List V} {ns : List Bool}, DnAll K Z xs (ns.map PV.bl) → xs = ns.map V.bl
  | _, [], h => h.nil_inv
  | _, n :: ns, h => by
    obtain ⟨w, ws, rfl, h1, h2⟩ := DnAll.cons_inv h
    rw [h1.bl_inv, bls_of h2]
    rfl
theorem dn_ints : ∀ {ns : List Int}, DnAll K Z (ns.map V.int) (ns.map PV.int)
  | [] => .nil
  | _ :: _ => .cons (.int _) dn_ints
end
def asInts : List PV → Option (List Int)
  | [] => some []
  | .int i :: ds => (asInts ds).bind fun r => some (i :: r)
  | _ => none
def asBls : List PV → Option (List Bool)
  | [] => some []
  | .bl i :: ds => (asBls ds).bind fun r => some (i :: r)
  | _ => none
theorem asInts_eq : ∀ {ds : List PV} {ns : List Int}, asInts ds = some ns → ds = ns.map PV.int
  | [], ns, h => by cases h; rfl
  | .int i :: ds, ns, h => by
    unfold asInts at h
    cases q : asInts ds with
    | none => rw [q] at h; cases h
    | some r => rw [q] at h; cases h; rw [asInts_eq q]; rfl
  | .non :: _, _, h => by cases h
  | .bl _ :: _, _, h => by cases h
  | .str _ :: _, _, h => by cases h
  | .tup _ :: _, _, h => by cases h
  | .lst _ :: _, _, h => by cases h
  | .scr _ :: _, _, h => by cases h
  | .obj _ _ :: _, _, h => by cases h
  | .rng _ _ :: _, _, h => by cases h
  | .dct _ _ :: _, _, h => by cases h
  | .dcT _ _ :: _, _, h => by cases h
theorem asBls_eq : ∀ {ds : List PV} {ns : List Bool}, asBls ds = some ns → ds = ns.map PV.bl
  | [], ns, h => by cases h; rfl
  | .bl i :: ds, ns, h => by
    unfold asBls at h
    cases q : asBls ds with
    | none => rw [q] at h; cases h
    | some r => rw [q] at h; cases h; rw [asBls_eq q]; rfl
  | .non :: _, _, h => by cases h
  | .int _ :: _, _, h => by cases h
  | .str _ :: _, _, h => by cases h
  | .tup _ :: _, _, h => by cases h
  | .lst _ :: _, _, h => by cases h
  | .scr _ :: _, _, h => by cases h
  | .obj _ _ :: _, _, h => by cases h
  | .rng _ _ :: _, _, h => by cases h
  | .dct _ _ :: _, _, h => by cases h
  | .dcT _ _ :: _, _, h => by cases h
def pLen : List PV → Option OV
  | [.lst ds] => vI ds.length
  | [.tup ds] => vI ds.length
  | [.scr ds] => vI ds.length
  | [.str x] => guard (decide (x.length ≤ bigN)) (vI x.length)
  | _ => none
abbrev rLenA (K : PySem.W.Frag) : List V → Hp → VK → Prop := fun xs H Q => (∃ p ys, xs = [.ref p] ∧ (SqL K H p ys ∨ SqT K H p ys) ∧ Q (.int ys.length) H) ∨ (∃ z, xs = [.str z] ∧ z.length ≤ sizeLine ∧ Q (.int z.length) H)
theorem cr_len {X : Cx} : CallR X (.builtin "len") (rLenA X.K) := call_len_seq.or call_len_str
theorem p_len {K : PySem.W.Frag} : OpN K (rLenA K) pLen := by
  intro Z H xs ds o Q l hx ho hw
  unfold pLen at ho
  split at ho
  · cases ho
    obtain ⟨v, rfl, h⟩ := pk1 hx
    obtain ⟨a, ys, rfl, hs, t⟩ := h.lst
    exact .inl ⟨a, ys, rfl, .inl (.of hs), by rw [t.length]; exact hw.1 _ (.int _)⟩
  · cases ho
    obtain ⟨v, rfl, h⟩ := pk1 hx
    obtain ⟨a, ys, rfl, hs, t⟩ := h.tup
    exact .inl ⟨a, ys, rfl, .inr (l.sqT hs), by rw [t.length]; exact hw.1 _ (.int _)⟩
  · cases ho
    obtain ⟨v, rfl, h⟩ := pk1 hx
    obtain ⟨a, ys, rfl, hs, t⟩ := h.scr
    exact .inl ⟨a, ys, rfl, .inl (l.sqL hs), by rw [t.length]; exact hw.1 _ (.int _)⟩
  · obtain ⟨hc, ho⟩ := guard_inv ho
    cases ho
    obtain ⟨v, rfl, h⟩ := pk1 hx
    rw [h.str]
    have := of_decide_eq_true hc
    have := bigN_line
    exact .inr ⟨_, rfl, by omega, hw.1 _ (.int _)⟩
  · cases ho
def pAbs : List PV → Option OV
  | [.int i] => vI (if i < 0 then -i else i)
  | _ => none
theorem p_abs {K : PySem.W.Frag} : OpN K (fun xs H Q => ∃ i, xs = [.int i] ∧ Q (.int (if i < 0 then -i else i)) H) pAbs := by
  intro Z H xs ds o Q l hx ho hw
  unfold pAbs at ho
  split at ho
  · cases ho
    obtain ⟨v, rfl, h⟩ := pk1 hx
    rw [h.int]
    exact ⟨_, rfl, hw.1 _ (.int _)⟩
  · cases ho
def pInt : List PV → Option OV
  | [.int i] => vI i
  | [.bl k] => vI (if k then 1 else 0)
  | _ => none
theorem p_int {K : PySem.W.Frag} : OpN K (fun xs H Q => (∃ i, xs = [.int i] ∧ Q (.int i) H) ∨ ∃ k, xs = [.bl k] ∧ Q (.int (if k then 1 else 0)) H) pInt := by
  intro Z H xs ds o Q l hx ho hw
  unfold pInt at ho
  split at ho
  · cases ho
    obtain ⟨v, rfl, h⟩ := pk1 hx
    rw [h.int]
    exact .inl ⟨_, rfl, hw.1 _ (.int _)⟩
  · cases ho
    obtain ⟨v, rfl, h⟩ := pk1 hx
    rw [h.bl]
    exact .inr ⟨_, rfl, hw.1 _ (.int _)⟩
  · cases ho
def pMax2 : List PV → Option OV
  | [.int i, .int j] => vI (if j > i then j else i)
  | _ => none
def pMin2 : List PV → Option OV
  | [.int i, .int j] => vI (if j < i then j else i)
  | _ => none
theorem p_max2 {K : PySem.W.Frag} : OpN K (fun xs H Q => ∃ i j, xs = [.int i, .int j] ∧ Q (.int (if j > i then j else i)) H) pMax2 := by
  intro Z H xs ds o Q l hx ho hw
  unfold pMax2 at ho
  split at ho
  · cases ho
    obtain ⟨v, w, rfl, h, h'⟩ := pk2 hx
    rw [h.int, h'.int]
    exact ⟨_, _, rfl, hw.1 _ (.int _)⟩
  · cases ho
theorem p_min2 {K : PySem.W.Frag} : OpN K (fun xs H Q => ∃ i j, xs = [.int i, .int j] ∧ Q (.int (if j < i then j else i)) H) pMin2 := by
  intro Z H xs ds o Q l hx ho hw
  unfold pMin2 at ho
  split at ho
  · cases ho
    obtain ⟨v, w, rfl, h, h'⟩ := pk2 hx
    rw [h.int, h'.int]
    exact ⟨_, _, rfl, hw.1 _ (.int _)⟩
  · cases ho
def pTuple : List PV → Option OV
  | [.lst ds] => some (.val (.tup ds))
  | [.tup ds] => some (.val (.tup ds))
  | [.scr ds] => some (.val (.tup ds))
  | _ => none
abbrev rTupleA (K : PySem.W.Frag) : List V → Hp → VK → Prop := fun xs H Q => ∃ p ys, xs = [.ref p] ∧ ((SqL K H p ys ∧ ∀ l, H l = none → Q (.ref l) (upd H l (.tup ys))) ∨ (SqT K H p ys ∧ Q (.ref p) H))
theorem p_tuple {K : PySem.W.Frag} : OpN K (rTupleA K) pTuple := by
  intro Z H xs ds o Q l hx ho hw
  unfold pTuple at ho
  split at ho
  · cases ho
    obtain ⟨v, rfl, h⟩ := pk1 hx
    obtain ⟨a, ys, rfl, hs, t⟩ := h.lst
    exact ⟨a, ys, rfl, .inl ⟨.of hs, fun p hp => hw.2 _ _ p rfl hp t⟩⟩
  · cases ho
    obtain ⟨v, rfl, h⟩ := pk1 hx
    obtain ⟨a, ys, rfl, hs, t⟩ := h.tup
    exact ⟨a, ys, rfl, .inr ⟨l.sqT hs, hw.1 _ (.tup hs t)⟩⟩
  · cases ho
    obtain ⟨v, rfl, h⟩ := pk1 hx
    obtain ⟨a, ys, rfl, hs, t⟩ := h.scr
    exact ⟨a, ys, rfl, .inl ⟨l.sqL hs, fun p hp => hw.2 _ _ p rfl hp t⟩⟩
  · cases ho
def pList : List PV → Option OV
  | [.lst ds] => some (.own (.lst ds))
  | [.tup ds] => some (.own (.lst ds))
  | [.scr ds] => some (.own (.lst ds))
  | _ => none
abbrev rListA (K : PySem.W.Frag) : List V → Hp → VK → Prop := fun xs H Q => ∃ p ys, xs = [.ref p] ∧ (SqL K H p ys ∨ SqT K H p ys) ∧ ∀ l, H l = none → Q (.ref l) (upd H l (.lst ys))
theorem p_list {K : PySem.W.Frag} : OpN K (rListA K) pList := by
  intro Z H xs ds o Q l hx ho hw
  unfold pList at ho
  split at ho
  · cases ho
    obtain ⟨v, rfl, h⟩ := pk1 hx
    obtain ⟨a, ys, rfl, hs, t⟩ := h.lst
    exact ⟨a, ys, rfl, .inl (.of hs), fun p hp => hw _ _ p rfl hp t⟩
  · cases ho
    obtain ⟨v, rfl, h⟩ := pk1 hx
    obtain ⟨a, ys, rfl, hs, t⟩ := h.tup
    exact ⟨a, ys, rfl, .inr (l.sqT hs), fun p hp => hw _ _ p rfl hp t⟩
  · cases ho
    obtain ⟨v, rfl, h⟩ := pk1 hx
    obtain ⟨a, ys, rfl, hs, t⟩ := h.scr
    exact ⟨a, ys, rfl, .inl (l.sqL hs), fun p hp => hw _ _ p rfl hp t⟩
  · cases ho
def seqOf : List PV → Option (List PV)
  | [.lst ds] => some ds
  | [.scr ds] => some ds
  | _ => none
theorem seqL {K : PySem.W.Frag} {Z H : Hp} {xs : List V} {ds es : List PV} (l : Zle Z H) (h : PkAll K Z H xs ds) (e : seqOf ds = some es) : ∃ a ys, xs = [.ref a] ∧ SqL K H a ys ∧ DnAll K Z ys es := by
  unfold seqOf at e
  split at e
  · cases e
    obtain ⟨v, e1, h2⟩ := pk1 h
    obtain ⟨a, ys, e2, hs, t⟩ := h2.lst
    exact ⟨a, ys, by rw [e1, e2], .of hs, t⟩
  · cases e
    obtain ⟨v, e1, h2⟩ := pk1 h
    obtain ⟨a, ys, e2, hs, t⟩ := h2.scr
    exact ⟨a, ys, by rw [e1, e2], l.sqL hs, t⟩
  · cases e
def pAll (ds : List PV) : Option OV := (seqOf ds).bind fun es => (asBls es).bind fun bs => vB (bs.all id)
def pAny (ds : List PV) : Option OV := (seqOf ds).bind fun es => (asBls es).bind fun bs => vB (bs.any id)
def pSum (ds : List PV) : Option OV := (seqOf ds).bind fun es => (asInts es).bind fun bs => vI bs.sum
theorem p_all {K : PySem.W.Frag} : OpN K (rAll K) pAll := by
  intro Z H xs ds o Q l hx ho hw
  unfold pAll at ho
  cases e1 : seqOf ds with
  | none => rw [e1] at ho; cases ho
  | some es =>
    cases e2 : asBls es with
    | none => rw [e1] at ho; simp only [Option.bind_some] at ho; rw [e2] at ho; cases ho
    | some bs =>
      rw [e1] at ho
      simp only [Option.bind_some] at ho
      rw [e2] at ho
      cases ho
      obtain ⟨a, ys, rfl, hs, t⟩ := seqL l hx e1
      rw [asBls_eq e2] at t
      rw [bls_of t] at hs
      exact ⟨a, bs, rfl, hs, hw.1 _ (.bl _)⟩
theorem p_any {K : PySem.W.Frag} : OpN K (rAny K) pAny := by
  intro Z H xs ds o Q l hx ho hw
  unfold pAny at ho
  cases e1 : seqOf ds with
  | none => rw [e1] at ho; cases ho
  | some es =>
    cases e2 : asBls es with
    | none => rw [e1] at ho; simp only [Option.bind_some] at ho; rw [e2] at ho; cases ho
    | some bs =>
      rw [e1] at ho
      simp only [Option.bind_some] at ho
      rw [e2] at ho
      cases ho
      obtain ⟨a, ys, rfl, hs, t⟩ := seqL l hx e1
      rw [asBls_eq e2] at t
      rw [bls_of t] at hs
      exact ⟨a, bs, rfl, hs, hw.1 _ (.bl _)⟩
theorem p_sum {K : PySem.W.Frag} : OpN K (rSum K) pSum := by
  intro Z H xs ds o Q l hx ho hw
  unfold pSum at ho
  cases e1 : seqOf ds with
  | none => rw [e1] at ho; cases ho
  | some es =>
    cases e2 : asInts es with
    | none => rw [e1] at ho; simp only [Option.bind_some] at ho; rw [e2] at ho; cases ho
    | some bs =>
      rw [e1] at ho
      simp only [Option.bind_some] at ho
      rw [e2] at ho
      cases ho
      obtain ⟨a, ys, rfl, hs, t⟩ := seqL l hx e1
      rw [asInts_eq e2] at t
      rw [ints_of t] at hs
      exact ⟨a, bs, rfl, hs, hw.1 _ (.int _)⟩
end TT

set_option Elab.async false
set_option linter.all false
set_option maxRecDepth 100000
namespace TT
open PySem PySem.Spec L2

/-! ### isinstance -/
def tyN : PV → String
  | .non => "NoneType"
  | .bl _ => "bool"
  | .int _ => "int"
  | .str _ => "str"
  | .tup _ => "tuple"
  | .lst _ => "list"
  | .scr _ => "list"
  | .obj _ _ => ""
  | .rng _ _ => ""
  | .dct _ _ => "dict"
  | .dcT _ _ => "dict"
inductive TyT where
  | int | bool | str | tuple | list | dict
def TyT.nm : TyT → String
  | .int => "int"
  | .bool => "bool"
  | .str => "str"
  | .tuple => "tuple"
  | .list => "list"
  | .dict => "dict"
def isi : TyT → PV → Option Bool
  | _, .obj _ _ => none
  | _, .rng _ _ => none
  | .int, .int _ => some true
  | .int, .bl _ => some true
  | .bool, .bl _ => some true
  | .str, .str _ => some true
  | .tuple, .tup _ => some true
  | .list, .lst _ => some true
  | .list, .scr _ => some true
  | .dict, .dct _ _ => some true
  | .dict, .dcT _ _ => some true
  | _, _ => some false
theorem isi_kit {T : TyT} {d : PV} {b : Bool} (h : isi T d = some b) : kitB (tyN d) T.nm = some b := by
  cases d <;> cases T <;> cases h <;> simp only [tyN, TyT.nm] <;> decide +kernel
theorem ty_of {K : PySem.W.Frag} {Z H : Hp} {v : V} {T : TyT} {d : PV} {b : Bool} (l : Zle Z H) (h : Pk K Z H v d) (hb : isi T d = some b) : TyX K H v (.type (tyN d)) := by
  cases d with
  | non => rw [h.non]; exact .base .non
  | bl x => rw [h.bl]; exact .base (.bl x)
  | int x => rw [h.int]; exact .base (.int x)
  | str x => rw [h.str]; exact .base (.str x)
  | lst ds => obtain ⟨a, xs, rfl, hs, _⟩ := h.lst; exact .base (.lst hs)
  | tup ds =>
    obtain ⟨a, xs, rfl, hs, _⟩ := h.tup
    rcases l.sqT hs with (hs | ⟨o, hs⟩) | ⟨o, its, n, hk, hc, _⟩
    · exact .base (.tup hs)
    · exact .fTuple hs
    · exact .kTuple hk hc
  | scr ds =>
    obtain ⟨a, xs, rfl, hs, _⟩ := h.scr
    rcases l.sqL hs with (hs | ⟨o, hs⟩) | ⟨o, its, n, hk, hc, _⟩
    · exact .base (.lst hs)
    · exact .base (.frz hs)
    · exact .kList hk hc
  | obj c fs => cases T <;> cases hb
  | rng lo hi => cases T <;> cases hb
  | dct ks ds => obtain ⟨a, xs, rfl, hs, _⟩ := h; exact .base (.dK hs)
  | dcT ks ds => obtain ⟨a, xs, rfl, hs, _⟩ := h; exact .base (.dT hs)
def pIsi (T : TyT) (d : PV) : Option OV := (isi T d).bind vB
section
variable {X : Cx} {W : WX} {e : Expr} {f : Rho → Res RV} {p pt pos : Pos}
theorem se_isi [Tabl] (T : TyT) {x y : Str} (he : SE X W e f) (hg : Gl X x) (hm0 : X.mg x = none) (hv : bootBuiltins x = some (.builtin "isinstance")) (hgT : Gl X y) (hmT : X.mg y = none) (hvT : bootBuiltins y = some (.type T.nm))
    (hnT : y ≠ "__name__" := by decide) (hdT : (y == ("__debug__" : Str)) = false := by decide) (hn : x ≠ "__name__" := by decide) (hdb : (x == ("__debug__" : Str)) = false := by decide)
    (hs : starEach [e, .Name y pt] X.env = (false, eval e X.env) :: starEach [.Name y pt] X.env := by rfl) (hs2 : starEach [.Name y pt] X.env = (false, eval (.Name y pt) X.env) :: starEach [] X.env := by rfl) (hpl : (backTo pos (starEach [.Name y pt] X.env)).any (·.1) = false := by rfl) :
    SE X W (.Call (.Name x p) [e, .Name y pt] [] pos) (fUn (pIsi T) f) :=
  se_of (pe_callB call_isi hg hm0 hv (pa_cons he (pa_cons (pe_bltn (v := .ty T.nm) hgT hmT hvT rfl hnT hdT) pa_nil hs2) hs) hn hdb hs hpl) fun C ρ σ Z H Q hK hm R q => by
    show TF X.K X.mg W f σ H fun x1 H1 => rIsi X.K [x1, .ty T.nm] H1 Q
    rw [← hK, ← hm]
    refine tf_bind (P := fun r => Aft C W σ Z r Q) R q (fun _ _ h => h) (fun h => h) fun a ρ1 v Z1 H1 R1 l dn q => ?_
    cases e1 : peek a ρ1 with
    | none => rw [e1] at q; exact q.elim
    | some d =>
      rw [e1] at q
      simp only at q
      unfold pIsi at q
      cases e2 : isi T d with
      | none => rw [e2] at q; exact q.elim
      | some b =>
        rw [e2] at q
        exact ⟨v, .ty T.nm, .type (tyN d), .type T.nm, b, rfl, .ty _, ty_of R1.le (dn.pk R1 e1) e2, kit_ty (isi_kit e2), q (.bl b) Z1 H1 R1 l (.bl b)⟩
end

/-! ### subscripts -/
def seqIx (ds : List PV) (i : Int) : Option OV := (atI ds i).bind fun d => some (.val d)
def pIx : PV → PV → Option OV
  | .lst ds, .int i => seqIx ds i
  | .tup ds, .int i => seqIx ds i
  | .scr ds, .int i => seqIx ds i
  | .str z, .int i => guard (decide (z.length ≤ bigN)) ((atI z.cps.toList i).bind fun c => some (.val (.str ⟨#[c]⟩)))
  | _, _ => none
theorem atI_dn {K : PySem.W.Frag} {Z : Hp} {xs : List V} {ds : List PV} {i : Int} {d : PV} (t : DnAll K Z xs ds) (h : atI ds i = some d) : ∃ v, atI xs i = some v ∧ Dn K Z v d := by
  unfold atI at h ⊢
  rw [t.length]
  cases e : ixN ds.length i with
  | none => rw [e] at h; cases h
  | some j =>
    rw [e] at h
    exact t.get h
theorem seqIx_inv {ds : List PV} {i : Int} {o : OV} (h : seqIx ds i = some o) : ∃ d, atI ds i = some d ∧ o = .val d := by
  unfold seqIx at h
  cases e : atI ds i with
  | none => rw [e] at h; cases h
  | some d => rw [e] at h; cases h; exact ⟨d, rfl, rfl⟩
theorem p_ix {K : PySem.W.Frag} : Op2 K (rIx K) pIx := by
  intro Z H x y d e o Q l hx hy ho hw
  cases e with
  | int i =>
    have hyi := hy.int
    subst hyi
    cases d with
    | lst ds =>
      obtain ⟨d, h1, rfl⟩ := seqIx_inv (show seqIx ds i = some o from ho)
      obtain ⟨a, xs, rfl, hs, t⟩ := hx.lst
      obtain ⟨v, h2, h3⟩ := atI_dn t h1
      exact .inl ⟨a, xs, _, v, rfl, rfl, .of hs, h2, hw.1 _ h3⟩
    | tup ds =>
      obtain ⟨d, h1, rfl⟩ := seqIx_inv (show seqIx ds i = some o from ho)
      obtain ⟨a, xs, rfl, hs, t⟩ := hx.tup
      obtain ⟨v, h2, h3⟩ := atI_dn t h1
      exact .inr (.inl ⟨a, xs, _, v, rfl, rfl, l.sqT hs, h2, hw.1 _ h3⟩)
    | scr ds =>
      obtain ⟨d, h1, rfl⟩ := seqIx_inv (show seqIx ds i = some o from ho)
      obtain ⟨a, xs, rfl, hs, t⟩ := hx.scr
      obtain ⟨v, h2, h3⟩ := atI_dn t h1
      exact .inl ⟨a, xs, _, v, rfl, rfl, l.sqL hs, h2, hw.1 _ h3⟩
    | str z =>
      have ho' : guard (decide (z.length ≤ bigN)) ((atI z.cps.toList i).bind fun c => some (.val (.str ⟨#[c]⟩))) = some o := ho
      obtain ⟨hc, ho'⟩ := guard_inv ho'
      have hc' := of_decide_eq_true hc
      cases e : atI z.cps.toList i with
      | none => rw [e] at ho'; cases ho'
      | some c =>
        rw [e] at ho'
        cases ho'
        rw [hx.str]
        have := bigN_line
        exact .inr (.inr ⟨z, i, c, rfl, rfl, by omega, e, hw.1 _ (.str _)⟩)
    | _ => cases ho
  | _ => cases d <;> cases ho
section
variable {X : Cx} {W : WX} {a b : Expr} {f g : Rho → Res RV} {pos : Pos}
theorem se_ix [Tabl] (ha : SE X W a f) (hb : SE X W b g) (hs : PlainIx b := by exact fun _ _ => rfl) : SE X W (.Subscript a b pos) (fBin pIx f g) :=
  se_of (pe_ix ix_seq ha hb hs) fun C ρ σ Z H Q hK hm R q => tf_bin p_ix hK hm R q
end
/-! ### slices -/
def cutP {α : Type} (xs : List α) (lo hi : Option Int) : List α := (xs.drop (HT.sIx xs.length 0 lo)).take (HT.sIx xs.length xs.length hi - HT.sIx xs.length 0 lo)
def pSl : PV → Option Int → Option Int → Option OV
  | .lst ds, lo, hi => some (.own (.lst (cutP ds lo hi)))
  | .scr ds, lo, hi => some (.own (.lst (cutP ds lo hi)))
  | .tup ds, lo, hi => some (.val (.tup (cutP ds lo hi)))
  | _, _, _ => none
def fPn : Rho → Res (Option Int) := fun ρ => .ok none ρ
def fPs (f : Rho → Res RV) : Rho → Res (Option Int) := fun ρ => (f ρ).bind fun r ρ1 => match r with
  | .val (.int i) => .ok (some i) ρ1
  | _ => .no
def fSl (f : Rho → Res RV) (lo hi : Rho → Res (Option Int)) : Rho → Res RV := fun ρ => (f ρ).bind fun a ρ1 => (lo ρ1).bind fun i ρ2 => (hi ρ2).bind fun j ρ3 => match peek a ρ3 with
  | some d => optR (pSl d i j) ρ3
  | none => .no
def AftO [Tabl] (C : Ct) (W : WX) (σ : Sg) (Z : Hp) (r : Res (Option Int)) (Q : Option Int → Hp → Prop) : Prop := match r with
  | .ok i ρ' => ∀ Z' H', Rel C ρ' σ Z' H' → Zle Z Z' → Q i H'
  | .er x ρ' => AftX C W σ Z x ρ'
  | .no => False
def TOc [Tabl] (K : PySem.W.Frag) (mg : Str → Option Value) (W : WX) (f : Rho → Res (Option Int)) : TO := fun σ H Q => ∃ C ρ Z, C.K = K ∧ C.mg = mg ∧ Rel C ρ σ Z H ∧ AftO C W σ Z (f ρ) Q
abbrev SO [Tabl] (X : Cx) (W : WX) (e : Option Expr) (f : Rho → Res (Option Int)) : Prop := PO X e (TOc X.K X.mg W f)
theorem po_imp {X : Cx} {e : Option Expr} {t t' : TO} (h : PO X e t) (i : ∀ σ H Q, t' σ H Q → t σ H Q) : PO X e t' := ⟨fun pins s σ H Q I q => h.run pins s σ H Q I (i σ H Q q)⟩
section
variable {X : Cx} {W : WX} {e : Expr} {f : Rho → Res RV} {lo hi : Option Expr} {fl fh : Rho → Res (Option Int)} {pos p2 : Pos}
theorem so_none [Tabl] : SO X W none fPn := po_imp po_none fun σ H Q ⟨C, ρ, Z, hK, hm, R, q⟩ => q Z H R (Zle.refl _)
theorem so_some [Tabl] (h : SE X W e f) : SO X W (some e) (fPs f) := po_imp (po_some h) fun σ H Q ⟨C, ρ, Z, hK, hm, R, q⟩ => by
  show TF X.K X.mg W f σ H fun x H1 => ∃ i, x = .int i ∧ Q (some i) H1
  rw [← hK, ← hm]
  refine tf_bind (P := fun r => AftO C W σ Z r Q) R q (fun _ _ h => h) (fun h => h) fun a ρ1 v Z1 H1 R1 l dn q => ?_
  cases a with
  | val d =>
    cases d with
    | int i =>
      have dn' : Dn C.K Z1 v (.int i) := dn
      exact ⟨i, dn'.int_inv, q Z1 H1 R1 l⟩
    | _ => exact q.elim
  | _ => exact q.elim
theorem to_bind [Tabl] {α : Type} {C : Ct} {ρ : Rho} {σ : Sg} {Z H : Hp} {Q : Option Int → Hp → Prop} {k : Option Int → Rho → Res α} {P : Res α → Prop} (R : Rel C ρ σ Z H) (h : P ((fl ρ).bind k)) (hx : ∀ x ρ', P (.er x ρ') → AftX C W σ Z x ρ') (hn : ¬ P .no)
    (q : ∀ a ρ1 Z1 H1, Rel C ρ1 σ Z1 H1 → Zle Z Z1 → P (k a ρ1) → Q a H1) : TOc C.K C.mg W fl σ H Q := by
  refine ⟨C, ρ, Z, rfl, rfl, R, ?_⟩
  cases e : fl ρ with
  | ok a ρ1 => rw [e] at h; exact fun Z1 H1 R1 l => q a ρ1 Z1 H1 R1 l h
  | er x ρ1 => rw [e] at h; exact hx x ρ1 h
  | no => rw [e] at h; exact (hn h).elim
abbrev rSlB (K : PySem.W.Frag) : V → Option Int → Option Int → Hp → VK → Prop := fun x lo hi H Q => rSlL K x lo hi H Q ∨ rSlA K x lo hi H Q
theorem cutV_dn {K : PySem.W.Frag} {Z : Hp} {xs : List V} {ds : List PV} (t : DnAll K Z xs ds) (lo hi : Option Int) : DnAll K Z (cutV xs lo hi) (cutP ds lo hi) := by
  unfold cutV cutP
  rw [t.length]
  exact (t.drop _).take _
theorem p_sl {K : PySem.W.Frag} {Z H : Hp} {x : V} {d : PV} {i j : Option Int} {o : OV} {Q : VK} (l : Zle Z H) (hx : Pk K Z H x d) (ho : pSl d i j = some o) (hw : Want K Z H o Q) : rSlB K x i j H Q := by
  cases d with
  | lst ds =>
    cases ho
    obtain ⟨a, xs, rfl, hs, t⟩ := hx.lst
    exact .inl ⟨a, xs, rfl, .of hs, fun p hp => hw _ _ p rfl hp (cutV_dn t _ _)⟩
  | scr ds =>
    cases ho
    obtain ⟨a, xs, rfl, hs, t⟩ := hx.scr
    exact .inl ⟨a, xs, rfl, l.sqL hs, fun p hp => hw _ _ p rfl hp (cutV_dn t _ _)⟩
  | tup ds =>
    cases ho
    obtain ⟨a, xs, rfl, hs, t⟩ := hx.tup
    refine .inr ⟨a, xs, rfl, l.sqT hs, fun e => ?_, fun _ p hp => hw.2 _ _ p rfl hp (cutV_dn t _ _)⟩
    have hl := t.length
    have e2 : cutP ds i j = ds := by
      unfold cutP
      rw [← hl, e.1, e.2, List.drop_zero, Nat.sub_zero, hl]
      exact List.take_length
    rw [e2] at hw
    exact hw.1 (.ref a) (.tup hs t)
  | _ => cases ho
theorem se_slice [Tabl] (he : SE X W e f) (hl : SO X W lo fl) (hh : SO X W hi fh) : SE X W (.Subscript e (.Slice lo hi none p2) pos) (fSl f fl fh) :=
  se_of (pe_slice (sl_list.or sl_tupA) he hl hh) fun C ρ σ Z H Q hK hm R q => by
    show TF X.K X.mg W f σ H fun x H1 => TOc X.K X.mg W fl σ H1 fun i H2 => TOc X.K X.mg W fh σ H2 fun j H3 => rSlB X.K x i j H3 Q
    rw [← hK, ← hm]
    refine tf_bind (P := fun r => Aft C W σ Z r Q) R q (fun _ _ h => h) (fun h => h) fun a ρ1 v Z1 H1 R1 l1 dn q => ?_
    have R1b := R1.base
    refine to_bind (C := C.at ρ1 σ Z1 H1) (P := fun r => Aft C W σ Z r Q) R1b q (fun y ρ' hy => AftX.base R1 (AftX.mono hy l1)) (fun h => h) fun i ρ2 Z2 H2 R2' l2 q => ?_
    have R2 := R1.unbase R2'
    have dn2 := dn.carry R1 R2'
    have R2b := R2.base
    refine to_bind (C := C.at ρ2 σ Z2 H2) (P := fun r => Aft C W σ Z r Q) R2b q (fun y ρ' hy => AftX.base R2 (AftX.mono hy (l1.trans l2))) (fun h => h) fun j ρ3 Z3 H3 R3' l3 q => ?_
    have R3 := R2.unbase R3'
    have dn3 := dn2.carry R2 R3'
    cases e1 : peek a ρ3 with
    | none => rw [e1] at q; exact q.elim
    | some d =>
      rw [e1] at q
      simp only at q
      cases e2 : pSl d i j with
      | none => rw [e2] at q; exact q.elim
      | some o =>
        rw [e2] at q
        exact p_sl R3.le (dn3.pk R3 e1) e2 (want_of R3 q (l1.trans (l2.trans l3)))
/-- xs[::-1] of a list -/
def pRevL : PV → Option OV
  | .lst ds => some (.own (.lst ds.reverse))
  | .scr ds => some (.own (.lst ds.reverse))
  | _ => none
theorem se_revL [Tabl] {k : Nat} {p1 p3 p4 : Pos} (he : SE X W e f) : SE X W (.Subscript e (.Slice none none (some (.UnaryOp .USub (.Constant (.int 1) k p1) p3)) p4) pos) (fUn pRevL f) :=
  se_of (pe_revL he) fun C ρ σ Z H Q hK hm R q => by
    show TF X.K X.mg W f σ H _
    rw [← hK, ← hm]
    refine tf_bind (P := fun r => Aft C W σ Z r Q) R q (fun _ _ h => h) (fun h => h) fun a ρ1 v Z1 H1 R1 l dn q => ?_
    cases e1 : peek a ρ1 with
    | none => rw [e1] at q; exact q.elim
    | some d =>
      rw [e1] at q
      simp only at q
      cases e2 : pRevL d with
      | none => rw [e2] at q; exact q.elim
      | some o =>
        rw [e2] at q
        have pk := dn.pk R1 e1
        have hw := want_of R1 q l
        unfold pRevL at e2
        split at e2
        · cases e2
          obtain ⟨b, xs, rfl, hs, t⟩ := pk.lst
          exact ⟨b, xs, rfl, .of hs, fun p hp => hw _ _ p rfl hp t.reverse⟩
        · cases e2
          obtain ⟨b, xs, rfl, hs, t⟩ := pk.scr
          exact ⟨b, xs, rfl, R1.le.sqL hs, fun p hp => hw _ _ p rfl hp t.reverse⟩
        · cases e2
end
/-! ### max and min of a list, str of an int, gcd -/
def maxI : List Int → Int
  | [] => 0
  | [x] => x
  | x :: y :: r => let m := maxI (y :: r); if m > x then m else x
def minI : List Int → Int
  | [] => 0
  | [x] => x
  | x :: y :: r => let m := minI (y :: r); if m < x then m else x
theorem maxI_ok : ∀ {ns : List Int}, ns ≠ [] → maxI ns ∈ ns ∧ ∀ y ∈ ns, y ≤ maxI ns
  | [], h => absurd rfl h
  | [x], _ => by simp [maxI]
  | x :: y :: r, _ => by
    obtain ⟨h1, h2⟩ := maxI_ok (ns := y :: r) (by simp)
    have e : maxI (x :: y :: r) = if maxI (y :: r) > x then maxI (y :: r) else x := rfl
    rw [e]
    by_cases h : maxI (y :: r) > x
    · rw [if_pos h]
      refine ⟨List.mem_cons_of_mem _ h1, fun z hz => ?_⟩
      rcases List.mem_cons.mp hz with rfl | hz
      · omega
      · exact h2 z hz
    · rw [if_neg h]
      refine ⟨List.mem_cons_self, fun z hz => ?_⟩
      rcases List.mem_cons.mp hz with rfl | hz
      · omega
      · have := h2 z hz; omega
theorem minI_ok : ∀ {ns : List Int}, ns ≠ [] → minI ns ∈ ns ∧ ∀ y ∈ ns, minI ns ≤ y
  | [], h => absurd rfl h
  | [x], _ => by simp [minI]
  | x :: y :: r, _ => by
    obtain ⟨h1, h2⟩ := minI_ok (ns := y :: r) (by simp)
    have e : minI (x :: y :: r) = if minI (y :: r) < x then minI (y :: r) else x := rfl
    rw [e]
    by_cases h : minI (y :: r) < x
    · rw [if_pos h]
      refine ⟨List.mem_cons_of_mem _ h1, fun z hz => ?_⟩
      rcases List.mem_cons.mp hz with rfl | hz
      · omega
      · exact h2 z hz
    · rw [if_neg h]
      refine ⟨List.mem_cons_self, fun z hz => ?_⟩
      rcases List.mem_cons.mp hz with rfl | hz
      · omega
      · have := h2 z hz; omega
def pMax (ds : List PV) : Option OV := match ds with
  | [.int i, .int j] => vI (if j > i then j else i)
  | _ => (seqOf ds).bind fun es => (asInts es).bind fun ns => if ns = [] then none else vI (maxI ns)
def pMin (ds : List PV) : Option OV := match ds with
  | [.int i, .int j] => vI (if j < i then j else i)
  | _ => (seqOf ds).bind fun es => (asInts es).bind fun ns => if ns = [] then none else vI (minI ns)
abbrev rMaxA (K : PySem.W.Frag) : List V → Hp → VK → Prop := fun xs H Q => (∃ i j, xs = [.int i, .int j] ∧ Q (.int (if j > i then j else i)) H) ∨ rMax K xs H Q
abbrev rMinA (K : PySem.W.Frag) : List V → Hp → VK → Prop := fun xs H Q => (∃ i j, xs = [.int i, .int j] ∧ Q (.int (if j < i then j else i)) H) ∨ rMin K xs H Q
theorem cr_maxA {X : Cx} (hc : X.calm = true) : CallR X (.builtin "max") (rMaxA X.K) := (call_max2 hc).or (cr_max hc)
theorem cr_minA {X : Cx} (hc : X.calm = true) : CallR X (.builtin "min") (rMinA X.K) := (call_min2 hc).or (cr_min hc)
theorem lst_inv {ds : List PV} {g : List Int → Int} {o : OV} (ho : ((seqOf ds).bind fun es => (asInts es).bind fun ns => if ns = [] then none else vI (g ns)) = some o) : ∃ es ns, seqOf ds = some es ∧ asInts es = some ns ∧ ns ≠ [] ∧ o = .val (.int (g ns)) := by
  cases e1 : seqOf ds with
  | none => rw [e1] at ho; cases ho
  | some es =>
    cases e2 : asInts es with
    | none => rw [e1] at ho; simp only [Option.bind_some] at ho; rw [e2] at ho; cases ho
    | some ns =>
      rw [e1] at ho
      simp only [Option.bind_some] at ho
      rw [e2] at ho
      simp only [Option.bind_some] at ho
      by_cases hn : ns = []
      · rw [if_pos hn] at ho; cases ho
      · rw [if_neg hn] at ho; cases ho; exact ⟨es, ns, rfl, e2, hn, rfl⟩
theorem pos_len {ns : List Int} (h : ns ≠ []) : 0 < ns.length := by
  cases ns with
  | nil => exact absurd rfl h
  | cons _ _ => simp
theorem p_max {K : PySem.W.Frag} : OpN K (rMaxA K) pMax := by
  intro Z H xs ds o Q l hx ho hw
  unfold pMax at ho
  split at ho
  · cases ho
    obtain ⟨v, w, rfl, h, h'⟩ := pk2 hx
    rw [h.int, h'.int]
    exact .inl ⟨_, _, rfl, hw.1 _ (.int _)⟩
  · obtain ⟨es, ns, e1, e2, hn, rfl⟩ := lst_inv ho
    obtain ⟨a, ys, rfl, hs, t⟩ := seqL l hx e1
    rw [asInts_eq e2] at t
    rw [ints_of t] at hs
    obtain ⟨k1, k2⟩ := maxI_ok hn
    refine .inr ⟨a, ns, rfl, hs, pos_len hn, fun m h1 h2 => ?_⟩
    have : m = maxI ns := by
      have g1 := k2 m h1
      have g2 := h2 _ k1
      omega
    subst this
    exact hw.1 _ (.int _)
theorem p_min {K : PySem.W.Frag} : OpN K (rMinA K) pMin := by
  intro Z H xs ds o Q l hx ho hw
  unfold pMin at ho
  split at ho
  · cases ho
    obtain ⟨v, w, rfl, h, h'⟩ := pk2 hx
    rw [h.int, h'.int]
    exact .inl ⟨_, _, rfl, hw.1 _ (.int _)⟩
  · obtain ⟨es, ns, e1, e2, hn, rfl⟩ := lst_inv ho
    obtain ⟨a, ys, rfl, hs, t⟩ := seqL l hx e1
    rw [asInts_eq e2] at t
    rw [ints_of t] at hs
    obtain ⟨k1, k2⟩ := minI_ok hn
    refine .inr ⟨a, ns, rfl, hs, pos_len hn, fun m h1 h2 => ?_⟩
    have : m = minI ns := by
      have g1 := k2 m h1
      have g2 := h2 _ k1
      omega
    subst this
    exact hw.1 _ (.int _)
def pGcd : List PV → Option OV
  | [.int i, .int j] => vI ((Nat.gcd i.natAbs j.natAbs : Nat) : Int)
  | _ => none
theorem p_gcd {K : PySem.W.Frag} : OpN K rGcd pGcd := by
  intro Z H xs ds o Q l hx ho hw
  unfold pGcd at ho
  split at ho
  · cases ho
    obtain ⟨v, w, rfl, h, h'⟩ := pk2 hx
    rw [h.int, h'.int]
    exact ⟨_, _, rfl, hw.1 _ (.int _)⟩
  · cases ho
/-! ### a module's constants -/
section
variable {X : Cx} {W : WX} {x : Str} {pos : Pos}
theorem se_globI [Tabl] {i : Int} {t : Tok} (hg : Gl X x) (hm : X.mg x = some (.int i t)) (hd : (x == ("__debug__" : Str)) = false := by decide) : SE X W (.Name x pos) (fVal (.int i)) :=
  se_c (pe_glob hg hm (v := .int i) ⟨t, rfl⟩ hd) fun _ _ => .int i
theorem se_globS [Tabl] {i : Str} {t : Tok} (hg : Gl X x) (hm : X.mg x = some (.str i t)) (hd : (x == ("__debug__" : Str)) = false := by decide) : SE X W (.Name x pos) (fVal (.str i)) :=
  se_c (pe_glob hg hm (v := .str i) ⟨t, rfl⟩ hd) fun _ _ => .str i
theorem se_globT [Tabl] {a : Addr} {o : Obj} {its : Array Value} {n : Nat} {ns : List Int} (hg : Gl X x) (hm : X.mg x = some (.ref a)) (hk : X.K.lookup a = some o) (hc : o.cls = .type "tuple") (hdt : o.data = .seq its n) (hz : its.size ≤ sizeLine) (hv : Vals (ns.map V.int) its.toList)
    (hd : (x == ("__debug__" : Str)) = false := by decide) : SE X W (.Name x pos) (fVal (.tup (ns.map .int))) :=
  se_of (pe_glob hg hm (v := .ref a) rfl hd) fun C ρ σ Z H Q hK hmm R q => q (.ref a) Z H R (Zle.refl _) (.tup (.inr ⟨o, its, n, by rw [hK]; exact hk, hc, hdt, hz, hv⟩) dn_ints)
end
end TT

set_option Elab.async false
set_option linter.all false
set_option maxRecDepth 100000
namespace TT
open PySem PySem.Spec L2

/-- THE RULE for a def by facts -/
theorem fn_okD [Tabl] {P : Program} {w : World} {K : PySem.W.Frag} {mg : Str → Option Value} {base : Heap} {x qual : Str} {params : Arguments} {bd : List Stmt} {scope : Scope} {f : Addr} {fd : FuncData} {N ps : List Str} {k : Nat} {body : Rho → Res Fl} (F : FunD K x qual params bd scope [] [] f fd) (S : FnScope N ps scope)
    (hbody : ∀ (cdv : Value) (A : Around) (outer : List Env) (s : Shared) (H : Hp) (E : XK), Room k (A.deeper (PyProof.Rows.envOfC qual scope s.heap.objs.size f cdv)) → Takes (cxOf (L2.CX P w) P w K mg base N qual scope f cdv A outer s H E) (fun cls d _ H => E cls d H) →
      PassesOwn (model P w) (A.deeper (PyProof.Rows.envOfC qual scope s.heap.objs.size f cdv)) (PyProof.Rows.envOfC qual scope s.heap.objs.size f cdv) (cxOf (L2.CX P w) P w K mg base N qual scope f cdv A outer s H E).xe →
      SSs (cxOf (L2.CX P w) P w K mg base N qual scope f cdv A outer s H E) (fun cls d _ H => E cls d H) bd body) : FnOk P w K mg base (L2.CX P w) (k + 1) f fd ps (spF K mg ps.length (runF N.length ps.length body)) := by
  refine F.ok S (fun vs H Q E h => h.1) fun cdv A outer s H vs Q E hr h => ⟨_, hbody cdv A outer s H E hr (takes_of rfl rfl rfl rfl) (passes_of rfl), ?_⟩
  obtain ⟨hl, C, args, Z, hK, hm, R, hM, q⟩ := h
  unfold runF at q
  split at q
  · rename_i hc
    have R0 := R.enter (N := N.length)
    have hal : args.length = vs.length := by have := R.len; simpa using this
    refine ⟨C, _, Z, hK, hm, R0, ?_⟩
    have q' : AftF C Z (vs.map some) (exitF args (body (args ++ List.replicate (N.length - vs.length) .un))) Q E := by rw [hl]; exact q
    cases e : body (args ++ List.replicate (N.length - vs.length) .un) with
    | no => rw [e] at q'; exact q'
    | er x ρ1 =>
      rw [e] at q'
      simp only [exitF] at q'
      cases em : merge args ρ1 with
      | none => rw [em] at q'; exact q'.elim
      | some as =>
        rw [em] at q'
        exact fun σ' cls d Z' H' R' l hx => q' cls d Z' H' (R.exit hc.2 hM R' l em).1 l hx
    | ok fl ρ1 =>
      rw [e] at q'
      simp only [exitF] at q'
      cases fl with
      | bk => exact q'.elim
      | ct => exact q'.elim
      | nx =>
        simp only at q'
        cases em : merge args ρ1 with
        | none => rw [em] at q'; exact q'.elim
        | some as =>
          rw [em] at q'
          exact fun σ' Z' H' R' l => q' .non Z' H' (R.exit hc.2 hM R' l em).1 l .non
      | rt r =>
        cases r with
        | ali i => exact q'.elim
        | val d =>
          simp only at q'
          cases em : merge args ρ1 with
          | none => rw [em] at q'; exact q'.elim
          | some as =>
            rw [em] at q'
            exact fun v σ' Z' H' R' l dn => q' v Z' H' (R.exit hc.2 hM R' l em).1 l dn
        | own d =>
          simp only at q'
          cases em : merge args ρ1 with
          | none => rw [em] at q'; exact q'.elim
          | some as =>
            rw [em] at q'
            exact fun v σ' Z' H' R' l dn => q' v Z' H' (R.exit hc.2 hM R' l em).1 l ((R.exit hc.2 hM R' l em).2 d v dn)
  · exact q.elim

/-- a def of the program, for a caller -/
structure Cal [Tabl] (P : Program) (w : World) (K : PySem.W.Frag) (mg : Str → Option Value) (base : Heap) (x : Str) (n : Nat) (F : Sem1) (k : Nat) : Prop where
  ex : ∃ fa fd ps, FnOk P w K mg base (L2.CX P w) k fa fd ps (spF K mg n F) ∧ mg x = some (.ref fa) ∧ PySem.W.keepIn K (.ref fa) = true ∧ Binds K fd ps []
section
variable {X : Cx} {W : WX} {k j n i : Nat} {F : Sem1} {x y : Str} {p pos py : Pos} {e : Expr} {es : List Expr} {f : Rho → Res (List RV)}
theorem se_callC [Tabl] (tk : Takes X W) (c : Cal X.prog X.w X.K X.mg X.base x n F k) (hr : Room j X.A) (ha : SA X W (e :: es) f) (hg : Gl X x := by rfl) (hk : k ≤ j := by decide) (hdb : (x == ("__debug__" : Str)) = false := by decide)
    (he : starEach (e :: es) X.env = (false, eval e X.env) :: starEach es X.env := by rfl) (hpl : (backTo pos (starEach es X.env)).any (·.1) = false := by rfl) : SE X W (.Call (.Name x p) (e :: es) [] pos) (fCall n F f) := by
  obtain ⟨fa, fd, ps, G, h1, h2, h3⟩ := c.ex
  exact se_call tk G (hr.mono hk) hg h1 h2 h3 ha hdb he hpl
theorem se_callCD [Tabl] (tk : Takes X W) (c : Cal X.prog X.w X.K X.mg X.base x n F k) (hr : Room j X.A) (i : Nat) (ha : SA X W es f) (hN : X.N[i]? = some y := by rfl) (hv : Vis X.env.scope y := by first | exact Or.inl rfl | exact Or.inr (Or.inl rfl) | exact Or.inr (Or.inr rfl)) (hg : Gl X x := by rfl) (hk : k ≤ j := by decide)
    (hd : (y == ("__debug__" : Str)) = false := by decide) (hcd : (y == ("__classdict__" : Str)) = false := by decide) (hdb : (x == ("__debug__" : Str)) = false := by decide)
    (he : starEach (.Name y py :: es) X.env = (false, eval (.Name y py) X.env) :: starEach es X.env := by rfl) (hpl : (backTo pos (starEach es X.env)).any (·.1) = false := by rfl) : SE X W (.Call (.Name x p) (.Name y py :: es) [] pos) (fCallD n F i f) := by
  obtain ⟨fa, fd, ps, G, h1, h2, h3⟩ := c.ex
  exact se_callD tk G (hr.mono hk) hg h1 h2 h3 hN hv hd hcd ha hdb he hpl
theorem se_app [Tabl] (i : Nat) {x : Str} {e : Expr} {f : Rho → Res RV} {p apos cpos : Pos} (he : SE X W e f) (hN : X.N[i]? = some x := by rfl) (hv : Vis X.env.scope x := by first | exact Or.inl rfl | exact Or.inr (Or.inl rfl) | exact Or.inr (Or.inr rfl)) (hd : (x == ("__debug__" : Str)) = false := by decide) (hcd : (x == ("__classdict__" : Str)) = false := by decide)
    (hbase : attributeBase (.Name x p) "append" X.env (eval (.Name x p) X.env) = eval (.Name x p) X.env := by rfl)
    (hfew : ((backTo cpos (starEach [e] X.env)).all (fun x => !x.1) && (backToKw cpos (keywordEach [] X.env)).all (fun x => x.1.isSome)
      && decide ([e].length + ([] : List Keyword).length + (if ([] : List Keyword).isEmpty then 0 else 1) < 30)) = true := by rfl)
    (hline : (apos.endLine == cpos.line) = true := by rfl) (hs : starEach [e] X.env = (false, eval e X.env) :: starEach [] X.env := by rfl) (hplain : (backTo cpos (starEach [] X.env)).any (·.1) = false := by rfl) :
    SE X W (.Call (.Attribute (.Name x p) "append" apos) [e] [] cpos) (fAppend i f) := se_append hN hv hd hcd he hbase hfew hline hs hplain
end
/-! ### a, b = x, y -/
def plainR (r s : RV) : Bool := match r, s with
  | .ali _, _ => false
  | _, .ali _ => false
  | .own _, .own _ => false
  | _, _ => true
def fPar (i j : Nat) (f : Rho → Res (List RV)) : Rho → Res Fl := fun ρ => (f ρ).bind fun rs ρ1 => match rs with
  | [r, s] => if plainR r s = true then optF ((asgR i r ρ1).bind (asgR j s)) else .no
  | _ => .no
section
variable {X : Cx} {W : WX} {i j : Nat} {x y : Str} {a b : Expr} {f : Rho → Res (List RV)} {px py pt pos : Pos} {kt k2 : Nat} {pt2 : Pos}
theorem DnR.asg [Tabl] {C : Ct} {ρ ρ' : Rho} {σ : Sg} {Z Z' H : Hp} {v w : V} {i : Nat} {r s : RV} (R : Rel C ρ σ Z H) (hp : plainR r s = true) (dr : DnR C ρ σ Z H v r) (e : asgR i r ρ = some ρ') (l : Zle Z Z') (R' : Rel C ρ' (σ.set i (some v)) Z H) (ds : DnR C ρ σ Z H w s) : DnR C ρ' (σ.set i (some v)) Z H w s := by
  cases s with
  | val d => exact ds
  | ali k => cases r <;> cases hp
  | own d =>
    cases r with
    | ali k => cases hp
    | own d' => cases hp
    | val d' =>
      unfold asgR at e
      split at e
      · cases e
      · cases e
        obtain ⟨b, rfl, h2, h3, h4, h5⟩ := ds
        refine ⟨b, rfl, h2, h3, h4, fun k hk ek => ?_⟩
        obtain ⟨h6, h7⟩ := isObj_set_val rfl hk
        rw [List.getElem?_set_ne (Ne.symm h7)] at ek
        exact h5 k h6 ek
theorem ss_par [Tabl] (hc : X.calm = true) (hN : X.N.Nodup) (hi : X.N[i]? = some x) (hj : X.N[j]? = some y) (hij : i ≠ j)
    (hx : X.env.scope.names.lookup x = some .local) (hy : X.env.scope.names.lookup y = some .local) (ha : SA X W [a, b] f)
    (hw : swappedStores [.Tuple [.Name x px, .Name y py] kt pt] (.Tuple [a, b] k2 pt2) X.env = pure (some [x, y]) := by rfl)
    (hs : swapsWithSole [.Tuple [.Name x px, .Name y py] kt pt] (.Tuple [a, b] k2 pt2) pos.line X.env = pure false := by rfl) :
    SS X W (.Assign [.Tuple [.Name x px, .Name y py] kt pt] (.Tuple [a, b] k2 pt2) pos) (fPar i j f) :=
  ss_of (ps_par hc hN hi hj hij hx hy ha hw hs) fun C ρ σ Z H D hK hm R q => by
    show TAr X.K X.mg W f σ H _
    rw [← hK, ← hm]
    refine ta_bind (P := fun r => AftS C W Z r D) R q (fun _ _ h => h σ) (fun h => h) fun rs ρ1 vs Z1 H1 R1 l1 d1 q => ?_
    match rs, vs, d1 with
    | [r, s], [v, w], ⟨dr, ds, _⟩ =>
      simp only at q
      by_cases hp : plainR r s = true
      · rw [if_pos hp] at q
        refine ⟨v, w, rfl, ?_⟩
        cases e1 : asgR i r ρ1 with
        | none => rw [e1] at q; exact q.elim
        | some ρ2 =>
          rw [e1] at q
          have q' : AftS C W Z (optF (asgR j s ρ2)) D := q
          cases e2 : asgR j s ρ2 with
          | none => rw [e2] at q'; exact q'.elim
          | some ρ3 =>
            rw [e2] at q'
            have R2 : Rel C ρ2 (σ.set i (some v)) Z1 H1 := by
              obtain ⟨Z', R', l⟩ := R1.asg dr e1
              cases r with
              | ali k => cases s <;> cases hp
              | val d =>
                unfold asgR at e1
                split at e1
                · cases e1
                · cases e1; exact R1.asgVal dr
              | own d =>
                unfold asgR at e1
                split at e1
                · cases e1
                · cases e1
                  obtain ⟨a, rfl, h2, h3, h4, h5⟩ := dr
                  exact R1.asgOwn h2 h3 h4 h5
            have ds2 := DnR.asg R1 hp dr e1 (Zle.refl _) R2 ds
            obtain ⟨Z3, R3, l3⟩ := R2.asg ds2 e2
            exact q' _ Z3 H1 R3 (l1.trans l3)
      · rw [if_neg hp] at q; exact q.elim
    | [], _, _ => exact q.elim
    | [_], _, _ => exact q.elim
    | _ :: _ :: _ :: _, _, _ => exact q.elim
    | [_, _], [], d => exact d.elim
    | [_, _], [_], d => exact d.2.elim
    | [_, _], _ :: _ :: _ :: _, d => exact d.2.2.elim
end

/-! ### the head -/
abbrev AlX : Type := Bool × He.AlD
def obsX (n : Nat) (fa : List He.Fa) (fn : List He.DefD) (B : PySem.W.Frag → Bool) (g : Addr → Option Obj) : AlX := (B (He.frG g (He.asD g n)), He.obsDG n fa fn g)
def SaysX (fa : List He.Fa) (fn : List He.DefD) (B : PySem.W.Frag → Bool) (K : PySem.W.Frag) : Prop := He.SaysD fa fn K ∧ B K = true
def hookX (n : Nat) (fa : List He.Fa) (fn : List He.DefD) (B : PySem.W.Frag → Bool) : PySem.W.Hook where
  α := AlX
  obs := fun s => obsX n fa fn B s.heap.get?
  val := fun _ => (true, He.valD fn)
  says := fun _ h => ∃ K : PySem.W.Frag, K.In h ∧ SaysX fa fn B K
  of := fun _ _ e => ⟨_, He.frG_in, congrArg (fun z : AlX => z.2) e, congrArg (fun z : AlX => z.1) e⟩
  keeps := fun _ _ _ ⟨K, hK, c⟩ k => ⟨K, PySem.W.Frag.In.keeps hK k, c⟩
theorem obsX_eq {n : Nat} {fa : List He.Fa} {fn : List He.DefD} {B : PySem.W.Frag → Bool} {g : Addr → Option Obj} {s : Shared} (h : ∀ a, g a = s.heap.get? a) : obsX n fa fn B g = (hookX n fa fn B).obs s := by
  have e : g = s.heap.get? := funext h
  rw [e] <;> rfl
theorem mk_cal [Tabl] {P : Program} {w : World} {K : PySem.W.Frag} {mg : Str → Option Value} {base h : Heap} {fa : List He.Fa} {fn : List He.DefD} {x : Str} {params : Arguments} {bd : List Stmt} {scope : Scope} {N ps : List Str} {k : Nat} {body : Rho → Res Fl} (X : K.In h) (G : h.Ns mainGlobals mg) (c : He.SaysD fa fn K) (i j : Nat)
    (hd : fn[i]? = some ⟨(x, none), x, x, params, bd, scope, [], []⟩) (hf : fa[j]? = some (.glo x)) (S : FnScope N ps scope)
    (hb : ∀ {f : Addr} {fd : FuncData}, FunD K x x params bd scope [] [] f fd → Binds K fd ps [])
    (hbody : ∀ (f : Addr) (cdv : Value) (A : Around) (outer : List Env) (s : Shared) (H : Hp) (E : XK), Room k (A.deeper (PyProof.Rows.envOfC x scope s.heap.objs.size f cdv)) → Takes (cxOf (L2.CX P w) P w K mg base N x scope f cdv A outer s H E) (fun cls d _ H => E cls d H) →
      PassesOwn (model P w) (A.deeper (PyProof.Rows.envOfC x scope s.heap.objs.size f cdv)) (PyProof.Rows.envOfC x scope s.heap.objs.size f cdv) (cxOf (L2.CX P w) P w K mg base N x scope f cdv A outer s H E).xe →
      SSs (cxOf (L2.CX P w) P w K mg base N x scope f cdv A outer s H E) (fun cls d _ H => E cls d H) bd body) : Cal P w K mg base x ps.length (runF N.length ps.length body) (k + 1) := by
  obtain ⟨fd, F⟩ := c.def_ i hd
  exact ⟨_, fd, ps, fn_okD F S (fun cdv A outer s H E => hbody _ cdv A outer s H E), He.glo_ok X G (c.fact j hf), F.kp, hb F⟩

/-! ### the law's end -/
theorem law_end [Tabl] (hT : Tabl.T = []) {P : Program} {w : World} {K : PySem.W.Frag} {mg : Str → Option Value} {base : Heap} {k : Nat} {f : Addr} {fd : FuncData} {ps : List Str} {F : Sem1} (G : FnOk P w K mg base (L2.CX P w) k f fd ps (spF K mg 1 F))
    (hF : ∀ ns : List Int, ns.length ≤ 63 → ∃ as, F [.val (.scr (ns.map .int))] = .ok (.val (.bl true)) as) :
    FnOk P w K mg base CX0 k f fd ps (fun vs H Q _ => ∃ (a : Addr) (ns : List Int), vs = [.ref a] ∧ SqL K H a (ns.map V.int) ∧ ns.length ≤ 63 ∧ ∀ H', Q (.bl true) H') := by
  have key : ∀ (vs : List V) (H : Hp) (Q : VK), (∃ (a : Addr) (ns : List Int), vs = [.ref a] ∧ SqL K H a (ns.map V.int) ∧ ns.length ≤ 63 ∧ ∀ H', Q (.bl true) H') → spF K mg 1 F vs H Q fun _ _ _ => False := by
    rintro vs H Q ⟨a, ns, rfl, hS, hl, q⟩
    obtain ⟨as, e⟩ := hF ns hl
    refine ⟨rfl, ⟨K, mg, H, H, fun _ => False, fun _ => none⟩, [.val (.scr (ns.map .int))], H, rfl, rfl, ?_, fun a h => h.elim, ?_⟩
    · refine ⟨rfl, Zle.refl _, fun i d h => ?_, fun i s d h o g => ?_, fun i j b hi => ?_, fun i d h => ?_, fun b _ _ => ⟨rfl, rfl⟩, Zle.refl _, fun b h => by rw [nt_id hT]; exact h, fun p hp => absurd hp (by rw [hT]; simp), .inl hT, .inl hT⟩
      · cases i with
        | zero =>
          simp at h
          subst h
          exact ⟨.ref a, rfl, .scr hS dn_ints⟩
        | succ i => simp at h
      · cases i with
        | zero => simp at h; subst h; cases o
        | succ i => simp at h
      · obtain ⟨s, es, os⟩ := hi
        cases i with
        | zero => simp at es; subst es; cases os
        | succ i => simp at es
      · cases i with
        | zero => simp at h
        | succ i => simp at h
    · rw [e]
      intro v Z' H' R l dn
      have dn' : Dn K Z' v (.bl true) := dn
      rw [dn'.bl_inv]
      exact q H'
  refine ⟨fun vs H Q E h => G.len vs H Q (fun _ _ _ => False) (key vs H Q h), fun A outer s H args us vs Q E hr he hb hv hs => ?_⟩
  refine codeAny_mono (G.run A outer s H args us vs Q (fun _ _ _ => False) hr he hb hv (key vs H Q hs)) fun r s' hq => ?_
  cases r with
  | ok fl => cases fl <;> exact hq
  | error e =>
    obtain ⟨_, _, _, _, _, _, _, _, _, _, _, _, z⟩ := hq
    exact z.elim
end TT

set_option Elab.async false
set_option linter.all false
set_option maxRecDepth 100000
namespace TT
open PySem PySem.Spec L2
theorem hu64 {k : Nat} {A : Around} (hr : Room k A) : A.units + 64 < cLine := by have := hr.un; omega
theorem hu65 {k : Nat} {A : Around} (hr : Room k A) : A.units + 65 < cLine := by have := hr.un; omega
def fNo : Rho → Res Fl := fun _ => .no
theorem ss_never [Tabl] {X : Cx} {W : WX} {st : Stmt} : SS X W st fNo := ps_imp ps_never fun _ _ _ ⟨_, _, _, _, _, _, q⟩ => q
theorem se_globN [Tabl] {X : Cx} {W : WX} {x : Str} {pos : Pos} {a : Addr} {ns : List Int} (hm : X.mg x = some (.ref a)) (hs : ∀ H, SqT X.K H a (ns.map V.int)) (hg : Gl X x := by rfl) (hd : (x == ("__debug__" : Str)) = false := by decide) : SE X W (.Name x pos) (fVal (.tup (ns.map .int))) :=
  se_of (pe_glob hg hm (v := .ref a) rfl hd) fun C ρ σ Z H Q hK hmm R q => q (.ref a) Z H R (Zle.refl _) (.tup (by rw [hK]; exact hs Z) dn_ints)
end TT

set_option Elab.async false
set_option linter.all false
set_option maxRecDepth 100000
namespace TT
open PySem PySem.Spec L2

def chK (o : Option OV) (k : Res RV) (ρ : Rho) : Res RV := match o with
  | some (.val (.bl true)) => k
  | some (.val (.bl false)) => .ok (.val (.bl false)) ρ
  | _ => .no
def outR (o : Option (List SV)) (r : RV) : Res RV := match o with
  | some as => .ok r as
  | none => .no
def outX (o : Option (List SV)) (x : EX) : Res RV := match o with
  | some as => .er x as
  | none => .no
@[simp] theorem chK_vB {b : Bool} {k : Res RV} {ρ : Rho} : chK (vB b) k ρ = if b = true then k else .ok (.val (.bl false)) ρ := by cases b <;> rfl
@[simp] theorem outR_some {as : List SV} {r : RV} : outR (some as) r = .ok r as := rfl
@[simp] theorem exit_val {args : List SV} {d : PV} {ρ : Rho} : exitF args (.ok (.rt (.val d)) ρ) = outR (merge args ρ) (.val d) := rfl
@[simp] theorem exit_own {args : List SV} {d : PV} {ρ : Rho} : exitF args (.ok (.rt (.own d)) ρ) = outR (merge args ρ) (.own d) := rfl
@[simp] theorem exit_nx {args : List SV} {ρ : Rho} : exitF args (.ok .nx ρ) = outR (merge args ρ) (.val .non) := rfl
@[simp] theorem exit_er {args : List SV} {x : EX} {ρ : Rho} : exitF args (.er x ρ) = outX (merge args ρ) x := rfl
@[simp] theorem exit_no {args : List SV} : exitF args .no = .no := rfl
@[simp] theorem merge_nil {ρ : Rho} : merge [] ρ = some [] := rfl
@[simp] theorem merge_val {d : PV} {as : List SV} {s : SV} {ρ : Rho} : merge (.val d :: as) (s :: ρ) = (merge as ρ).bind fun r => some (.val d :: r) := rfl
@[simp] theorem merge_bor {d e : PV} {as : List SV} {ρ : Rho} : merge (.bor d :: as) (.bor e :: ρ) = (merge as ρ).bind fun r => some (.bor e :: r) := rfl
@[simp] theorem argOk_val {d : PV} : argOk (.val d) = true := rfl
@[simp] theorem argOk_bor {d : PV} : argOk (.bor d) = true := rfl
@[simp] theorem bind_ite {α β : Type} {c : Prop} [Decidable c] {a b : Res α} {k : α → Rho → Res β} : (if c then a else b).bind k = if c then a.bind k else b.bind k := by split <;> rfl
@[simp] theorem exit_ite {args : List SV} {c : Prop} [Decidable c] {a b : Res Fl} : exitF args (if c then a else b) = if c then exitF args a else exitF args b := by split <;> rfl
@[simp] theorem seqF_ite {c : Prop} [Decidable c] {a b : Res Fl} {g : Rho → Res Fl} : seqF (if c then a else b) g = if c then seqF a g else seqF b g := by split <;> rfl
@[simp] theorem tvB_ite {c : Prop} [Decidable c] {a b : Res RV} : tvB (if c then a else b) = if c then tvB a else tvB b := by split <;> rfl
/-! ### evaluation, by equations -/
section
variable {α β : Type} {ρ ρ1 : Rho} {a : α} {x : EX} {f g h : Rho → Res RV} {fb gb : Rho → Res Bool} {fs gs : Rho → Res Fl} {fl : Rho → Res (List RV)} {fi : Rho → Res (List PV)} {fo go : Rho → Res (Option Int)}
@[simp] theorem bind_ok {k : α → Rho → Res β} : (Res.ok a ρ).bind k = k a ρ := rfl
@[simp] theorem bind_er {k : α → Rho → Res β} : (Res.er x ρ : Res α).bind k = .er x ρ := rfl
@[simp] theorem bind_no {k : α → Rho → Res β} : (Res.no : Res α).bind k = .no := rfl
@[simp] theorem fVal_ap {o : PV} : fVal o ρ = .ok (.val o) ρ := rfl
@[simp] theorem fName_ap {i : Nat} : fName i ρ = match ρ[i]? with
  | some (.val d) => .ok (.val d) ρ
  | some (.own _) => .ok (.ali i) ρ
  | some (.bor _) => .ok (.ali i) ρ
  | _ => .no := rfl
@[simp] theorem fV_ap : fV f ρ = (f ρ).bind rVal := rfl
@[simp] theorem rVal_val {d : PV} : rVal (.val d) ρ = .ok (.val d) ρ := rfl
@[simp] theorem rVal_own {d : PV} : rVal (.own d) ρ = .ok (.val d) ρ := rfl
@[simp] theorem rVal_ali {i : Nat} : rVal (.ali i) ρ = match toVal (.ali i) ρ with
  | some (d, ρ') => .ok (.val d) ρ'
  | none => .no := rfl
@[simp] theorem peek_val {d : PV} : peek (.val d) ρ = some d := rfl
@[simp] theorem peek_own {d : PV} : peek (.own d) ρ = some d := rfl
@[simp] theorem peek_ali {i : Nat} : peek (.ali i) ρ = (ρ[i]?).bind SV.get := rfl
@[simp] theorem get_val {d : PV} : SV.get (.val d) = some d := rfl
@[simp] theorem get_own {d : PV} : SV.get (.own d) = some d := rfl
@[simp] theorem get_bor {d : PV} : SV.get (.bor d) = some d := rfl
@[simp] theorem fBin_ap {p : PV → PV → Option OV} : fBin p f g ρ = (f ρ).bind fun a ρ1 => (g ρ1).bind fun b ρ2 => match peek a ρ2, peek b ρ2 with
  | some x, some y => optR (p x y) ρ2
  | _, _ => .no := rfl
@[simp] theorem fUn_ap {p : PV → Option OV} : fUn p f ρ = (f ρ).bind fun a ρ1 => match peek a ρ1 with
  | some x => optR (p x) ρ1
  | _ => .no := rfl
@[simp] theorem optR_val {d : PV} : optR (some (.val d)) ρ = .ok (.val d) ρ := rfl
@[simp] theorem optR_own {d : PV} : optR (some (.own d)) ρ = .ok (.own d) ρ := rfl
@[simp] theorem optR_vI {i : Int} : optR (vI i) ρ = .ok (.val (.int i)) ρ := rfl
@[simp] theorem optR_vB {b : Bool} : optR (vB b) ρ = .ok (.val (.bl b)) ρ := rfl
@[simp] theorem optR_none : optR none ρ = .no := rfl
@[simp] theorem fNil_ap : fNil ρ = .ok [] ρ := rfl
@[simp] theorem fCons_ap : fCons f fl ρ = (f ρ).bind fun a ρ1 => (fl ρ1).bind fun as ρ2 => .ok (a :: as) ρ2 := rfl
@[simp] theorem fApp_ap {p : List PV → Option OV} : fApp p fl ρ = (fl ρ).bind fun as ρ1 => match peeks as ρ1 with
  | some xs => optR (p xs) ρ1
  | _ => .no := rfl
@[simp] theorem peeks_nil : peeks [] ρ = some [] := rfl
@[simp] theorem peeks_cons {r : RV} {rs : List RV} : peeks (r :: rs) ρ = (peek r ρ).bind fun d => (peeks rs ρ).bind fun ds => some (d :: ds) := rfl
@[simp] theorem fTup_ap : fTup fl ρ = (fl ρ).bind fun as ρ1 => match vals as with
  | some ds => if ds.length ≤ 1000 then .ok (.val (.tup ds)) ρ1 else .no
  | none => .no := rfl
@[simp] theorem fLst_ap : fLst fl ρ = (fl ρ).bind fun as ρ1 => match vals as with
  | some ds => if ds.length ≤ 1000 then .ok (.own (.lst ds)) ρ1 else .no
  | none => .no := rfl
@[simp] theorem vals_nil : vals [] = some [] := rfl
@[simp] theorem vals_cons {d : PV} {rs : List RV} : vals (.val d :: rs) = (vals rs).bind fun ds => some (d :: ds) := rfl
@[simp] theorem fTB_ap : fTB f ρ = tvB (f ρ) := rfl
@[simp] theorem tvB_ok {b : Bool} : tvB (.ok (.val (.bl b)) ρ) = .ok b ρ := rfl
@[simp] theorem tvB_er : tvB (.er x ρ) = .er x ρ := rfl
@[simp] theorem fTru_ap : fTru f ρ = (f ρ).bind fun a ρ1 => match peek a ρ1 with
  | some d => (match truth d with
    | some b => .ok b ρ1
    | none => .no)
  | none => .no := rfl
@[simp] theorem truth_bl {b : Bool} : truth (.bl b) = some b := rfl
@[simp] theorem fAnd_ap : fAnd fb gb ρ = (fb ρ).bind fun b ρ1 => if b = true then gb ρ1 else .ok false ρ1 := rfl
@[simp] theorem fOr_ap : fOr fb gb ρ = (fb ρ).bind fun b ρ1 => if b = true then .ok true ρ1 else gb ρ1 := rfl
@[simp] theorem fNot_ap : fNot fb ρ = (fb ρ).bind fun b ρ1 => .ok (!b) ρ1 := rfl
@[simp] theorem fAndV_ap : fAndV f g ρ = (tvB (f ρ)).bind fun b ρ1 => if b = true then g ρ1 else .ok (.val (.bl false)) ρ1 := rfl
@[simp] theorem fOrV_ap : fOrV f g ρ = (tvB (f ρ)).bind fun b ρ1 => if b = true then .ok (.val (.bl true)) ρ1 else g ρ1 := rfl
@[simp] theorem fNotV_ap : fNotV f ρ = (tvB (f ρ)).bind fun b ρ1 => .ok (.val (.bl !b)) ρ1 := rfl
@[simp] theorem fIfE_ap : fIfE fb f g ρ = (fb ρ).bind fun b ρ1 => if b = true then f ρ1 else g ρ1 := rfl
@[simp] theorem fChain_ap {p p' : PV → PV → Option OV} : fChain p p' f g h ρ = (f ρ).bind fun a ρ1 => (g ρ1).bind fun b ρ2 =>
  match peek a ρ2, peek b ρ2 with
  | some x, some y => chK (p x y) ((h ρ2).bind fun c ρ3 => (match peek b ρ3, peek c ρ3 with
      | some y, some z => optR (p' y z) ρ3
      | _, _ => .no)) ρ2
  | _, _ => .no := rfl
@[simp] theorem fSkip_ap : fSkip ρ = .ok .nx ρ := rfl
@[simp] theorem fBrk_ap : fBrk ρ = .ok .bk ρ := rfl
@[simp] theorem fCnt_ap : fCnt ρ = .ok .ct ρ := rfl
@[simp] theorem fNo_ap : fNo ρ = .no := rfl
@[simp] theorem fSeq_ap : fSeq fs gs ρ = seqF (fs ρ) gs := rfl
@[simp] theorem seqF_nx : seqF (.ok .nx ρ) gs = gs ρ := rfl
@[simp] theorem seqF_rt {r : RV} : seqF (.ok (.rt r) ρ) gs = .ok (.rt r) ρ := rfl
@[simp] theorem seqF_bk : seqF (.ok .bk ρ) gs = .ok .bk ρ := rfl
@[simp] theorem seqF_ct : seqF (.ok .ct ρ) gs = .ok .ct ρ := rfl
@[simp] theorem seqF_er : seqF (.er x ρ) gs = .er x ρ := rfl
@[simp] theorem fIfS_ap : fIfS fb fs gs ρ = (fb ρ).bind fun b ρ1 => if b = true then fs ρ1 else gs ρ1 := rfl
@[simp] theorem fDrop_ap : fDrop f ρ = (f ρ).bind fun _ ρ1 => .ok .nx ρ1 := rfl
@[simp] theorem fRet_ap : fRet f ρ = (f ρ).bind retF := rfl
@[simp] theorem retF_val {d : PV} : retF (.val d) ρ = .ok (.rt (.val d)) ρ := rfl
@[simp] theorem retF_own {d : PV} : retF (.own d) ρ = .ok (.rt (.own d)) ρ := rfl
@[simp] theorem retF_ali {i : Nat} : retF (.ali i) ρ = match ρ[i]? with
    | some (.val d) => .ok (.rt (.val d)) ρ
    | some (.own d) => .ok (.rt (.own d)) (ρ.set i .un)
    | _ => .no := rfl
@[simp] theorem fSet_ap {i : Nat} : fSet i f ρ = (f ρ).bind fun r ρ1 => optF (asgR i r ρ1) := rfl
@[simp] theorem optF_some : optF (some ρ) = .ok .nx ρ := rfl
@[simp] theorem fIt_ap : fIt f ρ = (fV f ρ).bind fun r ρ1 => match r with
  | .val d => (match itemsOf d with
    | some ds => .ok ds ρ1
    | none => .no)
  | _ => .no := rfl
@[simp] theorem items_lst {ds : List PV} : itemsOf (.lst ds) = some ds := rfl
@[simp] theorem items_tup {ds : List PV} : itemsOf (.tup ds) = some ds := rfl
@[simp] theorem items_scr {ds : List PV} : itemsOf (.scr ds) = some ds := rfl
@[simp] theorem fRng1_ap : fRng1 fl ρ = (fl ρ).bind fun rs ρ1 => match rs with
  | [.val (.int j)] => if okR j = true then .ok (rngL 0 j.toNat) ρ1 else .no
  | _ => .no := rfl
@[simp] theorem fRng2_ap : fRng2 fl ρ = (fl ρ).bind fun rs ρ1 => match rs with
  | [.val (.int i), .val (.int j)] => if okR i = true ∧ okR j = true then .ok (rngL i (j - i).toNat) ρ1 else .no
  | _ => .no := rfl
@[simp] theorem fFor_ap {fg : PV → Rho → Option Rho} : fFor fi fg fs ρ = (fi ρ).bind fun items ρ1 => forL items (turnF fg fs) ρ1 := rfl
@[simp] theorem fLc_ap {vs : List Nat} {fg : PV → Rho → Option Rho} {ft : Rho → Res Bool} : fLc vs fi fg ft f ρ = (fi ρ).bind fun items ρ1 =>
  if savable ρ1 vs = true then (lcL vs fg ft f items [] (wipeR ρ1 vs)).bind fun ds ρ2 => .ok (.own (.lst ds)) (restoreR ρ2 ρ1 vs) else .no := rfl
@[simp] theorem fYes_ap : fYes ρ = .ok true ρ := rfl
@[simp] theorem noEr_ok : noEr (.ok a ρ) = .ok a ρ := rfl
@[simp] theorem fAppend_ap {i : Nat} : fAppend i f ρ = match slotL ρ i with
  | none => .no
  | some _ => (fV f ρ).bind fun r ρ1 => (match r, slotL ρ1 i with
    | .val d, some ds => if ds.length < bigN then .ok (.val .non) (putL ρ1 i (ds ++ [d])) else .no
    | _, _ => .no) := rfl
@[simp] theorem fStore_ap {i : Nat} : fStore i f g ρ = (fV g ρ).bind fun r ρ1 => (match slotL ρ1 i with
  | none => .no
  | some _ => (f ρ1).bind fun k ρ2 => (match r, peek k ρ2, slotL ρ2 i with
    | .val d, some (.int j), some ds => (match ixN ds.length j with
      | some n => .ok .nx (putL ρ2 i (ds.set n d))
      | none => .no)
    | _, _, _ => .no)) := rfl
@[simp] theorem fPn_ap : fPn ρ = .ok none ρ := rfl
@[simp] theorem fPs_ap : fPs f ρ = (f ρ).bind fun r ρ1 => match r with
  | .val (.int i) => .ok (some i) ρ1
  | _ => .no := rfl
@[simp] theorem fSl_ap : fSl f fo go ρ = (f ρ).bind fun a ρ1 => (fo ρ1).bind fun i ρ2 => (go ρ2).bind fun j ρ3 => match peek a ρ3 with
  | some d => optR (pSl d i j) ρ3
  | none => .no := rfl
@[simp] theorem fCall_ap {n : Nat} {F : Sem1} : fCall n F fl ρ = (fl ρ).bind fun rs ρ1 => match asVals rs with
  | some as => if as.length = n then (match F as with
    | .ok (.val d) _ => .ok (.val d) ρ1
    | .ok (.own d) _ => .ok (.own d) ρ1
    | .er x _ => .er x ρ1
    | _ => .no) else .no
  | none => .no := rfl
@[simp] theorem asVals_nil : asVals [] = some [] := rfl
@[simp] theorem asVals_cons {d : PV} {rs : List RV} : asVals (.val d :: rs) = (asVals rs).bind fun as => some (.val d :: as) := rfl
@[simp] theorem fCallD_ap {n i : Nat} {F : Sem1} : fCallD n F i fl ρ = match slotL ρ i with
  | none => .no
  | some _ => (fl ρ).bind fun rs ρ1 => (match asVals rs, slotL ρ1 i with
    | some as, some ds => if as.length + 1 = n then (match F (.bor (.lst ds) :: as) with
      | .ok (.val d) (.bor (.lst es) :: _) => .ok (.val d) (putL ρ1 i es)
      | .ok (.own d) (.bor (.lst es) :: _) => .ok (.own d) (putL ρ1 i es)
      | .er x (.bor (.lst es) :: _) => .er x (putL ρ1 i es)
      | _ => .no) else .no
    | _, _ => .no) := rfl
@[simp] theorem fPar_ap {i j : Nat} : fPar i j fl ρ = (fl ρ).bind fun rs ρ1 => match rs with
  | [r, s] => if plainR r s = true then optF ((asgR i r ρ1).bind (asgR j s)) else .no
  | _ => .no := rfl
end
@[simp] theorem asgR_val {i : Nat} {d : PV} {ρ : Rho} : asgR i (.val d) ρ = if isBor ρ i || !decide (i < ρ.length) then none else some (ρ.set i (.val d)) := rfl
@[simp] theorem asgR_own {i : Nat} {d : PV} {ρ : Rho} : asgR i (.own d) ρ = if isBor ρ i || !decide (i < ρ.length) then none else some (ρ.set i (.own d)) := rfl
@[simp] theorem asgR_ali {i j : Nat} {ρ : Rho} : asgR i (.ali j) ρ = if isBor ρ i || !decide (i < ρ.length) then none else match toVal (.ali j) ρ with
    | some (d, ρ1) => some (ρ1.set i (.val d))
    | none => none := rfl
@[simp] theorem isBor_eq {i : Nat} {ρ : Rho} : isBor ρ i = match ρ[i]? with
  | some (.bor _) => true
  | _ => false := rfl
@[simp] theorem toVal_ali {i : Nat} {ρ : Rho} : toVal (.ali i) ρ = match ρ[i]? with
    | some (.val d) => some (d, ρ)
    | some (.own d) => some (d, ρ.set i (.val d))
    | _ => none := rfl
@[simp] theorem slotL_eq {i : Nat} {ρ : Rho} : slotL ρ i = match ρ[i]? with
  | some (.own (.lst ds)) => some ds
  | some (.bor (.lst ds)) => some ds
  | _ => none := rfl
@[simp] theorem putL_eq {i : Nat} {ρ : Rho} {ds : List PV} : putL ρ i ds = match ρ[i]? with
  | some s => ρ.set i (s.put (.lst ds))
  | none => ρ := rfl
@[simp] theorem put_own {d e : PV} : SV.put (.own d) e = .own e := rfl
@[simp] theorem put_bor {d e : PV} : SV.put (.bor d) e = .bor e := rfl
@[simp] theorem wipeR_nil {ρ : Rho} : wipeR ρ [] = ρ := rfl
@[simp] theorem wipeR_cons {ρ : Rho} {v : Nat} {vs : List Nat} : wipeR ρ (v :: vs) = (wipeR ρ vs).set v .un := rfl
@[simp] theorem restoreR_nil {ρ2 ρ1 : Rho} : restoreR ρ2 ρ1 [] = ρ2 := rfl
@[simp] theorem restoreR_cons {ρ2 ρ1 : Rho} {v : Nat} {vs : List Nat} : restoreR ρ2 ρ1 (v :: vs) = match ρ1[v]? with
    | some s => (restoreR ρ2 ρ1 vs).set v s
    | none => restoreR ρ2 ρ1 vs := rfl
@[simp] theorem savable_nil {ρ : Rho} : savable ρ [] = true := rfl
@[simp] theorem savable_cons {ρ : Rho} {v : Nat} {vs : List Nat} : savable ρ (v :: vs) = ((match ρ[v]? with
  | some .un => true
  | some (.val _) => true
  | _ => false) && savable ρ vs) := rfl
@[simp] theorem gN_eq {i : Nat} {d : PV} {ρ : Rho} : gN i d ρ = if isBor ρ i || !decide (i < ρ.length) then none else some (ρ.set i (.val d)) := rfl
@[simp] theorem gNl_nil {ρ : Rho} : gNl [] ρ = some ρ := rfl
@[simp] theorem gCs_cons {f : PV → Rho → Option Rho} {g : List PV → Rho → Option Rho} {d : PV} {ds : List PV} {ρ : Rho} : gCs f g (d :: ds) ρ = (f d ρ).bind fun ρ1 => g ds ρ1 := rfl
@[simp] theorem gTp_tup {n : Nat} {g : List PV → Rho → Option Rho} {ds : List PV} {ρ : Rho} : gTp n g (.tup ds) ρ = if ds.length = n then g ds ρ else none := rfl
@[simp] theorem turnF_eq {fg : PV → Rho → Option Rho} {fb : Rho → Res Fl} {d : PV} {ρ : Rho} : turnF fg fb d ρ = match fg d ρ with
  | some ρ1 => fb ρ1
  | none => .no := rfl
@[simp] theorem plainR_vv {d e : PV} : plainR (.val d) (.val e) = true := rfl
@[simp] theorem plainR_ov {d e : PV} : plainR (.own d) (.val e) = true := rfl
@[simp] theorem plainR_vo {d e : PV} : plainR (.val d) (.own e) = true := rfl
theorem rngL_eq {lo : Int} {n : Nat} : rngL lo n = (List.range n).map fun (i : Nat) => PV.int (lo + (i : Int)) := rfl
/-! ### operators at values -/
@[simp] theorem pAdd_int {i j : Int} : pAdd (.int i) (.int j) = vI (i + j) := rfl
@[simp] theorem pAdd_tup {xs ys : List PV} : pAdd (.tup xs) (.tup ys) = guard (decide (xs.length + ys.length ≤ bigN)) (some (.val (.tup (xs ++ ys)))) := rfl
@[simp] theorem pAdd_lst {xs ys : List PV} : pAdd (.lst xs) (.lst ys) = guard (decide (xs.length + ys.length ≤ bigN)) (some (.own (.lst (xs ++ ys)))) := rfl
@[simp] theorem pSub_int {i j : Int} : pSub (.int i) (.int j) = vI (i - j) := rfl
@[simp] theorem pMul_int {i j : Int} : pMulA (.int i) (.int j) = guard (mulOk i j) (vI (i * j)) := rfl
@[simp] theorem pMul_tup {xs : List PV} {k : Int} : pMulA (.tup xs) (.int k) = guard (decide (-1000 ≤ k) && decide (k ≤ 1000) && decide (xs.length ≤ 1000)) (some (.val (.tup (List.replicate k.toNat xs).flatten))) := rfl
@[simp] theorem pMul_lst {xs : List PV} {k : Int} : pMulA (.lst xs) (.int k) = guard (decide (-1000 ≤ k) && decide (k ≤ 1000) && decide (xs.length ≤ 1000)) (some (.own (.lst (List.replicate k.toNat xs).flatten))) := rfl
@[simp] theorem pDiv_int {i j : Int} : pDiv (.int i) (.int j) = guard (divOk i j) (vI (i / j)) := rfl
@[simp] theorem pMod_int {i j : Int} : pMod (.int i) (.int j) = guard (decide (0 < j)) (vI (i % j)) := rfl
@[simp] theorem pPow_int {i j : Int} : pPow (.int i) (.int j) = guard (decide (0 ≤ j) && decide (j ≤ 1000) && decide (i.natAbs < 2 ^ 64)) (vI (i ^ j.toNat)) := rfl
@[simp] theorem pNeg_int {i : Int} : pNeg (.int i) = vI (-i) := rfl
@[simp] theorem pLt_int {i j : Int} : pLt (.int i) (.int j) = vB (decide (i < j)) := rfl
@[simp] theorem pLe_int {i j : Int} : pLe (.int i) (.int j) = vB (decide (i ≤ j)) := rfl
@[simp] theorem pGt_int {i j : Int} : pGt (.int i) (.int j) = vB (decide (j < i)) := rfl
@[simp] theorem pGe_int {i j : Int} : pGe (.int i) (.int j) = vB (decide (j ≤ i)) := rfl
@[simp] theorem guard_true {o : Option OV} : guard true o = o := rfl
@[simp] theorem guard_false {o : Option OV} : guard false o = none := rfl
@[simp] theorem pLen_lst {ds : List PV} : pLen [.lst ds] = vI ds.length := rfl
@[simp] theorem pLen_tup {ds : List PV} : pLen [.tup ds] = vI ds.length := rfl
@[simp] theorem pLen_scr {ds : List PV} : pLen [.scr ds] = vI ds.length := rfl
@[simp] theorem pAbs_int {i : Int} : pAbs [.int i] = vI (if i < 0 then -i else i) := rfl
@[simp] theorem pInt_int {i : Int} : pInt [.int i] = vI i := rfl
@[simp] theorem pInt_bl {b : Bool} : pInt [.bl b] = vI (if b then 1 else 0) := rfl
@[simp] theorem pTuple_lst {ds : List PV} : pTuple [.lst ds] = some (.val (.tup ds)) := rfl
@[simp] theorem pTuple_tup {ds : List PV} : pTuple [.tup ds] = some (.val (.tup ds)) := rfl
@[simp] theorem pList_lst {ds : List PV} : pList [.lst ds] = some (.own (.lst ds)) := rfl
@[simp] theorem pList_tup {ds : List PV} : pList [.tup ds] = some (.own (.lst ds)) := rfl
@[simp] theorem pMax_int {i j : Int} : pMax [.int i, .int j] = vI (if j > i then j else i) := rfl
@[simp] theorem pMin_int {i j : Int} : pMin [.int i, .int j] = vI (if j < i then j else i) := rfl
@[simp] theorem pIx_lst {ds : List PV} {i : Int} : pIx (.lst ds) (.int i) = seqIx ds i := rfl
@[simp] theorem pIx_tup {ds : List PV} {i : Int} : pIx (.tup ds) (.int i) = seqIx ds i := rfl
@[simp] theorem pIx_scr {ds : List PV} {i : Int} : pIx (.scr ds) (.int i) = seqIx ds i := rfl
@[simp] theorem pSl_lst {ds : List PV} {i j : Option Int} : pSl (.lst ds) i j = some (.own (.lst (cutP ds i j))) := rfl
@[simp] theorem pSl_tup {ds : List PV} {i j : Option Int} : pSl (.tup ds) i j = some (.val (.tup (cutP ds i j))) := rfl
@[simp] theorem pRevL_lst {ds : List PV} : pRevL (.lst ds) = some (.own (.lst ds.reverse)) := rfl

/-! ### data that == may compare -/
def DD (n : Nat) (d : PV) : Prop := noObj d = true ∧ (toD d).canLay0 = true ∧ (toD d).depth ≤ n
def DDs (n : Nat) (ds : List PV) : Prop := noObjs ds = true ∧ PyData.canLayAll0 (toDs ds) = true ∧ PyData.depthAll (toDs ds) ≤ n
theorem DDs.of {n : Nat} : ∀ {ds : List PV}, (∀ d ∈ ds, DD n d) → DDs n ds
  | [], _ => ⟨rfl, by simp [toDs, PyData.canLayAll0], by simp [toDs, PyData.depthAll]⟩
  | d :: ds, h => by
    obtain ⟨h1, h2, h3⟩ := h d List.mem_cons_self
    obtain ⟨k1, k2, k3⟩ := DDs.of fun e he => h e (List.mem_cons_of_mem _ he)
    refine ⟨by simp [noObjs, h1, k1], by simp [toDs, PyData.canLayAll0, h2, k2], ?_⟩
    simp only [toDs, PyData.depthAll]
    omega
theorem DD.tup {n : Nat} {ds : List PV} (h : ∀ d ∈ ds, DD n d) : DD (n + 1) (.tup ds) := by
  obtain ⟨k1, k2, k3⟩ := DDs.of h
  exact ⟨by simpa [noObj] using k1, by simpa [toD, PyData.canLay0] using k2, by simp only [toD, PyData.depth]; omega⟩
theorem DD.lst {n : Nat} {ds : List PV} (h : ∀ d ∈ ds, DD n d) : DD (n + 1) (.lst ds) := by
  obtain ⟨k1, k2, k3⟩ := DDs.of h
  exact ⟨by simpa [noObj] using k1, by simpa [toD, PyData.canLay0] using k2, by simp only [toD, PyData.depth]; omega⟩
theorem DD.int {i : Int} : DD 0 (.int i) := ⟨rfl, by simp [toD, PyData.canLay0], by simp [toD, PyData.depth]⟩
theorem DD.bl {i : Bool} : DD 0 (.bl i) := ⟨rfl, by simp [toD, PyData.canLay0], by simp [toD, PyData.depth]⟩
theorem DD.non : DD 0 .non := ⟨rfl, by simp [toD, PyData.canLay0], by simp [toD, PyData.depth]⟩
theorem DD.mono {n m : Nat} {d : PV} (h : DD n d) (l : n ≤ m) : DD m d := ⟨h.1, h.2.1, Nat.le_trans h.2.2 l⟩
theorem DD.ok {n : Nat} {d : PV} (h : DD n d) (l : n ≤ 64) : dOk d = true := by
  unfold dOk SeqAt.shaped
  rw [h.1, h.2.1, decide_eq_true (Nat.le_trans h.2.2 l)]
  rfl
def tupI (xs : List Int) : PV := .tup (xs.map .int)
theorem DD.tupI {xs : List Int} : DD 1 (tupI xs) := .tup fun d hd => by
  obtain ⟨i, _, rfl⟩ := List.mem_map.mp hd
  exact .int
theorem DD.lstI {xs : List Int} : DD 1 (.lst (xs.map .int)) := .lst fun d hd => by
  obtain ⟨i, _, rfl⟩ := List.mem_map.mp hd
  exact .int
theorem DD.tupT {xs : List (List Int)} : DD 2 (.tup (xs.map TT.tupI)) := .tup fun d hd => by
  obtain ⟨i, _, rfl⟩ := List.mem_map.mp hd
  exact .tupI
theorem DD.lstT {xs : List (List Int)} : DD 2 (.lst (xs.map TT.tupI)) := .lst fun d hd => by
  obtain ⟨i, _, rfl⟩ := List.mem_map.mp hd
  exact .tupI
@[simp] theorem ok_int {i : Int} : dOk (.int i) = true := DD.int.ok (by decide)
@[simp] theorem ok_bl {i : Bool} : dOk (.bl i) = true := DD.bl.ok (by decide)
@[simp] theorem ok_non : dOk .non = true := DD.non.ok (by decide)
@[simp] theorem ok_tupI {xs : List Int} : dOk (tupI xs) = true := DD.tupI.ok (by decide)
@[simp] theorem ok_lstI {xs : List Int} : dOk (.lst (xs.map .int)) = true := DD.lstI.ok (by decide)
@[simp] theorem ok_tupT {xs : List (List Int)} : dOk (.tup (xs.map tupI)) = true := DD.tupT.ok (by decide)
@[simp] theorem ok_lstT {xs : List (List Int)} : dOk (.lst (xs.map tupI)) = true := DD.lstT.ok (by decide)
/-! equality -/
def eqPs : List PV → List PV → Bool
  | [], [] => true
  | d :: ds, e :: es => eqP d e && eqPs ds es
  | _, _ => false
theorem eqPs_eq : ∀ (ds es : List PV), PyData.eqvAll (toDs ds) (toDs es) = eqPs ds es
  | [], [] => by simp [toDs, PyData.eqvAll, eqPs]
  | [], _ :: _ => by simp [toDs, PyData.eqvAll, eqPs]
  | _ :: _, [] => by simp [toDs, PyData.eqvAll, eqPs]
  | d :: ds, e :: es => by simp [toDs, PyData.eqvAll, eqPs, eqPs_eq ds es, eqP]
@[simp] theorem eqP_tup {ds es : List PV} : eqP (.tup ds) (.tup es) = eqPs ds es := by simp [eqP, toD, PyData.eqv, eqPs_eq]
@[simp] theorem eqP_lst {ds es : List PV} : eqP (.lst ds) (.lst es) = eqPs ds es := by simp [eqP, toD, PyData.eqv, eqPs_eq]
@[simp] theorem eqP_int {i j : Int} : eqP (.int i) (.int j) = decide (i = j) := by simp [eqP, toD, PyData.eqv, Bool.beq_eq_decide_eq]
@[simp] theorem eqP_bl {i j : Bool} : eqP (.bl i) (.bl j) = decide (i = j) := by simp [eqP, toD, PyData.eqv, Bool.beq_eq_decide_eq]
@[simp] theorem eqP_non : eqP .non .non = true := by simp [eqP, toD, PyData.eqv]
theorem eqPs_map {α : Type} [DecidableEq α] {f : α → PV} (h : ∀ a b, eqP (f a) (f b) = decide (a = b)) : ∀ (xs ys : List α), eqPs (xs.map f) (ys.map f) = decide (xs = ys)
  | [], [] => by simp [eqPs]
  | [], _ :: _ => by simp [eqPs]
  | _ :: _, [] => by simp [eqPs]
  | x :: xs, y :: ys => by simp [eqPs, h, eqPs_map h xs ys]
theorem eqPs_ints {xs ys : List Int} : eqPs (xs.map .int) (ys.map .int) = decide (xs = ys) := eqPs_map (fun _ _ => eqP_int) xs ys
@[simp] theorem eqP_tupI {xs ys : List Int} : eqP (tupI xs) (tupI ys) = decide (xs = ys) := by
  unfold tupI
  rw [eqP_tup, eqPs_ints]
theorem eqPs_tupI {xs ys : List (List Int)} : eqPs (xs.map tupI) (ys.map tupI) = decide (xs = ys) := eqPs_map (fun _ _ => eqP_tupI) xs ys
theorem anyP_map {α : Type} [DecidableEq α] {f : α → PV} (h : ∀ a b, eqP (f a) (f b) = decide (a = b)) (x : α) : ∀ ys : List α, anyP (f x) (ys.map f) = decide (x ∈ ys)
  | [] => by simp [anyP]
  | y :: ys => by
    simp only [List.map_cons, anyP, h, anyP_map h x ys, List.mem_cons]
    by_cases e : y = x
    · simp [e]
    · have e' : ¬ x = y := fun q => e q.symm
      simp [e, e']
theorem anyP_int {x : Int} {ys : List Int} : anyP (.int x) (ys.map .int) = decide (x ∈ ys) := anyP_map (fun _ _ => eqP_int) x ys
theorem anyP_tupI {x : List Int} {ys : List (List Int)} : anyP (tupI x) (ys.map tupI) = decide (x ∈ ys) := (anyP_map (f := tupI) (fun _ _ => eqP_tupI) x ys).trans (decide_eq_decide.mpr Iff.rfl)
theorem pEq_of {d e : PV} (h1 : dOk d = true) (h2 : dOk e = true) : pEq d e = vB (eqP d e) := by unfold pEq; rw [h1, h2]; rfl
theorem pNe_of {d e : PV} (h1 : dOk d = true) (h2 : dOk e = true) : pNe d e = vB (!eqP d e) := by unfold pNe; rw [h1, h2]; rfl
@[simp] theorem pEq_int {i j : Int} : pEq (.int i) (.int j) = vB (decide (i = j)) := by rw [pEq_of ok_int ok_int, eqP_int]
@[simp] theorem pNe_int {i j : Int} : pNe (.int i) (.int j) = vB (!decide (i = j)) := by rw [pNe_of ok_int ok_int, eqP_int]
@[simp] theorem pEq_tupI {i j : List Int} : pEq (tupI i) (tupI j) = vB (decide (i = j)) := by rw [pEq_of ok_tupI ok_tupI, eqP_tupI]
@[simp] theorem pNe_tupI {i j : List Int} : pNe (tupI i) (tupI j) = vB (!decide (i = j)) := by rw [pNe_of ok_tupI ok_tupI, eqP_tupI]

@[simp] theorem pEq_mm {xs ys : List Int} : pEq (.tup (xs.map .int)) (.tup (ys.map .int)) = vB (decide (xs = ys)) := pEq_tupI
@[simp] theorem pNe_mm {xs ys : List Int} : pNe (.tup (xs.map .int)) (.tup (ys.map .int)) = vB (!decide (xs = ys)) := pNe_tupI
@[simp] theorem pEq_m0 {xs : List Int} : pEq (.tup (xs.map .int)) (.tup []) = vB (decide (xs = [])) := pEq_tupI (j := [])
@[simp] theorem pNe_m0 {xs : List Int} : pNe (.tup (xs.map .int)) (.tup []) = vB (!decide (xs = [])) := pNe_tupI (j := [])
@[simp] theorem pEq_lmm {xs ys : List Int} : pEq (.lst (xs.map .int)) (.lst (ys.map .int)) = vB (decide (xs = ys)) := by rw [pEq_of ok_lstI ok_lstI, eqP_lst, eqPs_ints]
@[simp] theorem pNe_lmm {xs ys : List Int} : pNe (.lst (xs.map .int)) (.lst (ys.map .int)) = vB (!decide (xs = ys)) := by rw [pNe_of ok_lstI ok_lstI, eqP_lst, eqPs_ints]
@[simp] theorem pEq_lm0 {xs : List Int} : pEq (.lst (xs.map .int)) (.lst []) = vB (decide (xs = [])) := pEq_lmm (ys := [])
@[simp] theorem pNe_lm0 {xs : List Int} : pNe (.lst (xs.map .int)) (.lst []) = vB (!decide (xs = [])) := pNe_lmm (ys := [])
@[simp] theorem pEq_tt {xs ys : List (List Int)} : pEq (.tup (xs.map tupI)) (.tup (ys.map tupI)) = vB (decide (xs = ys)) := by rw [pEq_of ok_tupT ok_tupT, eqP_tup, eqPs_tupI]
@[simp] theorem pNe_tt {xs ys : List (List Int)} : pNe (.tup (xs.map tupI)) (.tup (ys.map tupI)) = vB (!decide (xs = ys)) := by rw [pNe_of ok_tupT ok_tupT, eqP_tup, eqPs_tupI]
@[simp] theorem pEq_ltt {xs ys : List (List Int)} : pEq (.lst (xs.map tupI)) (.lst (ys.map tupI)) = vB (decide (xs = ys)) := by rw [pEq_of ok_lstT ok_lstT, eqP_lst, eqPs_tupI]
@[simp] theorem pNe_ltt {xs ys : List (List Int)} : pNe (.lst (xs.map tupI)) (.lst (ys.map tupI)) = vB (!decide (xs = ys)) := by rw [pNe_of ok_lstT ok_lstT, eqP_lst, eqPs_tupI]
@[simp] theorem pEq_lt0 {xs : List (List Int)} : pEq (.lst (xs.map tupI)) (.lst []) = vB (decide (xs = [])) := pEq_ltt (ys := [])
@[simp] theorem pEq_t00 : pEq (.tup []) (.tup []) = vB true := pEq_tt (xs := []) (ys := [])
@[simp] theorem pNe_t00 : pNe (.tup []) (.tup []) = vB false := pNe_tt (xs := []) (ys := [])
@[simp] theorem pEq_l00 : pEq (.lst []) (.lst []) = vB true := pEq_ltt (xs := []) (ys := [])
@[simp] theorem pEq_bl {i j : Bool} : pEq (.bl i) (.bl j) = vB (decide (i = j)) := by rw [pEq_of ok_bl ok_bl, eqP_bl]
@[simp] theorem pNe_bl {i j : Bool} : pNe (.bl i) (.bl j) = vB (!decide (i = j)) := by rw [pNe_of ok_bl ok_bl, eqP_bl]
/-! ### loops -/
theorem forL_inv {P : Nat → Rho → Prop} {b : PV → Rho → Res Fl} : ∀ {items : List PV} {n : Nat} {ρ : Rho}, P n ρ → (∀ (i : Nat) (d : PV) (ρ : Rho), items[i]? = some d → P (n + i) ρ → ∃ ρ', (b d ρ = .ok .nx ρ' ∨ b d ρ = .ok .ct ρ') ∧ P (n + i + 1) ρ') → ∃ ρ', forL items b ρ = .ok .nx ρ' ∧ P (n + items.length) ρ'
  | [], n, ρ, h, _ => ⟨ρ, rfl, h⟩
  | d :: ds, n, ρ, h, hs => by
    obtain ⟨ρ1, e1, h1⟩ := hs 0 d ρ rfl h
    obtain ⟨ρ2, e2, h2⟩ := forL_inv (P := P) (b := b) (items := ds) (n := n + 1) (ρ := ρ1) h1 fun i e ρ he hp => by
      have := hs (i + 1) e ρ (by simpa using he) (by rw [show n + (i + 1) = n + 1 + i by omega]; exact hp)
      rw [show n + (i + 1) + 1 = n + 1 + i + 1 by omega] at this
      exact this
    refine ⟨ρ2, ?_, by rw [List.length_cons, show n + (ds.length + 1) = n + 1 + ds.length by omega]; exact h2⟩
    rcases e1 with e1 | e1
    · simp only [forL, e1, e2]
    · simp only [forL, e1, e2]
/-- a comprehension whose turns leave the slots as they are -/
theorem lcL_pure {vs : List Nat} {fg : PV → Rho → Option Rho} {ft : Rho → Res Bool} {fe : Rho → Res RV} {ρ : Rho} (t : PV → Bool) (f : PV → PV) : ∀ (items acc : List PV),
    (∀ d ∈ items, ∃ ρ1 ρ2, fg d ρ = some ρ1 ∧ ft ρ1 = .ok (t d) ρ2 ∧ (t d = false → wipeR ρ2 vs = ρ) ∧ (t d = true → ∃ ρ3, fV fe ρ2 = .ok (.val (f d)) ρ3 ∧ wipeR ρ3 vs = ρ)) → acc.length + items.length ≤ bigN →
    lcL vs fg ft fe items acc ρ = .ok (acc ++ (items.filter t).map f) ρ
  | [], acc, _, _ => by simp [lcL]
  | d :: ds, acc, h, hl => by
    obtain ⟨ρ1, ρ2, e1, e2, e3, e4⟩ := h d List.mem_cons_self
    have hl' : acc.length + (ds.length + 1) ≤ bigN := by simpa using hl
    unfold lcL
    rw [e1]
    simp only [e2, noEr_ok, bind_ok]
    cases q : t d with
    | false =>
      rw [if_neg Bool.false_ne_true, e3 q, lcL_pure t f ds acc (fun x hx => h x (List.mem_cons_of_mem _ hx)) (by omega)]
      simp [q]
    | true =>
      obtain ⟨ρ3, e5, e6⟩ := e4 q
      rw [if_pos rfl, e5]
      simp only [noEr_ok, bind_ok]
      rw [if_pos (by omega), e6, lcL_pure t f ds (acc ++ [f d]) (fun x hx => h x (List.mem_cons_of_mem _ hx)) (by simp; omega)]
      simp [q]
/-- a comprehension without a test whose turns change the slots -/
theorem lcL_inv {vs : List Nat} {fg : PV → Rho → Option Rho} {fe : Rho → Res RV} {P : Nat → Rho → Prop} {R : PV → Prop} : ∀ {items : List PV} {acc : List PV} {n : Nat} {ρ : Rho}, P n ρ → acc.length + items.length ≤ bigN → (∀ d ∈ acc, R d) →
    (∀ (i : Nat) (d : PV) (ρ : Rho), items[i]? = some d → P (n + i) ρ → ∃ ρ1 e ρ2, fg d ρ = some ρ1 ∧ fV fe ρ1 = .ok (.val e) ρ2 ∧ R e ∧ P (n + i + 1) (wipeR ρ2 vs)) →
    ∃ ds ρ', lcL vs fg fYes fe items acc ρ = .ok ds ρ' ∧ ds.length = acc.length + items.length ∧ (∀ d ∈ ds, R d) ∧ P (n + items.length) ρ'
  | [], acc, n, ρ, h, hl, ha, _ => ⟨acc, ρ, rfl, rfl, ha, h⟩
  | d :: ds, acc, n, ρ, h, hl, ha, hs => by
    obtain ⟨ρ1, e, ρ2, e1, e2, hr, hp⟩ := hs 0 d ρ rfl h
    have hl' : acc.length + (ds.length + 1) ≤ bigN := by simpa using hl
    obtain ⟨es, ρ', k1, k2, k3, k4⟩ := lcL_inv (P := P) (R := R) (fg := fg) (fe := fe) (vs := vs) (items := ds) (acc := acc ++ [e]) (n := n + 1) (ρ := wipeR ρ2 vs) hp (by simp; omega) (fun x hx => by
        rcases List.mem_append.mp hx with hx | hx
        · exact ha x hx
        · rw [List.mem_singleton.mp hx]; exact hr) (fun i x ρ hx hq => by
        have := hs (i + 1) x ρ (by simpa using hx) (by rw [show n + (i + 1) = n + 1 + i by omega]; exact hq)
        rw [show n + (i + 1) + 1 = n + 1 + i + 1 by omega] at this
        exact this)
    refine ⟨es, ρ', ?_, by rw [k2]; simp; omega, k3, by rw [List.length_cons, show n + (ds.length + 1) = n + 1 + ds.length by omega]; exact k4⟩
    unfold lcL
    rw [e1]
    simp only [fYes_ap, noEr_ok, bind_ok]
    rw [if_pos trivial, e2]
    simp only [noEr_ok, bind_ok]
    rw [if_pos (by omega)]
    exact k1

/-- a comprehension over encoded items -/
theorem lc_typed {α β : Type} {vs : List Nat} {fg : PV → Rho → Option Rho} {ft : Rho → Res Bool} {fe : Rho → Res RV} {ρ : Rho} (enc : α → PV) (enc' : β → PV) (t : α → Bool) (f : α → β) : ∀ (xs : List α) (acc : List PV),
    (∀ a ∈ xs, ∃ ρ1 ρ2, fg (enc a) ρ = some ρ1 ∧ ft ρ1 = .ok (t a) ρ2 ∧ (t a = false → wipeR ρ2 vs = ρ) ∧ (t a = true → ∃ ρ3, fV fe ρ2 = .ok (.val (enc' (f a))) ρ3 ∧ wipeR ρ3 vs = ρ)) → acc.length + xs.length ≤ bigN →
    lcL vs fg ft fe (xs.map enc) acc ρ = .ok (acc ++ ((xs.filter t).map f).map enc') ρ
  | [], acc, _, _ => by simp [lcL]
  | a :: xs, acc, h, hl => by
    obtain ⟨ρ1, ρ2, e1, e2, e3, e4⟩ := h a List.mem_cons_self
    have hl' : acc.length + (xs.length + 1) ≤ bigN := by simpa using hl
    rw [List.map_cons]
    unfold lcL
    rw [e1]
    simp only [e2, noEr_ok, bind_ok]
    cases q : t a with
    | false =>
      rw [if_neg Bool.false_ne_true, e3 q, lc_typed enc enc' t f xs acc (fun x hx => h x (List.mem_cons_of_mem _ hx)) (by omega)]
      simp [q]
    | true =>
      obtain ⟨ρ3, e5, e6⟩ := e4 q
      rw [if_pos rfl, e5]
      simp only [noEr_ok, bind_ok]
      rw [if_pos (by omega), e6, lc_typed enc enc' t f xs (acc ++ [enc' (f a)]) (fun x hx => h x (List.mem_cons_of_mem _ hx)) (by simp; omega)]
      simp [q]
/-- a comprehension that keeps nothing -/
theorem lcL_skip {vs : List Nat} {fg : PV → Rho → Option Rho} {ft : Rho → Res Bool} {fe : Rho → Res RV} {P : Nat → Rho → Prop} {acc : List PV} : ∀ {items : List PV} {n : Nat} {ρ : Rho}, P n ρ →
    (∀ (i : Nat) (d : PV) (ρ : Rho), items[i]? = some d → P (n + i) ρ → ∃ ρ1 ρ2, fg d ρ = some ρ1 ∧ ft ρ1 = .ok false ρ2 ∧ P (n + i + 1) (wipeR ρ2 vs)) →
    ∃ ρ', lcL vs fg ft fe items acc ρ = .ok acc ρ' ∧ P (n + items.length) ρ'
  | [], n, ρ, h, _ => ⟨ρ, rfl, h⟩
  | d :: ds, n, ρ, h, hs => by
    obtain ⟨ρ1, ρ2, e1, e2, hp⟩ := hs 0 d ρ rfl h
    obtain ⟨ρ', k1, k2⟩ := lcL_skip (P := P) (fg := fg) (ft := ft) (fe := fe) (vs := vs) (acc := acc) (items := ds) (n := n + 1) (ρ := wipeR ρ2 vs) hp (fun i x ρ hx hq => by
        have := hs (i + 1) x ρ (by simpa using hx) (by rw [show n + (i + 1) = n + 1 + i by omega]; exact hq)
        rw [show n + (i + 1) + 1 = n + 1 + i + 1 by omega] at this
        exact this)
    refine ⟨ρ', ?_, by rw [List.length_cons, show n + (ds.length + 1) = n + 1 + ds.length by omega]; exact k2⟩
    unfold lcL
    rw [e1]
    simp only [e2, noEr_ok, bind_ok]
    rw [if_neg Bool.false_ne_true]
    exact k1
theorem seqIx_map {α : Type} {f : α → PV} (xs : List α) (i : Nat) : seqIx (xs.map f) (i : Int) = (xs[i]?).map fun x => .val (f x) := by
  unfold seqIx atI ixN
  rw [List.length_map, if_pos (Int.natCast_nonneg i)]
  by_cases h : i < xs.length
  · rw [if_pos (by omega)]
    simp [h]
  · rw [if_neg (by omega)]
    simp [List.getElem?_eq_none (by omega : xs.length ≤ i)]
theorem sIx_neg1 (n : Nat) : HT.sIx n n (some (-1)) = n - 1 := by
  unfold HT.sIx
  simp
  omega
theorem sIx_neg2 (n : Nat) : HT.sIx n n (some (-2)) = n - 2 := by
  unfold HT.sIx
  simp
  omega
theorem cutP_map {α β : Type} (f : α → β) (xs : List α) (i j : Option Int) : cutP (xs.map f) i j = (cutP xs i j).map f := by
  unfold cutP
  rw [List.length_map, ← List.map_drop, ← List.map_take]
theorem cutP_take {α : Type} (xs : List α) (k : Nat) : cutP xs none (some (k : Int)) = xs.take k := by
  unfold cutP
  rw [HT.sIx_none, HT.sIx_nat, List.drop_zero, Nat.sub_zero]
  by_cases h : k ≤ xs.length
  · rw [Nat.min_eq_left h]
  · rw [Nat.min_eq_right (by omega), List.take_of_length_le (by omega), List.take_of_length_le (by omega)]
theorem cutP_drop {α : Type} (xs : List α) (k : Nat) : cutP xs (some (k : Int)) none = xs.drop k := by
  unfold cutP
  rw [HT.sIx_none, HT.sIx_nat]
  by_cases h : k ≤ xs.length
  · rw [Nat.min_eq_left h]
    exact List.take_of_length_le (by rw [List.length_drop]; exact Nat.le_refl _)
  · rw [Nat.min_eq_right (by omega), List.drop_of_length_le (Nat.le_refl _), List.drop_of_length_le (by omega)]
    simp
theorem cutP_m1 {α : Type} (xs : List α) : cutP xs none (some (-1)) = xs.take (xs.length - 1) := by
  unfold cutP
  rw [HT.sIx_none, sIx_neg1, List.drop_zero, Nat.sub_zero]
theorem cutP_m2 {α : Type} (xs : List α) : cutP xs none (some (-2)) = xs.take (xs.length - 2) := by
  unfold cutP
  rw [HT.sIx_none, sIx_neg2, List.drop_zero, Nat.sub_zero]
theorem asBls_map : ∀ bs : List Bool, asBls (bs.map .bl) = some bs
  | [] => rfl
  | b :: bs => by simp [asBls, asBls_map bs]
theorem asInts_map : ∀ bs : List Int, asInts (bs.map .int) = some bs
  | [] => rfl
  | b :: bs => by simp [asInts, asInts_map bs]
@[simp] theorem pAll_bls {bs : List Bool} : pAll [.lst (bs.map .bl)] = vB (bs.all id) := by
  simp [pAll, seqOf, asBls_map]
@[simp] theorem pIn_lst {d : PV} {es : List PV} : pIn d (.lst es) = if (dOk d && dOk (.lst es)) = true then vB (anyP d es) else none := by
  unfold pIn inP
  simp only
  split <;> rfl
@[simp] theorem pIn_tup {d : PV} {es : List PV} : pIn d (.tup es) = if (dOk d && dOk (.tup es)) = true then vB (anyP d es) else none := by
  unfold pIn inP
  simp only
  split <;> rfl
theorem lc_map {α β : Type} {vs : List Nat} {fg : PV → Rho → Option Rho} {fe : Rho → Res RV} {ρ : Rho} (enc : α → PV) (enc' : β → PV) (f : α → β) (xs : List α)
    (h : ∀ a ∈ xs, ∃ ρ1 ρ3, fg (enc a) ρ = some ρ1 ∧ fV fe ρ1 = .ok (.val (enc' (f a))) ρ3 ∧ wipeR ρ3 vs = ρ) (hl : xs.length ≤ bigN) :
    lcL vs fg fYes fe (xs.map enc) [] ρ = .ok ((xs.map f).map enc') ρ := by
  have := lc_typed (vs := vs) (fg := fg) (ft := fYes) (fe := fe) (ρ := ρ) enc enc' (fun _ => true) f xs [] (fun a ha => by
    obtain ⟨ρ1, ρ3, e1, e2, e3⟩ := h a ha
    exact ⟨ρ1, ρ1, e1, rfl, (fun z => by cases z), fun _ => ⟨ρ3, e2, e3⟩⟩) (by simpa using hl)
  rw [this, List.nil_append, List.filter_eq_self.mpr (fun _ _ => rfl)]
theorem lc_filter {α : Type} {vs : List Nat} {fg : PV → Rho → Option Rho} {ft : Rho → Res Bool} {fe : Rho → Res RV} {ρ : Rho} (enc : α → PV) (t : α → Bool) (xs : List α)
    (h : ∀ a ∈ xs, ∃ ρ1 ρ2, fg (enc a) ρ = some ρ1 ∧ ft ρ1 = .ok (t a) ρ2 ∧ (t a = false → wipeR ρ2 vs = ρ) ∧ (t a = true → ∃ ρ3, fV fe ρ2 = .ok (.val (enc a)) ρ3 ∧ wipeR ρ3 vs = ρ)) (hl : xs.length ≤ bigN) :
    lcL vs fg ft fe (xs.map enc) [] ρ = .ok ((xs.filter t).map enc) ρ := by
  have := lc_typed (vs := vs) (fg := fg) (ft := ft) (fe := fe) (ρ := ρ) enc enc t id xs [] h (by simpa using hl)
  rw [this, List.nil_append, List.map_id]
/-! ### sizes of numbers -/
theorem mulOk_of {i j : Int} (hi : i.natAbs < 2 ^ 2000) (hj : j.natAbs < 2 ^ 2000) : mulOk i j = true := by
  have h1 := PySem.Flt.log2_lt_of (by decide) hi
  have h2 := PySem.Flt.log2_lt_of (by decide) hj
  exact decide_eq_true (by omega)
theorem divOk_of {i j : Int} (h : 0 < j) (hj : j.natAbs < 2 ^ 2000) : divOk i j = true := by
  have h2 := PySem.Flt.log2_lt_of (by decide) hj
  unfold divOk
  rw [decide_eq_true h, decide_eq_true (by omega)]
  rfl
theorem abs_lt_of {i b : Int} (h0 : 0 ≤ i) (h1 : i < b) (hb : b ≤ 2 ^ 2000) : i.natAbs < 2 ^ 2000 := by
  have h2 : i < 2 ^ 2000 := Int.lt_of_lt_of_le h1 hb
  have h3 : ((i.natAbs : Nat) : Int) = i := Int.natAbs_of_nonneg h0
  have h4 : ((i.natAbs : Nat) : Int) < ((2 ^ 2000 : Nat) : Int) := by rw [h3]; exact_mod_cast h2
  exact_mod_cast h4
@[simp] theorem ix3_0 {x y z : PV} : seqIx [x, y, z] 0 = some (.val x) := rfl
@[simp] theorem ix3_1 {x y z : PV} : seqIx [x, y, z] 1 = some (.val y) := rfl
@[simp] theorem ix3_2 {x y z : PV} : seqIx [x, y, z] 2 = some (.val z) := rfl
@[simp] theorem ixN3_0 : ixN 3 0 = some 0 := rfl
@[simp] theorem ixN3_2 : ixN 3 2 = some 2 := rfl
end TT

set_option Elab.async false
set_option linter.all false
set_option maxRecDepth 100000
namespace TT
open PySem PySem.Spec L2
/-! ### objects -/
section
variable {K : PySem.W.Frag} {Z H : Hp}
theorem zip_look {f : Str} : ∀ {ns : List Str} {xs : List V} {ds : List PV} {d : PV}, DnAll K Z xs ds → List.lookup f (ns.zip ds) = some d → ∃ v, List.lookup f (ns.zip xs) = some v ∧ Dn K Z v d
  | [], _, _, _, _, e => by cases e
  | _ :: _, _, _, _, .nil, e => by cases e
  | n :: ns, _, _, d, .cons (v := v) h t, e => by
    rw [List.zip_cons_cons, List.lookup_cons] at e ⊢
    cases q : f == n with
    | true => rw [q] at e; cases e; exact ⟨_, rfl, h⟩
    | false => rw [q] at e; exact zip_look t e
theorem zip_none {f : Str} : ∀ {ns : List Str} {xs : List V} {ds : List PV}, DnAll K Z xs ds → List.lookup f (ns.zip ds) = none → List.lookup f (ns.zip xs) = none
  | [], _, _, _, _ => rfl
  | _ :: _, _, _, .nil, _ => rfl
  | n :: ns, _, _, .cons h t, e => by
    rw [List.zip_cons_cons, List.lookup_cons] at e ⊢
    cases q : f == n with
    | true => rw [q] at e; cases e
    | false => rw [q] at e; exact zip_none t e
theorem putF_new {f : Str} {v : V} : ∀ {fs : List (Str × V)}, List.lookup f fs = none → putF f v fs = fs ++ [(f, v)]
  | [], _ => rfl
  | (g, w) :: fs, e => by
    rw [List.lookup_cons] at e
    unfold putF
    cases q : f == g with
    | true => rw [q] at e; cases e
    | false =>
      rw [q] at e
      have ih := putF_new (v := v) e
      have ne : g ≠ f := fun z => by subst z; simp at q
      simp [ne, ih]
end
/-- what an object is read as -/
def isObjV (c : Str) (d : PV) : Option (List (Str × PV)) := match d with
  | .obj c' fs => if c' = c then some fs else none
  | _ => none
theorem isObjV_eq {c : Str} {d : PV} {fs : List (Str × PV)} (h : isObjV c d = some fs) : d = .obj c fs := by
  unfold isObjV at h
  split at h
  · split at h
    · rename_i e; cases h; rw [e]
    · cases h
  · cases h
/-- e.f, a field of an object of the class c -/
def fFld (c f : Str) (g : Rho → Res RV) : Rho → Res RV := fun ρ => (g ρ).bind fun r ρ1 => match (peek r ρ1).bind (isObjV c) with
  | some fs => (match List.lookup f fs with
    | some d => .ok (.val d) ρ1
    | none => .no)
  | none => .no
def fAlt (f g : Rho → Res RV) : Rho → Res RV := fun ρ => match f ρ with
  | .no => g ρ
  | r => r
section
variable {X : Cx} {W : WX} {e : Expr} {g g' : Rho → Res RV} {c f : Str} {pos : Pos}
theorem se_alt [Tabl] (h : SE X W e g) (h' : SE X W e g') : SE X W e (fAlt g g') := ⟨fun pins s σ H Q I ⟨C, ρ, Z, hK, hm, R, q⟩ => by
  unfold fAlt at q
  cases e1 : g ρ with
  | no => rw [e1] at q; exact h'.run pins s σ H Q I ⟨C, ρ, Z, hK, hm, R, q⟩
  | ok r ρ1 => rw [e1] at q; exact h.run pins s σ H Q I ⟨C, ρ, Z, hK, hm, R, by rw [e1]; exact q⟩
  | er x ρ1 => rw [e1] at q; exact h.run pins s σ H Q I ⟨C, ρ, Z, hK, hm, R, by rw [e1]; exact q⟩⟩
theorem Pk.obj {K : PySem.W.Frag} {Z H : Hp} {v : V} {fs : List (Str × PV)} (h : Pk K Z H v (.obj c fs)) : ∃ (a dx : Addr) (ns : List Str) (xs : List V) (ds : List PV), v = .ref a ∧ H a = some (.ins (He.ga K c) dx (ns.zip xs)) ∧ fs = ns.zip ds ∧ ns.length = ds.length ∧ DnAll K Z xs ds := h
theorem se_fld [Tabl] (cl : Cls X.K (He.ga X.K c)) (na : NoAttr X.K (He.ga X.K c) f) (he : SE X W e g) (hb : attributeBase e f X.env (eval e X.env) = eval e X.env := by rfl) : SE X W (.Attribute e f pos) (fFld c f g) :=
  se_of (pe_fld he hb) fun C ρ σ Z H Q hK hm R q => by
    show TF X.K X.mg W g σ H fun x H1 => ∃ a C dx fs v, x = .ref a ∧ H1 a = some (.ins C dx fs) ∧ Cls X.K C ∧ NoAttr X.K C f ∧ List.lookup f fs = some v ∧ Q v H1
    rw [← hK, ← hm]
    refine tf_bind (P := fun r => Aft C W σ Z r Q) R q (fun _ _ h => h) (fun h => h) fun r ρ1 v Z1 H1 R1 l dn q => ?_
    cases e1 : peek r ρ1 with
    | none => rw [e1] at q; exact q.elim
    | some d =>
      rw [e1] at q
      simp only [Option.bind_some] at q
      cases e2 : isObjV c d with
      | none => rw [e2] at q; exact q.elim
      | some fs =>
        rw [e2] at q
        simp only at q
        have := isObjV_eq e2
        subst this
        cases e3 : List.lookup f fs with
        | none => rw [e3] at q; exact q.elim
        | some d =>
          rw [e3] at q
          obtain ⟨a, dx, ns, xs, ds, rfl, hx, rfl, hl, t⟩ := Pk.obj (dn.pk R1 e1)
          obtain ⟨v, h1, h2⟩ := zip_look t e3
          rw [hK] at hx
          exact ⟨a, _, dx, _, v, rfl, hx, hK ▸ cl, hK ▸ na, h1, q v Z1 H1 R1 l h2⟩
end
end TT

set_option Elab.async false
set_option linter.all false
set_option maxRecDepth 100000
namespace TT
open PySem PySem.Spec L2
theorem passN {X : Cx} : Passes (L2.CX X.prog X.w) X (fun _ _ _ => False) := fun pins σ H s e s' I h => by
  obtain ⟨_, _, _, _, _, _, _, _, _, _, _, _, z⟩ := h
  exact z.elim
theorem passNX {X : Cx} : Passes (L2.CX X.prog X.w) X.nox (fun _ _ _ => False) := fun pins σ H s e s' I h => by
  obtain ⟨_, _, _, _, _, _, _, _, _, _, _, _, z⟩ := h
  exact z.elim
/-- what comes of a method -/
def outM (r : Res RV) (ρ : Rho) : Res RV := match r with
  | .ok (.val d) _ => .ok (.val d) ρ
  | .ok (.own d) _ => .ok (.own d) ρ
  | _ => .no
/-- e.f, a property of the class c -/
def fProp (c : Str) (F : Sem1) (g : Rho → Res RV) : Rho → Res RV := fun ρ => (fV g ρ).bind fun r ρ1 => match r with
  | .val d => (match isObjV c d with
    | some fs => outM (F [.val d]) ρ1
    | none => .no)
  | _ => .no
/-- e.m(..), a method of the class c -/
def fMeth (c m : Str) (n : Nat) (F : Sem1) (g : Rho → Res RV) (fl : Rho → Res (List RV)) : Rho → Res RV := fun ρ => (fV g ρ).bind fun r ρ1 => match r with
  | .val d => (match isObjV c d with
    | some fs => if (List.lookup m fs).isNone = true then (fl ρ1).bind fun rs ρ2 => (match asVals rs with
      | some as => if as.length + 1 = n then outM (F (.val d :: as)) ρ2 else .no
      | none => .no) else .no
    | none => .no)
  | _ => .no
section
variable {C : Ct} {W : WX} {ρ ρ' : Rho} {σ σ' : Sg} {Z Z' H H' : Hp} {v : V} {d : PV}
theorem outM_ok [Tabl] {K : PySem.W.Frag} {mg : Str → Option Value} {n : Nat} {F : Sem1} {as : List SV} {vs : List V} {Q : VK} (hK : C.K = K) (hm : C.mg = mg) (R : Rel C ρ σ Z H) (hl : as.length = vs.length) (hn : as.length = n)
    (hv : ∀ (i : Nat) (s : SV), as[i]? = some s → ∃ (v : V) (d : PV), s = .val d ∧ vs[i]? = some v ∧ Dn C.K Z v d) (q : Aft C W σ Z (outM (F as) ρ) Q) : spF K mg n F vs H Q (fun _ _ _ => False) := by
  have Rc := R.callV hl hv
  refine ⟨hl.symm.trans hn, C.call Z H none, as, Z, hK, hm, Rc, (fun a h => by cases (show none = some a from h)), ?_⟩
  cases e2 : F as with
  | no => rw [e2] at q; exact q.elim
  | er y as' => rw [e2] at q; exact q.elim
  | ok r as' =>
    rw [e2] at q
    intro v Z' H' R' l dn
    cases r with
    | ali i => exact q.elim
    | val d => exact q v Z' H' (R.backV R') l dn
    | own d =>
      have Rb := R.backV R'
      obtain ⟨a, rfl, h2, h3, h4⟩ := own_backV R (fun a h => by cases h) dn
      refine q _ Z' H' Rb l ⟨a, rfl, h2, h3, .inl (R.fresh0 h4), fun i hi ei => ?_⟩
      obtain ⟨b, d', e', _, ob, _⟩ := R.objA hi
      rw [ei] at e'; cases e'
      exact ob.ntn h4
theorem Dn.obj_inv {K : PySem.W.Frag} {c : Str} {fs : List (Str × PV)} (h : Dn K Z v (.obj c fs)) : ∃ (a dx : Addr) (ns : List Str) (xs : List V) (ds : List PV), v = .ref a ∧ Z a = some (.ins (He.ga K c) dx (ns.zip xs)) ∧ fs = ns.zip ds ∧ ns.length = ds.length ∧ DnAll K Z xs ds := by
  generalize e : PV.obj c fs = d at h
  cases h with
  | obj h e2 t => cases e; exact ⟨_, _, _, _, _, rfl, h, rfl, e2, t⟩
  | _ => cases e
end
section
variable {X : Cx} {W : WX} {e o : Expr} {g : Rho → Res RV} {c f m : Str} {pos apos : Pos} {k n j : Nat} {F : Sem1} {fl : Rho → Res (List RV)} {es : List Expr}
/-- a property of a class, for a caller -/
structure PrC [Tabl] (P : Program) (w : World) (K : PySem.W.Frag) (mg : Str → Option Value) (base : Heap) (c f : Str) (F : Sem1) (k : Nat) : Prop where
  ex : ∃ p ga fd ps, PropOf K (He.ga K c) f p ga ∧ Cls K (He.ga K c) ∧ FnOk P w K mg base (L2.CX P w) k ga fd ps (spF K mg 1 F) ∧ Binds K fd ps []
structure MeC [Tabl] (P : Program) (w : World) (K : PySem.W.Frag) (mg : Str → Option Value) (base : Heap) (c m : Str) (n : Nat) (F : Sem1) (k : Nat) : Prop where
  ex : ∃ ga fd ps, Meth K (He.ga K c) m ga ∧ Cls K (He.ga K c) ∧ FnOk P w K mg base (L2.CX P w) k ga fd ps (spF K mg n F) ∧ Binds K fd ps []
theorem se_prop [Tabl] (p : PrC X.prog X.w X.K X.mg X.base c f F k) (hr : Room j X.A) (he : SE X W e g) (hk : k + 1 ≤ j := by decide) (hb : attributeBase e f X.env (eval e X.env) = eval e X.env := by rfl) : SE X W (.Attribute e f pos) (fProp c F g) := by
  obtain ⟨pa, ga, fd, ps, h1, h2, G, hbi⟩ := p.ex
  refine se_of (pe_prop (se_v he) h2 h1 G (hr.mono hk) hbi .nil passNX hb) fun C ρ σ Z H Q hK hm R q => ?_
  show TF X.K X.mg W (fV g) σ H fun x H1 => ∃ a dx fs, x = .ref a ∧ H1 a = some (.ins (He.ga X.K c) dx fs) ∧ spF X.K X.mg 1 F [.ref a] H1 Q (fun _ _ _ => False)
  rw [← hK, ← hm]
  refine tf_bind (P := fun r => Aft C W σ Z r Q) R q (fun _ _ h => h) (fun h => h) fun r ρ1 v Z1 H1 R1 l dn q => ?_
  cases r with
  | own d => exact q.elim
  | ali i => exact q.elim
  | val d =>
    simp only at q
    cases e2 : isObjV c d with
    | none => rw [e2] at q; exact q.elim
    | some fs =>
      rw [e2] at q
      have := isObjV_eq e2
      subst this
      have dn' : Dn C.K Z1 v (.obj c fs) := dn
      obtain ⟨a, dx, ns, xs, ds, rfl, hx, rfl, hl, t⟩ := dn'.obj_inv
      refine ⟨a, dx, _, rfl, R1.le _ _ hx, outM_ok rfl rfl R1 rfl rfl (fun i s h => ?_) (Aft.mono q l)⟩
      cases i with
      | zero => simp at h; exact ⟨_, _, h.symm, rfl, dn'⟩
      | succ i => simp at h
theorem meth_ok [Tabl] {C : Ct} {ρ : Rho} {σ : Sg} {Z H : Hp} {Q : VK} (hK : C.K = X.K) (hm0 : C.mg = X.mg) (R : Rel C ρ σ Z H) (q : Aft C W σ Z (fMeth c m n F g fl ρ) Q) {t : TA}
    (ht : ∀ σ H Q, TAr X.K X.mg W fl σ H Q → t σ H Q) : tMeth (He.ga X.K c) m (spF X.K X.mg n F) [] (fun _ _ _ => False) (TF X.K X.mg W (fV g)) t σ H Q := by
  show TF X.K X.mg W (fV g) σ H fun x H1 => ∃ a dx fs, x = .ref a ∧ H1 a = some (.ins (He.ga X.K c) dx fs) ∧ List.lookup m fs = none ∧ t σ H1 fun vs H2 => spF X.K X.mg n F (x :: (vs ++ [])) H2 Q (fun _ _ _ => False)
  rw [← hK, ← hm0]
  refine tf_bind (P := fun r => Aft C W σ Z r Q) R q (fun _ _ h => h) (fun h => h) fun r ρ1 v Z1 H1 R1 l dn q => ?_
  cases r with
  | own d => exact q.elim
  | ali i => exact q.elim
  | val d =>
    simp only at q
    cases e2 : isObjV c d with
    | none => rw [e2] at q; exact q.elim
    | some fs =>
      rw [e2] at q
      simp only at q
      have := isObjV_eq e2
      subst this
      by_cases hlk : (List.lookup m fs).isNone = true
      · rw [if_pos hlk] at q
        have dn' : Dn C.K Z1 v (.obj c fs) := dn
        obtain ⟨a, dx, ns, xs, ds, rfl, hx, rfl, hl, tt⟩ := dn'.obj_inv
        refine ⟨a, dx, _, rfl, R1.le _ _ hx, zip_none tt (Option.isNone_iff_eq_none.mp hlk), ht _ _ _ ?_⟩
        rw [← hK, ← hm0]
        have R1b := R1.base
        refine ta_bind (C := C.at ρ1 σ Z1 H1) (P := fun r => Aft C W σ Z r Q) R1b q (fun y ρ' hy => AftX.base R1 (AftX.mono hy l)) (fun h => h) fun rs ρ2 vs Z2 H2 R2' l2 d2 q => ?_
        have R2 := R1.unbase R2'
        have q' : Aft C W σ Z (match asVals rs with
          | some as => if as.length + 1 = n then outM (F (.val (.obj c (ns.zip ds)) :: as)) ρ2 else .no
          | none => .no) Q := q
        cases e1 : asVals rs with
        | none => rw [e1] at q'; exact q'.elim
        | some as =>
          rw [e1] at q'
          simp only at q'
          by_cases hn : as.length + 1 = n
          · rw [if_pos hn] at q'
            obtain ⟨hl, hv⟩ := asVals_dn d2 e1
            rw [List.append_nil]
            refine outM_ok (as := .val (.obj c (ns.zip ds)) :: as) (vs := .ref a :: vs) rfl rfl R2 (by simpa using hl) hn (fun i s h => ?_) (Aft.mono q' (l.trans l2))
            cases i with
            | zero => simp at h; exact ⟨_, _, h.symm, rfl, dn'.mono l2⟩
            | succ i =>
              obtain ⟨v, d, h1, h2, h3⟩ := hv i s (by simpa using h)
              exact ⟨v, d, h1, by simpa using h2, h3⟩
          · rw [if_neg hn] at q'; exact q'.elim
      · rw [if_neg hlk] at q; exact q.elim
theorem se_meth [Tabl] (p : MeC X.prog X.w X.K X.mg X.base c m n F k) (hr : Room j X.A) (ho : SE X W o g) (ha : SA X W (e :: es) fl) (hk : k ≤ j := by decide)
    (he : starEach (e :: es) X.env = (false, eval e X.env) :: starEach es X.env := by rfl) (hpl : (backTo pos (starEach es X.env)).any (·.1) = false := by rfl) {pl : Sem Bool}
    (hev : eval (.Call (.Attribute o m apos) (e :: es) [] pos) X.env = (do
                              let ov ← eval o X.env
                              standAt apos.atName
                              let (f, first) ← holding [ov] (getMethod ov m pl)
                              callWith pos f first (backTo pos (starEach (e :: es) X.env)) (backToKw pos (keywordEach [] X.env))) := by rfl) : SE X W (.Call (.Attribute o m apos) (e :: es) [] pos) (fMeth c m n F g fl) := by
  obtain ⟨ga, fd, ps, h1, h2, G, hbi⟩ := p.ex
  exact se_of (pe_meth (se_v ho) h2 h1 G (hr.mono hk) hbi .nil passN ha he hpl hev) fun C ρ σ Z H Q hK hm R q => meth_ok hK hm R q (fun _ _ _ h => h)
theorem se_meth0 [Tabl] (p : MeC X.prog X.w X.K X.mg X.base c m n F k) (hr : Room j X.A) (ho : SE X W o g) (hk : k ≤ j := by decide) {pl : Sem Bool}
    (hev : eval (.Call (.Attribute o m apos) [] [] pos) X.env = (do
                              let ov ← eval o X.env
                              standAt apos.atName
                              let (f, first) ← holding [ov] (getMethod ov m pl)
                              callWith pos f first (backTo pos (starEach [] X.env)) (backToKw pos (keywordEach [] X.env))) := by rfl) : SE X W (.Call (.Attribute o m apos) [] [] pos) (fMeth c m n F g fNil) := by
  obtain ⟨ga, fd, ps, h1, h2, G, hbi⟩ := p.ex
  refine se_of (pe_meth0 (se_v ho) h2 h1 G (hr.mono hk) hbi .nil passN hev) fun C ρ σ Z H Q hK hm R q => meth_ok hK hm R q (fun σ H Q h => ?_)
  obtain ⟨C, ρ, Z, _, _, R, q⟩ := h
  exact q [] Z H R (Zle.refl _) trivial
end
end TT

set_option Elab.async false
set_option linter.all false
set_option maxRecDepth 100000
namespace TT
open PySem PySem.Spec L2
/-! ### a field stored -/
def fSetF (c f : Str) (i : Nat) (g : Rho → Res RV) : Rho → Res Fl := fun ρ => (fV g ρ).bind fun r ρ1 => match r, ρ1[i]? with
  | .val d, some (.bor o) => (match isObjV c o with
    | some fs => if (List.lookup f fs).isNone = true ∧ fs.length < 900 then .ok .nx (ρ1.set i (.bor (.obj c (fs ++ [(f, d)])))) else .no
    | none => .no)
  | _, _ => .no
theorem zip_snoc {α : Type} {f : Str} {x : α} {ns : List Str} {xs : List α} (h : ns.length = xs.length) : (ns ++ [f]).zip (xs ++ [x]) = ns.zip xs ++ [(f, x)] := by
  rw [List.zip_append h]
  rfl
section
variable {X : Cx} {W : WX} {e : Expr} {g : Rho → Res RV} {c f x : Str} {i : Nat} {p pos pos' : Pos}
theorem ss_setF [Tabl] (cl : Cls X.K (He.ga X.K c)) (na : NoAttr X.K (He.ga X.K c) f) (hN : X.N[i]? = some x) (hv : Vis X.env.scope x) (he : SE X W e g) (hd : (x == ("__debug__" : Str)) = false := by decide) (hcd : (x == ("__classdict__" : Str)) = false := by decide)
    (hs : swapsWith e (some (.Attribute (.Name x p) f pos')) pos.line X.env = pure false := by rfl) : SS X W (.Assign [.Attribute (.Name x p) f pos'] e pos) (fSetF c f i g) :=
  ss_of (ps_fld (pe_var hN hv hd hcd) (se_v he) hs) fun C ρ σ Z H D hK hm R q => by
    show TF X.K X.mg W (fV g) σ H fun y H1 => ∃ v, σ[i]? = some (some v) ∧ ∃ a C dx fs, v = .ref a ∧ H1 a = some (.ins C dx fs) ∧ Cls X.K C ∧ NoAttr X.K C f ∧ fs.length < 1000 ∧ D.nx σ (upd H1 a (.ins C dx (putF f y fs)))
    rw [← hK, ← hm]
    refine tf_bind (P := fun r => AftS C W Z r D) R q (fun _ _ h => h σ) (fun h => h) fun r ρ1 v Z1 H1 R1 l dn q => ?_
    cases r with
    | own d => exact q.elim
    | ali j => exact q.elim
    | val d =>
      cases e1 : ρ1[i]? with
      | none => rw [e1] at q; exact q.elim
      | some s =>
        rw [e1] at q
        cases s with
        | un => exact q.elim
        | val _ => exact q.elim
        | own _ => exact q.elim
        | bor o =>
          simp only at q
          cases e2 : isObjV c o with
          | none => rw [e2] at q; exact q.elim
          | some fs =>
            rw [e2] at q
            simp only at q
            have := isObjV_eq e2
            subst this
            by_cases hc : (List.lookup f fs).isNone = true ∧ fs.length < 900
            · rw [if_pos hc] at q
              obtain ⟨a, ha, hz, ⟨dx, ns, xs, ds, hx, rfl, hl, t⟩, h0⟩ := R1.obj i _ _ e1 rfl rfl
              have hlen := t.length
              have hnx : ns.length = xs.length := by omega
              have hzl : (ns.zip xs).length = (ns.zip ds).length := by rw [List.length_zip, List.length_zip, hlen]
              have hp := putF_new (v := v) (zip_none t (Option.isNone_iff_eq_none.mp hc.1))
              refine ⟨.ref a, ha, a, _, dx, _, rfl, hx, ?_, ?_, by omega, ?_⟩
              · rw [hK]; exact cl
              · rw [hK]; exact na
              · rw [hp, ← zip_snoc hnx]
                have ob : Ob C.K Z1 (upd H1 a (.ins (He.ga C.K c) dx ((ns ++ [f]).zip (xs ++ [v])))) a (.obj c (ns.zip ds ++ [(f, d)])) :=
                  ⟨dx, ns ++ [f], xs ++ [v], ds ++ [d], upd_same, (zip_snoc hl).symm, by simp [hl], t.append (.cons dn .nil)⟩
                exact q σ Z1 _ (R1.put e1 rfl ha ob) l
            · rw [if_neg hc] at q; exact q.elim
end
/-! ### an object made -/
section
variable {C : Ct} {W : WX} {ρ ρ' : Rho} {σ σ' : Sg} {Z Z' H H' : Hp} {v : V} {d : PV}
theorem Rel.callB [Tabl] (R : Rel C ρ σ Z H) {vs : List V} {as : List SV} {a : Addr} {o : PV} (hz : Z a = none) (ho : Ob C.K Z H a o) (hl : as.length = vs.length)
    (hv : ∀ (i : Nat) (s : SV), as[i]? = some s → ∃ (v : V) (d : PV), s = .val d ∧ vs[i]? = some v ∧ Dn C.K Z v d) : Rel (C.call Z H (some a)) (.bor o :: as) ((.ref a :: vs).map some) Z H := by
  have ob0 : ∀ {i : Nat}, isObj (.bor o :: as) i → i = 0 := fun {i} ⟨s, e, q⟩ => by
    cases i with
    | zero => rfl
    | succ i =>
      obtain ⟨v, d, rfl, _⟩ := hv i s (by simpa using e)
      cases q
  refine ⟨by simpa using hl, R.le, fun i d h => ?_, fun i s d h q g => ?_, fun i j b hi hj _ _ => (ob0 hi).trans (ob0 hj).symm, fun i d h => ?_, fun a h _ => ⟨(nt_eq h).symm, rfl⟩, Zle.refl _, fun a h => h, R.tab, nt_NT, R.zt⟩
  · cases i with
    | zero => simp at h
    | succ i =>
      obtain ⟨v, d', e1, e2, e3⟩ := hv i _ (by simpa using h)
      cases e1
      exact ⟨v, by simp [e2], e3⟩
  · have h0 := ob0 ⟨s, h, q⟩
    subst h0
    simp at h
    subst h
    cases g
    exact ⟨a, rfl, hz, ho, .inr rfl⟩
  · have h0 := ob0 ⟨_, h, rfl⟩
    subst h0
    exact ⟨a, rfl, rfl⟩
theorem Rel.backN [Tabl] {as : List SV} {vs : List V} {x : Addr} (R : Rel C ρ σ Z H) (hx : ∀ i, isObj ρ i → σ[i]? ≠ some (some (.ref x))) (h0 : C.H0 x = none) (R' : Rel (C.call Z H (some x)) as (vs.map some) Z' H') : Rel C ρ σ Z' H' := by
  have kp : ∀ a, a ≠ x → nt H a ≠ none → H' a = nt H a ∧ Z' a = Z a := fun a n h => R'.keep a h (fun z => n (by cases (show some x = some a from z); rfl))
  refine ⟨R.len, R'.le, fun i d h => ?_, fun i s d h o g => ?_, R.inj, R.bor, fun a h1 h2 => ?_, R.zle.trans R'.zle, fun a h => ?_, R'.tab, R.n0, R'.zt⟩
  · obtain ⟨v, h1, h2⟩ := R.val i d h
    exact ⟨v, h1, h2.mono R'.zle⟩
  · obtain ⟨a, h1, h2, h3, h4⟩ := R.obj i s d h o g
    obtain ⟨k1', k2⟩ := kp a (fun z => hx i ⟨s, h, o⟩ (z ▸ h1)) h3.ntn
    have k1 := k1'.trans h3.nt
    exact ⟨a, h1, k2.trans h2, h3.mono R'.zle k1, h4⟩
  · obtain ⟨k1, k2⟩ := R.keep a h1 h2
    obtain ⟨k3, k4⟩ := kp a (fun z => h1 (z ▸ h0)) (R.here a h1)
    exact ⟨(k3.trans (nt_keep R.n0 h1 k1)).trans k1, k4.trans k2⟩
  · exact R'.here a (R.here a h)
end
def outK (r : Res RV) (ρ : Rho) : Res RV := match r with
  | .ok (.val .non) (.bor (.obj c fs) :: _) => .ok (.val (.obj c fs)) ρ
  | _ => .no
def fMake (c : Str) (n : Nat) (F : Sem1) (fl : Rho → Res (List RV)) : Rho → Res RV := fun ρ => (fl ρ).bind fun rs ρ1 => match asVals rs with
  | some as => if as.length + 1 = n then outK (F (.bor (.obj c []) :: as)) ρ1 else .no
  | none => .no
structure MkC [Tabl] (P : Program) (w : World) (K : PySem.W.Frag) (mg : Str → Option Value) (base : Heap) (c : Str) (n : Nat) (F : Sem1) (k : Nat) : Prop where
  ex : ∃ ga fd ps, Mk K (He.ga K c) ga ∧ FnOk P w K mg base (L2.CX P w) k ga fd ps (spF K mg n F) ∧ Binds K fd ps [] ∧ mg c = some (.ref (He.ga K c))
section
variable {X : Cx} {W : WX} {e : Expr} {es : List Expr} {g : Rho → Res RV} {fl : Rho → Res (List RV)} {c : Str} {p pos : Pos} {k n j : Nat} {F : Sem1}
theorem se_make [Tabl] (m : MkC X.prog X.w X.K X.mg X.base c n F k) (hr : Room j X.A) (ha : SA X W (e :: es) fl) (hg : Gl X c := by rfl) (hk : k + 1 ≤ j := by decide) (hdb : (c == ("__debug__" : Str)) = false := by decide)
    (he : starEach (e :: es) X.env = (false, eval e X.env) :: starEach es X.env := by rfl) (hpl : (backTo pos (starEach es X.env)).any (·.1) = false := by rfl) : SE X W (.Call (.Name c p) (e :: es) [] pos) (fMake c n F fl) := by
  obtain ⟨ga, fd, ps, M, G, hb, hmg⟩ := m.ex
  refine se_of (pe_make M G (hr.mono hk) hg hmg hb .nil passN ha hdb he hpl) fun C ρ σ Z H Q hK hm R q => ?_
  show TAr X.K X.mg W fl σ H fun vs H1 => ∀ (x dx : Addr), H1 x = none → H1 dx = none → dx ≠ x → spF X.K X.mg n F (.ref x :: (vs ++ [])) (upd (upd H1 dx (.own x)) x (.ins (He.ga X.K c) dx [])) (fun v H2 => v = .non ∧ Q (.ref x) H2) (fun _ _ _ => False)
  rw [← hK, ← hm]
  refine ta_bind (P := fun r => Aft C W σ Z r Q) R q (fun _ _ h => h) (fun h => h) fun rs ρ1 vs Z1 H1 R1 l1 d1 q => ?_
  rw [List.append_nil]
  intro x dx hx hdx hne
  cases e1 : asVals rs with
  | none => rw [e1] at q; exact q.elim
  | some as =>
    rw [e1] at q
    simp only at q
    by_cases hn : as.length + 1 = n
    · rw [if_pos hn] at q
      obtain ⟨hl, hv⟩ := asVals_dn d1 e1
      have hx1 : upd H1 dx (.own x) x = none := by rw [upd_ne (Ne.symm hne)]; exact hx
      have R2 := (R1.new (o := .own x) hdx).new (o := .ins (He.ga C.K c) dx []) hx1
      have hxo : ∀ i, isObj ρ1 i → σ[i]? ≠ some (some (.ref x)) := fun i hi ei => by
        obtain ⟨b, d', e', _, ob, _⟩ := R1.objA hi
        rw [ei] at e'; cases e'
        exact ob.there hx
      have hzx : Z1 x = none := (R1.fresh hx).1
      have h0x := (R1.fresh hx).2
      have ob : Ob C.K Z1 (upd (upd H1 dx (.own x)) x (.ins (He.ga C.K c) dx [])) x (.obj c []) := ⟨dx, [], [], [], upd_same, rfl, rfl, .nil⟩
      have Rc := R2.callB hzx ob hl hv
      refine ⟨by simp; omega, C.call Z1 _ (some x), .bor (.obj c []) :: as, Z1, rfl, rfl, Rc, (fun a h => ⟨0, _, rfl, h⟩), ?_⟩
      cases e2 : F (.bor (.obj c []) :: as) with
      | no => rw [e2] at q; exact q.elim
      | er y as' => rw [e2] at q; exact q.elim
      | ok r as' =>
        rw [e2] at q
        intro v Z' H' R' l dn
        cases r with
        | ali i => exact q.elim
        | own d => exact q.elim
        | val d =>
          cases d with
          | non =>
            match as', q, R' with
            | .bor (.obj c' fs) :: as'', q, R' =>
              have dn' : Dn C.K Z' v .non := dn
              refine ⟨dn'.non_inv, ?_⟩
              obtain ⟨b, hb, hz', ob', _⟩ := R'.obj 0 (.bor (.obj c' fs)) (.obj c' fs) rfl rfl rfl
              cases hb
              obtain ⟨Z3, R3, l3, dn3⟩ := (R2.backN hxo h0x R').freeze hz' ob' (.inl h0x) hxo
              exact q (.ref x) Z3 H' R3 (l1.trans (l.trans l3)) dn3
            | [], q, _ => exact q.elim
            | .un :: _, q, _ => exact q.elim
            | .val _ :: _, q, _ => exact q.elim
            | .own _ :: _, q, _ => exact q.elim
            | .bor .non :: _, q, _ => exact q.elim
            | .bor (.bl _) :: _, q, _ => exact q.elim
            | .bor (.int _) :: _, q, _ => exact q.elim
            | .bor (.str _) :: _, q, _ => exact q.elim
            | .bor (.tup _) :: _, q, _ => exact q.elim
            | .bor (.lst _) :: _, q, _ => exact q.elim
            | .bor (.scr _) :: _, q, _ => exact q.elim
          | _ => exact q.elim
    · rw [if_neg hn] at q; exact q.elim
end
end TT

set_option Elab.async false
set_option linter.all false
set_option maxRecDepth 100000
namespace TT
open PySem PySem.Spec L2
/-! ### isinstance of an own class -/
def pIsC (c : Str) (d : PV) : Option OV := (isObjV c d).bind fun _ => vB true
def isIB (K : PySem.W.Frag) (c : Str) : Bool := He.eqO (PySem.W.findIn K (.ref (He.ga K c)) "__class__") (some (some (.builtin "object.__class__"))) &&
  (He.eqO (PySem.W.specialIn K (.builtin "object.__class__") "__get__") (some (some (.builtin "getset_descriptor.__get__"))) &&
  (decide (PySem.W.takesIn K (.builtin "object.__class__") = some true) && decide (PySem.W.mroIn K (He.ga K c) (.type "object") = some true)))
section
variable {X : Cx} {W : WX} {e : Expr} {f : Rho → Res RV} {p pt pos : Pos}
theorem se_isC [Tabl] {x c : Str} (cl : Cls X.K (He.ga X.K c)) (ii : isIB X.K c = true) (hmT : X.mg c = some (.ref (He.ga X.K c))) (he : SE X W e f) (hg : Gl X x) (hm0 : X.mg x = none) (hv : bootBuiltins x = some (.builtin "isinstance")) (hgT : Gl X c)
    (hdT : (c == ("__debug__" : Str)) = false := by decide) (hn : x ≠ "__name__" := by decide) (hdb : (x == ("__debug__" : Str)) = false := by decide)
    (hs : starEach [e, .Name c pt] X.env = (false, eval e X.env) :: starEach [.Name c pt] X.env := by rfl) (hs2 : starEach [.Name c pt] X.env = (false, eval (.Name c pt) X.env) :: starEach [] X.env := by rfl) (hpl : (backTo pos (starEach [.Name c pt] X.env)).any (·.1) = false := by rfl) :
    SE X W (.Call (.Name x p) [e, .Name c pt] [] pos) (fUn (pIsC c) f) :=
  se_of (pe_callB call_isi hg hm0 hv (pa_cons he (pa_cons (pe_glob hgT hmT (v := .ref (He.ga X.K c)) rfl hdT) pa_nil hs2) hs) hn hdb hs hpl) fun C ρ σ Z H Q hK hm R q => by
    show TF X.K X.mg W f σ H fun x1 H1 => rIsi X.K [x1, .ref (He.ga X.K c)] H1 Q
    rw [← hK, ← hm]
    refine tf_bind (P := fun r => Aft C W σ Z r Q) R q (fun _ _ h => h) (fun h => h) fun a ρ1 v Z1 H1 R1 l dn q => ?_
    cases e1 : peek a ρ1 with
    | none => rw [e1] at q; exact q.elim
    | some d =>
      rw [e1] at q
      simp only at q
      unfold pIsC at q
      cases e2 : isObjV c d with
      | none => rw [e2] at q; exact q.elim
      | some fs =>
        rw [e2] at q
        have := isObjV_eq e2
        subst this
        obtain ⟨a, dx, ns, xs, ds, rfl, hx, rfl, hl, t⟩ := Pk.obj (dn.pk R1 e1)
        have b1 := He.ba ii
        have b2 := He.ba b1.2
        have b3 := He.ba b2.2
        rw [← hK] at cl b1 b2 b3
        refine ⟨.ref a, .ref (He.ga C.K c), .ref (He.ga C.K c), .ref (He.ga C.K c), true, rfl, .own _, .base (.ins hx cl (He.eqO_ok b1.1) (He.eqO_ok b2.1) (of_decide_eq_true b3.1) (of_decide_eq_true b3.2)), ?_, q (.bl true) Z1 H1 R1 l (.bl true)⟩
        unfold PySem.W.kitOne
        rw [if_pos (beq_self_eq_true _)]
end
/-! ### the head, with properties -/
def prA (K : PySem.W.Frag) (d : He.DefD) : Addr := match PySem.W.findIn K (.ref (He.ga K d.at_.1)) (d.at_.2.getD "") with
  | some (some (.ref p)) => p
  | _ => 0
def gtA (K : PySem.W.Frag) (d : He.DefD) : Addr := match PySem.W.recIn K (prA K d) "property" with
  | some (.ref g :: _) => g
  | _ => 0
def prW (K : PySem.W.Frag) (d : He.DefD) : He.FnW := match List.lookup (gtA K d) K with
  | some { data := .func fd, .. } => some (fd.name, fd.qualname, fd.params, fd.body, fd.scope, fd.globals, fd.closure, fd.builtins)
  | _ => none
def recB (K : PySem.W.Frag) (d : He.DefD) : Bool := match PySem.W.recIn K (prA K d) "property" with
  | some (.ref g :: _) => true
  | _ => false
def fnB (K : PySem.W.Frag) (d : He.DefD) : Bool := match List.lookup (gtA K d) K with
  | some { data := .func fd, .. } => PySem.W.codeIn K fd.code d.qual && (He.dflB K fd.defaults [] && He.kwdB K fd.kwdefaults [])
  | _ => false
def prB (K : PySem.W.Frag) (d : He.DefD) : Bool := He.eqO (PySem.W.findIn K (.ref (He.ga K d.at_.1)) (d.at_.2.getD "")) (some (some (.ref (prA K d)))) &&
  (He.eqO (PySem.W.specialIn K (.ref (prA K d)) "__get__") (some (some (.builtin "property.__get__"))) && (decide (PySem.W.takesIn K (.ref (prA K d)) = some true) &&
  (recB K d && (PySem.W.keepIn K (.ref (gtA K d)) && fnB K d))))
abbrev AlY : Type := Bool × He.AlD × List He.FnW
def obsY (n : Nat) (fa : List He.Fa) (fn pn : List He.DefD) (B : PySem.W.Frag → Bool) (g : Addr → Option Obj) : AlY :=
  (B (He.frG g (He.asD g n)) && pn.all (fun d => prB (He.frG g (He.asD g n)) d), He.obsDG n fa fn g, pn.map fun d => prW (He.frG g (He.asD g n)) d)
def SaysY (fa : List He.Fa) (fn pn : List He.DefD) (B : PySem.W.Frag → Bool) (K : PySem.W.Frag) : Prop := He.SaysD fa fn K ∧ B K = true ∧ pn.all (fun d => prB K d) = true ∧ (pn.map fun d => prW K d) = pn.map He.DefD.val
def hookY (n : Nat) (fa : List He.Fa) (fn pn : List He.DefD) (B : PySem.W.Frag → Bool) : PySem.W.Hook where
  α := AlY
  obs := fun s => obsY n fa fn pn B s.heap.get?
  val := fun _ => (true, He.valD fn, pn.map He.DefD.val)
  says := fun _ h => ∃ K : PySem.W.Frag, K.In h ∧ SaysY fa fn pn B K
  of := fun _ _ e => ⟨_, He.frG_in, congrArg (fun z : AlY => z.2.1) e, (He.ba (congrArg (fun z : AlY => z.1) e)).1, (He.ba (congrArg (fun z : AlY => z.1) e)).2, congrArg (fun z : AlY => z.2.2) e⟩
  keeps := fun _ _ _ ⟨K, hK, c⟩ k => ⟨K, PySem.W.Frag.In.keeps hK k, c⟩
theorem obsY_eq {n : Nat} {fa : List He.Fa} {fn pn : List He.DefD} {B : PySem.W.Frag → Bool} {g : Addr → Option Obj} {s : Shared} (h : ∀ a, g a = s.heap.get? a) : obsY n fa fn pn B g = (hookY n fa fn pn B).obs s := by
  have e : g = s.heap.get? := funext h
  rw [e] <;> rfl
theorem prop_fn {K : PySem.W.Frag} {d : He.DefD} (h : prB K d = true) (e : prW K d = d.val) : PropOf K (He.ga K d.at_.1) (d.at_.2.getD "") (prA K d) (gtA K d) ∧ ∃ fd, FunD K d.name d.qual d.params d.body d.scope [] [] (gtA K d) fd := by
  have b1 := He.ba h
  have b2 := He.ba b1.2
  have b3 := He.ba b2.2
  have b4 := He.ba b3.2
  have b5 := He.ba b4.2
  refine ⟨⟨He.eqO_ok b1.1, He.eqO_ok b2.1, of_decide_eq_true b3.1, ?_⟩, ?_⟩
  · have r := b4.1
    unfold recB at r
    unfold gtA
    split at r
    · rename_i g rest q
      rw [q]
      exact ⟨rest, rfl⟩
    · cases r
  · have f := b5.2
    unfold fnB at f
    unfold prW at e
    split at f
    · rename_i oc od fd sl q
      rw [q] at e
      have c1 := He.ba f
      have c2 := He.ba c1.2
      obtain ⟨nm, qn, pr, bd, sc, gl, cs, df, kw, doc, pm, an, cd, ct, bu⟩ := fd
      simp only [He.DefD.val, Option.some.injEq, Prod.mk.injEq] at e
      obtain ⟨e1, e2, e3, e4, e5, e6, e7, e8⟩ := e
      subst e1 e2 e3 e4 e5 e6 e7 e8
      exact ⟨_, ⟨⟨oc, od, df, kw, doc, pm, an, cd, ct, sl, rfl, q, c1.1, He.dflB_ok c2.1, He.kwdB_ok c2.2⟩, b5.1⟩⟩
    · cases f
end TT

set_option Elab.async false
set_option linter.all false
set_option maxRecDepth 100000
namespace TT
open PySem PySem.Spec L2
section
variable {P : Program} {w : World} {K : PySem.W.Frag} {mg : Str → Option Value} {base h : Heap} {fa : List He.Fa} {fn pn : List He.DefD} {B : PySem.W.Frag → Bool} {x c m qual : Str} {params : Arguments} {bd : List Stmt} {scope : Scope} {N ps : List Str} {k : Nat} {body : Rho → Res Fl}
abbrev BodyOk [Tabl] (P : Program) (w : World) (K : PySem.W.Frag) (mg : Str → Option Value) (base : Heap) (qual : Str) (scope : Scope) (N : List Str) (bd : List Stmt) (body : Rho → Res Fl) (k : Nat) : Prop :=
  ∀ (f : Addr) (cdv : Value) (A : Around) (outer : List Env) (s : Shared) (H : Hp) (E : XK), Room k (A.deeper (PyProof.Rows.envOfC qual scope s.heap.objs.size f cdv)) → Takes (cxOf (L2.CX P w) P w K mg base N qual scope f cdv A outer s H E) (fun cls d _ H => E cls d H) →
      PassesOwn (model P w) (A.deeper (PyProof.Rows.envOfC qual scope s.heap.objs.size f cdv)) (PyProof.Rows.envOfC qual scope s.heap.objs.size f cdv) (cxOf (L2.CX P w) P w K mg base N qual scope f cdv A outer s H E).xe →
      SSs (cxOf (L2.CX P w) P w K mg base N qual scope f cdv A outer s H E) (fun cls d _ H => E cls d H) bd body
theorem mk_me [Tabl] (c' : He.SaysD fa fn K) (i j j2 : Nat)
    (hd : fn[i]? = some ⟨(c, some m), m, qual, params, bd, scope, [], []⟩) (hf : fa[j]? = some (.meth c m)) (hc : fa[j2]? = some (.cls c)) (S : FnScope N ps scope)
    (hb : ∀ {f : Addr} {fd : FuncData}, FunD K m qual params bd scope [] [] f fd → Binds K fd ps [])
    (hbody : BodyOk P w K mg base qual scope N bd body k) : MeC P w K mg base c m ps.length (runF N.length ps.length body) (k + 1) := by
  obtain ⟨fd, F⟩ := c'.def_ i hd
  exact ⟨_, fd, ps, He.meth_ok (c'.fact j hf), He.cls_ok (c'.fact j2 hc), fn_okD F S (fun cdv A outer s H E => hbody _ cdv A outer s H E), hb F⟩
theorem mk_mk [Tabl] (X : K.In h) (G : h.Ns mainGlobals mg) (c' : He.SaysD fa fn K) (i j j2 : Nat)
    (hd : fn[i]? = some ⟨(c, some "__init__"), "__init__", qual, params, bd, scope, [], []⟩) (hf : fa[j]? = some (.mkr c)) (hc : fa[j2]? = some (.glo c)) (S : FnScope N ps scope)
    (hb : ∀ {f : Addr} {fd : FuncData}, FunD K "__init__" qual params bd scope [] [] f fd → Binds K fd ps [])
    (hbody : BodyOk P w K mg base qual scope N bd body k) : MkC P w K mg base c ps.length (runF N.length ps.length body) (k + 1) := by
  obtain ⟨fd, F⟩ := c'.def_ i hd
  exact ⟨_, fd, ps, He.mkr_ok (c'.fact j hf), fn_okD F S (fun cdv A outer s H E => hbody _ cdv A outer s H E), hb F, He.glo_ok X G (c'.fact j2 hc)⟩
theorem SaysY.pr (c' : SaysY fa fn pn B K) (i : Nat) {d : He.DefD} (hd : pn[i]? = some d) : prB K d = true ∧ prW K d = d.val := by
  refine ⟨List.all_eq_true.mp c'.2.2.1 d (List.mem_of_getElem? hd), ?_⟩
  have e := congrArg (fun l : List He.FnW => l[i]?) c'.2.2.2
  simp only [List.getElem?_map, hd, Option.map_some] at e
  exact Option.some.inj e
theorem mk_pr [Tabl] (c' : SaysY fa fn pn B K) (i j2 : Nat)
    (hd : pn[i]? = some ⟨(c, some m), m, qual, params, bd, scope, [], []⟩) (hc : fa[j2]? = some (.cls c)) (S : FnScope N ps scope) (hl : ps.length = 1)
    (hb : ∀ {f : Addr} {fd : FuncData}, FunD K m qual params bd scope [] [] f fd → Binds K fd ps [])
    (hbody : BodyOk P w K mg base qual scope N bd body k) : PrC P w K mg base c m (runF N.length 1 body) (k + 1) := by
  obtain ⟨h1, h2⟩ := c'.pr i hd
  obtain ⟨p, fd, F⟩ := prop_fn h1 h2
  have G := fn_okD (mg := mg) (base := base) F S (fun cdv A outer s H E => hbody _ cdv A outer s H E)
  rw [hl] at G
  exact ⟨_, _, fd, ps, p, He.cls_ok (c'.1.fact j2 hc), G, hb F⟩
end
end TT

set_option Elab.async false
set_option linter.all false
set_option maxRecDepth 100000
namespace TT
open PySem PySem.Spec PyProof.Rows L2
/-! ### t[::-1] of a tuple -/
theorem sliceApplied_rev {prog : Program} {w : World} {A : Around} {E : Value → Shared → Prop} {s : Shared} {sl : Addr} {u : Tok} {n : Nat} {Q : Int × Int × Nat → Shared → Prop}
    (hs : s.heap.IsSliceOf sl .none .none (.int (-1) u)) (q : Q ((n : Int) - 1, -1, n) s) : wpAny (model prog w) A (Builtin.Slice.sliceApplied (.ref sl) (pure (n : Int))) Q E s := by
  obtain ⟨o, ho, hc, hd⟩ := hs
  unfold Builtin.Slice.sliceApplied Builtin.Slice.sliceFields
  refine wpAny_bind (wpAny_bind (wpAny_field ho hd rfl (wpAny_bind (wpAny_field ho hd rfl (wpAny_bind (wpAny_field ho hd rfl (wpAny_pure ?_)))))))
  refine wpAny_bind (HT.slicePart_ (.int _ _) ?_)
  simp only [Option.getD_some]
  rw [if_neg (by decide)]
  refine wpAny_bind (slicePart_none (wpAny_bind (slicePart_none (wpAny_bind (wpAny_pure ?_)))))
  have e : Builtin.Slice.sliceAdjust none none (-1) (n : Int) = ((n : Int) - 1, -1) := by
    unfold Builtin.Slice.sliceAdjust
    simp
  have e2 : Builtin.Slice.slicePlaces ((n : Int) - 1) (-1) (-1) = n := by
    unfold Builtin.Slice.slicePlaces
    rw [if_neg (by decide)]
    split
    · simp
    · omega
  simp only [e, e2]
  exact wpAny_pure q
theorem pick_rev (xs : Array Value) : (List.filterMap (fun (m : Nat) => xs[((xs.size : Int) - 1 + (m : Int) * -1).toNat]?) (List.range xs.size)).toArray = xs.toList.reverse.toArray := by
  congr 1
  apply List.ext_getElem?
  intro i
  have key : ∀ k, k ≤ xs.size → List.filterMap (fun (m : Nat) => xs[((xs.size : Int) - 1 + (m : Int) * -1).toNat]?) (List.range k) = xs.toList.reverse.take k := by
    intro k
    induction k with
    | zero => intro _; rfl
    | succ k ih =>
      intro hk
      rw [List.range_succ, List.filterMap_append, ih (by omega), List.take_add_one]
      congr 1
      have e : ((xs.size : Int) - 1 + (k : Int) * -1).toNat = xs.size - 1 - k := by omega
      rw [List.getElem?_reverse (by simpa using (show k < xs.size by omega)), List.filterMap_cons, List.filterMap_nil, e]
      have h1 : xs.size - 1 - k < xs.size := by omega
      have h2 : xs.toList[xs.toList.length - 1 - k]? = xs[xs.size - 1 - k]? := by simp
      rw [h2, Array.getElem?_eq_getElem h1]
      rfl
  rw [key _ (Nat.le_refl _), List.take_of_length_le (by simp)]
theorem getItem_tuple_rev {prog : Program} {w : World} {A : Around} {E : Value → Shared → Prop} {s : Shared} {t sl : Addr} {u : Tok} {items : Array Value} {Q : Value → Shared → Prop} (h : IsTup s.heap t items)
    (hs : s.heap.IsSliceOf sl .none .none (.int (-1) u)) (hl : items.size ≤ sizeLine)
    (q : Q (.ref s.heap.objs.size) { heap := s.heap.push { cls := .type "tuple", data := .seq items.toList.reverse.toArray }, gens := s.gens, drawn := s.drawn, toks := s.toks, os := s.os }) :
    wpAny (model prog w) A (getItem (.ref t) (.ref sl)) Q E s := by
  have hty : s.TypeIs (.ref sl) "slice" := by
    obtain ⟨o, ho, hc, _⟩ := hs
    exact ⟨o, ho, hc⟩
  unfold getItem
  refine wpAny_holding (wpAny_bind (wpAny_sequenceKey (T := "tuple") h.typeIs (by decide) (wpAny_bind (wpAny_callSpecial?_slot h.typeIs slot_tuple_getitem (wpAny_call_entry slot_tuple_getitem h.typeIs entry_tuple_getitem ?_ (args_tuple_getitem _ _))))))
  unfold Builtin.«tuple.__getitem__»
  refine wpAny_bind ?_
  show wpAny (model prog w) A.in1 (pure (Value.ref t, [Value.ref sl])) _ E s
  refine wpAny_pure ?_
  simp only
  refine wpAny_bind (tupleItemsOf_ h (wpAny_bind (wpAny_typeOf hty ?_)))
  rw [if_pos (by decide)]
  refine wpAny_bind (sliceApplied_rev hs ?_)
  simp only
  rw [if_neg (by simp)]
  refine wpAny_bind ?_
  unfold Builtin.Tuple.tupleExact
  refine wpAny_newObj_type ?_ ?_
  · rw [pick_rev]
    exact wpAny_pure ⟨_, rfl, wpAny_pure q⟩
  · rw [pick_rev]
    show (items.toList.reverse.toArray).size ≤ sizeLine
    simpa using hl

def tRevT (K : PySem.W.Frag) (te : TE) : TE := fun σ H Q => te σ H fun x H1 => ∃ a xs, x = .ref a ∧ SqT K H1 a xs ∧ ∀ p, H1 p = none → Q (.ref p) (upd H1 p (.tup xs.reverse))
theorem pe_revT {X : Cx} {e : Expr} {te : TE} {k : Nat} {p1 p2 p3 pos : Pos} (he : PE X e te) : PE X (.Subscript e (.Slice none none (some (.UnaryOp .USub (.Constant (.int 1) k p1) p2)) p3) pos) (tRevT X.K te) := by
  have hp : PO X (some (.UnaryOp .USub (.Constant (.int 1) k p1) p2)) (tPart (tUn (rU fun i => .int (-i)) (tC (.int 1)))) := po_some (pe_un un_neg pe_int)
  refine ⟨fun pins s σ H Q I h => ?_⟩
  refine Subscript_ (thn (he.run pins s σ H _ I h) ?_)
  rintro v s1 ⟨x, H1, I1, r1, a, xs, rfl, hS, q⟩
  cases r1
  refine wpAny_Slice ?_
  rw [evalPart_none]
  refine wpAny_pure (wpAny_pure ?_)
  refine thn (hp.run pins s1 σ H1 (fun o H2 => o = some (-1) ∧ H2 = H1) I1 ⟨1, rfl, -1, rfl, rfl, rfl⟩) ?_
  rintro st s2 ⟨o, H2, I2, part, rfl, rfl⟩
  cases part with
  | int i u =>
    have I3 := I2.kept (t' := s2.toks) (h' := s2.heap.push { cls := .type "slice", data := .fields #[.none, .none, .int (-1) u] }) fun b o e => Heap.get?_push_of_some _ e
    obtain ⟨its, rv, tp, hl⟩ := I3.tuple hS
    have hlen := rv.length
    refine tail_any tp.typeIs slot_tuple_getitem.lookup (getItem_tuple_rev tp (Heap.IsSliceOf.new _ _ _ _) (by simp; omega) ?_) (by rfl)
    refine ⟨.ref _, _, I3.laid (t' := s2.toks) (o := .tup xs.reverse) (fun b ob q => Heap.get?_push_of_some _ q) (Nat.le_refl _) ?_, rfl, q _ (I3.hok.fresh (Nat.le_refl _))⟩
    exact ⟨by rw [List.length_reverse]; exact hl, its.reverse, rv.reverse, IsTup.new _ _⟩
/-! ### e[::-1], a list or a tuple -/
def pRevA (d : PV) : Option OV := match d with
  | .lst ds => some (.own (.lst ds.reverse))
  | .scr ds => some (.own (.lst ds.reverse))
  | .tup ds => some (.val (.tup ds.reverse))
  | _ => none
theorem se_revT [Tabl] {X : Cx} {W : WX} {e : Expr} {f : Rho → Res RV} {k : Nat} {p1 p2 p3 pos : Pos} (he : SE X W e f) : SE X W (.Subscript e (.Slice none none (some (.UnaryOp .USub (.Constant (.int 1) k p1) p2)) p3) pos) (fUn (fun d => match d with | .tup ds => some (.val (.tup ds.reverse)) | _ => none) f) :=
  se_of (pe_revT he) fun C ρ σ Z H Q hK hm R q => by
    show TF X.K X.mg W f σ H fun x H1 => ∃ a xs, x = .ref a ∧ SqT X.K H1 a xs ∧ ∀ p, H1 p = none → Q (.ref p) (upd H1 p (.tup xs.reverse))
    rw [← hK, ← hm]
    refine tf_bind (P := fun r => Aft C W σ Z r Q) R q (fun _ _ h => h) (fun h => h) fun a ρ1 v Z1 H1 R1 l dn q => ?_
    cases e1 : peek a ρ1 with
    | none => rw [e1] at q; exact q.elim
    | some d =>
      rw [e1] at q
      cases d with
      | tup ds =>
        obtain ⟨a, xs, rfl, hs, t⟩ := (dn.pk R1 e1).tup
        refine ⟨a, xs, rfl, R1.le.sqT hs, fun p hp => ?_⟩
        obtain ⟨R2, l2⟩ := R1.newZ (o := .tup xs.reverse) hp
        exact q (.ref p) _ _ R2 (l.trans l2) (.tup (.of upd_same) (t.reverse.mono l2))
      | _ => exact q.elim
end TT

set_option Elab.async false
set_option linter.all false
set_option maxRecDepth 100000
/-! enumerate of a tuple -/
namespace PySem
open PySem PySem.Spec PyProof.Rows L2
set_option maxHeartbeats 1000000 in
theorem meets_enumerate_new1 {v : Value} {o : Obj} {H : Heap → Prop} (B : Begins v o H) :
    Meets (Builtin.«enumerate.__new__» ⟨[.type "enumerate", v], []⟩) (fun _ R s => H s.heap ∧
      R (.ok (.ret (.ref (s.heap.push o).objs.size))) { s with heap := (s.heap.push o).push { cls := .type "enumerate", data := .fields #[.none, .bool false, .ref s.heap.objs.size, rawInt 0, .none, .none] } }) :=
  .of_wp fun prog w A R s h => by
    obtain ⟨hp, g, d, tk, os⟩ := s; obtain ⟨h1, h⟩ := h
    have hsub := sub_enumerate
    have q1 : ∀ {A' : Around} {E : Value → Shared → Prop} {Q : Value → Shared → Prop}, Q (.ref hp.objs.size) ⟨hp.push o, g, d, tk, os⟩ → wpAny (model prog w) A' (pyIter v) Q E ⟨hp, g, d, tk, os⟩ :=
      fun q => B.iter prog w _ _ ⟨hp, g, d, tk, os⟩ _ h1 q
    wp_walk using q1
    refine wpAny_stack_any fun st => wpAny_pure ?_
    split
    · rename_i c _ _ _ _ _
      cases (c == Value.type "enumerate")
      · wp_walk using q1
        exact ⟨_, rfl, h⟩
      · wp_walk using q1
        exact ⟨_, rfl, h⟩
    · wp_walk using q1
      exact ⟨_, rfl, h⟩
theorem call_enumerate_B {prog : Program} {w : World} {A : Around} {E : Value → Shared → Prop} {s : Shared} {v : Value} {o : Obj} {H : Heap → Prop} {Q : Value → Shared → Prop} (B : Begins v o H) (h1 : H s.heap)
    (h : ∀ h', IsEnum h' (s.heap.objs.size + 1) s.heap.objs.size 0 .none → h'.get? s.heap.objs.size = some o → h'.objs.size = s.heap.objs.size + 2 →
      (∀ b o, s.heap.get? b = some o → h'.get? b = some o) → Q (.ref (s.heap.objs.size + 1)) { s with heap := h' }) :
    wpAny (model prog w) A (call (.type "enumerate") [v]) Q E s := by
  refine callType_new F.called_enumerate (by decide) (F.typeCall_enumerate_1 _) (F.newCall_enumerate_1 _) (fun obj => F.args_object_init_2 obj _) F.entry_enumerate_new
    (meets_enumerate_new1 B) ⟨h1, ?_⟩
  have hz : (s.heap.push o).objs.size = s.heap.objs.size + 1 := Heap.size_push ..
  show _ ∧ _
  rw [hz]
  have he : IsEnum ((s.heap.push o).push { cls := .type "enumerate", data := .fields #[.none, .bool false, .ref s.heap.objs.size, rawInt 0, .none, .none] }) (s.heap.objs.size + 1) s.heap.objs.size 0 .none := by
    have := Heap.get?_push_size (s.heap.push o) (o := { cls := .type "enumerate", data := .fields #[.none, .bool false, .ref s.heap.objs.size, rawInt 0, .none, .none] }) rfl
    rw [hz] at this; exact this
  refine ⟨⟨_, he, rfl⟩, h _ he (Heap.get?_push_of_some _ (Heap.get?_push_size _ B.free)) (by rw [Heap.size_push, hz]) fun b o x => Heap.get?_push_of_some _ (Heap.get?_push_of_some _ x)⟩
end PySem
namespace PySem
theorem wpAny_pyNext_enumT_end {prog : Program} {w : World} {A : Around} {E : Value → Shared → Prop} {s : Shared} {e it l : Addr} {c : Int} {i : Nat} {items : Array Value} {old : Value} {Q : Option Value → Shared → Prop} (hh : A.handled = none)
    (he : IsEnum s.heap e it c old) (hit : s.heap.IsTupleIter it l i) (hl : s.heap.IsTuple l items) (hx : items[i]? = none)
    (hQ : ∀ h', Heap.ExtBut it s.heap h' → Q none { s with heap := h' }) : wpAny (model prog w) A (pyNext (.ref e)) Q E s := by
  have hT : s.TypeIs (.ref e) "enumerate" := ⟨_, he, rfl⟩
  unfold pyNext
  refine wpAny_bind (wpAny_attempt (wpAny_callSpecial?_slot (name := Str.ofString "__next__") hT F.slot_enumerate_next
    (wpAny_call_entry F.slot_enumerate_next hT F.entry_enumerate_next ?_ (F.args_enumerate_next_1 _))))
  show wpAny _ _ (field (.ref e) 2 >>= _) _ _ _
  refine wpAny_bind (wpAny_field he rfl (x := .ref it) rfl ?_)
  refine wpAny_bind (wpAny_nextOf_tuple_end hh hit hl hx fun h' x he' hx' => ?_)
  obtain ⟨o, ho, hc⟩ := hx'
  refine wpAny_bind (wpAny_isInstance (T := "StopIteration") (b := true) ⟨o, ho, hc⟩ isSubtype_stop ?_)
  exact wpAny_pure (hQ _ he')
end PySem
namespace RE
open PySem PySem.Spec PyProof.Rows L2
/-- the tuple at a, each item in a new pair -/
def IteT (K : PySem.W.Frag) (a : Addr) : It :=
  ⟨fun i H => ∃ (xs : List V) (x : V), SqT K H a xs ∧ xs[i]? = some x, fun i H v H' => ∃ T x, v = .ref T ∧ H T = none ∧ H' = upd H T (.tup [.int (i : Nat), x]) ∧ ∀ xs, SqT K H a xs → xs[i]? = some x, fun i H => ∃ xs : List V, SqT K H a xs ∧ xs.length ≤ i⟩
theorem turn_enumT {P : Program} {w : World} {K : PySem.W.Frag} {elts : List Expr} {kk : Nat} {tpos : Pos} {a e it : Addr} (hae : a ≠ e) (hai : a ≠ it) :
    Turn P w K (.Tuple elts kk tpos) (IteT K a) [e, it] e (fun i h => (∃ old, IsEnum h e it ((i : Nat) : Int) old) ∧ h.IsTupleIter it a i ∧ e ≠ it) where
  mem := by simp
  obj := fun i h st b hb => by
    obtain ⟨⟨old, he⟩, ⟨o, ho, hc, hd⟩, _⟩ := st
    have e' : b = e ∨ b = it := by simpa using hb
    rcases e' with z | z
    · rw [z]; exact ⟨_, he, fun v q => nomatch q⟩
    · rw [z]; exact ⟨o, ho, fun v q => by rw [hd] at q; cases q⟩
  keep := fun i h h' st k => let ⟨⟨old, he⟩, hi, hne⟩ := st; ⟨⟨old, k e (by simp) _ he⟩, hi.at fun o q => k it (by simp) o q, hne⟩
  item := by
    intro X hP hw hK hc i pins s σ H E I hf st hg
    subst hP hw hK
    obtain ⟨⟨old, he⟩, hit, hne⟩ := st
    obtain ⟨xs, x, hq, hx⟩ := hg
    obtain ⟨its, rv, p, hz⟩ := I.tuple hq
    obtain ⟨u, hu, ru⟩ := rv.get hx
    have hel : e < s.heap.objs.size := Heap.lt_size he
    have hil : it < s.heap.objs.size := by obtain ⟨_, q, _⟩ := hit; exact Heap.lt_size q
    have p1 : s.heap.IsTuple a its.toArray := p
    have D := Draws.tuple (prog := X.prog) (w := X.w) (A := X.A.in1) (I.ok.hd hc) it a hai its.toArray
    have hlt : i < its.toArray.size := (Array.getElem?_eq_some_iff.mp (by simpa using hu : its.toArray[i]? = some u)).1
    refine wpAny_pyNext_enum_itemC D he ⟨hit, p1⟩ hlt hne (by simp only [List.mem_cons, List.not_mem_nil, or_false]; rintro (z | z); exact hne z; exact hae z.symm) fun y h' tk hPy ho hst' hT hsz hk => ?_
    have hyu : y = u := by
      have h1 : its.toArray[i]? = some y := hPy
      have h2 : its.toArray[i]? = some u := by simpa using hu
      rw [h1] at h2
      exact Option.some.inj h2
    subst hyu
    refine ⟨_, rfl, wpAny_letOwnedTupleGo_enum (s := { s with heap := h', toks := tk + 1 }) ho fun h'' he' sb => ?_⟩
    have hT2 : h''.get? s.heap.objs.size = some { cls := .type "tuple", data := .seq #[.int i tk, y] } := (sb.2 _ (Nat.ne_of_gt hel)).trans hT
    have new : ObjOk X.prog X.w (upd H s.heap.objs.size (.tup [.int (i : Nat), x])) h'' s.heap.objs.size (.tup [.int (i : Nat), x]) :=
      ⟨by show 2 ≤ sizeLine; decide, [.int i tk, y], .cons ⟨_, rfl⟩ (.cons ru .nil), ⟨_, hT2, rfl, _, rfl⟩⟩
    have I1 : Inv X pins σ (upd H s.heap.objs.size (.tup [.int (i : Nat), x])) { s with heap := h'', toks := tk + 1 } :=
      I.turnedNew (ch := [e, it]) (fun b ob hb q => (sb.2 b (fun z => hb (by simp [z]))).trans (hk b ob (fun z => hb (by simp [z])) (fun z => hb (by simp [z])) q)) hf (Nat.le_refl _) new
    refine ⟨.ref s.heap.objs.size, _, I1, rfl, ⟨_, x, rfl, I.hok.fresh (Nat.le_refl _), rfl, fun ys hy => by rw [I.tuple_inj hy hq]; exact hx⟩, ⟨⟨y, ?_⟩, hst'.1.at fun o q => (sb.2 it (Ne.symm hne)).trans q, hne⟩, fun b hb => ?_⟩
    · have e1 : ((i + 1 : Nat) : Int) = (i : Int) + 1 := by omega
      rw [e1]; exact he'
    · have hb' : b < s.heap.objs.size := by
        have e' : b = e ∨ b = it := by simpa using hb
        rcases e' with z | z
        · rw [z]; exact hel
        · rw [z]; exact hil
      rw [upd_ne (Nat.ne_of_lt hb')]
      exact (hf b hb).1
  done := by
    intro X hP hw hK hc i pins s σ H E I hf st hg
    subst hP hw hK
    obtain ⟨⟨old, he⟩, hit, hne⟩ := st
    obtain ⟨xs, hq, hx⟩ := hg
    obtain ⟨its, rv, p, hz⟩ := I.tuple hq
    obtain ⟨f0, f1, f2, f3, f4, f5⟩ := hf it (by simp)
    have hl := rv.length
    have p1 : s.heap.IsTuple a its.toArray := p
    exact wpAny_pyNext_enumT_end (I.ok.hd hc) he hit p1 (by simp; omega) fun h' eb => ⟨rfl, I.turned (t' := s.toks) (fun b o hb q => eb b o hb q) f0 f1 f3 f4 f5⟩
  self := fun A i s Q E st h => let ⟨⟨_, he⟩, _⟩ := st; wpAny_pyIter_enum he h
def iEnumA (K : PySem.W.Frag) (ta : TA) : TI := fun σ H R => ta σ H fun vs H1 => ∃ a xs, vs = [.ref a] ∧ ((SqL K H1 a xs ∧ R (Ite K a) H1) ∨ (SqT K H1 a xs ∧ R (IteT K a) H1))
theorem pi_enumA {X : Cx} {e : Expr} {ta : TA} {p pos tpos : Pos} {elts : List Expr} {kk : Nat} (hg : Gl X "enumerate") (hm : X.mg "enumerate" = none) (ha : PA X [e] ta) (hs : starEach [e] X.env = [(false, eval e X.env)] := by rfl) :
    PI X (.Tuple elts kk tpos) (.Call (.Name "enumerate" p) [e] [] pos) (iEnumA X.K ta) := by
  refine ⟨fun pins s σ H R I h => ?_⟩
  refine Call_ (ld_blt I hg hm boot_enumerate (PyProof.Rows.callWith_type1 (thn (ha.run pos pins s σ H _ I h) fun us s1 ⟨vs, H1, I1, r1, q1⟩ => ?_) hs rfl))
  obtain ⟨a, xs, ex, q1⟩ := q1
  subst ex
  cases r1 with
  | cons r rr =>
    cases rr
    cases r
    have fresh : ∀ b, b ∈ [s1.heap.objs.size + 1, s1.heap.objs.size] → FpOk X pins H1 b := fun b hb => by
      have e' : b = s1.heap.objs.size + 1 ∨ b = s1.heap.objs.size := by simpa using hb
      have hle : s1.heap.objs.size ≤ b := by
        rcases e' with z | z
        · rw [z]; exact Nat.le_add_right _ _
        · rw [z]; exact Nat.le_refl _
      exact I1.fpOk hle (I1.hok.fresh hle)
    rcases q1 with ⟨hq, q⟩ | ⟨hq, q⟩
    · obtain ⟨its, rv, p', hz⟩ := I1.list hq
      refine call_enumerate_list p'.isList fun h' he hit hsz hk => wpAny_pyIter_enum he ?_
      have I2 : Inv X pins σ H1 { s1 with heap := h' } := I1.kept (t' := s1.toks) hk
      exact ⟨s1.heap.objs.size + 1, [s1.heap.objs.size + 1, s1.heap.objs.size], _, _, H1, rfl, I2, turn_enum a (s1.heap.objs.size + 1) s1.heap.objs.size, ⟨⟨.none, he⟩, hit, Nat.succ_ne_self _⟩, fresh, q⟩
    · obtain ⟨its, rv, p', hz⟩ := I1.tuple hq
      have p1 : s1.heap.IsTuple a its.toArray := p'
      obtain ⟨o1, ho1, _⟩ := id p1
      have hal := Heap.lt_size ho1
      refine call_enumerate_B (begins_tuple a its.toArray) p1 fun h' he hit hsz hk => wpAny_pyIter_enum he ?_
      have I2 : Inv X pins σ H1 { s1 with heap := h' } := I1.kept (t' := s1.toks) hk
      exact ⟨s1.heap.objs.size + 1, [s1.heap.objs.size + 1, s1.heap.objs.size], _, _, H1, rfl, I2, turn_enumT (a := a) (e := s1.heap.objs.size + 1) (it := s1.heap.objs.size) (Nat.ne_of_lt (Nat.lt_succ_of_lt hal)) (Nat.ne_of_lt hal), ⟨⟨.none, he⟩, ⟨_, hit, rfl, rfl⟩, Nat.succ_ne_self _⟩, fresh, q⟩
end RE

set_option Elab.async false
set_option linter.all false
set_option maxRecDepth 100000
namespace TT
open PySem PySem.Spec L2
/-! ### e[::-1], a list or a tuple -/
theorem fRevA_eq (f : Rho → Res RV) : fAlt (fUn pRevL f) (fUn (fun d => match d with | .tup ds => some (.val (.tup ds.reverse)) | _ => none) f) = fUn pRevA f := by
  funext ρ
  unfold fAlt fUn
  cases f ρ with
  | no => rfl
  | er x ρ1 => rfl
  | ok a ρ1 =>
    simp only [Res.bind]
    cases peek a ρ1 with
    | none => rfl
    | some d => cases d <;> rfl
theorem se_revA [Tabl] {X : Cx} {W : WX} {e : Expr} {f : Rho → Res RV} {k : Nat} {p1 p2 p3 pos : Pos} (he : SE X W e f) : SE X W (.Subscript e (.Slice none none (some (.UnaryOp .USub (.Constant (.int 1) k p1) p2)) p3) pos) (fUn pRevA f) :=
  fRevA_eq f ▸ se_alt (se_revL he) (se_revT he)
/-! ### reversed, enumerate, zip -/
def lstOf : PV → Option (List PV)
  | .lst ds => some ds
  | .scr ds => some ds
  | _ => none
/-- of a list or a tuple -/
def itemsS : PV → Option (List PV)
  | .lst ds => some ds
  | .tup ds => some ds
  | .scr ds => some ds
  | _ => none
def fRevI (f : Rho → Res RV) : Rho → Res (List PV) := fun ρ => (fV f ρ).bind fun r ρ1 => match r with
  | .val d => (match itemsS d with
    | some ds => .ok ds.reverse ρ1
    | none => .no)
  | _ => .no
def enumP (ds : List PV) : List PV := ds.zipIdx.map fun p => .tup [.int (p.2 : Nat), p.1]
def zipP (ds es : List PV) : List PV := (ds.zip es).map fun p => .tup [p.1, p.2]
def fEnum (f : Rho → Res (List RV)) : Rho → Res (List PV) := fun ρ => (f ρ).bind fun rs ρ1 => match rs with
  | [.val d] => (match itemsS d with
    | some ds => .ok (enumP ds) ρ1
    | none => .no)
  | _ => .no
def fZip (f : Rho → Res (List RV)) : Rho → Res (List PV) := fun ρ => (f ρ).bind fun rs ρ1 => match rs with
  | [.val d, .val e] => (match lstOf d, lstOf e with
    | some ds, some es => .ok (zipP ds es) ρ1
    | _, _ => (match d, e with
      | .tup ds, .tup es => .ok (zipP ds es) ρ1
      | _, _ => .no))
  | _ => .no
theorem lstOf_dn {K : PySem.W.Frag} {Z : Hp} {v : V} {d : PV} {ds : List PV} (h : Dn K Z v d) (e : lstOf d = some ds) : ∃ a xs, v = .ref a ∧ SqL K Z a xs ∧ DnAll K Z xs ds := by
  unfold lstOf at e
  split at e
  · cases e
    obtain ⟨a, xs, rfl, hx, t⟩ := h.lst_inv
    exact ⟨a, xs, rfl, .of hx, t⟩
  · cases e
    exact h.scr_inv
  · cases e
theorem rev_at {α : Type} {xs : List α} {i : Nat} {x : α} (h : xs.reverse[i]? = some x) : i < xs.length ∧ xs[xs.length - 1 - i]? = some x := by
  have hi : i < xs.length := by
    have := (List.getElem?_eq_some_iff.mp h).1
    simpa using this
  rw [List.getElem?_reverse hi] at h
  exact ⟨hi, h⟩
theorem walks_VL {K : PySem.W.Frag} {Z : Hp} {a : Addr} {xs : List V} {ds : List PV} (h : SqL K Z a xs) (t : DnAll K Z xs ds) : Walks K Z (Itv K a xs.length) ds.reverse := fun Z' H' l1 l2 => by
  have h' : SqL K H' a xs := l2.sqL (l1.sqL h)
  refine ⟨by show xs.length ≤ ds.reverse.length; rw [t.length]; simp, fun i d e => ?_⟩
  obtain ⟨v, hv, dv⟩ := t.reverse.get e
  obtain ⟨hi, hv'⟩ := rev_at hv
  refine ⟨⟨hi, xs, v, h', hv'⟩, fun x H'' y => .inl ⟨y.1, ?_⟩⟩
  have := y.2 xs h'
  rw [hv'] at this
  cases this
  exact dv.mono l1
theorem walks_VT {K : PySem.W.Frag} {Z : Hp} {a : Addr} {xs : List V} {ds : List PV} (h : SqT K Z a xs) (t : DnAll K Z xs ds) : Walks K Z (RT.ItvT K a xs.length) ds.reverse := fun Z' H' l1 l2 => by
  have h' : SqT K H' a xs := l2.sqT (l1.sqT h)
  refine ⟨by show xs.length ≤ ds.reverse.length; rw [t.length]; simp, fun i d e => ?_⟩
  obtain ⟨v, hv, dv⟩ := t.reverse.get e
  obtain ⟨hi, hv'⟩ := rev_at hv
  refine ⟨⟨hi, xs, v, h', hv'⟩, fun x H'' y => .inl ⟨y.1, ?_⟩⟩
  have := y.2 xs h'
  rw [hv'] at this
  cases this
  exact dv.mono l1
theorem enum_at {ds : List PV} {i : Nat} {d : PV} (h : (enumP ds)[i]? = some d) : ∃ e, ds[i]? = some e ∧ d = .tup [.int (i : Nat), e] := by
  unfold enumP at h
  rw [List.getElem?_map, List.getElem?_zipIdx] at h
  cases q : ds[i]? with
  | none => rw [q] at h; cases h
  | some e =>
    rw [q] at h
    simp at h
    exact ⟨e, rfl, h.symm⟩
theorem walks_E {K : PySem.W.Frag} {Z : Hp} {a : Addr} {xs : List V} {ds : List PV} (h : SqL K Z a xs) (t : DnAll K Z xs ds) : Walks K Z (Ite K a) (enumP ds) := fun Z' H' l1 l2 => by
  have h' : SqL K H' a xs := l2.sqL (l1.sqL h)
  refine ⟨⟨xs, h', by unfold enumP; rw [t.length]; simp⟩, fun i d e => ?_⟩
  obtain ⟨e', he, rfl⟩ := enum_at e
  obtain ⟨v, hv, dv⟩ := t.get he
  refine ⟨⟨xs, v, h', hv⟩, fun x H'' ⟨T, y, e1, e2, e3, e4⟩ => .inr ⟨T, _, _, rfl, e1, e2, e3, ?_⟩⟩
  have := e4 xs h'
  rw [hv] at this
  cases this
  exact .cons (.int _) (.cons (dv.mono l1) .nil)
theorem walks_ET {K : PySem.W.Frag} {Z : Hp} {a : Addr} {xs : List V} {ds : List PV} (h : SqT K Z a xs) (t : DnAll K Z xs ds) : Walks K Z (RE.IteT K a) (enumP ds) := fun Z' H' l1 l2 => by
  have h' : SqT K H' a xs := l2.sqT (l1.sqT h)
  refine ⟨⟨xs, h', by unfold enumP; rw [t.length]; simp⟩, fun i d e => ?_⟩
  obtain ⟨e', he, rfl⟩ := enum_at e
  obtain ⟨v, hv, dv⟩ := t.get he
  refine ⟨⟨xs, v, h', hv⟩, fun x H'' ⟨T, y, e1, e2, e3, e4⟩ => .inr ⟨T, _, _, rfl, e1, e2, e3, ?_⟩⟩
  have := e4 xs h'
  rw [hv] at this
  cases this
  exact .cons (.int _) (.cons (dv.mono l1) .nil)
theorem zip_at {ds es : List PV} {i : Nat} {d : PV} (h : (zipP ds es)[i]? = some d) : ∃ x y, ds[i]? = some x ∧ es[i]? = some y ∧ d = .tup [x, y] := by
  unfold zipP at h
  rw [List.getElem?_map] at h
  cases q : (ds.zip es)[i]? with
  | none => rw [q] at h; cases h
  | some p =>
    rw [q] at h
    simp at h
    have := List.getElem?_zip_eq_some.mp q
    exact ⟨p.1, p.2, this.1, this.2, h.symm⟩
theorem zip_len {ds es : List PV} : ds.length ≤ (zipP ds es).length ∨ es.length ≤ (zipP ds es).length := by
  unfold zipP
  rw [List.length_map, List.length_zip]
  omega
theorem walks_ZL {K : PySem.W.Frag} {Z : Hp} {a b : Addr} {xs ys : List V} {ds es : List PV} (h : SqL K Z a xs) (t : DnAll K Z xs ds) (h2 : SqL K Z b ys) (t2 : DnAll K Z ys es) : Walks K Z (Itz K a b) (zipP ds es) := fun Z' H' l1 l2 => by
  have h' : SqL K H' a xs := l2.sqL (l1.sqL h)
  have h2' : SqL K H' b ys := l2.sqL (l1.sqL h2)
  refine ⟨⟨xs, ys, h', h2', by rw [t.length, t2.length]; exact zip_len⟩, fun i d e => ?_⟩
  obtain ⟨x, y, hx, hy, rfl⟩ := zip_at e
  obtain ⟨v, hv, dv⟩ := t.get hx
  obtain ⟨u, hu, du⟩ := t2.get hy
  refine ⟨⟨xs, ys, v, u, h', h2', hv, hu⟩, fun z H'' ⟨T, p, q, e1, e2, e3, e4, e5⟩ => .inr ⟨T, _, _, rfl, e1, e2, e3, ?_⟩⟩
  have k1 := e4 xs h'
  have k2 := e5 ys h2'
  rw [hv] at k1
  rw [hu] at k2
  cases k1
  cases k2
  exact .cons (dv.mono l1) (.cons (du.mono l1) .nil)
theorem walks_ZT {K : PySem.W.Frag} {Z : Hp} {a b : Addr} {xs ys : List V} {ds es : List PV} (h : SqT K Z a xs) (t : DnAll K Z xs ds) (h2 : SqT K Z b ys) (t2 : DnAll K Z ys es) : Walks K Z (RZ.ItzT K a b) (zipP ds es) := fun Z' H' l1 l2 => by
  have h' : SqT K H' a xs := l2.sqT (l1.sqT h)
  have h2' : SqT K H' b ys := l2.sqT (l1.sqT h2)
  refine ⟨⟨xs, ys, h', h2', by rw [t.length, t2.length]; exact zip_len⟩, fun i d e => ?_⟩
  obtain ⟨x, y, hx, hy, rfl⟩ := zip_at e
  obtain ⟨v, hv, dv⟩ := t.get hx
  obtain ⟨u, hu, du⟩ := t2.get hy
  refine ⟨⟨xs, ys, v, u, h', h2', hv, hu⟩, fun z H'' ⟨T, p, q, e1, e2, e3, e4, e5⟩ => .inr ⟨T, _, _, rfl, e1, e2, e3, ?_⟩⟩
  have k1 := e4 xs h'
  have k2 := e5 ys h2'
  rw [hv] at k1
  rw [hu] at k2
  cases k1
  cases k2
  exact .cons (dv.mono l1) (.cons (du.mono l1) .nil)
section
variable {X : Cx} {W : WX} {tg e e2 : Expr} {elts : List Expr} {kk : Nat} {tpos : Pos} {f : Rho → Res RV} {fl : Rho → Res (List RV)} {p pos : Pos}
theorem si_rev [Tabl] (hg : Gl X "reversed") (hm0 : X.mg "reversed" = none) (he : SE X W e f) (hs : starEach [e] X.env = (false, eval e X.env) :: starEach [] X.env := by rfl) : SI X W tg (.Call (.Name "reversed" p) [e] [] pos) (fRevI f) :=
  si_of (RT.pi_revA hg hm0 (se_v he) hs) fun C ρ σ Z H Q hK hm R q => by
    show TF X.K X.mg W (fV f) σ H _
    rw [← hK, ← hm]
    refine tf_bind (P := fun r => AftI C W σ Z r Q) R q (fun _ _ h => h) (fun h => h) fun r ρ1 v Z1 H1 R1 l dn q => ?_
    cases r with
    | own d => exact q.elim
    | ali j => exact q.elim
    | val d =>
      have dn' : Dn C.K Z1 v d := dn
      cases d with
      | lst ds =>
        obtain ⟨a, xs, rfl, h, t⟩ := dn'.lst_inv
        exact ⟨a, xs, rfl, .inl ⟨R1.le.sqL (.of h), q _ Z1 H1 R1 l (walks_VL (.of h) t)⟩⟩
      | scr ds =>
        obtain ⟨a, xs, rfl, h, t⟩ := dn'.scr_inv
        exact ⟨a, xs, rfl, .inl ⟨R1.le.sqL h, q _ Z1 H1 R1 l (walks_VL h t)⟩⟩
      | tup ds =>
        obtain ⟨a, xs, rfl, h, t⟩ := dn'.tup_inv
        exact ⟨a, xs, rfl, .inr ⟨R1.le.sqT h, q _ Z1 H1 R1 l (walks_VT h t)⟩⟩
      | _ => exact q.elim
theorem si_enum [Tabl] (hg : Gl X "enumerate") (hm0 : X.mg "enumerate" = none) (he : SA X W [e] fl) (hs : starEach [e] X.env = [(false, eval e X.env)] := by rfl) : SI X W (.Tuple elts kk tpos) (.Call (.Name "enumerate" p) [e] [] pos) (fEnum fl) :=
  si_of (RE.pi_enumA hg hm0 he hs) fun C ρ σ Z H Q hK hm R q => by
    show TAr X.K X.mg W fl σ H _
    rw [← hK, ← hm]
    refine ta_bind (P := fun r => AftI C W σ Z r Q) R q (fun _ _ h => h) (fun h => h) fun rs ρ1 vs Z1 H1 R1 l dn q => ?_
    split at q
    · rename_i d
      match vs, dn with
      | [v], ⟨d1, _⟩ =>
        have dn' : Dn C.K Z1 v d := d1
        cases d with
        | lst ds =>
          obtain ⟨a, xs, rfl, h, t⟩ := dn'.lst_inv
          exact ⟨a, xs, rfl, .inl ⟨R1.le.sqL (.of h), q _ Z1 H1 R1 l (walks_E (.of h) t)⟩⟩
        | scr ds =>
          obtain ⟨a, xs, rfl, h, t⟩ := dn'.scr_inv
          exact ⟨a, xs, rfl, .inl ⟨R1.le.sqL h, q _ Z1 H1 R1 l (walks_E h t)⟩⟩
        | tup ds =>
          obtain ⟨a, xs, rfl, h, t⟩ := dn'.tup_inv
          exact ⟨a, xs, rfl, .inr ⟨R1.le.sqT h, q _ Z1 H1 R1 l (walks_ET h t)⟩⟩
        | _ => exact q.elim
    · exact q.elim
theorem si_zip [Tabl] (hg : Gl X "zip") (hm0 : X.mg "zip" = none) (he : SA X W [e, e2] fl) (hs : starEach [e, e2] X.env = (false, eval e X.env) :: starEach [e2] X.env := by rfl) (hpl : ((backTo pos (starEach [e2] X.env)).any fun x => x.1) = false := by rfl) : SI X W (.Tuple elts kk tpos) (.Call (.Name "zip" p) [e, e2] [] pos) (fZip fl) :=
  si_of (RZ.pi_zipA hg hm0 he hs hpl) fun C ρ σ Z H Q hK hm R q => by
    show TAr X.K X.mg W fl σ H _
    rw [← hK, ← hm]
    refine ta_bind (P := fun r => AftI C W σ Z r Q) R q (fun _ _ h => h) (fun h => h) fun rs ρ1 vs Z1 H1 R1 l dn q => ?_
    split at q
    · rename_i d e
      match vs, dn with
      | [v, u], ⟨d1, d2, _⟩ =>
        split at q
        · rename_i ds es e1 e2
          obtain ⟨a, xs, rfl, h, t⟩ := lstOf_dn (K := C.K) (Z := Z1) d1 e1
          obtain ⟨b, ys, rfl, h2, t2⟩ := lstOf_dn (K := C.K) (Z := Z1) d2 e2
          exact ⟨a, b, xs, ys, rfl, .inl ⟨R1.le.sqL h, R1.le.sqL h2, q _ Z1 H1 R1 l (walks_ZL h t h2 t2)⟩⟩
        · split at q
          · rename_i ds es
            obtain ⟨a, xs, rfl, h, t⟩ := Dn.tup_inv (K := C.K) (Z := Z1) d1
            obtain ⟨b, ys, rfl, h2, t2⟩ := Dn.tup_inv (K := C.K) (Z := Z1) d2
            exact ⟨a, b, xs, ys, rfl, .inr ⟨R1.le.sqT h, R1.le.sqT h2, q _ Z1 H1 R1 l (walks_ZT h t h2 t2)⟩⟩
          · exact q.elim
    · exact q.elim
/-! ### a, b = e -/
def fAsg (fg : PV → Rho → Option Rho) (f : Rho → Res RV) : Rho → Res Fl := fun ρ => (fV f ρ).bind fun r ρ1 => match r with
  | .val d => optF (fg d ρ1)
  | _ => .no
theorem ss_asg [Tabl] {vs : List Nat} {fg : PV → Rho → Option Rho} (he : SE X W e f) (hg : SG X vs tg fg) (h1 : swapsWithSole [tg] e pos.line X.env = pure false := by rfl) (h2 : swappedStores [tg] e X.env = pure none := by rfl) (h3 : (assignEach [tg] X.env).map (fun x => x.2) = [assign tg X.env] := by rfl) :
    SS X W (.Assign [tg] e pos) (fAsg fg f) :=
  ss_of (ps_asg (se_v he) hg h1 h2 h3) fun C ρ σ Z H D hK hm R q => by
    show TF X.K X.mg W (fV f) σ H fun x H1 => TGc X.K X.mg vs fg x σ H1 D.nx
    rw [← hK, ← hm]
    refine tf_bind (P := fun r => AftS C W Z r D) R q (fun _ _ h => h σ) (fun h => h) fun r ρ1 v Z1 H1 R1 l dn q => ?_
    cases r with
    | own d => exact q.elim
    | ali j => exact q.elim
    | val d =>
      have q' : AftS C W Z (optF (fg d ρ1)) D := q
      refine ⟨C, ρ1, Z1, d, rfl, rfl, R1, dn, ?_⟩
      cases e1 : fg d ρ1 with
      | none => rw [e1] at q'; exact q'.elim
      | some ρ2 =>
        rw [e1] at q'
        exact fun σ' R' _ => q' σ' Z1 H1 R' l
end
end TT

set_option Elab.async false
set_option linter.all false
set_option maxRecDepth 100000
namespace TT
open PySem PySem.Spec L2
/-! ### a, b, c = x, y, z (values) -/
def fPar3 (i j l : Nat) (f : Rho → Res (List RV)) : Rho → Res Fl := fun ρ => (f ρ).bind fun rs ρ1 => match rs with
  | [.val u, .val v, .val w] => optF (((asgR i (.val u) ρ1).bind (asgR j (.val v))).bind (asgR l (.val w)))
  | _ => .no
section
variable {X : Cx} {W : WX} {i j l : Nat} {x y z : Str} {a b c : Expr} {f : Rho → Res (List RV)} {px py pz pt pos : Pos} {kt k2 : Nat} {pt2 : Pos}
theorem asgV [Tabl] {C : Ct} {ρ ρ' : Rho} {σ : Sg} {Z H : Hp} {v : V} {d : PV} {i : Nat} (R : Rel C ρ σ Z H) (e : asgR i (.val d) ρ = some ρ') (dn : Dn C.K Z v d) : Rel C ρ' (σ.set i (some v)) Z H := by
  unfold asgR at e
  split at e
  · cases e
  · cases e; exact R.asgVal dn
theorem ss_par3 [Tabl] (hc : X.calm = true) (hN : X.N.Nodup) (hi : X.N[i]? = some x) (hj : X.N[j]? = some y) (hl : X.N[l]? = some z) (hij : i ≠ j) (hil : i ≠ l) (hjl : j ≠ l)
    (hx : X.env.scope.names.lookup x = some .local) (hy : X.env.scope.names.lookup y = some .local) (hz : X.env.scope.names.lookup z = some .local) (ha : SA X W [a, b, c] f)
    (hw : swappedStores [.Tuple [.Name x px, .Name y py, .Name z pz] kt pt] (.Tuple [a, b, c] k2 pt2) X.env = pure (some [x, y, z]) := by rfl)
    (hs : swapsWithSole [.Tuple [.Name x px, .Name y py, .Name z pz] kt pt] (.Tuple [a, b, c] k2 pt2) pos.line X.env = pure false := by rfl) :
    SS X W (.Assign [.Tuple [.Name x px, .Name y py, .Name z pz] kt pt] (.Tuple [a, b, c] k2 pt2) pos) (fPar3 i j l f) :=
  ss_of (ps_par3 hc hN hi hj hl hij hil hjl hx hy hz ha hw hs) fun C ρ σ Z H D hK hm R q => by
    show TAr X.K X.mg W f σ H _
    rw [← hK, ← hm]
    refine ta_bind (P := fun r => AftS C W Z r D) R q (fun _ _ h => h σ) (fun h => h) fun rs ρ1 vs Z1 H1 R1 l1 d1 q => ?_
    split at q
    · rename_i u v w
      match vs, d1 with
      | [vu, vv, vw], ⟨du, dv, dw, _⟩ =>
        refine ⟨vu, vv, vw, rfl, ?_⟩
        cases e1 : asgR i (.val u) ρ1 with
        | none => rw [e1] at q; exact q.elim
        | some ρ2 =>
          rw [e1] at q
          simp only [Option.bind_some] at q
          cases e2 : asgR j (.val v) ρ2 with
          | none => rw [e2] at q; exact q.elim
          | some ρ3 =>
            rw [e2] at q
            simp only [Option.bind_some] at q
            cases e3 : asgR l (.val w) ρ3 with
            | none => rw [e3] at q; exact q.elim
            | some ρ4 =>
              rw [e3] at q
              exact q _ Z1 H1 (asgV (asgV (asgV R1 e1 du) e2 dv) e3 dw) l1
    · exact q.elim
end
/-! ### gcd of the module math -/
theorem se_gcd [Tabl] {X : Cx} {W : WX} {e : Expr} {es : List Expr} {fl : Rho → Res (List RV)} {p pos : Pos} (hm : X.mg "gcd" = some (.builtin "math.gcd")) (hg : Gl X "gcd") (ha : SA X W (e :: es) fl) (hs : starEach (e :: es) X.env = (false, eval e X.env) :: starEach es X.env := by rfl)
    (hpl : ((backTo pos (starEach es X.env)).any fun x => x.1) = false := by rfl) : SE X W (.Call (.Name "gcd" p) (e :: es) [] pos) (fApp pGcd fl) :=
  se_of (pe_callBfun cr_gcd hg hm ha (by decide) hs hpl) fun C ρ σ Z H Q hK hmm R q => by
    show TAr X.K X.mg W fl σ H _
    rw [← hK, ← hmm]
    refine ta_bind (P := fun r => Aft C W σ Z r Q) R q (fun _ _ h => h) (fun h => h) fun rs ρ1 vs Z1 H1 R1 l dn q => ?_
    exact fin_app (r := rGcd) (p := pGcd) p_gcd R1 l dn q
/-! ### evaluation, by equations -/
section
variable {α β : Type} {ρ ρ1 : Rho} {a : α} {x : EX} {f g h : Rho → Res RV} {fb gb : Rho → Res Bool} {fs gs : Rho → Res Fl} {fl : Rho → Res (List RV)} {fi : Rho → Res (List PV)} {c m : Str} {F : Sem1} {n i j l : Nat}
@[simp] theorem fFld_ap {n : Str} : fFld c n g ρ = (g ρ).bind fun r ρ1 => match (peek r ρ1).bind (isObjV c) with
  | some fs => (match List.lookup n fs with
    | some d => .ok (.val d) ρ1
    | none => .no)
  | none => .no := rfl
@[simp] theorem fProp_ap : fProp c F g ρ = (fV g ρ).bind fun r ρ1 => match r with
  | .val d => (match isObjV c d with
    | some fs => outM (F [.val d]) ρ1
    | none => .no)
  | _ => .no := rfl
@[simp] theorem fMeth_ap : fMeth c m n F g fl ρ = (fV g ρ).bind fun r ρ1 => match r with
  | .val d => (match isObjV c d with
    | some fs => if (List.lookup m fs).isNone = true then (fl ρ1).bind fun rs ρ2 => (match asVals rs with
      | some as => if as.length + 1 = n then outM (F (.val d :: as)) ρ2 else .no
      | none => .no) else .no
    | none => .no)
  | _ => .no := rfl
@[simp] theorem outM_val {d : PV} {as : List SV} : outM (.ok (.val d) as) ρ = .ok (.val d) ρ := rfl
@[simp] theorem outM_own {d : PV} {as : List SV} : outM (.ok (.own d) as) ρ = .ok (.own d) ρ := rfl
@[simp] theorem isObjV_obj {fs : List (Str × PV)} : isObjV c (.obj c fs) = some fs := by unfold isObjV; simp
@[simp] theorem fMake_ap : fMake c n F fl ρ = (fl ρ).bind fun rs ρ1 => match asVals rs with
  | some as => if as.length + 1 = n then outK (F (.bor (.obj c []) :: as)) ρ1 else .no
  | none => .no := rfl
@[simp] theorem outK_ok {fs : List (Str × PV)} {as : List SV} : outK (.ok (.val .non) (.bor (.obj c fs) :: as)) ρ = .ok (.val (.obj c fs)) ρ := rfl
@[simp] theorem fSetF_ap {n : Str} : fSetF c n i g ρ = (fV g ρ).bind fun r ρ1 => match r, ρ1[i]? with
  | .val d, some (.bor o) => (match isObjV c o with
    | some fs => if (List.lookup n fs).isNone = true ∧ fs.length < 900 then .ok .nx (ρ1.set i (.bor (.obj c (fs ++ [(n, d)])))) else .no
    | none => .no)
  | _, _ => .no := rfl
@[simp] theorem pIsC_obj {fs : List (Str × PV)} : pIsC c (.obj c fs) = vB true := by unfold pIsC; simp
@[simp] theorem pRevA_lst {ds : List PV} : pRevA (.lst ds) = some (.own (.lst ds.reverse)) := rfl
@[simp] theorem pRevA_tup {ds : List PV} : pRevA (.tup ds) = some (.val (.tup ds.reverse)) := rfl
@[simp] theorem itemsS_lst {ds : List PV} : itemsS (.lst ds) = some ds := rfl
@[simp] theorem itemsS_tup {ds : List PV} : itemsS (.tup ds) = some ds := rfl
@[simp] theorem itemsS_scr {ds : List PV} : itemsS (.scr ds) = some ds := rfl
@[simp] theorem fRevI_ap : fRevI f ρ = (fV f ρ).bind fun r ρ1 => match r with
  | .val d => (match itemsS d with
    | some ds => .ok ds.reverse ρ1
    | none => .no)
  | _ => .no := rfl
@[simp] theorem fEnum_ap : fEnum fl ρ = (fl ρ).bind fun rs ρ1 => match rs with
  | [.val d] => (match itemsS d with
    | some ds => .ok (enumP ds) ρ1
    | none => .no)
  | _ => .no := rfl
@[simp] theorem fZip_ap : fZip fl ρ = (fl ρ).bind fun rs ρ1 => match rs with
  | [.val d, .val e] => (match lstOf d, lstOf e with
    | some ds, some es => .ok (zipP ds es) ρ1
    | _, _ => (match d, e with
      | .tup ds, .tup es => .ok (zipP ds es) ρ1
      | _, _ => .no))
  | _ => .no := rfl
@[simp] theorem lstOf_lst {ds : List PV} : lstOf (.lst ds) = some ds := rfl
@[simp] theorem lstOf_tup {ds : List PV} : lstOf (.tup ds) = none := rfl
@[simp] theorem fAsg_ap {fg : PV → Rho → Option Rho} : fAsg fg f ρ = (fV f ρ).bind fun r ρ1 => match r with
  | .val d => optF (fg d ρ1)
  | _ => .no := rfl
@[simp] theorem fPar3_ap : fPar3 i j l fl ρ = (fl ρ).bind fun rs ρ1 => match rs with
  | [.val u, .val v, .val w] => optF (((asgR i (.val u) ρ1).bind (asgR j (.val v))).bind (asgR l (.val w)))
  | _ => .no := rfl
@[simp] theorem pGcd_int {i j : Int} : pGcd [.int i, .int j] = vI ((Nat.gcd i.natAbs j.natAbs : Nat) : Int) := rfl
end
end TT

set_option Elab.async false
set_option linter.all false
set_option maxRecDepth 100000
/-! len of an object whose class says __len__ -/
namespace TT
open PySem PySem.Spec PyProof.Rows L2
section
variable {X : Cx} {CX : CXT} {C f : Addr} {n : Nat} {fd : FuncData} {ps : List Str} {sp : Sp} {E : XK}
def rLenO (C : Addr) (sp : Sp) (E : XK) : List V → Hp → VK → Prop := fun xs H Q => ∃ (a dx : Addr) (fs : List (Str × V)), xs = [.ref a] ∧ H a = some (.ins C dx fs) ∧ sp [.ref a] H (fun v H' => ∃ k : Int, v = .int k ∧ 0 ≤ k ∧ k < 2 ^ 62 ∧ Q (.int k) H') E
theorem cr_lenO (F : FnOk X.prog X.w X.K X.mg X.base CX n f fd ps sp) (me : Meth X.K C "__len__" f) (hb : Binds X.K fd ps []) (hx : Passes CX X E) (hr : Room (n + 1) X.A) : CallR X (.builtin "len") (rLenO C sp E) := by
  intro pins s σ H xs us Q I r ⟨a, dx, fs, ex, ha, hsp⟩
  subst ex
  obtain rfl := Vals.ref1 r
  obtain ⟨mA, J, _⟩ := ins_get I.hok ha
  obtain ⟨od, J, _⟩ := J.look
  obtain ⟨m, hF⟩ := I.fr
  refine PySem.W.len_K hF I.ok.mod.kin J me.at_ me.fn ?_
  have e0 : Env0 X.prog X.w X.K X.mg X.base X.A.in1 X.stack s H := by
    have e := I.env0
    exact ⟨e.frames, e.mod, e.bs, e.bsz, e.funs, e.frf, e.hok, e.bare⟩
  have hl := F.len _ _ _ _ hsp
  have r2 : Vals [V.ref a] [Value.ref a] := .cons rfl .nil
  have bd := hb s [.ref a] I.kIn (by simpa using hl)
  refine wpAny_call (codeAny_mono (F.run X.A.in1 X.stack s H ⟨[.ref a], []⟩ [.ref a] [.ref a] _ E hr.in1 e0 (by simpa using bd) r2 hsp) fun r s' hq => ?_)
  cases r with
  | error e => exact hx pins σ H s e s' I hq
  | ok fl =>
    cases fl with
    | ret w =>
      obtain ⟨z, H', I', rz, k, ez, k0, k1, q⟩ := I.after hq
      subst ez
      obtain ⟨t, rfl⟩ := rz
      exact ⟨⟨k0, by omega⟩, .int k, H', I'.kept (t' := s'.toks + 1) (fun _ _ e => e), ⟨_, rfl⟩, q⟩
    | next => exact False.elim hq
    | brk => exact False.elim hq
    | cont => exact False.elim hq
end
def lenBack (r : Res RV) (ρ : Rho) : Res RV := match r with
  | .ok (.val (.int k)) _ => if 0 ≤ k ∧ k < 2 ^ 62 then .ok (.val (.int k)) ρ else .no
  | _ => .no
/-- len(e), e an object of the class c -/
def fLenO (c : Str) (F : Sem1) (g : Rho → Res RV) : Rho → Res RV := fun ρ => (fV g ρ).bind fun r ρ1 => match r with
  | .val d => (match isObjV c d with
    | some _ => lenBack (F [.val d]) ρ1
    | none => .no)
  | _ => .no
theorem lenBack_aft [Tabl] {C : Ct} {W : WX} {σ : Sg} {Z : Hp} {ρ : Rho} {r : Res RV} {Q : VK} (q : Aft C W σ Z (lenBack r ρ) Q) : Aft C W σ Z (outM r ρ) (fun v H' => ∃ k : Int, v = .int k ∧ 0 ≤ k ∧ k < 2 ^ 62 ∧ Q (.int k) H') := by
  cases r with
  | no => exact q
  | er x as => exact q
  | ok r as =>
    cases r with
    | own d => exact q.elim
    | ali i => exact q.elim
    | val d =>
      cases d with
      | int k =>
        unfold lenBack at q
        simp only at q
        by_cases h : 0 ≤ k ∧ k < 2 ^ 62
        · rw [if_pos h] at q
          intro v Z' H' R' l dn
          have e := Dn.int_inv (K := C.K) (Z := Z') dn
          subst e
          exact ⟨k, rfl, h.1, h.2, q _ Z' H' R' l dn⟩
        · rw [if_neg h] at q
          exact q.elim
      | _ => exact q.elim
section
variable {X : Cx} {W : WX} {e : Expr} {g : Rho → Res RV} {c : Str} {pos p' : Pos} {k j : Nat} {F : Sem1}
theorem se_lenO [Tabl] (p : MeC X.prog X.w X.K X.mg X.base c "__len__" 1 F k) (hr : Room j X.A) (he : SE X W e g) (hg : Gl X "len") (hm : X.mg "len" = none) (hk : k + 1 ≤ j := by decide)
    (hs : starEach [e] X.env = (false, eval e X.env) :: starEach [] X.env := by rfl) : SE X W (.Call (.Name "len" p') [e] [] pos) (fLenO c F g) := by
  obtain ⟨ga, fd, ps, h1, h2, G, hbi⟩ := p.ex
  refine se_of (pe_callB (cr_lenO G h1 hbi passN (hr.mono hk)) hg hm boot_len (pa_cons (se_v he) pa_nil hs) (by decide) (by decide) hs (by rfl)) fun C ρ σ Z H Q hK hm R q => ?_
  show TF X.K X.mg W (fV g) σ H fun x H1 => rLenO (He.ga X.K c) (spF X.K X.mg 1 F) (fun _ _ _ => False) [x] H1 Q
  rw [← hK, ← hm]
  refine tf_bind (P := fun r => Aft C W σ Z r Q) R q (fun _ _ h => h) (fun h => h) fun r ρ1 v Z1 H1 R1 l dn q => ?_
  cases r with
  | own d => exact q.elim
  | ali i => exact q.elim
  | val d =>
    simp only at q
    cases e2 : isObjV c d with
    | none => rw [e2] at q; exact q.elim
    | some fs =>
      rw [e2] at q
      have := isObjV_eq e2
      subst this
      have dn' : Dn C.K Z1 v (.obj c fs) := dn
      obtain ⟨a, dx, ns, xs, ds, rfl, hx, rfl, hl, t⟩ := dn'.obj_inv
      refine ⟨a, dx, _, rfl, R1.le _ _ hx, outM_ok rfl rfl R1 rfl rfl (fun i s h => ?_) (lenBack_aft (Aft.mono q l))⟩
      cases i with
      | zero => simp at h; exact ⟨_, _, h.symm, rfl, dn'⟩
      | succ i => simp at h
@[simp] theorem fLenO_ap {ρ : Rho} : fLenO c F g ρ = (fV g ρ).bind fun r ρ1 => match r with
  | .val d => (match isObjV c d with
    | some _ => lenBack (F [.val d]) ρ1
    | none => .no)
  | _ => .no := rfl
@[simp] theorem lenBack_int {n : Int} {as : List SV} {ρ : Rho} : lenBack (.ok (.val (.int n)) as) ρ = if 0 ≤ n ∧ n < 2 ^ 62 then .ok (.val (.int n)) ρ else .no := rfl
@[simp] theorem fAlt_ap {f g : Rho → Res RV} {ρ : Rho} : fAlt f g ρ = match f ρ with
  | .no => g ρ
  | r => r := by
  unfold fAlt
  cases f ρ <;> rfl
end
end TT

set_option Elab.async false
set_option linter.all false
set_option maxRecDepth 100000
/-! list(range(..)) -/
namespace TT
open PySem PySem.Spec PyProof.Rows L2
def fLstR1 (f : Rho → Res RV) : Rho → Res RV := fun ρ => (f ρ).bind fun r ρ1 => match r with
  | .val (.int j) => if 0 ≤ j ∧ j ≤ 1000000 then .ok (.own (.lst (rngL 0 j.toNat))) ρ1 else .no
  | _ => .no
theorem dn_rg {K : PySem.W.Frag} {Z : Hp} (a : Int) : ∀ l : List Nat, DnAll K Z (l.map fun i => V.int (a + (i : Nat))) (l.map fun (i : Nat) => PV.int (a + (i : Int)))
  | [] => .nil
  | i :: l => .cons (.int _) (dn_rg a l)
section
variable {X : Cx} {W : WX} {a : Expr} {f : Rho → Res RV} {pos p p2 pos2 : Pos}
theorem se_lstR1 [Tabl] (hc : X.calm = true) (hg : Gl X "list") (hm : X.mg "list" = none) (hg2 : Gl X "range") (hm2 : X.mg "range" = none) (he : SE X W a f)
    (na : starEach [a] X.env = (false, eval a X.env) :: starEach [] X.env := by rfl)
    (nb : starEach [.Call (.Name "range" p2) [a] [] pos2] X.env = (false, eval (.Call (.Name "range" p2) [a] [] pos2) X.env) :: starEach [] X.env := by rfl) :
    SE X W (.Call (.Name "list" p) [.Call (.Name "range" p2) [a] [] pos2] [] pos) (fLstR1 f) :=
  se_of (pe_listRg hc hg hm (prg_1 hg2 hm2 he na) nb) fun C ρ σ Z H Q hK hm0 R q => by
    show TF X.K X.mg W f σ H fun x H1 => ∃ n : Int, x = .int n ∧ (RgOk 0 n ∧ ∀ q, H1 q = none → Q (.ref q) (upd H1 q (.lst (rgV 0 n))))
    rw [← hK, ← hm0]
    refine tf_bind (P := fun r => Aft C W σ Z r Q) R q (fun _ _ h => h) (fun h => h) fun r ρ1 v Z1 H1 R1 l dn q => ?_
    cases r with
    | own d => exact q.elim
    | ali i => exact q.elim
    | val d =>
      cases d with
      | int j =>
        simp only at q
        by_cases hj : 0 ≤ j ∧ j ≤ 1000000
        · rw [if_pos hj] at q
          have e := Dn.int_inv (K := C.K) (Z := Z1) dn
          refine ⟨j, e, RgOk.of_le (by omega) (by omega) (by omega) hj.1, fun p hp => ?_⟩
          have e2 : (j - 0).toNat = j.toNat := by omega
          exact want_of (o := .own (.lst (rngL 0 j.toNat))) R1 q l (rgV 0 j) _ p rfl hp (by
            unfold rgV rngL
            rw [e2]
            exact dn_rg 0 _)
        · rw [if_neg hj] at q
          exact q.elim
      | _ => exact q.elim
@[simp] theorem fLstR1_ap {ρ : Rho} : fLstR1 f ρ = (f ρ).bind fun r ρ1 => match r with
  | .val (.int j) => if 0 ≤ j ∧ j ≤ 1000000 then .ok (.own (.lst (rngL 0 j.toNat))) ρ1 else .no
  | _ => .no := rfl
end
end TT

set_option Elab.async false
set_option linter.all false
set_option maxRecDepth 100000
/-! max(.., default=..) of a list of ints -/
namespace RM
open PySem PyProof.Rows
abbrev kwD (d : Value) : List (Str × Value) := [(Str.ofString "default", d)]
theorem ok_kwD (a d : Value) : argsOk "max" ⟨[a], kwD d⟩ := by unfold argsOk; kernel_rfl
section
variable {prog : Program} {w : World} {A : Around} {R : Result → Shared → Prop} {I : Addr} {fp wr : List Addr} {n : Nat} {P : Nat → Value → Prop} {St : Nat → Heap → Prop} {d : Value}
theorem mx_name : (toString "max" ++ toString ".loop" : String) = "max.loop" := by decide
theorem mx_loop (W : Walks prog w A.in1 I fp wr n P St) (bt : Nat → Nat → Bool) (cmp : CmpOf prog w A.in1 .Gt P bt) (B : Addr) (hB : B ∉ fp) :
    ∀ (k j : Nat) (s : Shared) (v0 : Value) (c : Nat), n - (j + 1) = k → j + 1 ≤ n → St (j + 1) s.heap → P (argBest bt j) v0 →
    s.heap.get? B = some { cls := .type "list", dict := none, data := .seq #[v0, v0] c, slots := #[] } →
    (∀ v h' tk, P (argBest bt (n - 1)) v → (∀ b o, b ∉ wr → b ≠ B → s.heap.get? b = some o → h'.get? b = some o) → R (.ok (.ret v)) { s with heap := h', toks := tk }) →
    codeAny (model prog w) A (.builtin "max.loop" ⟨[.ref I, .none, .ref B], kwD d⟩) R s := by
  have hw : B ∉ wr := fun h => hB (W.sub _ h)
  intro k
  induction k with
  | zero =>
    intro j s v0 c hk hj st p0 hb fin
    have e : j + 1 = n := by omega
    refine codeAny_builtin F.entry_max_loop ?_
    rw [Around.under_plainId F.plain_max_loop _]
    show wpAny _ A.in1 (seqItems? (.ref B) >>= _) _ _ s
    refine wpAny_bind (wpAny_seqItems hb rfl ?_)
    show wpAny _ A.in1 (tryCatch (pyNext (.ref I)) _ >>= _) _ _ s
    refine wpAny_bind (wpAny_tryCatch (W.done s _ _ (e ▸ st) fun h' tk hk' => ?_))
    have hb' := hk' B _ hw hb
    show wpAny _ A.in1 (updateSeq B (fun _ => #[]) >>= _) _ _ _
    refine wpAny_bind (wpAny_updateSeq hb' rfl (wpAny_bind (wpAny_letGo (wpAny_pure ?_))))
    exact fin v0 _ tk (by rw [← e]; exact p0) fun b o h1 h2 h3 => (Heap.get?_update_other _ _ (Ne.symm h2)).trans (hk' b o h1 h3)
  | succ k ih =>
    intro j s v0 c hk hj st p0 hb fin
    have lt : j + 1 < n := by omega
    refine codeAny_builtin F.entry_max_loop ?_
    rw [Around.under_plainId F.plain_max_loop _]
    show wpAny _ A.in1 (seqItems? (.ref B) >>= _) _ _ s
    refine wpAny_bind (wpAny_seqItems hb rfl ?_)
    show wpAny _ A.in1 (tryCatch (pyNext (.ref I)) _ >>= _) _ _ s
    refine wpAny_bind (wpAny_tryCatch (W.item (j + 1) s _ _ lt st fun v h' tk hP st' hk' => ?_))
    have hb' := hk' B _ hw hb
    show wpAny _ A.in1 (tryCatch (holding [v, v] (richCompare .Gt v v0 >>= _)) _ >>= _) _ _ _
    refine wpAny_bind (wpAny_tryCatch (wpAny_holding (wpAny_bind (cmp (j + 1) (argBest bt j) v v0 _ _ _ hP p0 ?_))))
    refine wpAny_bind (wpAny_holding (wpAny_truthy_bool ?_))
    refine wpAny_bind (wpAny_letGo (wpAny_pure ?_))
    cases q : bt (j + 1) (argBest bt j) with
    | true =>
      simp only [if_true]
      refine wpAny_bind (wpAny_updateSeq hb' rfl (wpAny_bind (wpAny_letGo ?_)))
      rw [mx_name]
      refine wpAny_pure ⟨plainId_quiet F.plain_max_loop _, ih (j + 1) _ v _ (by omega) lt (W.frame _ _ _ st' fun b hbf o e => ?_) (by simp only [argBest, q, if_true]; exact hP) (Heap.get?_update_self _ hb' rfl)
        fun v' h'' tk'' p' k' => ?_⟩
      · exact (Heap.get?_update_other _ _ (fun h : B = b => hB (by rw [h]; exact hbf))).trans e
      · exact fin v' h'' tk'' p' fun b o h1 h2 e => k' b o h1 h2 ((Heap.get?_update_other _ _ (Ne.symm h2)).trans (hk' b o h1 e))
    | false =>
      simp only [Bool.false_eq_true, if_false]
      refine wpAny_bind (wpAny_letGo ?_)
      rw [mx_name]
      refine wpAny_pure ⟨plainId_quiet F.plain_max_loop _, ih (j + 1) _ v0 c (by omega) lt st' (by simp only [argBest, q, Bool.false_eq_true, if_false]; exact p0) hb' fun v' h'' tk'' p' k' => ?_⟩
      exact fin v' h'' tk'' p' fun b o h1 h2 e => k' b o h1 h2 (hk' b o h1 e)
theorem mx_first (W : Walks prog w A.in1 I fp wr n P St) (bt : Nat → Nat → Bool) (cmp : CmpOf prog w A.in1 .Gt P bt) (B : Addr) (hB : B ∉ fp) {s : Shared} {c : Nat} (st : St 0 s.heap)
    (hb : s.heap.get? B = some { cls := .type "list", dict := none, data := .seq #[] c, slots := #[] })
    (fin : ∀ v h' tk, (n = 0 ∧ v = d ∨ 0 < n ∧ P (argBest bt (n - 1)) v) → (∀ b o, b ∉ wr → b ≠ B → s.heap.get? b = some o → h'.get? b = some o) → R (.ok (.ret v)) { s with heap := h', toks := tk }) :
    codeAny (model prog w) A (.builtin "max.loop" ⟨[.ref I, .none, .ref B], kwD d⟩) R s := by
  have hw : B ∉ wr := fun h => hB (W.sub _ h)
  refine codeAny_builtin F.entry_max_loop ?_
  rw [Around.under_plainId F.plain_max_loop _]
  show wpAny _ A.in1 (seqItems? (.ref B) >>= _) _ _ s
  refine wpAny_bind (wpAny_seqItems hb rfl ?_)
  show wpAny _ A.in1 (tryCatch (pyNext (.ref I)) _ >>= _) _ _ s
  by_cases hn : 0 < n
  · refine wpAny_bind (wpAny_tryCatch (W.item 0 s _ _ hn st fun v h' tk hP st' hk' => ?_))
    have hb' := hk' B _ hw hb
    show wpAny _ A.in1 (updateSeq B (fun _ => #[v, v]) >>= _) _ _ _
    refine wpAny_bind (wpAny_updateSeq hb' rfl ?_)
    rw [mx_name]
    refine wpAny_pure ⟨plainId_quiet F.plain_max_loop _, mx_loop W bt cmp B hB _ 0 _ v _ rfl hn (W.frame _ _ _ st' fun b hbf o e => ?_) hP (Heap.get?_update_self _ hb' rfl) fun v' h'' tk'' p' k' => ?_⟩
    · exact (Heap.get?_update_other _ _ (fun h : B = b => hB (by rw [h]; exact hbf))).trans e
    · exact fin v' h'' tk'' (.inr ⟨hn, p'⟩) fun b o h1 h2 e => k' b o h1 h2 ((Heap.get?_update_other _ _ (Ne.symm h2)).trans (hk' b o h1 e))
  · have e : n = 0 := by omega
    refine wpAny_bind (wpAny_tryCatch (W.done s _ _ (by rw [e]; exact st) fun h' tk hk' => ?_))
    refine wpAny_bind (wpAny_rule (wpAny_pure ?_))
    exact fin d h' tk (.inl ⟨e, rfl⟩) fun b o h1 _ h3 => hk' b o h1 h3
end
section
variable {prog : Program} {w : World} {A : Around} {E : Value → Shared → Prop} {s : Shared} {l : Addr} {xs : Array (Int × Tok)} {d : Value}
theorem max_list_d {Q : Value → Shared → Prop} (hh : A.handled = none) (hl : s.heap.IsList l (intItems xs))
    (h : ∀ v h' tk, (xs.size = 0 ∧ v = d ∨ 0 < xs.size ∧ (intItems xs)[argBest (fun i j => decide (numAt xs i > numAt xs j)) (xs.size - 1)]? = some v) → (∀ b o, s.heap.get? b = some o → h'.get? b = some o) → Q v { s with heap := h', toks := tk }) :
    wpAny (model prog w) A (call (.builtin "max") [.ref l] (kwD d)) Q E s := by
  have hz : (intItems xs).size = xs.size := by simp [intItems]
  refine kmk_tree F.kind_max F.plain_max F.entry_max (ok_kwD _ _) ?_
  show wpAny _ A.in1 (Builtin.Builtins.bindParams "max" ["key", "default"] 0 ⟨[], kwD d⟩ >>= _) _ _ s
  refine wpAny_bind (wpAny_of_eq (show Builtin.Builtins.bindParams "max" ["key", "default"] 0 ⟨[], kwD d⟩ = pure [none, some d] from rfl) ?_)
  refine wpAny_bind (wpAny_pure ?_)
  refine wpAny_bind (iter_intList hl fun s₂ e st hfp hlI => ?_)
  subst e
  refine wpAny_bind (wpAny_newObj_type ?_)
  have W := Walks.list (prog := prog) (w := w) (A := A.in1) hh _ l hlI (intItems xs)
  rw [mx_name]
  refine wpAny_pure ⟨plainId_quiet F.plain_max_loop _, mx_first W _ (CmpOf.ints_gt (numAt xs) (fun _ _ => intItems_at)) _ (fun hm => Nat.lt_irrefl _ (hfp _ hm)) (W.frame _ _ _ st fun b _ o e => Heap.get?_push_of_some _ e) (Heap.get?_push_size _ rfl) fun v h' tk hP hk => ?_⟩
  rw [hz] at hP
  exact h v h' tk hP fun b o e => old_kept (fun b o hbw e => hk b o hbw (Nat.ne_of_lt (Heap.lt_size e)) (Heap.get?_push_of_some _ e)) b o e
end
end RM

set_option Elab.async false
set_option linter.all false
set_option maxRecDepth 100000
/-! max(.., default=..), the rule -/
namespace TT
open PySem PySem.Spec PyProof.Rows L2
theorem maxd_raw {prog : Program} {w : World} {A : Around} {E : Value → Shared → Prop} {s : Shared} {l : Addr} {its : List Value} {ns : List Int} {d : Value} {Q : Value → Shared → Prop} (hh : A.handled = none) (hl : s.heap.IsList l its.toArray) (hi : IntsAre its ns)
    (h : ∀ h' tk v, (∀ b o, s.heap.get? b = some o → h'.get? b = some o) → (ns = [] ∧ v = d ∨ ∃ m t, v = .int m t ∧ m ∈ ns ∧ ∀ a, a ∈ ns → a ≤ m) → Q v { s with heap := h', toks := tk }) : wpAny (model prog w) A (call (.builtin "max") [.ref l] (RM.kwD d)) Q E s := by
  obtain ⟨xs, e⟩ := hi.allInts.items
  have hn : numsOf (intItems xs).toList = ns := by rw [← e]; exact hi.numsOf
  rw [nums_intItems] at hn
  subst hn
  rw [e] at hl
  refine RM.max_list_d hh hl fun v h' tk hv hk => h h' tk v hk ?_
  rcases hv with ⟨h0, rfl⟩ | ⟨h0, hv⟩
  · exact .inl ⟨by
      have : xs.toList = [] := List.eq_nil_of_length_eq_zero (by rw [Array.length_toList]; exact h0)
      rw [this]; rfl, rfl⟩
  · obtain ⟨t, rfl⟩ := intItems_at hv
    obtain ⟨h1, h2⟩ := argBest_gt (numAt xs) (xs.size - 1)
    refine .inr ⟨_, t, rfl, ?_, fun a ha => ?_⟩
    · rw [numAt_eq]; exact PySem.getD_mem (by rw [List.length_map, Array.length_toList]; omega)
    · obtain ⟨j, hj, rfl⟩ := mem_getD ha
      rw [List.length_map, Array.length_toList] at hj
      rw [← numAt_eq]; exact h2 j (by omega)
def rMaxD (K : PySem.W.Frag) : List V → List V → Hp → VK → Prop := fun xs zs H Q => ∃ (a : Addr) (ns : List Int) (j : Int), xs = [.ref a] ∧ zs = [.int j] ∧ SqL K H a (ns.map V.int) ∧ ∀ m : Int, (ns = [] ∧ m = j ∨ m ∈ ns ∧ ∀ y ∈ ns, y ≤ m) → Q (.int m) H
theorem cr_maxD {X : Cx} (hc : X.calm = true) : CallRK X (.builtin "max") [Str.ofString "default"] (rMaxD X.K) := by
  intro pins s σ H xs zs us ws Q I r r2 ⟨a, ns, j, e1, e2, hs, q⟩
  subst e1 e2
  obtain rfl := Vals.ref1 r
  cases r2 with
  | cons ra rb =>
    cases rb
    obtain ⟨t, rfl⟩ := ra
    obtain ⟨its, rv, hl, _⟩ := I.list hs
    refine maxd_raw (d := .int j t) (I.ok.hd hc) hl.isList rv.ints fun h' tk v hk hv => ?_
    rcases hv with ⟨h0, rfl⟩ | ⟨m, t', rfl, h1, h2⟩
    · exact ⟨.int j, H, I.kept hk, ⟨_, rfl⟩, q j (.inl ⟨h0, rfl⟩)⟩
    · exact ⟨.int m, H, I.kept hk, ⟨_, rfl⟩, q m (.inr ⟨h1, h2⟩)⟩
def fMaxD (j : Int) (fl : Rho → Res (List RV)) : Rho → Res RV := fun ρ => (fl ρ).bind fun rs ρ1 => match peeks rs ρ1 with
  | some ds => (match (seqOf ds).bind asInts with
    | some ns => .ok (.val (.int (if ns = [] then j else maxI ns))) ρ1
    | none => .no)
  | none => .no
section
variable {X : Cx} {W : WX} {e : Expr} {fl : Rho → Res (List RV)} {p pos kpos p2 : Pos} {j : Int} {k : Nat} {kn : Option Str}
theorem se_maxD [Tabl] (hc : X.calm = true) (hg : Gl X "max") (hm : X.mg "max" = none) (ha : SA X W [e] fl) (hkn : kn = some "default" := by rfl)
    (he : backTo pos (starEach [e] X.env) = (false, eval e X.env) :: backTo pos (starEach [] X.env) := by rfl) (hpl : (backTo pos (starEach [e] X.env)).any (·.1) = false := by rfl)
    (hall : (backToKw pos (keywordEach [⟨some "default", .Constant (.int j) k p2, kpos⟩] X.env)).all (·.1.isSome) = true := by rfl) (hnone : (backToKw pos (keywordEach [⟨some "default", .Constant (.int j) k p2, kpos⟩] X.env)).any (·.1.isNone) = false := by rfl) (hks : (backToKw pos (keywordEach [⟨some "default", .Constant (.int j) k p2, kpos⟩] X.env)).filterMap (·.1) = [Str.ofString "default"] := by rfl) :
    SE X W (.Call (.Name "max" p) [e] [⟨some "default", .Constant (.int j) k p2, kpos⟩] pos) (fMaxD j fl) :=
  se_of (pe_callBK (cr_maxD hc) hg hm boot_max ha (pk_cons pe_int pk_nil) (by decide) (by decide) he hpl hall hnone hks) fun C ρ σ Z H Q hK hm0 R q => by
    show TAr X.K X.mg W fl σ H fun vs H1 => rMaxD X.K vs [.int j] H1 Q
    rw [← hK, ← hm0]
    refine ta_bind (P := fun r => Aft C W σ Z r Q) R q (fun _ _ h => h) (fun h => h) fun as ρ1 vs Z1 H1 R1 l d q => ?_
    cases e1 : peeks as ρ1 with
    | none => rw [e1] at q; exact q.elim
    | some ds =>
      rw [e1] at q
      simp only at q
      cases e2 : seqOf ds with
      | none => rw [e2] at q; exact q.elim
      | some es =>
        rw [e2] at q
        simp only [Option.bind_some] at q
        cases e3 : asInts es with
        | none => rw [e3] at q; exact q.elim
        | some ns =>
          rw [e3] at q
          obtain ⟨a, ys, rfl, hs, t⟩ := seqL R1.le (DnRs.pk R1 d e1) e2
          rw [asInts_eq e3] at t
          rw [ints_of t] at hs
          refine ⟨a, ns, j, rfl, rfl, hs, fun m hmm => q _ Z1 H1 R1 l ?_⟩
          have : m = if ns = [] then j else maxI ns := by
            rcases hmm with ⟨h0, rfl⟩ | ⟨h1, h2⟩
            · rw [if_pos h0]
            · have hne : ns ≠ [] := fun z => by rw [z] at h1; cases h1
              rw [if_neg hne]
              obtain ⟨k1, k2⟩ := maxI_ok hne
              have g1 := k2 m h1
              have g2 := h2 _ k1
              omega
          rw [← this]
          exact .int _
@[simp] theorem fMaxD_ap {ρ : Rho} : fMaxD j fl ρ = (fl ρ).bind fun rs ρ1 => match peeks rs ρ1 with
  | some ds => (match (seqOf ds).bind asInts with
    | some ns => .ok (.val (.int (if ns = [] then j else maxI ns))) ρ1
    | none => .no)
  | none => .no := rfl
end
end TT

set_option Elab.async false
set_option linter.all false
set_option maxRecDepth 100000
/-! range(..) as a value -/
namespace TT
open PySem PySem.Spec PyProof.Rows L2
theorem cr_rngV {X : Cx} : CallR X (.type "range") (fun vs H Q => ∃ j : Int, vs = [V.int j] ∧ ∀ p, H p = none → Q (.ref p) (upd H p (.rng 0 j))) := by
  intro pins s σ H vs us Q I r ⟨j, ev, q⟩
  subst ev
  cases r with
  | cons ra rb =>
    cases rb
    obtain ⟨t, rfl⟩ := ra
    refine call_range_1 ⟨.ref s.heap.objs.size, upd H s.heap.objs.size (.rng 0 j), I.laid (t' := s.toks + 1 + 1) (fun b o e => Heap.get?_push_of_some _ e) (Nat.le_refl _) ?_, rfl, q _ (I.hok.fresh (Nat.le_refl _))⟩
    exact ⟨_, _, _, Heap.get?_push_size _ rfl⟩
def fRngV (f : Rho → Res RV) : Rho → Res RV := fun ρ => (f ρ).bind fun r ρ1 => match r with
  | .val (.int j) => .ok (.val (.rng 0 j)) ρ1
  | _ => .no
section
variable {X : Cx} {W : WX} {a : Expr} {f : Rho → Res RV} {pos p : Pos}
theorem se_rngV [Tabl] (hg : Gl X "range") (hm : X.mg "range" = none) (he : SE X W a f) (na : starEach [a] X.env = (false, eval a X.env) :: starEach [] X.env := by rfl) : SE X W (.Call (.Name "range" p) [a] [] pos) (fRngV f) :=
  se_of (pe_callTy cr_rngV hg hm boot_range (pa_cons he pa_nil na) (by decide) (by decide) na (by rfl)) fun C ρ σ Z H Q hK hm0 R q => by
    show TF X.K X.mg W f σ H fun x H1 => ∃ j : Int, [x] = [V.int j] ∧ ∀ p, H1 p = none → Q (.ref p) (upd H1 p (.rng 0 j))
    rw [← hK, ← hm0]
    refine tf_bind (P := fun r => Aft C W σ Z r Q) R q (fun _ _ h => h) (fun h => h) fun r ρ1 v Z1 H1 R1 l dn q => ?_
    cases r with
    | own d => exact q.elim
    | ali i => exact q.elim
    | val d =>
      cases d with
      | int j =>
        have e := Dn.int_inv (K := C.K) (Z := Z1) dn
        refine ⟨j, by rw [e], fun p hp => ?_⟩
        obtain ⟨R', zl⟩ := R1.newZ (o := .rng 0 j) hp
        exact q _ _ _ R' (l.trans zl) (.rng upd_same)
      | _ => exact q.elim
@[simp] theorem fRngV_ap {ρ : Rho} : fRngV f ρ = (f ρ).bind fun r ρ1 => match r with
  | .val (.int j) => .ok (.val (.rng 0 j)) ρ1
  | _ => .no := rfl
@[simp] theorem items_rng {lo hi : Int} : itemsOf (.rng lo hi) = if okR lo = true ∧ okR hi = true then some (rngL lo (hi - lo).toNat) else none := rfl
end
end TT

set_option Elab.async false
set_option linter.all false
set_option maxRecDepth 100000
/-! list(range(a, b)) -/
namespace TT
open PySem PySem.Spec PyProof.Rows L2
def fLstR2 (f g : Rho → Res RV) : Rho → Res RV := fun ρ => (f ρ).bind fun r ρ1 => match r with
  | .val (.int i) => (g ρ1).bind fun s ρ2 => (match s with
    | .val (.int j) => if 0 ≤ i ∧ i ≤ 1000000 ∧ 0 ≤ j ∧ j ≤ 1000000 then .ok (.own (.lst (rngL i (j - i).toNat))) ρ2 else .no
    | _ => .no)
  | _ => .no
section
variable {X : Cx} {W : WX} {a b : Expr} {f g : Rho → Res RV} {pos p p2 pos2 : Pos}
theorem se_lstR2 [Tabl] (hc : X.calm = true) (hg : Gl X "list") (hm : X.mg "list" = none) (hg2 : Gl X "range") (hm2 : X.mg "range" = none) (he : SE X W a f) (he2 : SE X W b g)
    (na : starEach [a, b] X.env = (false, eval a X.env) :: starEach [b] X.env := by rfl) (na2 : starEach [b] X.env = (false, eval b X.env) :: starEach [] X.env := by rfl) (hp : (backTo pos2 (starEach [b] X.env)).any (·.1) = false := by rfl)
    (nb : starEach [.Call (.Name "range" p2) [a, b] [] pos2] X.env = (false, eval (.Call (.Name "range" p2) [a, b] [] pos2) X.env) :: starEach [] X.env := by rfl) :
    SE X W (.Call (.Name "list" p) [.Call (.Name "range" p2) [a, b] [] pos2] [] pos) (fLstR2 f g) :=
  se_of (pe_listRg hc hg hm (prg_2 hg2 hm2 he he2 na na2 hp) nb) fun C ρ σ Z H Q hK hm0 R q => by
    show TF X.K X.mg W f σ H fun x H1 => TF X.K X.mg W g σ H1 fun y H2 => ∃ i j : Int, x = .int i ∧ y = .int j ∧ (RgOk i j ∧ ∀ q, H2 q = none → Q (.ref q) (upd H2 q (.lst (rgV i j))))
    rw [← hK, ← hm0]
    refine tf_bind (P := fun r => Aft C W σ Z r Q) R q (fun _ _ h => h) (fun h => h) fun r ρ1 v Z1 H1 R1 l dn q => ?_
    cases r with
    | own d => exact q.elim
    | ali i => exact q.elim
    | val d =>
      cases d with
      | int i =>
        simp only at q
        have ev := Dn.int_inv (K := C.K) (Z := Z1) dn
        have R1b := R1.base
        refine tf_bind (C := C.at ρ1 σ Z1 H1) (P := fun r => Aft C W σ Z r Q) R1b q (fun y ρ' hy => AftX.base R1 (AftX.mono hy l)) (fun h => h) fun s ρ2 u Z2 H2 R2' l2 dn2 q => ?_
        have R2 := R1.unbase R2'
        cases s with
        | own d => exact q.elim
        | ali i => exact q.elim
        | val d =>
          cases d with
          | int j =>
            simp only at q
            by_cases hj : 0 ≤ i ∧ i ≤ 1000000 ∧ 0 ≤ j ∧ j ≤ 1000000
            · rw [if_pos hj] at q
              have e2 := Dn.int_inv (K := C.K) (Z := Z2) dn2
              refine ⟨i, j, ev, e2, RgOk.of_le (by omega) (by omega) (by omega) (by omega), fun p hp => ?_⟩
              exact want_of (o := .own (.lst (rngL i (j - i).toNat))) R2 q (l.trans l2) (rgV i j) _ p rfl hp (dn_rg i _)
            · rw [if_neg hj] at q
              exact q.elim
          | _ => exact q.elim
      | _ => exact q.elim
@[simp] theorem fLstR2_ap {ρ : Rho} : fLstR2 f g ρ = (f ρ).bind fun r ρ1 => match r with
  | .val (.int i) => (g ρ1).bind fun s ρ2 => (match s with
    | .val (.int j) => if 0 ≤ i ∧ i ≤ 1000000 ∧ 0 ≤ j ∧ j ≤ 1000000 then .ok (.own (.lst (rngL i (j - i).toNat))) ρ2 else .no
    | _ => .no)
  | _ => .no := rfl
end
end TT

set_option Elab.async false
set_option linter.all false
set_option maxRecDepth 100000
/-! lists of objects compared by their own == (where they are equal) -/
namespace TT
open PySem PySem.Spec PyProof.Rows L2
theorem Ob.ext {K : PySem.W.Frag} {Z H H' : Hp} {a : Addr} {d : PV} (e : Ext H H') (h : Ob K Z H a d) : Ob K Z H' a d := by
  cases d with
  | lst ds => obtain ⟨xs, h1, h2⟩ := h; exact ⟨xs, e _ _ h1, h2⟩
  | obj c fs => obtain ⟨dx, ns, xs, ds, h1, h2⟩ := h; exact ⟨dx, ns, xs, ds, e _ _ h1, h2⟩
  | dct ks ds => obtain ⟨xs, h1, h2⟩ := h; exact ⟨xs, e _ _ h1, h2⟩
  | dcT ks ds => obtain ⟨xs, h1, h2⟩ := h; exact ⟨xs, e _ _ h1, h2⟩
  | _ => exact h.elim
theorem Rel.ext [Tabl] {C : Ct} {ρ : Rho} {σ : Sg} {Z H H' : Hp} (R : Rel C ρ σ Z H) (e : Ext H H') : Rel C ρ σ Z H' := by
  refine ⟨R.len, fun a o h => e a o (R.le a o h), R.val, fun i s d h1 h2 h3 => ?_, R.inj, R.bor, fun a h1 h2 => ?_, R.zle, fun a h => ?_, R.tab.ext e, R.n0, R.zt⟩
  · obtain ⟨a, k1, k2, k3, k4⟩ := R.obj i s d h1 h2 h3
    exact ⟨a, k1, k2, k3.ext e, k4⟩
  · obtain ⟨k1, k2⟩ := R.keep a h1 h2
    refine ⟨?_, k2⟩
    cases q : C.H0 a with
    | none => exact absurd q h1
    | some o => rw [q] at k1; exact e a o k1
  · have k := R.here a h
    have k1 := nt_eq k
    cases q : H a with
    | none => exact absurd (k1.trans q) k
    | some o =>
      have k2 : nt H' a = nt H a := by unfold nt; rw [e a o q, q]
      rw [k2]; exact k
/-- two objects of the class c that its __eq__ calls equal -/
def eqO (c : Str) (F : Sem1) (d e : PV) : Bool := match isObjV c d, isObjV c e with
  | some _, some _ => (match F [.val d, .val e] with
    | .ok (.val (.bl true)) _ => true
    | _ => false)
  | _, _ => false
def eqOs (c : Str) (F : Sem1) : List PV → List PV → Bool
  | [], [] => true
  | d :: ds, e :: es => eqO c F d e && eqOs c F ds es
  | _, _ => false
def pEqL (c : Str) (F : Sem1) (d e : PV) : Option OV := match d, e with
  | .lst ds, .lst es => if eqOs c F ds es = true then vB true else none
  | _, _ => none
def RO (K : PySem.W.Frag) (c : Str) (F : Sem1) : Addr → Addr → Hp → Prop := fun a b H => ∃ Z d e, Zle Z H ∧ Dn K Z (.ref a) d ∧ Dn K Z (.ref b) e ∧ eqO c F d e = true
theorem ro_mon {K : PySem.W.Frag} {c : Str} {F : Sem1} : ∀ a b H H', Ext H H' → RO K c F a b H → RO K c F a b H' := fun a b H H' x ⟨Z, d, e, l, h⟩ => ⟨Z, d, e, fun p o q => x p o (l p o q), h⟩
theorem sp_eq [Tabl] (hT : Tabl.T = []) {K : PySem.W.Frag} {mg : Str → Option Value} {c : Str} {F : Sem1} : ∀ vs H Q E, spEq (RO K c F) vs H Q E → spF K mg 2 F vs H Q E := by
  intro vs H Q E ⟨a, b, ev, ⟨Z, d, e, l, h1, h2, h3⟩, q⟩
  subst ev
  refine ⟨rfl, ⟨K, mg, Z, H, fun _ => False, fun _ => none⟩, [.val d, .val e], Z, rfl, rfl, ?_, fun a h => h.elim, ?_⟩
  · refine ⟨rfl, l, fun i d' h => ?_, fun i s d' h o g => ?_, fun i j a hi => ?_, fun i d' h => ?_, fun a _ _ => ⟨rfl, rfl⟩, Zle.refl _, fun a h => by rw [nt_id hT]; exact h, fun p hp => absurd hp (by rw [hT]; simp), .inl hT, .inl hT⟩
    · match i, h with
      | 0, h => cases h; exact ⟨_, rfl, h1⟩
      | 1, h => cases h; exact ⟨_, rfl, h2⟩
      | i + 2, h => simp at h
    · match i, h with
      | 0, h => cases h; cases o
      | 1, h => cases h; cases o
      | i + 2, h => simp at h
    · obtain ⟨s, es, o⟩ := hi
      match i, es with
      | 0, es => cases es; cases o
      | 1, es => cases es; cases o
      | i + 2, es => simp at es
    · match i, h with
      | 0, h => cases h
      | 1, h => cases h
      | i + 2, h => simp at h
  · unfold eqO at h3
    split at h3
    · split at h3
      · rename_i as he
        rw [he]
        intro v Z' H' R' l' dn
        have ev := Dn.bl_inv (K := K) (Z := Z') dn
        subst ev
        refine q H' fun p o hp => ?_
        have : H' p = H p := (R'.keep p (show H p ≠ none by rw [hp]; simp) (fun z => z)).1
        rw [this]
        exact hp
      · cases h3
    · cases h3
theorem eqOs_at {c : Str} {F : Sem1} : ∀ {ds es : List PV}, eqOs c F ds es = true → ds.length = es.length ∧ ∀ (i : Nat) d e, ds[i]? = some d → es[i]? = some e → eqO c F d e = true
  | [], [], _ => ⟨rfl, fun i d e h => by simp at h⟩
  | [], _ :: _, h => by cases h
  | _ :: _, [], h => by cases h
  | d :: ds, e :: es, h => by
    have h' : (eqO c F d e && eqOs c F ds es) = true := h
    rw [Bool.and_eq_true] at h'
    obtain ⟨k1, k2⟩ := eqOs_at h'.2
    refine ⟨by simp [k1], fun i x y hx hy => ?_⟩
    cases i with
    | zero => simp at hx hy; subst hx hy; exact h'.1
    | succ i => exact k2 i x y (by simpa using hx) (by simpa using hy)
theorem eqO_obj {c : Str} {F : Sem1} {d e : PV} (h : eqO c F d e = true) : (∃ fs, d = .obj c fs) ∧ ∃ gs, e = .obj c gs := by
  unfold eqO at h
  split at h
  · rename_i fs gs h1 h2
    exact ⟨⟨_, isObjV_eq h1⟩, ⟨_, isObjV_eq h2⟩⟩
  · cases h
section
variable {X : Cx} {W : WX} {a b : Expr} {f g : Rho → Res RV} {c : Str} {pos : Pos} {k j : Nat} {F : Sem1}
theorem rc_list [Tabl] (hT : Tabl.T = []) (me : MeC X.prog X.w X.K X.mg X.base c "__eq__" 2 F k) : RcG X (k + 1) (DList (DIns (He.ga X.K c) (RO X.K c F))) := by
  obtain ⟨ga, fd, ps, h1, h2, G, hbi⟩ := me.ex
  exact rcG_list (mon_ins ro_mon) (eqG_ins (G.imp (sp_eq hT)) h1.at_ h1.fn hbi passN)
theorem eq_fin [Tabl] {C : Ct} {ρ2 : Rho} {σ : Sg} {Z Z2 H2 : Hp} {x y : V} {ra rb : RV} {Q : VK} (hK : C.K = X.K) (R2 : Rel C ρ2 σ Z2 H2) (l : Zle Z Z2) (d1 : DnR C ρ2 σ Z2 H2 x ra) (d2 : DnR C ρ2 σ Z2 H2 y rb)
    (h : Aft C W σ Z (match peek ra ρ2, peek rb ρ2 with
      | some d, some e => optR (pEqL c F d e) ρ2
      | _, _ => .no) Q) : rEqG (DList (DIns (He.ga X.K c) (RO X.K c F))) x y H2 Q := by
  cases e1 : peek ra ρ2 with
  | none => rw [e1] at h; exact h.elim
  | some d =>
    cases e2 : peek rb ρ2 with
    | none => rw [e1, e2] at h; exact h.elim
    | some e =>
      rw [e1, e2] at h
      simp only at h
      have p1 := d1.pk R2 e1
      have p2 := d2.pk R2 e2
      cases e3 : pEqL c F d e with
      | none => rw [e3] at h; exact h.elim
      | some o =>
        rw [e3] at h
        unfold pEqL at e3
        split at e3
        · rename_i ds es
          split at e3
          · rename_i hq
            cases e3
            obtain ⟨pa, xs, rfl, ha, ta⟩ := p1.lst
            obtain ⟨pb, ys, rfl, hb, tb⟩ := p2.lst
            obtain ⟨k1, k2⟩ := eqOs_at hq
            refine ⟨⟨pa, pb, xs, ys, rfl, rfl, ha, hb, by rw [ta.length, tb.length, k1], fun i u v hu hv => ?_⟩, fun H' ext => h _ Z2 H' (R2.ext ext) l (.bl true)⟩
            obtain ⟨du, hdu, dnu⟩ := ta.getV hu
            obtain ⟨dv, hdv, dnv⟩ := tb.getV hv
            have hqq := k2 i du dv hdu hdv
            obtain ⟨⟨fs, rfl⟩, ⟨gs, rfl⟩⟩ := eqO_obj hqq
            rw [hK] at dnu dnv
            obtain ⟨au, dxu, nsu, xsu, dsu, rfl, hzu, rfl, _, _⟩ := dnu.obj_inv
            obtain ⟨av, dxv, nsv, xsv, dsv, rfl, hzv, rfl, _, _⟩ := dnv.obj_inv
            exact ⟨au, av, dxu, dxv, _, _, rfl, rfl, R2.le _ _ hzu, R2.le _ _ hzv, Z2, _, _, R2.le, dnu, dnv, hqq⟩
          · cases e3
        · cases e3
theorem se_eqL [Tabl] (me : MeC X.prog X.w X.K X.mg X.base c "__eq__" 2 F k) (hr : Room j X.A) (ha : SE X W a f) (hb : SE X W b g) (hm : behindInMarks .Eq b = false) (hk : k + 1 ≤ j := by decide) (hT : Tabl.T = [] := by assumption) : SE X W (.Compare a [.Eq] [b] pos) (fBin (pEqL c F) f g) :=
  se_of (pe_cmpR (op_eqG (rc_list hT me) (hr.mono hk)) ha hb hm) fun C ρ σ Z H Q hK hm0 R q => by
    show TF X.K X.mg W f σ H fun x H1 => TF X.K X.mg W g σ H1 fun y H2 => rEqG (DList (DIns (He.ga X.K c) (RO X.K c F))) x y H2 Q
    rw [← hK, ← hm0]
    refine tf_two (P := fun r => Aft C W σ Z r Q) R q (fun _ _ h => h) (fun h => h) fun ra rb ρ2 x y Z2 H2 R2 l d1 d2 h => ?_
    rw [hK]
    exact eq_fin (X := X) hK R2 l d1 d2 h
end
end TT

set_option Elab.async false
set_option linter.all false
set_option maxRecDepth 100000
/-! repr and str of whole numbers, truths and none -/
namespace TT
open PySem PySem.Spec PyProof.Rows L2
def rRepr : List V → Hp → VK → Prop := fun xs H Q => (∃ i, xs = [.int i] ∧ i.natAbs.log2 < 1920 ∧ Q (.str (toString i)) H) ∨ (∃ b : Bool, xs = [.bl b] ∧ Q (.str (if b then "True" else "False")) H) ∨ (xs = [.non] ∧ Q (.str "None") H)
section
variable {X : Cx}
theorem cr_repr : CallR X (.builtin "repr") rRepr := by
  intro pins s σ H xs us Q I r h
  rcases h with ⟨i, rfl, hz, q⟩ | ⟨b, rfl, q⟩ | ⟨rfl, q⟩
  · obtain ⟨u, rfl, t, rfl⟩ := vals1 r
    exact PySem.P.repr_of_int hz ⟨.str _, H, I.tok _, ⟨_, rfl⟩, q⟩
  · obtain ⟨u, rfl, hu⟩ := vals1 r
    have hu : u = .bool b := hu
    subst hu
    exact PySem.P.repr_of_bool ⟨.str _, H, I.tok _, ⟨_, rfl⟩, q⟩
  · obtain ⟨u, rfl, hu⟩ := vals1 r
    have hu : u = .none := hu
    subst hu
    exact PySem.P.repr_of_none ⟨.str _, H, I.tok _, ⟨_, rfl⟩, q⟩
end
def pRepr : List PV → Option OV
  | [.int i] => guard (decide (i.natAbs.log2 < 1920)) (some (.val (.str (toString i))))
  | [.bl b] => some (.val (.str (if b then "True" else "False")))
  | [.non] => some (.val (.str "None"))
  | _ => none
theorem p_repr {K : PySem.W.Frag} : OpN K rRepr pRepr := by
  intro Z H xs ds o Q l hx ho hw
  unfold pRepr at ho
  split at ho
  · obtain ⟨hc, ho⟩ := guard_inv ho
    cases ho
    obtain ⟨v, rfl, h⟩ := pk1 hx
    rw [h.int]
    exact .inl ⟨_, rfl, of_decide_eq_true hc, hw.1 _ (.str _)⟩
  · cases ho
    obtain ⟨v, rfl, h⟩ := pk1 hx
    rw [h.bl]
    exact .inr (.inl ⟨_, rfl, hw.1 _ (.str _)⟩)
  · cases ho
    obtain ⟨v, rfl, h⟩ := pk1 hx
    rw [h.non]
    exact .inr (.inr ⟨rfl, hw.1 _ (.str _)⟩)
  · cases ho
def pStr : List PV → Option OV
  | [.int i] => guard (decide (i.natAbs.log2 < 1920)) (some (.val (.str (toString i))))
  | _ => none
theorem p_str {K : PySem.W.Frag} : OpN K (fun xs H Q => ∃ i, xs = [.int i] ∧ i.natAbs.log2 < 1920 ∧ Q (.str (toString i)) H) pStr := by
  intro Z H xs ds o Q l hx ho hw
  unfold pStr at ho
  split at ho
  · obtain ⟨hc, ho⟩ := guard_inv ho
    cases ho
    obtain ⟨v, rfl, h⟩ := pk1 hx
    rw [h.int]
    exact ⟨_, rfl, of_decide_eq_true hc, hw.1 _ (.str _)⟩
  · cases ho
@[simp] theorem pRepr_bl {b : Bool} : pRepr [.bl b] = some (.val (.str (if b then "True" else "False"))) := rfl
end TT

set_option Elab.async false
set_option linter.all false
set_option maxRecDepth 100000
/-! zip of three tuples, walked -/
namespace RZ3
open PySem PySem.Spec PyProof.Rows L2
/-- the tuples at a, b and c, the items in new triples -/
def Itz3 (K : PySem.W.Frag) (a b c : Addr) (xs ys zs : List V) : It :=
  ⟨fun i H => SqT K H a xs ∧ SqT K H b ys ∧ SqT K H c zs ∧ i < xs.length ∧ i < ys.length ∧ i < zs.length,
    fun i H v H' => ∃ T x y u, v = .ref T ∧ H T = none ∧ H' = upd H T (.tup [x, y, u]) ∧ xs[i]? = some x ∧ ys[i]? = some y ∧ zs[i]? = some u,
    fun i H => SqT K H a xs ∧ SqT K H b ys ∧ SqT K H c zs ∧ (i = xs.length ∨ i = ys.length ∨ i = zs.length)⟩
theorem mem6 {a1 a2 a3 a4 a5 a6 q : Addr} (h : q ∈ [a1, a2, a3, a4, a5, a6]) : q = a1 ∨ q = a2 ∨ q = a3 ∨ q = a4 ∨ q = a5 ∨ q = a6 := by simpa using h
theorem not_iter {h : Heap} {a l : Addr} {i : Nat} {items : Array Value} (p : h.IsTuple a items) (q : h.IsTupleIter a l i) : False := by
  obtain ⟨o, e1, c1, _⟩ := p
  obtain ⟨o', e2, c2, _⟩ := q
  rw [e1] at e2
  cases e2
  rw [c1] at c2
  have := congrArg (fun v : Value => match v with | .type t => t | _ => "") c2
  exact absurd this (by decide)
theorem turn_zip3 {P : Program} {w : World} {K : PySem.W.Frag} {elts : List Expr} {kk : Nat} {tpos : Pos} {a b c z TI TO i1 i2 i3 : Addr} {xs ys zs : List V} (D : ZipSep3 z TI TO i1 i2 i3 [i1, a] [i2, b] [i3, c]) :
    Turn P w K (.Tuple elts kk tpos) (Itz3 K a b c xs ys zs) [z, TI, TO, i1, i2, i3] z (fun i h => (IsZip h z TI TO .none ∧ IsTupOf3 h TI (.ref i1) (.ref i2) (.ref i3) ∧ (∃ x y u, IsTupOf3 h TO x y u) ∧ h.IsTupleIter i1 a i ∧ h.IsTupleIter i2 b i ∧ h.IsTupleIter i3 c i) ∧ i ≤ xs.length ∧ i ≤ ys.length ∧ i ≤ zs.length) where
  mem := by simp
  obj := fun i h st q hq => by
    obtain ⟨⟨hz, hTI, ⟨x, y, u, hTO⟩, ⟨o1, e1, _, d1⟩, ⟨o2, e2, _, d2⟩, ⟨o3, e3, _, d3⟩⟩, _⟩ := st
    rcases mem6 hq with e | e | e | e | e | e
    · rw [e]; exact ⟨_, hz, fun v q => nomatch q⟩
    · rw [e]; exact ⟨_, hTI, fun v q => nomatch q⟩
    · rw [e]; exact ⟨_, hTO, fun v q => nomatch q⟩
    · rw [e]; exact ⟨o1, e1, fun v q => by rw [d1] at q; cases q⟩
    · rw [e]; exact ⟨o2, e2, fun v q => by rw [d2] at q; cases q⟩
    · rw [e]; exact ⟨o3, e3, fun v q => by rw [d3] at q; cases q⟩
  keep := fun i h h' st k => by
    obtain ⟨⟨hz, hTI, ⟨x, y, u, hTO⟩, h1, h2, h3⟩, hl⟩ := st
    exact ⟨⟨k z (by simp) _ hz, k TI (by simp) _ hTI, ⟨x, y, u, k TO (by simp) _ hTO⟩, h1.at fun o q => k i1 (by simp) o q, h2.at fun o q => k i2 (by simp) o q, h3.at fun o q => k i3 (by simp) o q⟩, hl⟩
  item := by
    intro X hP hw hK hc i pins s σ H E I hf st hg
    subst hP hw hK
    obtain ⟨⟨hz, hTI, ⟨x0, y0, u0, hTO⟩, h1, h2, h3⟩, l1, l2, l3⟩ := st
    obtain ⟨hqx, hqy, hqz, g1, g2, g3⟩ := hg
    obtain ⟨its, rv, p, _⟩ := I.tuple hqx
    obtain ⟨its2, rv2, p2, _⟩ := I.tuple hqy
    obtain ⟨its3, rv3, p3, _⟩ := I.tuple hqz
    have n1 := rv.length
    have n2 := rv2.length
    have n3 := rv3.length
    obtain ⟨x, hx⟩ : ∃ x, xs[i]? = some x := ⟨_, List.getElem?_eq_getElem g1⟩
    obtain ⟨y, hy⟩ : ∃ y, ys[i]? = some y := ⟨_, List.getElem?_eq_getElem g2⟩
    obtain ⟨w3, hw3⟩ : ∃ u, zs[i]? = some u := ⟨_, List.getElem?_eq_getElem g3⟩
    obtain ⟨u1, hu1, ru1⟩ := rv.get hx
    obtain ⟨u2, hu2, ru2⟩ := rv2.get hy
    obtain ⟨u3, hu3, ru3⟩ := rv3.get hw3
    have hzl : z < s.heap.objs.size := Heap.lt_size hz
    have p1' : s.heap.IsTuple a its.toArray := p
    have p2' : s.heap.IsTuple b its2.toArray := p2
    have p3' : s.heap.IsTuple c its3.toArray := p3
    have na : a ≠ i1 := fun e => by rw [e] at p1'; exact not_iter p1' h1
    have nb : b ≠ i2 := fun e => by rw [e] at p2'; exact not_iter p2' h2
    have nc : c ≠ i3 := fun e => by rw [e] at p3'; exact not_iter p3' h3
    have D1 := Draws.tuple (prog := X.prog) (w := X.w) (A := X.A.in1) (I.ok.hd hc) i1 a na its.toArray
    have D2 := Draws.tuple (prog := X.prog) (w := X.w) (A := X.A.in1) (I.ok.hd hc) i2 b nb its2.toArray
    have D3 := Draws.tuple (prog := X.prog) (w := X.w) (A := X.A.in1) (I.ok.hd hc) i3 c nc its3.toArray
    refine wpAny_pyNext_zipD3_item D D1 D2 D3 hz hTI hTO ⟨h1, p1'⟩ ⟨h2, p2'⟩ ⟨h3, p3'⟩ (by simp; omega) (by simp; omega) (by simp; omega) fun v1 v2 v3 h' tk q1 q2 q3 z' TO' s1' s2' s3' hT hsz hk => ?_
    have e1 : v1 = u1 := by
      have k1 : its.toArray[i]? = some v1 := q1
      have k2 : its.toArray[i]? = some u1 := by simpa using hu1
      rw [k1] at k2; exact Option.some.inj k2
    have e2 : v2 = u2 := by
      have k1 : its2.toArray[i]? = some v2 := q2
      have k2 : its2.toArray[i]? = some u2 := by simpa using hu2
      rw [k1] at k2; exact Option.some.inj k2
    have e3 : v3 = u3 := by
      have k1 : its3.toArray[i]? = some v3 := q3
      have k2 : its3.toArray[i]? = some u3 := by simpa using hu3
      rw [k1] at k2; exact Option.some.inj k2
    subst e1 e2 e3
    refine ⟨_, rfl, wpAny_letOwnedTupleGo_zip (s := { s with heap := h', toks := tk }) z' fun h'' z'' sb => ?_⟩
    have hT2 : h''.get? s.heap.objs.size = some { cls := .type "tuple", data := .seq #[v1, v2, v3] } := (sb.2 _ (Nat.ne_of_gt hzl)).trans hT
    have new : ObjOk X.prog X.w (upd H s.heap.objs.size (.tup [x, y, w3])) h'' s.heap.objs.size (.tup [x, y, w3]) :=
      ⟨by show 3 ≤ sizeLine; decide, [v1, v2, v3], .cons ru1 (.cons ru2 (.cons ru3 .nil)), ⟨_, hT2, rfl, _, rfl⟩⟩
    have i1z : i1 ≠ z := fun e => D.zf1 (by rw [← e]; simp)
    have i2z : i2 ≠ z := fun e => D.zf2 (by rw [← e]; simp)
    have i3z : i3 ≠ z := fun e => D.zf3 (by rw [← e]; simp)
    have I1 : Inv X pins σ (upd H s.heap.objs.size (.tup [x, y, w3])) { s with heap := h'', toks := tk } :=
      I.turnedNew (t' := tk) (ch := [z, TI, TO, i1, i2, i3]) (fun q o hb g => (sb.2 q (fun q' => hb (by simp [q']))).trans (hk q o (fun q' => hb (by simp [q'])) (fun q' => hb (by simp [q'])) (fun q' => hb (by simp [q'])) (fun q' => hb (by simp [q'])) (fun q' => hb (by simp [q'])) g)) hf (Nat.le_refl _) new
    refine ⟨.ref s.heap.objs.size, _, I1, rfl, ⟨_, x, y, w3, rfl, I.hok.fresh (Nat.le_refl _), rfl, hx, hy, hw3⟩, ⟨⟨z'', ?_, ⟨v1, v2, v3, ?_⟩, ?_, ?_, ?_⟩, by omega, by omega, by omega⟩, fun q hq => ?_⟩
    · exact (sb.2 _ D.TIz).trans (hk _ _ D.TIz D.TITO D.TIi1 D.TIi2 D.TIi3 hTI)
    · exact (sb.2 _ D.TOz).trans TO'
    · exact s1'.1.at fun o g => (sb.2 _ i1z).trans g
    · exact s2'.1.at fun o g => (sb.2 _ i2z).trans g
    · exact s3'.1.at fun o g => (sb.2 _ i3z).trans g
    · have hlt : q < s.heap.objs.size := by
        rcases mem6 hq with e | e | e | e | e | e
        · rw [e]; exact hzl
        · rw [e]; exact Heap.lt_size hTI
        · rw [e]; exact Heap.lt_size hTO
        · rw [e]; obtain ⟨_, e1, _⟩ := h1; exact Heap.lt_size e1
        · rw [e]; obtain ⟨_, e2, _⟩ := h2; exact Heap.lt_size e2
        · rw [e]; obtain ⟨_, e3, _⟩ := h3; exact Heap.lt_size e3
      rw [upd_ne (Nat.ne_of_lt hlt)]
      exact (hf q hq).1
  done := by
    intro X hP hw hK hc i pins s σ H E I hf st hg
    subst hP hw hK
    obtain ⟨⟨hz, hTI, ⟨x0, y0, u0, hTO⟩, h1, h2, h3⟩, l1, l2, l3⟩ := st
    obtain ⟨hqx, hqy, hqz, hend⟩ := hg
    obtain ⟨its, rv, p, _⟩ := I.tuple hqx
    obtain ⟨its2, rv2, p2, _⟩ := I.tuple hqy
    obtain ⟨its3, rv3, p3, _⟩ := I.tuple hqz
    have n1 := rv.length
    have n2 := rv2.length
    have n3 := rv3.length
    have p1' : s.heap.IsTuple a its.toArray := p
    have p2' : s.heap.IsTuple b its2.toArray := p2
    have p3' : s.heap.IsTuple c its3.toArray := p3
    have na : a ≠ i1 := fun e => by rw [e] at p1'; exact not_iter p1' h1
    have nb : b ≠ i2 := fun e => by rw [e] at p2'; exact not_iter p2' h2
    have nc : c ≠ i3 := fun e => by rw [e] at p3'; exact not_iter p3' h3
    have D1 := Draws.tuple (prog := X.prog) (w := X.w) (A := X.A.in1) (I.ok.hd hc) i1 a na its.toArray
    have D2 := Draws.tuple (prog := X.prog) (w := X.w) (A := X.A.in1) (I.ok.hd hc) i2 b nb its2.toArray
    have D3 := Draws.tuple (prog := X.prog) (w := X.w) (A := X.A.in1) (I.ok.hd hc) i3 c nc its3.toArray
    exact wpAny_pyNext_zipD3_end D D1 D2 D3 hz hTI hTO ⟨h1, p1'⟩ ⟨h2, p2'⟩ ⟨h3, p3'⟩ (by simp; omega) (by simp; omega) (by simp; omega) (by simp; omega) fun h' tk hk => ⟨rfl, I.turnedL (t' := tk) (ch := [z, TI, TO, i1, i2, i3]) (fun q o hb g =>
      hk q o (fun q' => hb (by simp [q'])) (fun q' => hb (by simp [q'])) (fun q' => hb (by simp [q'])) (fun q' => hb (by simp [q'])) (fun q' => hb (by simp [q'])) g) hf⟩
  self := fun A i s Q E st h => wpAny_pyIter_zip st.1.1 h
def iZip3 (K : PySem.W.Frag) (ta : TA) : TI := fun σ H R => ta σ H fun vs H1 => ∃ a b c xs ys zs, vs = [.ref a, .ref b, .ref c] ∧ SqT K H1 a xs ∧ SqT K H1 b ys ∧ SqT K H1 c zs ∧ R (Itz3 K a b c xs ys zs) H1
theorem pi_zip3 {X : Cx} {e e2 e3 : Expr} {ta : TA} {p pos tpos : Pos} {elts : List Expr} {kk : Nat} (hg : Gl X "zip") (hm : X.mg "zip" = none) (ha : PA X [e, e2, e3] ta)
    (hs : starEach [e, e2, e3] X.env = (false, eval e X.env) :: starEach [e2, e3] X.env := by rfl) (hpl : (backTo pos (starEach [e2, e3] X.env)).any (·.1) = false := by rfl) :
    PI X (.Tuple elts kk tpos) (.Call (.Name "zip" p) [e, e2, e3] [] pos) (iZip3 X.K ta) := by
  refine ⟨fun pins s σ H R I h => ?_⟩
  refine Call_ (ld_blt I hg hm PyProof.Rows.boot_zip (PyProof.Rows.callWith_type1 (thn (ha.run pos pins s σ H _ I h) fun us s1 ⟨vs, H1, I1, r1, q1⟩ => ?_) hs hpl))
  obtain ⟨a, b, c, xs, ys, zs, ex, hqx, hqy, hqz, q⟩ := q1
  subst ex
  cases r1 with
  | cons r rr =>
    cases rr with
    | cons r' rr =>
      cases rr with
      | cons r'' rr =>
        cases rr
        cases r
        cases r'
        cases r''
        have fresh6 : ∀ q, q ∈ [s1.heap.objs.size + 5, s1.heap.objs.size + 3, s1.heap.objs.size + 4, s1.heap.objs.size, s1.heap.objs.size + 1, s1.heap.objs.size + 2] → FpOk X pins H1 q := fun q hq => by
          have hle : s1.heap.objs.size ≤ q := by
            rcases mem6 hq with z | z | z | z | z | z
            · rw [z]; exact Nat.le_add_right _ _
            · rw [z]; exact Nat.le_add_right _ _
            · rw [z]; exact Nat.le_add_right _ _
            · rw [z]; exact Nat.le_refl _
            · rw [z]; exact Nat.le_add_right _ _
            · rw [z]; exact Nat.le_add_right _ _
          exact I1.fpOk hle (I1.hok.fresh hle)
        obtain ⟨its, rv, p1, _⟩ := I1.tuple hqx
        obtain ⟨its2, rv2, p2, _⟩ := I1.tuple hqy
        obtain ⟨its3, rv3, p3, _⟩ := I1.tuple hqz
        have p1' : s1.heap.IsTuple a its.toArray := p1
        have p2' : s1.heap.IsTuple b its2.toArray := p2
        have p3' : s1.heap.IsTuple c its3.toArray := p3
        have k1 : a < s1.heap.objs.size := by obtain ⟨_, e, _⟩ := p1'; exact Heap.lt_size e
        have k2 : b < s1.heap.objs.size := by obtain ⟨_, e, _⟩ := p2'; exact Heap.lt_size e
        have k3 : c < s1.heap.objs.size := by obtain ⟨_, e, _⟩ := p3'; exact Heap.lt_size e
        refine zip_begins3 (begins_tuple a its.toArray) (begins_tuple b its2.toArray) (begins_tuple c its3.toArray) p1' p2' p3' fun h' hz hTI hTO g1 g2 g3 hsz hk => wpAny_pyIter_zip hz ?_
        have I2 : Inv X pins σ H1 { s1 with heap := h' } := I1.kept (t' := s1.toks) hk
        exact ⟨s1.heap.objs.size + 5, [s1.heap.objs.size + 5, s1.heap.objs.size + 3, s1.heap.objs.size + 4, s1.heap.objs.size, s1.heap.objs.size + 1, s1.heap.objs.size + 2], _, _, H1, rfl, I2,
          turn_zip3 (zip_sep3 (fp1 := [a]) (fp2 := [b]) (fp3 := [c]) (fun q hq => by rw [List.mem_singleton.mp hq]; exact k1) (fun q hq => by rw [List.mem_singleton.mp hq]; exact k2) (fun q hq => by rw [List.mem_singleton.mp hq]; exact k3)),
          ⟨⟨hz, hTI, ⟨_, _, _, hTO⟩, ⟨_, g1, rfl, rfl⟩, ⟨_, g2, rfl, rfl⟩, ⟨_, g3, rfl, rfl⟩⟩, Nat.zero_le _, Nat.zero_le _, Nat.zero_le _⟩, fresh6, q⟩
end RZ3

set_option Elab.async false
set_option linter.all false
set_option maxRecDepth 100000
/-! for a, b, c in zip(..) of three tuples -/
namespace TT
open PySem PySem.Spec L2
def zip3P (ds es gs : List PV) : List PV := (ds.zip (es.zip gs)).map fun p => .tup [p.1, p.2.1, p.2.2]
def fZip3 (f : Rho → Res (List RV)) : Rho → Res (List PV) := fun ρ => (f ρ).bind fun rs ρ1 => match rs with
  | [.val (.tup ds), .val (.tup es), .val (.tup gs)] => .ok (zip3P ds es gs) ρ1
  | _ => .no
theorem zip3_at {ds es gs : List PV} {i : Nat} {d : PV} (h : (zip3P ds es gs)[i]? = some d) : ∃ x y u, ds[i]? = some x ∧ es[i]? = some y ∧ gs[i]? = some u ∧ d = .tup [x, y, u] := by
  unfold zip3P at h
  rw [List.getElem?_map] at h
  cases q : (ds.zip (es.zip gs))[i]? with
  | none => rw [q] at h; cases h
  | some p =>
    rw [q] at h
    simp at h
    have h1 := List.getElem?_zip_eq_some.mp q
    have h2 := List.getElem?_zip_eq_some.mp h1.2
    exact ⟨p.1, p.2.1, p.2.2, h1.1, h2.1, h2.2, h.symm⟩
theorem zip3_len (ds es gs : List PV) : (zip3P ds es gs).length = ds.length ∨ (zip3P ds es gs).length = es.length ∨ (zip3P ds es gs).length = gs.length := by
  unfold zip3P
  rw [List.length_map, List.length_zip, List.length_zip]
  omega
theorem zip3_le (ds es gs : List PV) : (zip3P ds es gs).length ≤ ds.length ∧ (zip3P ds es gs).length ≤ es.length ∧ (zip3P ds es gs).length ≤ gs.length := by
  unfold zip3P
  rw [List.length_map, List.length_zip, List.length_zip]
  omega
theorem walks_Z3 {K : PySem.W.Frag} {Z : Hp} {a b c : Addr} {xs ys zs : List V} {ds es gs : List PV} (h : SqT K Z a xs) (t : DnAll K Z xs ds) (h2 : SqT K Z b ys) (t2 : DnAll K Z ys es) (h3 : SqT K Z c zs) (t3 : DnAll K Z zs gs) : Walks K Z (RZ3.Itz3 K a b c xs ys zs) (zip3P ds es gs) := fun Z' H' l1 l2 => by
  have h' : SqT K H' a xs := l2.sqT (l1.sqT h)
  have h2' : SqT K H' b ys := l2.sqT (l1.sqT h2)
  have h3' : SqT K H' c zs := l2.sqT (l1.sqT h3)
  refine ⟨⟨h', h2', h3', by rw [t.length, t2.length, t3.length]; exact zip3_len ds es gs⟩, fun i d e => ?_⟩
  have hi : i < (zip3P ds es gs).length := (List.getElem?_eq_some_iff.mp e).1
  have hle := zip3_le ds es gs
  obtain ⟨x, y, u, hx, hy, hu, rfl⟩ := zip3_at e
  obtain ⟨v1, hv1, dv1⟩ := t.get hx
  obtain ⟨v2, hv2, dv2⟩ := t2.get hy
  obtain ⟨v3, hv3, dv3⟩ := t3.get hu
  refine ⟨⟨h', h2', h3', by rw [t.length]; omega, by rw [t2.length]; omega, by rw [t3.length]; omega⟩, fun z H'' ⟨T, p, q, r, e1, e2, e3, e4, e5, e6⟩ => .inr ⟨T, _, _, rfl, e1, e2, e3, ?_⟩⟩
  rw [hv1] at e4
  rw [hv2] at e5
  rw [hv3] at e6
  cases e4
  cases e5
  cases e6
  exact .cons (dv1.mono l1) (.cons (dv2.mono l1) (.cons (dv3.mono l1) .nil))
section
variable {X : Cx} {W : WX} {tg e e2 e3 : Expr} {elts : List Expr} {kk : Nat} {tpos : Pos} {fl : Rho → Res (List RV)} {p pos : Pos}
theorem si_zip3 [Tabl] (hg : Gl X "zip") (hm0 : X.mg "zip" = none) (he : SA X W [e, e2, e3] fl) (hs : starEach [e, e2, e3] X.env = (false, eval e X.env) :: starEach [e2, e3] X.env := by rfl) (hpl : ((backTo pos (starEach [e2, e3] X.env)).any fun x => x.1) = false := by rfl) : SI X W (.Tuple elts kk tpos) (.Call (.Name "zip" p) [e, e2, e3] [] pos) (fZip3 fl) :=
  si_of (RZ3.pi_zip3 hg hm0 he hs hpl) fun C ρ σ Z H Q hK hm R q => by
    show TAr X.K X.mg W fl σ H _
    rw [← hK, ← hm]
    refine ta_bind (P := fun r => AftI C W σ Z r Q) R q (fun _ _ h => h) (fun h => h) fun rs ρ1 vs Z1 H1 R1 l dn q => ?_
    split at q
    · rename_i ds es gs
      match vs, dn with
      | [v, u, w], ⟨d1, d2, d3, _⟩ =>
        obtain ⟨a, xs, rfl, h, t⟩ := Dn.tup_inv (K := C.K) (Z := Z1) d1
        obtain ⟨b, ys, rfl, h2, t2⟩ := Dn.tup_inv (K := C.K) (Z := Z1) d2
        obtain ⟨c, zs, rfl, h3, t3⟩ := Dn.tup_inv (K := C.K) (Z := Z1) d3
        exact ⟨a, b, c, xs, ys, zs, rfl, R1.le.sqT h, R1.le.sqT h2, R1.le.sqT h3, q _ Z1 H1 R1 l (walks_Z3 h t h2 t2 h3 t3)⟩
    · exact q.elim
@[simp] theorem fZip3_ap {ρ : Rho} : fZip3 fl ρ = (fl ρ).bind fun rs ρ1 => match rs with
  | [.val (.tup ds), .val (.tup es), .val (.tup gs)] => .ok (zip3P ds es gs) ρ1
  | _ => .no := rfl
end
end TT
namespace TT
open PySem PySem.Spec L2
/-! % by any number other than 0 -/
def pModN : PV → PV → Option OV
  | .int i, .int j => guard (decide (j ≠ 0)) (vI (i.fmod j))
  | _, _ => none
theorem p_modN {K : PySem.W.Frag} : Op2 K (rI (fun _ j => j ≠ 0) fun i j => .int (i.fmod j)) pModN := by
  intro Z H x y d e o Q l hx hy ho hw
  unfold pModN at ho
  split at ho
  · rw [hx.int, hy.int]
    obtain ⟨hc, ho⟩ := guard_inv ho
    cases ho
    exact ⟨_, _, rfl, rfl, of_decide_eq_true hc, hw.1 _ (.int _)⟩
  · cases ho
@[simp] theorem pModN_int {i j : Int} : pModN (.int i) (.int j) = guard (decide (j ≠ 0)) (vI (i.fmod j)) := rfl
end TT

set_option Elab.async false
set_option linter.all false
set_option maxRecDepth 100000
/-! range(i, j, -1); the empty dict -/
namespace TT
open PySem PySem.Spec L2
def rngD (lo : Int) (n : Nat) : List PV := (List.range n).map fun (i : Nat) => PV.int (lo - (i : Int))
theorem rngD_len {lo : Int} {n : Nat} : (rngD lo n).length = n := by unfold rngD; simp
theorem rngD_item {lo : Int} {n i : Nat} {d : PV} (h : (rngD lo n)[i]? = some d) : i < n ∧ d = .int (lo - i) := by
  have hi : i < (rngD lo n).length := (List.getElem?_eq_some_iff.mp h).1
  rw [rngD_len] at hi
  unfold rngD at h
  rw [List.getElem?_map, List.getElem?_range hi, Option.map_some] at h
  cases h
  exact ⟨hi, rfl⟩
def fRngD (f : Rho → Res (List RV)) : Rho → Res (List PV) := fun ρ => (f ρ).bind fun rs ρ1 => match rs with
  | [.val (.int i), .val (.int j), .val (.int c)] => if okR i = true ∧ okR j = true ∧ c = -1 then .ok (rngD i (i - j).toNat) ρ1 else .no
  | _ => .no
theorem walks_C {K : PySem.W.Frag} {Z : Hp} {lo : Int} {n : Nat} : Walks K Z (Itc lo (-1) n) (rngD lo n) := fun Z' H' l1 l2 => by
  refine ⟨by show n ≤ (rngD lo n).length; rw [rngD_len]; exact Nat.le_refl _, fun i d e => ?_⟩
  obtain ⟨hi, rfl⟩ := rngD_item e
  exact ⟨hi, fun x H'' y => .inl ⟨y.1, by rw [y.2, show lo + ((i : Nat) : Int) * (-1) = lo - i by omega]; exact .int _⟩⟩
section
variable {X : Cx} {W : WX} {tg a b c : Expr} {f : Rho → Res (List RV)} {p pos : Pos}
theorem si_rngD [Tabl] (hg : Gl X "range") (hm0 : X.mg "range" = none) (ha : SA X W [a, b, c] f) (hs : starEach [a, b, c] X.env = (false, eval a X.env) :: starEach [b, c] X.env := by rfl) (hpl : (backTo pos (starEach [b, c] X.env)).any (·.1) = false := by rfl) : SI X W tg (.Call (.Name "range" p) [a, b, c] [] pos) (fRngD f) :=
  si_of (pi_range3 hg hm0 ha hs hpl) fun C ρ σ Z H Q hK hm R q => by
    show TAr X.K X.mg W f σ H _
    rw [← hK, ← hm]
    refine ta_bind (P := fun r => AftI C W σ Z r Q) R q (fun _ _ h => h) (fun h => h) fun rs ρ1 vs Z1 H1 R1 l dn q => ?_
    split at q
    · rename_i i j k
      split at q
      · rename_i hj
        obtain ⟨h1, h2, rfl⟩ := hj
        obtain ⟨b1, b2⟩ := okR_of h1
        obtain ⟨b3, b4⟩ := okR_of h2
        match vs, dn with
        | [v, w, u], ⟨d1, d2, d3, _⟩ =>
          have e1 := Dn.int_inv (K := C.K) (Z := Z1) d1
          have e2 := Dn.int_inv (K := C.K) (Z := Z1) d2
          have e3 := Dn.int_inv (K := C.K) (Z := Z1) d3
          subst e1 e2 e3
          exact ⟨i, j, -1, (i - j).toNat, rfl, RgC.neg b1 b2 b3 b4, q _ Z1 H1 R1 l walks_C⟩
      · exact q.elim
    · exact q.elim
@[simp] theorem fRngD_ap {ρ : Rho} : fRngD f ρ = (f ρ).bind fun rs ρ1 => match rs with
  | [.val (.int i), .val (.int j), .val (.int c)] => if okR i = true ∧ okR j = true ∧ c = -1 then .ok (rngD i (i - j).toNat) ρ1 else .no
  | _ => .no := rfl
def fDct0 : Rho → Res RV := fun ρ => .ok (.val (.dct [] [])) ρ
theorem se_dct0 [Tabl] {pos : Pos} : SE X W (.Dict [] [] pos) fDct0 :=
  se_of pe_dnewK fun C ρ σ Z H Q hK hm R q => by
    intro d hd
    obtain ⟨R', zl⟩ := R.newZ (o := .dK []) hd
    exact q _ _ _ R' zl (.dct (xs := []) upd_same rfl .nil)
@[simp] theorem fDct0_ap {ρ : Rho} : fDct0 ρ = .ok (.val (.dct [] [])) ρ := rfl
end
end TT

set_option Elab.async false
set_option linter.all false
set_option maxRecDepth 100000
/-! f(e, ..) where e makes a list that the def may change; [x] * n for great n -/
namespace TT
open PySem PySem.Spec L2
def fCallO (n : Nat) (F : Sem1) (f : Rho → Res (List RV)) : Rho → Res RV := fun ρ => (f ρ).bind fun rs ρ1 => match rs with
  | .own (.lst ds) :: rs => (match asVals rs with
    | some as => if as.length + 1 = n then (match F (.bor (.lst ds) :: as) with
      | .ok (.val d) (.bor (.lst _) :: _) => .ok (.val d) ρ1
      | .ok (.own d) (.bor (.lst _) :: _) => .ok (.own d) ρ1
      | .er x (.bor (.lst _) :: _) => .er x ρ1
      | _ => .no) else .no
    | none => .no)
  | _ => .no
section
variable {C : Ct} {W : WX} {ρ ρ' : Rho} {σ σ' : Sg} {Z Z' H H' : Hp} {v : V} {d : PV}
theorem Rel.backO [Tabl] (R : Rel C ρ σ Z H) {es : List PV} {a : Addr} {as' : List SV} {vs : List V} (h0 : C.H0 a = none ∨ C.M a) (hn : ∀ i, isObj ρ i → σ[i]? ≠ some (some (.ref a))) (R' : Rel (C.call Z H (some a)) (.bor (.lst es) :: as') ((.ref a :: vs).map some) Z' H') : Rel C ρ σ Z' H' := by
  obtain ⟨b0, hb0, hz0, ob0, _⟩ := R'.obj 0 (.bor (.lst es)) (.lst es) rfl rfl rfl
  cases hb0
  have kp : ∀ b, b ≠ a → nt H b ≠ none → H' b = nt H b ∧ Z' b = Z b := fun b n h => R'.keep b h (fun z => n (by cases (show some a = some b from z); rfl))
  refine ⟨R.len, R'.le, fun i d h => ?_, fun i s d h o g => ?_, R.inj, R.bor, fun b h1 h2 => ?_, R.zle.trans R'.zle, fun b h => ?_, R'.tab, R.n0, R'.zt⟩
  · obtain ⟨v, h1, h2⟩ := R.val i d h
    exact ⟨v, h1, h2.mono R'.zle⟩
  · obtain ⟨b, h1, h2, h3, h4⟩ := R.obj i s d h o g
    have ne : b ≠ a := fun z => hn i ⟨s, h, o⟩ (z ▸ h1)
    obtain ⟨k1', k2⟩ := kp b ne h3.ntn
    have k1 := k1'.trans h3.nt
    exact ⟨b, h1, k2.trans h2, h3.mono R'.zle k1, h4⟩
  · have ne : b ≠ a := fun z => by
      subst z
      rcases h0 with h0 | h0
      · exact h1 h0
      · exact h2 h0
    obtain ⟨k1, k2⟩ := R.keep b h1 h2
    obtain ⟨k3, k4⟩ := kp b ne (R.here b h1)
    exact ⟨(k3.trans (nt_keep R.n0 h1 k1)).trans k1, k4.trans k2⟩
  · by_cases hb : b = a
    · subst hb; exact ob0.ntn
    · exact R'.here b (R.here b h)
end
section
variable {X : Cx} {W : WX} {k j : Nat} {fa : Addr} {fd : FuncData} {ps : List Str} {n : Nat} {F : Sem1} {x : Str} {p pos : Pos} {e : Expr} {es : List Expr} {f : Rho → Res (List RV)}
theorem se_callO [Tabl] (tk : Takes X W) (G : FnOk X.prog X.w X.K X.mg X.base (L2.CX X.prog X.w) k fa fd ps (spF X.K X.mg n F)) (hr : Room k X.A) (hg : Gl X x) (hm0 : X.mg x = some (.ref fa)) (hk : PySem.W.keepIn X.K (.ref fa) = true) (hb : Binds X.K fd ps [])
    (ha : SA X W (e :: es) f) (hdb : (x == ("__debug__" : Str)) = false := by decide) (he : starEach (e :: es) X.env = (false, eval e X.env) :: starEach es X.env := by rfl) (hpl : (backTo pos (starEach es X.env)).any (·.1) = false := by rfl) :
    SE X W (.Call (.Name x p) (e :: es) [] pos) (fCallO n F f) :=
  se_of (pe_callSD (E := WE W) G hr hg hm0 hk hb .nil (fun σ => passAt tk σ) ha hdb he hpl) fun C ρ σ Z H Q hK hm R q => by
    show TAr X.K X.mg W f σ H fun vs H1 => spF X.K X.mg n F (vs ++ []) H1 Q (WE W σ)
    rw [← hK, ← hm]
    refine ta_bind (P := fun r => Aft C W σ Z r Q) R q (fun _ _ h => h) (fun h => h) fun rs ρ1 vs Z1 H1 R1 l1 d1 q => ?_
    rw [List.append_nil]
    split at q
    · rename_i ds rs'
      match vs, d1 with
      | v0 :: vs', ⟨d0, d1⟩ =>
        obtain ⟨a, rfl, hz, ⟨xs, hx, hdn⟩, h0, hno⟩ := d0
        cases e1 : asVals rs' with
        | none => rw [e1] at q; exact q.elim
        | some as =>
          rw [e1] at q
          simp only at q
          by_cases hn : as.length + 1 = n
          · rw [if_pos hn] at q
            obtain ⟨hl, hv⟩ := asVals_dn d1 e1
            have Rc := R1.callD hz hx hdn hl hv
            refine ⟨by simp [← hn, hl], C.call Z1 H1 (some a), _, Z1, rfl, rfl, Rc, (fun b h => ⟨0, .lst ds, rfl, h⟩), ?_⟩
            cases e3 : F (.bor (.lst ds) :: as) with
            | no => rw [e3] at q; exact q.elim
            | er z as' =>
              rw [e3] at q
              cases as' with
              | nil => exact q.elim
              | cons t as' =>
                cases t with
                | bor t =>
                  cases t with
                  | lst es => exact fun cls d Z' H' R' l hx => q cls d Z' H' (R1.backO h0 hno R') (l1.trans l) hx
                  | _ => exact q.elim
                | _ => exact q.elim
            | ok r as' =>
              rw [e3] at q
              cases as' with
              | nil => cases r <;> exact q.elim
              | cons t as' =>
                cases t with
                | bor t =>
                  cases t with
                  | lst es =>
                    intro v Z' H' R' l dn
                    have Rb := R1.backO h0 hno R'
                    cases r with
                    | ali j => exact q.elim
                    | val d => exact q v Z' H' Rb (l1.trans l) dn
                    | own d =>
                      obtain ⟨b, rfl, h2, h3, h4⟩ := own_backV R1 (fun b h => ⟨0, ⟨_, rfl, rfl⟩, by cases h; rfl⟩) dn
                      refine q _ Z' H' Rb (l1.trans l) ⟨b, rfl, h2, h3, .inl (R1.fresh0 h4), fun j hj ej => ?_⟩
                      obtain ⟨c, d', e', _, ob, _⟩ := R1.objA hj
                      rw [ej] at e'; cases e'
                      exact ob.ntn h4
                  | _ => cases r <;> exact q.elim
                | _ => cases r <;> exact q.elim
          · rw [if_neg hn] at q; exact q.elim
    · exact q.elim
theorem se_callCO [Tabl] (tk : Takes X W) (c : Cal X.prog X.w X.K X.mg X.base x n F k) (hr : Room j X.A) (ha : SA X W (e :: es) f) (hg : Gl X x := by rfl) (hk : k ≤ j := by decide) (hdb : (x == ("__debug__" : Str)) = false := by decide)
    (he : starEach (e :: es) X.env = (false, eval e X.env) :: starEach es X.env := by rfl) (hpl : (backTo pos (starEach es X.env)).any (·.1) = false := by rfl) : SE X W (.Call (.Name x p) (e :: es) [] pos) (fCallO n F f) := by
  obtain ⟨fa, fd, ps, G, h1, h2, h3⟩ := c.ex
  exact se_callO tk G (hr.mono hk) hg h1 h2 h3 ha hdb he hpl
@[simp] theorem fCallO_ap {n : Nat} {F : Sem1} {f : Rho → Res (List RV)} {ρ : Rho} : fCallO n F f ρ = (f ρ).bind fun rs ρ1 => match rs with
  | .own (.lst ds) :: rs => (match asVals rs with
    | some as => if as.length + 1 = n then (match F (.bor (.lst ds) :: as) with
      | .ok (.val d) (.bor (.lst _) :: _) => .ok (.val d) ρ1
      | .ok (.own d) (.bor (.lst _) :: _) => .ok (.own d) ρ1
      | .er x (.bor (.lst _) :: _) => .er x ρ1
      | _ => .no) else .no
    | none => .no)
  | _ => .no := rfl
end
/-! [x] * n -/
def pMulL : PV → PV → Option OV
  | .lst [x], .int k => guard (decide (0 ≤ k) && decide (k ≤ 1000000)) (some (.own (.lst (List.replicate k.toNat x))))
  | _, _ => none
theorem flat1 {α : Type} (x : α) : ∀ n : Nat, (List.replicate n [x]).flatten = List.replicate n x
  | 0 => rfl
  | n + 1 => by rw [List.replicate_succ, List.flatten_cons, flat1 x n]; rfl
theorem p_mulL {K : PySem.W.Frag} : Op2 K (rMulB K) pMulL := by
  intro Z H x y d e o Q l hx hy ho hw
  unfold pMulL at ho
  split at ho
  · rename_i u k
    obtain ⟨hc, ho⟩ := guard_inv ho
    cases ho
    simp only [Bool.and_eq_true, decide_eq_true_eq] at hc
    obtain ⟨h1, h2⟩ := hc
    obtain ⟨a, xs, rfl, hs, t⟩ := hx.lst
    rw [hy.int]
    have hl := t.length
    refine .inr (.inl ⟨a, k, xs, rfl, rfl, hs, by omega, by omega, ?_, fun p hp => hw _ _ p rfl hp (by rw [← flat1 u]; exact t.rep _)⟩)
    rw [sizeLine_eq]
    have a1 : xs.length * k.toNat ≤ 1 * 1000000 := Nat.mul_le_mul (by rw [hl]; simp) (by omega)
    omega
  · cases ho
@[simp] theorem pMulL_ap {x : PV} {k : Int} : pMulL (.lst [x]) (.int k) = guard (decide (0 ≤ k) && decide (k ≤ 1000000)) (some (.own (.lst (List.replicate k.toNat x)))) := rfl
end TT

set_option Elab.async false
set_option linter.all false
set_option maxRecDepth 100000
/-! sum of a tuple -/
namespace TT
open PySem PySem.Spec PyProof.Rows L2
section
variable {prog : Program} {w : World} {A : Around} {E : Value → Shared → Prop} {s : Shared} {l : Addr} {its : List Value} {ns : List Int} {Q : Value → Shared → Prop}
theorem sum_tupG {xs : Array (Int × Tok)} (hh : A.handled = none) (hl : s.heap.IsTuple l (intItems xs))
    (h : ∀ h' tk t', (∀ b o, s.heap.get? b = some o → h'.get? b = some o) → Q (.int (preSum (numAt xs) xs.size) t') { s with heap := h', toks := tk }) : wpAny (model prog w) A (call (.builtin "sum") [.ref l]) Q E s := by
  have hlt : l < s.heap.objs.size := by obtain ⟨o, e, _⟩ := hl; exact Heap.lt_size e
  refine call_sum_walkG (wpAny_pyIter_tuple hl ?_)
  have hsz : (s.heap.push { cls := .type "tuple_iterator", data := .fields #[.ref l, .int 0 0] }).objs.size = s.heap.objs.size + 1 := Heap.size_push ..
  refine ⟨_, _, _, _, _, _, numAt xs, rfl, Walks.tuple (A := A.in1) hh s.heap.objs.size l (Nat.ne_of_lt hlt) (intItems xs), ⟨⟨_, Heap.get?_push_size _ rfl, rfl, rfl⟩, hl.at fun o e => Heap.get?_push_of_some _ e⟩, fun b hb => ?_, (fun _ _ => intItems_at), fun h' tk t' hk => ?_⟩
  · show b < (s.heap.push { cls := .type "tuple_iterator", data := .fields #[.ref l, .int 0 0] }).objs.size
    rw [hsz]
    rcases List.mem_cons.mp hb with rfl | hb
    · exact Nat.lt_succ_self _
    · rw [List.mem_singleton.mp hb]; exact Nat.lt_succ_of_lt hlt
  · have := h h' tk t' fun b o e => hk b o (fun hm => Nat.ne_of_lt (Heap.lt_size e) (List.mem_singleton.mp hm)) (Heap.get?_push_of_some _ e)
    simpa [intItems] using this
theorem sum_rawT (hh : A.handled = none) (hl : s.heap.IsTuple l its.toArray) (hi : IntsAre its ns)
    (h : ∀ h' tk t', (∀ b o, s.heap.get? b = some o → h'.get? b = some o) → Q (.int ns.sum t') { s with heap := h', toks := tk }) : wpAny (model prog w) A (call (.builtin "sum") [.ref l]) Q E s := by
  obtain ⟨xs, e⟩ := hi.allInts.items
  have hn : numsOf (intItems xs).toList = ns := by rw [← e]; exact hi.numsOf
  rw [nums_intItems] at hn
  rw [e] at hl
  refine sum_tupG hh hl fun h' tk t' hk => ?_
  have := h h' tk t' hk
  rw [preSum_eq, List.take_of_length_le (by simp), hn]; exact this
end
def rSumT (K : PySem.W.Frag) : List V → Hp → VK → Prop := fun vs H Q => ∃ (a : Addr) (ns : List Int), vs = [V.ref a] ∧ SqT K H a (ns.map V.int) ∧ Q (.int ns.sum) H
theorem cr_sumT {X : Cx} (hc : X.calm = true) : CallR X (.builtin "sum") (rSumT X.K) := by
  intro pins s σ H vs us Q I r h
  obtain ⟨a, ns, rfl, hs, q⟩ := h
  obtain ⟨its, rv, hl, _⟩ := I.tuple hs
  rw [Vals.ref1 r]
  exact sum_rawT (I.ok.hd hc) hl rv.ints fun h' tk t' hk => ⟨.int _, H, I.kept hk, ⟨_, rfl⟩, q⟩
theorem cr_sumA {X : Cx} (hc : X.calm = true) : CallR X (.builtin "sum") (fun vs H Q => rSum X.K vs H Q ∨ rSumT X.K vs H Q) := (cr_sum hc).or (cr_sumT hc)
def pSumA (ds : List PV) : Option OV := match ds with
  | [.tup es] => (asInts es).bind fun bs => vI bs.sum
  | _ => pSum ds
theorem p_sumA {K : PySem.W.Frag} : OpN K (fun vs H Q => rSum K vs H Q ∨ rSumT K vs H Q) pSumA := by
  intro Z H xs ds o Q l hx ho hw
  unfold pSumA at ho
  split at ho
  · rename_i es
    obtain ⟨v, rfl, h⟩ := pk1 hx
    obtain ⟨a, ys, rfl, hs, t⟩ := h.tup
    cases e2 : asInts es with
    | none => rw [e2] at ho; cases ho
    | some bs =>
      rw [e2] at ho
      cases ho
      rw [asInts_eq e2] at t
      rw [ints_of t] at hs
      exact .inr ⟨a, bs, rfl, l.sqT hs, hw.1 _ (.int _)⟩
  · exact .inl (p_sum Z H xs ds o Q l hx ho hw)
theorem pSumA_tup (xs : List Int) : pSumA [.tup (xs.map .int)] = vI xs.sum := by
  show (asInts (xs.map .int)).bind _ = _
  rw [asInts_map xs]
  rfl
theorem pSumA_lst (xs : List Int) : pSumA [.lst (xs.map .int)] = vI xs.sum := by
  show (asInts (xs.map .int)).bind _ = _
  rw [asInts_map xs]
  rfl
end TT

set_option Elab.async false
set_option linter.all false
set_option maxRecDepth 100000
/-! tuple(zip(..)) of a list and two tuples -/
namespace RZ3
open PySem PySem.Spec PyProof.Rows L2
section
variable {prog : Program} {w : World} {A : Around} {E : Value → Shared → Prop} {s : Shared} {z TI TO i1 i2 i3 T : Addr} {fp1 fp2 fp3 : List Addr} {n1 n2 n3 i : Nat} {P1 P2 P3 : Nat → Value → Prop} {St1 St2 St3 : Nat → Heap → Prop} {f : Bool} {oT : Obj}
theorem item_held {Q : Value → Shared → Prop} (S : ZipSep3 z TI TO i1 i2 i3 fp1 fp2 fp3) (D1 : Draws prog w A i1 fp1 n1 P1 St1) (D2 : Draws prog w A i2 fp2 n2 P2 St2) (D3 : Draws prog w A i3 fp3 n3 P3 St3)
    (hz : IsZipHeld s.heap z TI TO T f) (hT : s.heap.get? T = some oT) (hTI : IsTupOf3 s.heap TI (.ref i1) (.ref i2) (.ref i3)) (st1 : St1 i s.heap) (st2 : St2 i s.heap) (st3 : St3 i s.heap) (hlt1 : i < n1) (hlt2 : i < n2) (hlt3 : i < n3)
    (hQ : ∀ x1 x2 x3 h' tk, P1 i x1 → P2 i x2 → P3 i x3 → IsZipHeld h' z TI TO T true → St1 (i + 1) h' → St2 (i + 1) h' → St3 (i + 1) h' → IsTupOf3 h' s.heap.objs.size x1 x2 x3 →
      (∀ c o, c ≠ z → c ≠ i1 → c ≠ i2 → c ≠ i3 → s.heap.get? c = some o → h'.get? c = some o) → Q (.ref s.heap.objs.size) { s with heap := h', toks := tk }) :
    wpAny (model prog w) A (Builtin.«zip.__next__» ⟨[.ref z], []⟩) (fun fin s' => ∃ v, fin = .done (.ret v) ∧ Q v s') E s := by
  obtain ⟨hp, g, d, tk0, os⟩ := s
  show wpAny _ _ (field (.ref z) 2 >>= _) _ _ _
  refine wpAny_bind (wpAny_field hz rfl (x := .bool false) rfl ?_)
  show wpAny _ _ (field (.ref z) 3 >>= _) _ _ _
  refine wpAny_bind (wpAny_field hz rfl (x := .ref TI) rfl ?_)
  refine wpAny_bind (wpAny_seqItems hTI rfl ?_)
  show wpAny _ _ (Builtin.SmallTypes.ownedTupleIsFree (.ref z) >>= _) _ _ _
  refine wpAny_bind (wpAny_tupleHeld_zip hz hT fun g0 hz0 hs0 => ?_)
  replace hs0 : Heap.SameBut z hp g0 := hs0
  simp only [Bool.false_eq_true, if_false]
  refine wpAny_bind ?_
  rw [← Array.forIn_toList]
  simp only [List.forIn_cons, List.forIn_nil]
  refine wpAny_bind (wpAny_bind (wpAny_holding ?_))
  show wpAny _ _ (Builtin.SmallTypes.nextOf (.ref i1) >>= _) _ _ ⟨g0, g, d, tk0, os⟩
  refine wpAny_bind (D1.item i _ _ _ hlt1 (D1.over st1 hs0 S.zf1) fun x1 p1 tk1 hx1 sn1 hp1 => wpAny_pure ?_)
  replace hp1 : Heap.SameBut i1 g0 p1 := hp1
  refine wpAny_pure ?_
  refine wpAny_bind (wpAny_bind (wpAny_holding ?_))
  show wpAny _ _ (Builtin.SmallTypes.nextOf (.ref i2) >>= _) _ _ ⟨p1, g, d, tk1, os⟩
  refine wpAny_bind (D2.item i _ _ _ hlt2 (D2.over (D2.over st2 hs0 S.zf2) hp1 S.sep1_2) fun x2 p2 tk2 hx2 sn2 hp2 => wpAny_pure ?_)
  replace hp2 : Heap.SameBut i2 p1 p2 := hp2
  refine wpAny_pure ?_
  refine wpAny_bind (wpAny_bind (wpAny_holding ?_))
  show wpAny _ _ (Builtin.SmallTypes.nextOf (.ref i3) >>= _) _ _ ⟨p2, g, d, tk2, os⟩
  refine wpAny_bind (D3.item i _ _ _ hlt3 (D3.over (D3.over (D3.over st3 hs0 S.zf3) hp1 S.sep1_3) hp2 S.sep2_3) fun x3 p3 tk3 hx3 sn3 hp3 => wpAny_pure ?_)
  replace hp3 : Heap.SameBut i3 p2 p3 := hp3
  refine wpAny_pure (wpAny_pure ?_)
  show wpAny _ _ (newTuple [x1, x2, x3] >>= _) _ _ ⟨p3, g, d, tk3, os⟩
  refine wpAny_bind (wpAny_newTuple ?_)
  have hsz : p3.objs.size = hp.objs.size := by rw [hp3.1, hp2.1, hp1.1, hs0.1]
  have hz3 : IsZipHeld p3 z TI TO T true := hp3.extBut _ _ S.zi3 (hp2.extBut _ _ S.zi2 (hp1.extBut _ _ S.zi1 hz0))
  have hk : ∀ c o, c ≠ z → c ≠ i1 → c ≠ i2 → c ≠ i3 → hp.get? c = some o → p3.get? c = some o := fun c o c1 c2 c3 c4 e => hp3.extBut _ _ c4 (hp2.extBut _ _ c3 (hp1.extBut _ _ c2 (hs0.extBut _ _ c1 e)))
  have j1 : St1 (i + 1) p3 := D1.over (D1.over sn1 hp2 S.sep2_1) hp3 S.sep3_1
  have j2 : St2 (i + 1) p3 := D2.over sn2 hp3 S.sep3_2
  refine wpAny_pure ⟨_, rfl, ?_⟩
  show Q (.ref p3.objs.size) _
  have hp4 : IsTupOf3 (p3.push { cls := .type "tuple", data := .seq #[x1, x2, x3] }) p3.objs.size x1 x2 x3 := Heap.get?_push_size _ rfl
  rw [hsz] at hp4 ⊢
  exact hQ x1 x2 x3 _ tk3 hx1 hx2 hx3 (Heap.get?_push_of_some _ hz3) (D1.frame _ _ _ j1 fun b _ o e => Heap.get?_push_of_some _ e) (D2.frame _ _ _ j2 fun b _ o e => Heap.get?_push_of_some _ e) (D3.frame _ _ _ sn3 fun b _ o e => Heap.get?_push_of_some _ e) hp4
    fun c o c1 c2 c3 c4 e => Heap.get?_push_of_some _ (hk c o c1 c2 c3 c4 e)
theorem end_held {Q : Fin → Shared → Prop} (S : ZipSep3 z TI TO i1 i2 i3 fp1 fp2 fp3) (D1 : Draws prog w A i1 fp1 n1 P1 St1)
    (hz : IsZipHeld s.heap z TI TO T f) (hT : s.heap.get? T = some oT) (hTI : IsTupOf3 s.heap TI (.ref i1) (.ref i2) (.ref i3)) (st1 : St1 n1 s.heap)
    (hE : ∀ h' e, (∀ c o, c ≠ z → c ≠ i1 → s.heap.get? c = some o → h'.get? c = some o) → (∃ o, h'.get? e = some o ∧ o.cls = .type "StopIteration") → E (.ref e) { s with heap := h' }) :
    wpAny (model prog w) A (Builtin.«zip.__next__» ⟨[.ref z], []⟩) Q E s := by
  obtain ⟨hp, g, d, tk0, os⟩ := s
  show wpAny _ _ (field (.ref z) 2 >>= _) _ _ _
  refine wpAny_bind (wpAny_field hz rfl (x := .bool false) rfl ?_)
  show wpAny _ _ (field (.ref z) 3 >>= _) _ _ _
  refine wpAny_bind (wpAny_field hz rfl (x := .ref TI) rfl ?_)
  refine wpAny_bind (wpAny_seqItems hTI rfl ?_)
  show wpAny _ _ (Builtin.SmallTypes.ownedTupleIsFree (.ref z) >>= _) _ _ _
  refine wpAny_bind (wpAny_tupleHeld_zip hz hT fun g0 hz0 hs0 => ?_)
  replace hs0 : Heap.SameBut z hp g0 := hs0
  simp only [Bool.false_eq_true, if_false]
  refine wpAny_bind ?_
  rw [← Array.forIn_toList]
  simp only [List.forIn_cons, List.forIn_nil]
  refine wpAny_bind (wpAny_bind (wpAny_holding ?_))
  show wpAny _ _ (Builtin.SmallTypes.nextOf (.ref i1) >>= _) _ _ ⟨g0, g, d, tk0, os⟩
  refine wpAny_bind (D1.done ⟨g0, g, d, tk0, os⟩ _ _ (D1.over st1 hs0 S.zf1) fun q e hq he => ?_)
  replace hq : Heap.ExtBut i1 g0 q := hq
  exact hE q e (fun c o c1 c2 x => hq _ _ c2 (hs0.extBut _ _ c1 x)) he
theorem next_held {Q : Option Value → Shared → Prop} (S : ZipSep3 z TI TO i1 i2 i3 fp1 fp2 fp3) (D1 : Draws prog w A.in1 i1 fp1 n1 P1 St1) (D2 : Draws prog w A.in1 i2 fp2 n2 P2 St2) (D3 : Draws prog w A.in1 i3 fp3 n3 P3 St3)
    (hz : IsZipHeld s.heap z TI TO T f) (hT : s.heap.get? T = some oT) (hTI : IsTupOf3 s.heap TI (.ref i1) (.ref i2) (.ref i3)) (st1 : St1 i s.heap) (st2 : St2 i s.heap) (st3 : St3 i s.heap) (hlt1 : i < n1) (hlt2 : i < n2) (hlt3 : i < n3)
    (hQ : ∀ x1 x2 x3 h' tk, P1 i x1 → P2 i x2 → P3 i x3 → IsZipHeld h' z TI TO T true → St1 (i + 1) h' → St2 (i + 1) h' → St3 (i + 1) h' → IsTupOf3 h' s.heap.objs.size x1 x2 x3 →
      (∀ c o, c ≠ z → c ≠ i1 → c ≠ i2 → c ≠ i3 → s.heap.get? c = some o → h'.get? c = some o) → Q (some (.ref s.heap.objs.size)) { s with heap := h', toks := tk }) :
    wpAny (model prog w) A (pyNext (.ref z)) Q E s := by
  have hTy : s.TypeIs (.ref z) "zip" := ⟨_, hz, rfl⟩
  unfold pyNext
  exact wpAny_bind (wpAny_attempt (wpAny_callSpecial?_slot (name := Str.ofString "__next__") hTy F.slot_zip_next
    (wpAny_call_entry F.slot_zip_next hTy F.entry_zip_next
      (item_held S D1 D2 D3 hz hT hTI st1 st2 st3 hlt1 hlt2 hlt3 fun x1 x2 x3 h' tk y1 y2 y3 a1 a3 a4 a5 a6 a7 => wpAny_pure (hQ x1 x2 x3 h' tk y1 y2 y3 a1 a3 a4 a5 a6 a7)) (F.args_zip_next_1 _))))
theorem next_end {Q : Option Value → Shared → Prop} (S : ZipSep3 z TI TO i1 i2 i3 fp1 fp2 fp3) (D1 : Draws prog w A.in1 i1 fp1 n1 P1 St1)
    (hz : IsZipHeld s.heap z TI TO T f) (hT : s.heap.get? T = some oT) (hTI : IsTupOf3 s.heap TI (.ref i1) (.ref i2) (.ref i3)) (st1 : St1 n1 s.heap)
    (hQ : ∀ h', (∀ c o, c ≠ z → c ≠ i1 → s.heap.get? c = some o → h'.get? c = some o) → Q none { s with heap := h' }) : wpAny (model prog w) A (pyNext (.ref z)) Q E s := by
  have hTy : s.TypeIs (.ref z) "zip" := ⟨_, hz, rfl⟩
  unfold pyNext
  refine wpAny_bind (wpAny_attempt (wpAny_callSpecial?_slot (name := Str.ofString "__next__") hTy F.slot_zip_next
    (wpAny_call_entry F.slot_zip_next hTy F.entry_zip_next (end_held S D1 hz hT hTI st1 fun h' e hk he => ?_) (F.args_zip_next_1 _))))
  obtain ⟨o, ho, hc⟩ := he
  refine wpAny_bind (wpAny_isInstance (T := "StopIteration") (b := true) ⟨o, ho, hc⟩ isSubtype_stop ?_)
  exact wpAny_pure (hQ _ hk)
end
end RZ3
namespace RZ3
open PySem PySem.Spec PyProof.Rows L2
theorem zip_no_len : typeLookup (.type "zip") "__len__" = pure none := am_miss_of_fast (by decide +kernel)
theorem zip_no_hint : typeLookup (.type "zip") "__length_hint__" = pure none := am_miss_of_fast (by decide +kernel)
/-- tuples laid one after another -/
inductive Laid : Hp → List (V × V × V) → List Addr → Hp → Prop
  | nil (H : Hp) : Laid H [] [] H
  | cons {H H' : Hp} {T : Addr} {v : V × V × V} {r : List (V × V × V)} {Ts : List Addr} : H T = none → Laid (upd H T (.tup [v.1, v.2.1, v.2.2])) r Ts H' → Laid H (v :: r) (T :: Ts) H'
section
variable {X : Cx} {pins : List (Addr × Obj)} {σ : L2.St} {z TI TO i1 i2 i3 B : Addr} {fp1 fp2 fp3 : List Addr} {n1 n2 n3 : Nat} {P1 P2 P3 : Nat → Value → Prop} {St1 St2 St3 : Nat → Heap → Prop} {xs ys zs : List V}
abbrev chL (z TI TO i1 i2 i3 B : Addr) : List Addr := [z, TI, TO, i1, i2, i3, B]
/-- how the zip stands: nothing given yet, or its first tuple is kept -/
def Stt (h : Heap) (z TI TO i1 i2 i3 B : Addr) (i n : Nat) : Prop := (i < n ∧ IsZip h z TI TO .none ∧ ∃ x y u, IsTupOf3 h TO x y u) ∨ ∃ T f oT, IsZipHeld h z TI TO T f ∧ h.get? T = some oT ∧ T ∉ chL z TI TO i1 i2 i3 B
structure Srcs (X : Cx) (i1 i2 i3 : Addr) (fp1 fp2 fp3 : List Addr) (n1 n2 n3 : Nat) (P1 P2 P3 : Nat → Value → Prop) (St1 St2 St3 : Nat → Heap → Prop) (xs ys zs : List V) : Prop where
  d1 : ∀ A : Around, A.handled = none → Draws X.prog X.w A i1 fp1 n1 P1 St1
  d2 : ∀ A : Around, A.handled = none → Draws X.prog X.w A i2 fp2 n2 P2 St2
  d3 : ∀ A : Around, A.handled = none → Draws X.prog X.w A i3 fp3 n3 P3 St3
  r1 : ∀ i x, P1 i x → ∃ v, xs[i]? = some v ∧ RelV v x
  r2 : ∀ i x, P2 i x → ∃ v, ys[i]? = some v ∧ RelV v x
  r3 : ∀ i x, P3 i x → ∃ v, zs[i]? = some v ∧ RelV v x
  l2 : n1 ≤ n2
  l3 : n1 ≤ n3
  ln : n1 ≤ 100000
  lx : xs.length = n1
theorem not_mem_ch {c : Addr} (h : c ∉ chL z TI TO i1 i2 i3 B) : c ≠ z ∧ c ≠ TI ∧ c ≠ TO ∧ c ≠ i1 ∧ c ≠ i2 ∧ c ≠ i3 ∧ c ≠ B := by
  simp only [chL, List.mem_cons, List.not_mem_nil, or_false, not_or] at h
  exact h
theorem drop_trip {i : Nat} {v1 v2 v3 : V} (h1 : xs[i]? = some v1) (h2 : ys[i]? = some v2) (h3 : zs[i]? = some v3) : (xs.zip (ys.zip zs)).drop i = (v1, v2, v3) :: (xs.zip (ys.zip zs)).drop (i + 1) := by
  have e : (xs.zip (ys.zip zs))[i]? = some (v1, v2, v3) := List.getElem?_zip_eq_some.mpr ⟨h1, List.getElem?_zip_eq_some.mpr ⟨h2, h3⟩⟩
  obtain ⟨hi, e'⟩ := List.getElem?_eq_some_iff.mp e
  rw [List.drop_eq_getElem_cons hi, e']
theorem next_any {prog : Program} {w : World} {A : Around} {E : Value → Shared → Prop} {s : Shared} {i : Nat} {Q : Option Value → Shared → Prop} (S : ZipSep3 z TI TO i1 i2 i3 fp1 fp2 fp3) (D1 : Draws prog w A.in1 i1 fp1 n1 P1 St1) (D2 : Draws prog w A.in1 i2 fp2 n2 P2 St2) (D3 : Draws prog w A.in1 i3 fp3 n3 P3 St3)
    (hlt : ∀ q ∈ chL z TI TO i1 i2 i3 B, q < s.heap.objs.size) (st : Stt s.heap z TI TO i1 i2 i3 B i n1) (hTI : IsTupOf3 s.heap TI (.ref i1) (.ref i2) (.ref i3)) (st1 : St1 i s.heap) (st2 : St2 i s.heap) (st3 : St3 i s.heap) (hlt1 : i < n1) (hlt2 : i < n2) (hlt3 : i < n3)
    (hQ : ∀ x1 x2 x3 h' tk, P1 i x1 → P2 i x2 → P3 i x3 → (∃ T f oT, IsZipHeld h' z TI TO T f ∧ h'.get? T = some oT ∧ T ∉ chL z TI TO i1 i2 i3 B) → St1 (i + 1) h' → St2 (i + 1) h' → St3 (i + 1) h' → IsTupOf3 h' s.heap.objs.size x1 x2 x3 →
      (∀ c o, c ≠ z → c ≠ TO → c ≠ i1 → c ≠ i2 → c ≠ i3 → s.heap.get? c = some o → h'.get? c = some o) → Q (some (.ref s.heap.objs.size)) { s with heap := h', toks := tk }) :
    wpAny (model prog w) A (pyNext (.ref z)) Q E s := by
  rcases st with ⟨_, hz, x, y, u, hTO⟩ | ⟨T, f, oT, hz, hT, hTn⟩
  · refine wpAny_pyNext_zipD3_item S D1 D2 D3 hz hTI hTO st1 st2 st3 hlt1 hlt2 hlt3 fun x1 x2 x3 h' tk y1 y2 y3 b1 b2 d1 d2 d3 b5 b6 hk => ?_
    exact hQ x1 x2 x3 h' tk y1 y2 y3 ⟨_, false, _, b1, b5, fun hm => Nat.lt_irrefl _ (hlt _ hm)⟩ d1 d2 d3 b5 hk
  · refine next_held S D1 D2 D3 hz hT hTI st1 st2 st3 hlt1 hlt2 hlt3 fun x1 x2 x3 h' tk y1 y2 y3 b1 d1 d2 d3 b5 hk => ?_
    obtain ⟨a1, a2, a3, a4, a5, a6, _⟩ := not_mem_ch hTn
    exact hQ x1 x2 x3 h' tk y1 y2 y3 ⟨T, true, oT, b1, hk T oT a1 a4 a5 a6 hT, hTn⟩ d1 d2 d3 b5 fun c o c1 _ c2 c3 c4 e => hk c o c1 c2 c3 c4 e
theorem ext_loop {R : Result → Shared → Prop} (res : Value) (S : ZipSep3 z TI TO i1 i2 i3 fp1 fp2 fp3) (C : Srcs X i1 i2 i3 fp1 fp2 fp3 n1 n2 n3 P1 P2 P3 St1 St2 St3 xs ys zs) (b1 : B ∉ fp1) (b2 : B ∉ fp2) (b3 : B ∉ fp3) (bz : B ≠ z) (bTI : B ≠ TI) (bTO : B ≠ TO) {A : Around} (hA : A.handled = none) :
    ∀ (k i : Nat) (s : Shared) (H : Hp) (acc : Array Value) (c : Nat) (Ts : List Addr), n1 - i = k → i ≤ n1 → Inv X pins σ H s → (∀ q ∈ chL z TI TO i1 i2 i3 B, FpOk X pins H q) → (∀ q ∈ chL z TI TO i1 i2 i3 B, q < s.heap.objs.size) →
      Stt s.heap z TI TO i1 i2 i3 B i n1 → IsTupOf3 s.heap TI (.ref i1) (.ref i2) (.ref i3) → St1 i s.heap → St2 i s.heap → St3 i s.heap →
      s.heap.get? B = some { cls := .type "list", dict := none, data := .seq acc c, slots := #[] } → acc.toList = Ts.map Value.ref → Ts.length = i →
      (∀ h' tk H' acc' c' Ts', Inv X pins σ H' { s with heap := h', toks := tk } → (∀ q ∈ chL z TI TO i1 i2 i3 B, FpOk X pins H' q) → Laid H ((xs.zip (ys.zip zs)).drop i) Ts' H' → h'.get? B = some { cls := .type "list", dict := none, data := .seq acc' c', slots := #[] } → acc'.toList = (Ts ++ Ts').map Value.ref →
        R (.ok (.ret res)) { s with heap := h', toks := tk }) →
      codeAny (model X.prog X.w) A (.builtin "list.extend.loop" ⟨[.ref B, .ref z, res], []⟩) R s := by
  have D1 := C.d1 A.in1.in1 hA
  have D2 := C.d2 A.in1.in1 hA
  have D3 := C.d3 A.in1.in1 hA
  have bi1 : B ≠ i1 := fun e => b1 (by rw [e]; exact S.mem1)
  have bi2 : B ≠ i2 := fun e => b2 (by rw [e]; exact S.mem2)
  have bi3 : B ≠ i3 := fun e => b3 (by rw [e]; exact S.mem3)
  intro k
  induction k with
  | zero =>
    intro i s H acc c Ts hk hi I hf hlt st hTI s1 s2 s3 hB hacc hl fin
    have hin : i = n1 := by omega
    subst hin
    refine codeAny_builtin F.entry_extend_loop ?_
    rw [Around.under_plainId F.plain_extend_loop _]
    show wpAny _ A.in1 (pyNext (.ref z) >>= _) _ _ s
    rcases st with ⟨h, _⟩ | ⟨T, f, oT, hz, hT, hTn⟩
    · exact absurd h (Nat.lt_irrefl _)
    · refine wpAny_bind (next_end S D1 hz hT hTI s1 fun h' kk => ?_)
      have hB' : h'.get? B = some { cls := .type "list", dict := none, data := .seq acc c, slots := #[] } := kk B _ bz bi1 hB
      have hd : (xs.zip (ys.zip zs)).drop i = [] := List.drop_eq_nil_of_le (by rw [List.length_zip, C.lx]; omega)
      refine wpAny_pure (fin h' s.toks H acc c [] (I.turnedL (ch := chL z TI TO i1 i2 i3 B) (fun b o hb e => ?_) hf) hf (by rw [hd]; exact .nil _) hB' (by rw [List.append_nil]; exact hacc))
      obtain ⟨a1, _, _, a4, _⟩ := not_mem_ch hb
      exact kk b o a1 a4 e
  | succ k ih =>
    intro i s H acc c Ts hk hi I hf hlt st hTI s1 s2 s3 hB hacc hl fin
    have hlt1 : i < n1 := by omega
    have hlt2 : i < n2 := by have := C.l2; omega
    have hlt3 : i < n3 := by have := C.l3; omega
    have hsz : acc.size = i := by rw [← hl, ← Array.length_toList, hacc, List.length_map]
    have hln := C.ln
    refine codeAny_builtin F.entry_extend_loop ?_
    rw [Around.under_plainId F.plain_extend_loop _]
    show wpAny _ A.in1 (pyNext (.ref z) >>= _) _ _ s
    refine wpAny_bind (next_any S D1 D2 D3 hlt st hTI s1 s2 s3 hlt1 hlt2 hlt3 fun x1 x2 x3 h' tk p1 p2 p3 hst t1 t2 t3 hnew kk => ?_)
    obtain ⟨v1, e1, rv1⟩ := C.r1 i x1 p1
    obtain ⟨v2, e2, rv2⟩ := C.r2 i x2 p2
    obtain ⟨v3, e3, rv3⟩ := C.r3 i x3 p3
    have hB' := kk B _ bz bTO bi1 bi2 bi3 hB
    have ltB : ∀ {q}, q ∈ chL z TI TO i1 i2 i3 B → q ≠ s.heap.objs.size := fun hq => Nat.ne_of_lt (hlt _ hq)
    have nB : s.heap.objs.size ≠ B := fun e => ltB (q := B) (by simp [chL]) e.symm
    have hTI' := kk TI _ S.TIz S.TITO S.TIi1 S.TIi2 S.TIi3 hTI
    show wpAny _ A.in1 (updateSeq B (·.push (.ref s.heap.objs.size)) >>= _) _ _ _
    refine wpAny_bind ?_
    refine wpAny_updateSeq hB' rfl (wpAny_pure ⟨plainId_quiet F.plain_extend_loop _, ?_⟩) (by rw [hsz, sizeLine_eq]; omega) (by show (acc.push _).size ≤ sizeLine + 1; rw [Array.size_push, hsz, sizeLine_eq]; omega)
    have oth : ∀ b o, b ≠ B → h'.get? b = some o → (h'.update B (Obj.mapSeq (·.push (.ref s.heap.objs.size)))).get? b = some o := fun b o hb e => (Heap.get?_update_other _ _ (Ne.symm hb)).trans e
    have hB2 := Heap.get?_update_self (Obj.mapSeq (·.push (Value.ref s.heap.objs.size))) hB' rfl
    generalize hh2 : h'.update B (Obj.mapSeq (·.push (.ref s.heap.objs.size))) = h2 at oth hB2
    have hT2 : h2.get? s.heap.objs.size = some { cls := .type "tuple", data := .seq #[x1, x2, x3] } := oth _ _ nB hnew
    have new : ObjOk X.prog X.w (upd H s.heap.objs.size (.tup [v1, v2, v3])) h2 s.heap.objs.size (.tup [v1, v2, v3]) :=
      ⟨by show 3 ≤ sizeLine; decide, [x1, x2, x3], .cons rv1 (.cons rv2 (.cons rv3 .nil)), ⟨_, hT2, rfl, _, rfl⟩⟩
    have I2 : Inv X pins σ (upd H s.heap.objs.size (.tup [v1, v2, v3])) { s with heap := h2, toks := tk } := I.turnedNew (t' := tk) (ch := chL z TI TO i1 i2 i3 B) (fun b o hb e => by
      obtain ⟨a1, a2, a3, a4, a5, a6, a7⟩ := not_mem_ch hb
      exact oth b o a7 (kk b o a1 a3 a4 a5 a6 e)) hf (Nat.le_refl _) new
    have hf2 : ∀ q ∈ chL z TI TO i1 i2 i3 B, FpOk X pins (upd H s.heap.objs.size (.tup [v1, v2, v3])) q := fun q hq => by
      obtain ⟨f1, f2⟩ := hf q hq
      exact ⟨by rw [upd_ne (ltB hq)]; exact f1, f2⟩
    have live : ∀ q ∈ chL z TI TO i1 i2 i3 B, q < h2.objs.size := fun q hq => by
      simp only [chL, List.mem_cons, List.not_mem_nil, or_false] at hq
      obtain ⟨T, f, oT, hz, hT, hTn⟩ := hst
      obtain ⟨o1, g1⟩ := D1.live _ _ t1
      obtain ⟨o2, g2⟩ := D2.live _ _ t2
      obtain ⟨o3, g3⟩ := D3.live _ _ t3
      rcases hq with rfl | rfl | rfl | rfl | rfl | rfl | rfl
      · exact Heap.lt_size (oth _ _ bz.symm hz)
      · exact Heap.lt_size (oth _ _ bTI.symm hTI')
      · have := hlt q (by simp [chL])
        exact Nat.lt_trans this (Heap.lt_size hT2)
      · exact Heap.lt_size (oth _ _ bi1.symm g1)
      · exact Heap.lt_size (oth _ _ bi2.symm g2)
      · exact Heap.lt_size (oth _ _ bi3.symm g3)
      · exact Heap.lt_size hB2
    refine ih (i + 1) { s with heap := h2, toks := tk } _ (acc.push (.ref s.heap.objs.size)) _ (Ts ++ [s.heap.objs.size]) (by omega) hlt1 I2 hf2 live (.inr ?_) (oth _ _ bTI.symm hTI') (D1.frame _ _ _ t1 fun b hb o e => oth b o (fun e => b1 (e ▸ hb)) e) (D2.frame _ _ _ t2 fun b hb o e => oth b o (fun e => b2 (e ▸ hb)) e) (D3.frame _ _ _ t3 fun b hb o e => oth b o (fun e => b3 (e ▸ hb)) e)
      hB2 (by rw [Array.toList_push, hacc, List.map_append]; rfl) (by rw [List.length_append, hl]; rfl) fun h3 tk3 H3 acc3 c3 Ts3 I3 hf3 L3 hB3 ha3 => ?_
    · obtain ⟨T, f, oT, hz, hT, hTn⟩ := hst
      obtain ⟨_, _, _, _, _, _, a7⟩ := not_mem_ch hTn
      exact ⟨T, f, oT, oth _ _ bz.symm hz, oth _ _ a7 hT, hTn⟩
    · refine fin h3 tk3 H3 acc3 c3 (s.heap.objs.size :: Ts3) I3 hf3 ?_ hB3 (by rw [ha3, List.append_assoc]; rfl)
      rw [drop_trip e1 e2 e3]
      exact .cons (I.hok.fresh (Nat.le_refl _)) L3
end
end RZ3

set_option Elab.async false
set_option linter.all false
set_option maxRecDepth 100000
/-! tuple(zip(..)): the call -/
namespace RZ3
open PySem PySem.Spec PyProof.Rows L2
section
variable {X : Cx} {pins : List (Addr × Obj)} {σ : L2.St} {z TI TO i1 i2 i3 B : Addr} {fp1 fp2 fp3 : List Addr} {n1 n2 n3 : Nat} {P1 P2 P3 : Nat → Value → Prop} {St1 St2 St3 : Nat → Heap → Prop} {xs ys zs : List V} {E : Value → Shared → Prop}
theorem collect_zip {A : Around} {s : Shared} {H : Hp} {Q : List Value → Shared → Prop} (S : ZipSep3 z TI TO i1 i2 i3 fp1 fp2 fp3) (C : Srcs X i1 i2 i3 fp1 fp2 fp3 n1 n2 n3 P1 P2 P3 St1 St2 St3 xs ys zs) (hA : A.handled = none)
    (I : Inv X pins σ H s) (hf : ∀ q ∈ [z, TI, TO, i1, i2, i3], FpOk X pins H q) (hlt : ∀ q ∈ [z, TI, TO, i1, i2, i3], q < s.heap.objs.size) (l1 : ∀ q ∈ fp1, q < s.heap.objs.size) (l2 : ∀ q ∈ fp2, q < s.heap.objs.size) (l3 : ∀ q ∈ fp3, q < s.heap.objs.size)
    (hz : IsZip s.heap z TI TO .none) (hTI : IsTupOf3 s.heap TI (.ref i1) (.ref i2) (.ref i3)) (hTO : ∃ x y u, IsTupOf3 s.heap TO x y u) (st1 : St1 0 s.heap) (st2 : St2 0 s.heap) (st3 : St3 0 s.heap) (h0 : 0 < n1)
    (hQ : ∀ h' tk H' Ts, Inv X pins σ H' { s with heap := h', toks := tk } → Laid H (xs.zip (ys.zip zs)) Ts H' → Q (Ts.map Value.ref) { s with heap := h', toks := tk }) :
    wpAny (model X.prog X.w) A (collect (.ref z)) Q E s := by
  have D1 := C.d1 A.in1 hA
  have D2 := C.d2 A.in1 hA
  have D3 := C.d3 A.in1 hA
  have nS : ∀ q ∈ [z, TI, TO, i1, i2, i3], s.heap.objs.size ≠ q := fun q hq e => Nat.lt_irrefl _ (e ▸ hlt q hq)
  have b1 : s.heap.objs.size ∉ fp1 := fun hm => Nat.lt_irrefl _ (l1 _ hm)
  have b2 : s.heap.objs.size ∉ fp2 := fun hm => Nat.lt_irrefl _ (l2 _ hm)
  have b3 : s.heap.objs.size ∉ fp3 := fun hm => Nat.lt_irrefl _ (l3 _ hm)
  have nz : s.heap.objs.size ≠ z := nS z (by simp)
  have nTI : s.heap.objs.size ≠ TI := nS TI (by simp)
  have nTO : s.heap.objs.size ≠ TO := nS TO (by simp)
  unfold collect
  refine wpAny_bind (wpAny_runValue (codeAny_builtin F.entry_proto_collect ?_))
  rw [Around.under_plainId F.plain_proto_collect _]
  show wpAny _ A.in1 (newList [] >>= fun l => again (.builtin "list.__iadd__" ⟨[l, .ref z], []⟩)) _ _ s
  refine wpAny_bind (wpAny_newObj_type ?_)
  refine wpAny_pure ⟨plainId_quiet F.plain_list_iadd _, codeAny_builtin F.entry_list_iadd ?_⟩
  rw [Around.under_plainId F.plain_list_iadd _]
  have hk1 : ∀ c o, s.heap.get? c = some o → (s.heap.push { cls := .type "list", data := .seq ([] : List Value).toArray }).get? c = some o := fun c o e => Heap.get?_push_of_some _ e
  have hz1 := hk1 z _ hz
  have hty : Shared.TypeIs { s with heap := s.heap.push { cls := .type "list", data := .seq ([] : List Value).toArray } } (.ref z) "zip" := ⟨_, hz1, rfl⟩
  show wpAny _ A.in1 (Builtin.List.listExtendWith (.ref s.heap.objs.size) (.ref z) (.ref s.heap.objs.size)) _ _ _
  unfold Builtin.List.listExtendWith
  refine wpAny_bind (wpAny_typeOf hty ?_)
  have h1 : Builtin.List.listSameRef (.ref s.heap.objs.size) (.ref z) = false := by simp [Builtin.List.listSameRef, nz]
  have h2 : (Value.type "zip" == Value.type "list") = false := by decide
  have h3 : (Value.type "zip" == Value.type "tuple") = false := by decide
  simp only [h1, h2, h3, Bool.or_false, Bool.false_eq_true, if_false]
  refine wpAny_bind (wpAny_pyIter_zip hz1 ?_)
  refine wpAny_bind (wpAny_holding ?_)
  unfold Builtin.List.listLengthHint
  refine wpAny_bind (wpAny_specialOf hty zip_no_len ?_)
  show wpAny _ A.in1 (specialOf (Value.ref z) (Str.ofString "__length_hint__") >>= _) _ _ _
  refine wpAny_bind (wpAny_specialOf hty zip_no_hint ?_)
  refine wpAny_pure ?_
  show wpAny _ A.in1 (rule "list.extend.makes-room" >>= fun _ => Builtin.List.listTouch (.ref s.heap.objs.size) >>= fun _ =>
    again (.builtin "list.extend.loop" ⟨[.ref s.heap.objs.size, .ref z, .ref s.heap.objs.size], []⟩)) _ _ _
  refine wpAny_bind (wpAny_rule ?_)
  have hS₁ : (s.heap.push { cls := .type "list", data := .seq ([] : List Value).toArray }).get? s.heap.objs.size = some { cls := .type "list", data := .seq ([] : List Value).toArray } := Heap.get?_push_size _ rfl
  refine wpAny_bind ?_
  show wpAny _ A.in1 (updateSeq s.heap.objs.size (·.push .none) >>= fun _ => updateSeq s.heap.objs.size (·.pop)) _ _ _
  refine wpAny_bind (wpAny_updateSeq hS₁ rfl ?_)
  have hS₂ := Heap.get?_update_self (Obj.mapSeq (·.push Value.none)) hS₁ rfl
  refine wpAny_updateSeq hS₂ rfl ?_
  have hS₃ := Heap.get?_update_self (Obj.mapSeq (·.pop)) hS₂ rfl
  have oth : ∀ b o, s.heap.get? b = some o →
      (((s.heap.push { cls := .type "list", data := .seq ([] : List Value).toArray }).update s.heap.objs.size (Obj.mapSeq (·.push Value.none))).update s.heap.objs.size (Obj.mapSeq (·.pop))).get? b = some o :=
    fun b o e => by
      have hb : b ≠ s.heap.objs.size := Nat.ne_of_lt (Heap.lt_size e)
      exact (Heap.get?_update_other _ _ (Ne.symm hb)).trans ((Heap.get?_update_other _ _ (Ne.symm hb)).trans (hk1 b o e))
  generalize (((s.heap.push { cls := .type "list", data := .seq ([] : List Value).toArray }).update s.heap.objs.size (Obj.mapSeq (·.push Value.none))).update s.heap.objs.size (Obj.mapSeq (·.pop))) = g at oth hS₃
  have I1 : Inv X pins σ H { s with heap := g } := I.kept (t' := s.toks) oth
  have hf1 : ∀ q ∈ chL z TI TO i1 i2 i3 s.heap.objs.size, FpOk X pins H q := fun q hq => by
    simp only [chL, List.mem_cons, List.not_mem_nil, or_false] at hq
    rcases hq with rfl | rfl | rfl | rfl | rfl | rfl | rfl
    · exact hf _ (by simp)
    · exact hf _ (by simp)
    · exact hf _ (by simp)
    · exact hf _ (by simp)
    · exact hf _ (by simp)
    · exact hf _ (by simp)
    · exact I.fpOk (Nat.le_refl _) (I.hok.fresh (Nat.le_refl _))
  have live : ∀ q ∈ chL z TI TO i1 i2 i3 s.heap.objs.size, q < g.objs.size := fun q hq => by
    have hB := Heap.lt_size hS₃
    simp only [chL, List.mem_cons, List.not_mem_nil, or_false] at hq
    rcases hq with rfl | rfl | rfl | rfl | rfl | rfl | rfl
    · exact Nat.lt_trans (hlt _ (by simp)) hB
    · exact Nat.lt_trans (hlt _ (by simp)) hB
    · exact Nat.lt_trans (hlt _ (by simp)) hB
    · exact Nat.lt_trans (hlt _ (by simp)) hB
    · exact Nat.lt_trans (hlt _ (by simp)) hB
    · exact Nat.lt_trans (hlt _ (by simp)) hB
    · exact hB
  obtain ⟨x, y, u, hTO'⟩ := hTO
  refine wpAny_pure ⟨plainId_quiet F.plain_extend_loop _, ext_loop (B := s.heap.objs.size) (.ref s.heap.objs.size) S C b1 b2 b3 nz nTI nTO (by exact hA) n1 0 { s with heap := g } H _ _ [] rfl (Nat.zero_le _) I1 hf1 live
    (.inl ⟨h0, oth _ _ hz, x, y, u, oth _ _ hTO'⟩) (oth _ _ hTI) (D1.frame _ _ _ st1 fun b _ o e => oth b o e) (D2.frame _ _ _ st2 fun b _ o e => oth b o e) (D3.frame _ _ _ st3 fun b _ o e => oth b o e) hS₃ rfl rfl fun h' tk H' acc' c' Ts' I' _ L hB' ha => ?_⟩
  show wpAny _ A (load s.heap.objs.size >>= _) _ _ _
  refine wpAny_bind (wpAny_load hB' ?_)
  refine wpAny_pure ?_
  have : Q (Ts'.map Value.ref) { s with heap := h', toks := tk } := hQ h' tk H' Ts' I' L
  rw [List.nil_append] at ha
  rw [← ha] at this
  exact this
end
end RZ3

set_option Elab.async false
set_option linter.all false
set_option maxRecDepth 100000
/-! tuple(zip(..)): the rule -/
namespace RZ3
open PySem PySem.Spec PyProof.Rows L2
section
variable {X : Cx} {pins : List (Addr × Obj)} {σ : L2.St} {z TI TO i1 i2 i3 B : Addr} {fp1 fp2 fp3 : List Addr} {n1 n2 n3 : Nat} {P1 P2 P3 : Nat → Value → Prop} {St1 St2 St3 : Nat → Heap → Prop} {xs ys zs : List V} {E : Value → Shared → Prop}
theorem Laid.len {H H' : Hp} {vs : List (V × V × V)} {Ts : List Addr} (h : Laid H vs Ts H') : Ts.length = vs.length := by
  induction h with
  | nil => rfl
  | cons _ _ ih => simp [ih]
theorem Laid.keep {H H' : Hp} {vs : List (V × V × V)} {Ts : List Addr} (h : Laid H vs Ts H') : ∀ {b o}, H b = some o → H' b = some o := by
  induction h with
  | nil => intro b o e; exact e
  | cons hn _ ih => intro b o e; exact ih (by rw [upd_ne (ne_of_none e hn)]; exact e)
theorem Laid.at {H H' : Hp} {vs : List (V × V × V)} {Ts : List Addr} (h : Laid H vs Ts H') : ∀ {i : Nat} {v : V × V × V}, vs[i]? = some v → ∃ T, Ts[i]? = some T ∧ H' T = some (.tup [v.1, v.2.1, v.2.2]) := by
  induction h with
  | nil => intro i v e; simp at e
  | @cons H H' T v r Ts hn hl ih =>
    intro i w e
    cases i with
    | zero => cases e; exact ⟨T, rfl, hl.keep (upd_same ..)⟩
    | succ i => exact ih (i := i) e
theorem vals_at {xs : List V} {us : List Value} {i : Nat} {u : Value} (r : Vals xs us) (e : us[i]? = some u) : ∃ x, xs[i]? = some x ∧ RelV x u := by
  have hi : i < us.length := (List.getElem?_eq_some_iff.mp e).1
  have hx : i < xs.length := by rw [Paired.length r]; exact hi
  obtain ⟨u', e', h⟩ := Vals.get r (List.getElem?_eq_getElem hx)
  rw [e] at e'
  cases e'
  exact ⟨_, List.getElem?_eq_getElem hx, h⟩
theorem refs_rel : ∀ Ts : List Addr, Vals (Ts.map V.ref) (Ts.map Value.ref)
  | [] => .nil
  | _ :: r => .cons rfl (refs_rel r)
theorem call_tuple_zip {A : Around} {s : Shared} {H : Hp} {Q : Value → Shared → Prop} (S : ZipSep3 z TI TO i1 i2 i3 fp1 fp2 fp3) (C : Srcs X i1 i2 i3 fp1 fp2 fp3 n1 n2 n3 P1 P2 P3 St1 St2 St3 xs ys zs) (hA : A.handled = none)
    (I : Inv X pins σ H s) (hf : ∀ q ∈ [z, TI, TO, i1, i2, i3], FpOk X pins H q) (hlt : ∀ q ∈ [z, TI, TO, i1, i2, i3], q < s.heap.objs.size) (l1 : ∀ q ∈ fp1, q < s.heap.objs.size) (l2 : ∀ q ∈ fp2, q < s.heap.objs.size) (l3 : ∀ q ∈ fp3, q < s.heap.objs.size)
    (hz : IsZip s.heap z TI TO .none) (hTI : IsTupOf3 s.heap TI (.ref i1) (.ref i2) (.ref i3)) (hTO : ∃ x y u, IsTupOf3 s.heap TO x y u) (st1 : St1 0 s.heap) (st2 : St2 0 s.heap) (st3 : St3 0 s.heap) (h0 : 0 < n1) (hy : n1 ≤ ys.length) (hzl : n1 ≤ zs.length)
    (hQ : ∀ s' H' Ts t, Laid H (xs.zip (ys.zip zs)) Ts H' → H' t = none → Inv X pins σ (upd H' t (.tup (Ts.map V.ref))) s' → Q (.ref t) s') :
    wpAny (model X.prog X.w) A (call (.type "tuple") [.ref z]) Q E s := by
  refine callType_codes (Q₁ := fun obj s₁ => s₁.TypeIs obj "tuple" ∧ Q obj s₁) F.called_tuple (F.typeCall_tuple_1 _) F.entry_object_init ?_ fun obj s₁ h₁ =>
    ⟨h₁.1, F.args_object_init_2 obj _, object_init_meets F.called_tuple.init.lookup F.called_tuple.made (by decide) X.prog X.w A.in1 _ s₁ ⟨h₁.1, rfl, h₁.2⟩⟩
  refine codeAny_of_tree ?_
  show wpAny _ _ (do checkBuiltinCall "tuple.__new__" ⟨[.type "tuple", .ref z], []⟩; again (.builtin "tuple.__new__" ⟨[.type "tuple", .ref z], []⟩)) _ _ s
  refine wpAny_bind (wpAny_of_eq (F.newCall_tuple_1 _) (wpAny_pure ⟨plainId_quiet F.plain_tuple_new _, codeAny_builtin F.entry_tuple_new ?_⟩))
  rw [Around.under_plainId F.plain_tuple_new _]
  have hsub := sub_tuple_self
  have hinit := init_tuple_lookup
  have hmh := madeHere_tuple
  have hTz : s.TypeIs (.ref z) "zip" := ⟨_, hz, rfl⟩
  have cz : ∀ {A' : Around} {E' : Value → Shared → Prop} {Q' : List Value → Shared → Prop}, A'.handled = none → (∀ h' tk H' Ts, Inv X pins σ H' { s with heap := h', toks := tk } → Laid H (xs.zip (ys.zip zs)) Ts H' → Q' (Ts.map Value.ref) { s with heap := h', toks := tk }) → wpAny (model X.prog X.w) A' (collect (.ref z)) Q' E' s :=
    fun hA' hQ' => collect_zip S C hA' I hf hlt l1 l2 l3 hz hTI hTO st1 st2 st3 h0 hQ'
  wp_walk using wpAny_typeOf hTz, cz (by exact hA)
  intro h' tk H' Ts I' L
  have hl : Ts.length = n1 := by
    rw [L.len, List.length_zip, List.length_zip, C.lx]
    omega
  show wpAny _ _ (Builtin.Tuple.tupleExact (Ts.map Value.ref).toArray >>= fun v => ret v) _ _ _
  unfold Builtin.Tuple.tupleExact
  refine wpAny_bind (wpAny_newObj_type ?_ (by show (Ts.map Value.ref).toArray.size ≤ sizeLine; rw [List.size_toArray, List.length_map, hl, sizeLine_eq]; have := C.ln; omega))
  refine wpAny_pure ?_
  have e1 : Shared.TypeIs ({ s with heap := h'.push { cls := .type "tuple", data := .seq (Ts.map Value.ref).toArray }, toks := tk } : Shared) (.ref h'.objs.size) "tuple" := ⟨_, Heap.get?_push_size _ rfl, rfl⟩
  have hn : H' h'.objs.size = none := I'.hok.fresh (Nat.le_refl _)
  have I2 : Inv X pins σ (upd H' h'.objs.size (.tup (Ts.map V.ref))) ({ s with heap := h'.push { cls := .type "tuple", data := .seq (Ts.map Value.ref).toArray }, toks := tk } : Shared) :=
    I'.laid (t' := tk) (fun b u e => Heap.get?_push_of_some _ e) (Nat.le_refl _) ⟨by rw [List.length_map, hl, sizeLine_eq]; have := C.ln; omega, Ts.map Value.ref, refs_rel Ts, ⟨_, Heap.get?_push_size _ rfl, rfl, _, rfl⟩⟩
  exact ⟨e1, hQ _ H' Ts h'.objs.size L hn I2⟩
def wTZ3 (K : PySem.W.Frag) (ta : TA) : TE := fun σ H Q => ta σ H fun vs H1 => ∃ a b c xs ys zs, vs = [.ref a, .ref b, .ref c] ∧ SqL K H1 a xs ∧ SqT K H1 b ys ∧ SqT K H1 c zs ∧ 0 < xs.length ∧ xs.length ≤ 100000 ∧ xs.length ≤ ys.length ∧ xs.length ≤ zs.length ∧
  ∀ Ts H2 t, Laid H1 (xs.zip (ys.zip zs)) Ts H2 → H2 t = none → Q (.ref t) (upd H2 t (.tup (Ts.map V.ref)))
end
theorem pe_tz3 {X : Cx} {e e2 e3 : Expr} {ta : TA} {p p' pos pos' : Pos} (hg : Gl X "zip") (hm : X.mg "zip" = none) (hgt : Gl X "tuple") (hmt : X.mg "tuple" = none) (hc : X.calm = true) (ha : PA X [e, e2, e3] ta)
    (hs : starEach [e, e2, e3] X.env = (false, eval e X.env) :: starEach [e2, e3] X.env := by rfl) (hpl : (backTo pos (starEach [e2, e3] X.env)).any (·.1) = false := by rfl) :
    PE X (.Call (.Name "tuple" p') [.Call (.Name "zip" p) [e, e2, e3] [] pos] [] pos') (wTZ3 X.K ta) := by
  refine ⟨fun pins s σ H Q I h => ?_⟩
  refine Call_ (ld_blt I hgt hmt PyProof.Rows.boot_tuple (PyProof.Rows.callWith_type1 (Calls.spliced_cons ?_) rfl rfl))
  refine Call_ (ld_blt I hg hm PyProof.Rows.boot_zip (PyProof.Rows.callWith_type1 (thn (ha.run pos pins s σ H _ I h) fun us s1 ⟨vs, H1, I1, r1, q1⟩ => ?_) hs hpl))
  obtain ⟨a, b, c, xs, ys, zs, ex, hqx, hqy, hqz, hl0, hl1, hl2, hl3, q⟩ := q1
  subst ex
  cases r1 with
  | cons r rr =>
    cases rr with
    | cons r' rr =>
      cases rr with
      | cons r'' rr =>
        cases rr
        cases r
        cases r'
        cases r''
        have fresh6 : ∀ q, q ∈ [s1.heap.objs.size + 5, s1.heap.objs.size + 3, s1.heap.objs.size + 4, s1.heap.objs.size, s1.heap.objs.size + 1, s1.heap.objs.size + 2] → FpOk X pins H1 q := fun q hq => by
          have hle : s1.heap.objs.size ≤ q := by
            rcases mem6 hq with z | z | z | z | z | z
            · rw [z]; exact Nat.le_add_right _ _
            · rw [z]; exact Nat.le_add_right _ _
            · rw [z]; exact Nat.le_add_right _ _
            · rw [z]; exact Nat.le_refl _
            · rw [z]; exact Nat.le_add_right _ _
            · rw [z]; exact Nat.le_add_right _ _
          exact I1.fpOk hle (I1.hok.fresh hle)
        obtain ⟨its, rv, p1, _⟩ := I1.list hqx
        obtain ⟨its2, rv2, p2, _⟩ := I1.tuple hqy
        obtain ⟨its3, rv3, p3, _⟩ := I1.tuple hqz
        have p1' : s1.heap.IsList a its.toArray := by obtain ⟨o, n, e, c1, _, d⟩ := p1; exact ⟨o, e, c1, n, d⟩
        have p2' : s1.heap.IsTuple b its2.toArray := p2
        have p3' : s1.heap.IsTuple c its3.toArray := p3
        have k1 : a < s1.heap.objs.size := by obtain ⟨_, e, _⟩ := p1'; exact Heap.lt_size e
        have k2 : b < s1.heap.objs.size := by obtain ⟨_, e, _⟩ := p2'; exact Heap.lt_size e
        have k3 : c < s1.heap.objs.size := by obtain ⟨_, e, _⟩ := p3'; exact Heap.lt_size e
        refine zip_begins3 (begins_list a its.toArray) (begins_tuple b its2.toArray) (begins_tuple c its3.toArray) p1' p2' p3' fun h' hz hTI hTO g1 g2 g3 hsz hk => ?_
        have I2 : Inv X pins σ H1 { s1 with heap := h' } := I1.kept (t' := s1.toks) hk
        refine Calls.spliced_nil ?_
        have n1 : its.toArray.size = xs.length := by rw [List.size_toArray]; exact (Paired.length rv).symm
        have n2 : its2.toArray.size = ys.length := by rw [List.size_toArray]; exact (Paired.length rv2).symm
        have n3 : its3.toArray.size = zs.length := by rw [List.size_toArray]; exact (Paired.length rv3).symm
        have S := zip_sep3 (N := s1.heap.objs.size) (fp1 := [a]) (fp2 := [b]) (fp3 := [c]) (fun q hq => by rw [List.mem_singleton.mp hq]; exact k1) (fun q hq => by rw [List.mem_singleton.mp hq]; exact k2) (fun q hq => by rw [List.mem_singleton.mp hq]; exact k3)
        have C : Srcs X s1.heap.objs.size (s1.heap.objs.size + 1) (s1.heap.objs.size + 2) [s1.heap.objs.size, a] [s1.heap.objs.size + 1, b] [s1.heap.objs.size + 2, c] its.toArray.size its2.toArray.size its3.toArray.size
            (fun i v => its.toArray[i]? = some v) (fun i v => its2.toArray[i]? = some v) (fun i v => its3.toArray[i]? = some v) (fun i h => h.IsListIter s1.heap.objs.size a i ∧ h.IsList a its.toArray) (fun i h => h.IsTupleIter (s1.heap.objs.size + 1) b i ∧ h.IsTuple b its2.toArray) (fun i h => h.IsTupleIter (s1.heap.objs.size + 2) c i ∧ h.IsTuple c its3.toArray) xs ys zs := {
          d1 := fun A hA => Draws.list hA _ a (Nat.ne_of_lt k1) its.toArray
          d2 := fun A hA => Draws.tuple hA _ b (Nat.ne_of_lt (Nat.lt_succ_of_lt k2)) its2.toArray
          d3 := fun A hA => Draws.tuple hA _ c (Nat.ne_of_lt (Nat.lt_of_lt_of_le k3 (Nat.le_add_right _ _))) its3.toArray
          r1 := fun i x e => vals_at rv (by simpa using e)
          r2 := fun i x e => vals_at rv2 (by simpa using e)
          r3 := fun i x e => vals_at rv3 (by simpa using e)
          l2 := by omega
          l3 := by omega
          ln := by omega
          lx := n1.symm }
        have six : ∀ q ∈ [s1.heap.objs.size + 5, s1.heap.objs.size + 3, s1.heap.objs.size + 4, s1.heap.objs.size, s1.heap.objs.size + 1, s1.heap.objs.size + 2], q < h'.objs.size := fun q hq => by
          rw [hsz]
          rcases mem6 hq with z | z | z | z | z | z <;> rw [z] <;> simp only [Addr] at * <;> omega
        refine call_tuple_zip (s := { s1 with heap := h' }) S C (I.ok.hd hc) I2 fresh6 six ?_ ?_ ?_ hz hTI ⟨_, _, _, hTO⟩ ⟨⟨_, g1, rfl, rfl⟩, p1'.at fun o e => hk _ _ e⟩ ⟨⟨_, g2, rfl, rfl⟩, p2'.at fun o e => hk _ _ e⟩ ⟨⟨_, g3, rfl, rfl⟩, p3'.at fun o e => hk _ _ e⟩ (by omega) (by omega) (by omega) fun s' H' Ts t L hn I' =>
          ⟨.ref t, _, I', rfl, q Ts H' t L hn⟩
        · intro q hq
          show q < h'.objs.size
          rw [hsz]
          simp only [List.mem_cons, List.not_mem_nil, or_false] at hq
          rcases hq with rfl | rfl <;> simp only [Addr] at * <;> omega
        · intro q hq
          show q < h'.objs.size
          rw [hsz]
          simp only [List.mem_cons, List.not_mem_nil, or_false] at hq
          rcases hq with rfl | rfl <;> simp only [Addr] at * <;> omega
        · intro q hq
          show q < h'.objs.size
          rw [hsz]
          simp only [List.mem_cons, List.not_mem_nil, or_false] at hq
          rcases hq with rfl | rfl <;> simp only [Addr] at * <;> omega
end RZ3

set_option Elab.async false
set_option linter.all false
set_option maxRecDepth 100000
/-! tuple(zip(..)) of a list and two tuples: on values -/
namespace TT
open PySem PySem.Spec L2
theorem DnAll.zip3 {K : PySem.W.Frag} {Z : Hp} : ∀ {xs ys zs : List V} {ds es gs : List PV}, DnAll K Z xs ds → DnAll K Z ys es → DnAll K Z zs gs → ∀ {i : Nat} {v : V × V × V}, (xs.zip (ys.zip zs))[i]? = some v → ∃ d e g, ds[i]? = some d ∧ es[i]? = some e ∧ gs[i]? = some g ∧ Dn K Z v.1 d ∧ Dn K Z v.2.1 e ∧ Dn K Z v.2.2 g := by
  intro xs ys zs ds es gs h1 h2 h3 i v e
  have e1 := List.getElem?_zip_eq_some.mp e
  have e2 := List.getElem?_zip_eq_some.mp e1.2
  obtain ⟨d, q1, r1⟩ := h1.getV e1.1
  obtain ⟨e', q2, r2⟩ := h2.getV e2.1
  obtain ⟨g, q3, r3⟩ := h3.getV e2.2
  exact ⟨d, e', g, q1, q2, q3, r1, r2, r3⟩
inductive DnT (K : PySem.W.Frag) (Z : Hp) : List (V × V × V) → List PV → Prop
  | nil : DnT K Z [] []
  | cons {v : V × V × V} {vs : List (V × V × V)} {d e g : PV} {ds : List PV} : Dn K Z v.1 d → Dn K Z v.2.1 e → Dn K Z v.2.2 g → DnT K Z vs ds → DnT K Z (v :: vs) (.tup [d, e, g] :: ds)
theorem DnT.mono {K : PySem.W.Frag} {Z Z' : Hp} (l : Zle Z Z') {vs : List (V × V × V)} {ds : List PV} (h : DnT K Z vs ds) : DnT K Z' vs ds := by
  induction h with
  | nil => exact .nil
  | cons a b c _ ih => exact .cons (a.mono l) (b.mono l) (c.mono l) ih
theorem DnT.of {K : PySem.W.Frag} {Z : Hp} : ∀ {xs ys zs : List V} {ds es gs : List PV}, DnAll K Z xs ds → DnAll K Z ys es → DnAll K Z zs gs → DnT K Z (xs.zip (ys.zip zs)) (zip3P ds es gs)
  | _, _, _, _, _, _, .nil, _, _ => .nil
  | _, _, _, _, _, _, .cons _ _, .nil, _ => .nil
  | _, _, _, _, _, _, .cons _ _, .cons _ _, .nil => .nil
  | _, _, _, _, _, _, .cons a t, .cons b u, .cons c w => .cons a b c (DnT.of t u w)
section
variable {C : Ct} {ρ : Rho} {σ : L2.St}
theorem laid_rel [Tabl] {H H' : Hp} {vs : List (V × V × V)} {Ts : List Addr} (h : RZ3.Laid H vs Ts H') : ∀ {Z : Hp} {ds : List PV}, Rel C ρ σ Z H → DnT C.K Z vs ds → ∃ Z', Rel C ρ σ Z' H' ∧ Zle Z Z' ∧ DnAll C.K Z' (Ts.map V.ref) ds := by
  induction h with
  | nil => intro Z ds R dt; cases dt; exact ⟨Z, R, Zle.refl _, .nil⟩
  | @cons H H' T v r Ts hn hl ih =>
    intro Z ds R dt
    cases dt with
    | cons a b c dt =>
      obtain ⟨R1, zl⟩ := R.newZ (o := .tup [v.1, v.2.1, v.2.2]) hn
      obtain ⟨Z', R', l', da⟩ := ih R1 (dt.mono zl)
      refine ⟨Z', R', zl.trans l', .cons (.tup (.inl (.inl (l' _ _ upd_same))) (.cons (a.mono (zl.trans l')) (.cons (b.mono (zl.trans l')) (.cons (c.mono (zl.trans l')) .nil)))) da⟩
end
def fTupZ3 (f : Rho → Res (List RV)) : Rho → Res RV := fun ρ => (f ρ).bind fun rs ρ1 => match peeks rs ρ1 with
  | some [.lst ds, .tup es, .tup gs] => if decide (0 < ds.length) && decide (ds.length ≤ 100000) && decide (ds.length ≤ es.length) && decide (ds.length ≤ gs.length) then .ok (.val (.tup (zip3P ds es gs))) ρ1 else .no
  | _ => .no
section
variable {X : Cx} {W : WX} {e e2 e3 : Expr} {fl : Rho → Res (List RV)} {p p' pos pos' : Pos}
theorem se_tz3 [Tabl] (hg : Gl X "zip") (hm0 : X.mg "zip" = none) (hgt : Gl X "tuple") (hmt : X.mg "tuple" = none) (hc : X.calm = true) (he : SA X W [e, e2, e3] fl) (hs : starEach [e, e2, e3] X.env = (false, eval e X.env) :: starEach [e2, e3] X.env := by rfl) (hpl : ((backTo pos (starEach [e2, e3] X.env)).any fun x => x.1) = false := by rfl) :
    SE X W (.Call (.Name "tuple" p') [.Call (.Name "zip" p) [e, e2, e3] [] pos] [] pos') (fTupZ3 fl) :=
  pe_imp (RZ3.pe_tz3 hg hm0 hgt hmt hc he hs hpl) fun σ H Q ⟨C, ρ, Z, hK, hm, R, q⟩ => by
    show TAr X.K X.mg W fl σ H _
    rw [← hK, ← hm]
    refine ta_bind (P := fun r => Aft C W σ Z r Q) R q (fun _ _ h => h) (fun h => h) fun rs ρ1 vs Z1 H1 R1 l dn q => ?_
    split at q
    · rename_i ds es gs hp
      split at q
      · rename_i hb
        simp only [Bool.and_eq_true, decide_eq_true_eq] at hb
        obtain ⟨⟨⟨b1, b2⟩, b3⟩, b4⟩ := hb
        have pk := dn.pk R1 hp
        match vs, pk with
        | [v, u, w], ⟨d1, d2, d3, _⟩ =>
          obtain ⟨a, xs, rfl, h, t⟩ := d1
          obtain ⟨b, ys, rfl, h2, t2⟩ := Dn.tup_inv (K := C.K) (Z := Z1) d2
          obtain ⟨c, zs, rfl, h3, t3⟩ := Dn.tup_inv (K := C.K) (Z := Z1) d3
          refine ⟨a, b, c, xs, ys, zs, rfl, .inl (.inl h), R1.le.sqT h2, R1.le.sqT h3, by rw [t.length]; exact b1, by rw [t.length]; exact b2, by rw [t.length, t2.length]; exact b3, by rw [t.length, t3.length]; exact b4, fun Ts H2 tt L hn => ?_⟩
          obtain ⟨Z2, R2, l2, da⟩ := laid_rel L R1 (DnT.of t t2 t3)
          obtain ⟨R3, zl⟩ := R2.newZ (o := .tup (Ts.map V.ref)) hn
          exact q _ _ _ R3 (l.trans (l2.trans zl)) (.tup (.inl (.inl upd_same)) (da.mono zl))
      · exact q.elim
    · exact q.elim
@[simp] theorem fTupZ3_ap {ρ : Rho} : fTupZ3 fl ρ = (fl ρ).bind fun rs ρ1 => match peeks rs ρ1 with
  | some [.lst ds, .tup es, .tup gs] => if decide (0 < ds.length) && decide (ds.length ≤ 100000) && decide (ds.length ≤ es.length) && decide (ds.length ≤ gs.length) then .ok (.val (.tup (zip3P ds es gs))) ρ1 else .no
  | _ => .no := rfl
end
end TT

set_option Elab.async false
set_option linter.all false
set_option maxRecDepth 100000
/-! f(dice, xs): two lists are lent -/
namespace TT
open PySem PySem.Spec L2
def Ct.call2 [Tabl] (C : Ct) (Z H : Hp) (a b : Addr) : Ct := { C with Z0 := Z, H0 := nt H, M := fun c => c = a ∨ c = b, B := fun i => match i with
  | 0 => some a
  | 1 => some b
  | _ => none }
section
variable {C : Ct} {W : WX} {ρ ρ' : Rho} {σ σ' : Sg} {Z Z' H H' : Hp} {v : V} {d : PV}
theorem isObj_two {d e : PV} {i : Nat} (h : isObj [SV.bor d, SV.bor e] i) : i = 0 ∨ i = 1 := by
  obtain ⟨s, h1, _⟩ := h
  match i with
  | 0 => exact .inl rfl
  | 1 => exact .inr rfl
  | i + 2 => simp at h1
theorem Rel.callDD [Tabl] (R : Rel C ρ σ Z H) {a b : Addr} {ds es : List PV} {xs ys : List V} (hne : a ≠ b) (hz : Z a = none) (hx : H a = some (.lst xs)) (hd : DnAll C.K Z xs ds) (hz2 : Z b = none) (hy : H b = some (.lst ys)) (he : DnAll C.K Z ys es) :
    Rel (C.call2 Z H a b) [.bor (.lst ds), .bor (.lst es)] [some (.ref a), some (.ref b)] Z H := by
  refine ⟨rfl, R.le, fun i d h => ?_, fun i s d h o g => ?_, fun i j c hi hj e1 e2 => ?_, fun i d h => ?_, fun a h _ => ⟨(nt_eq h).symm, rfl⟩, Zle.refl _, fun a h => h, R.tab, nt_NT, R.zt⟩
  · match i with
    | 0 => simp at h
    | 1 => simp at h
    | i + 2 => simp at h
  · match i with
    | 0 => cases h; cases g; exact ⟨a, rfl, hz, ⟨xs, hx, hd⟩, .inr (.inl rfl)⟩
    | 1 => cases h; cases g; exact ⟨b, rfl, hz2, ⟨ys, hy, he⟩, .inr (.inr rfl)⟩
    | i + 2 => simp at h
  · rcases isObj_two hi with rfl | rfl <;> rcases isObj_two hj with rfl | rfl
    · rfl
    · cases e1; cases e2; exact absurd rfl hne
    · cases e1; cases e2; exact absurd rfl hne
    · rfl
  · match i with
    | 0 => exact ⟨a, rfl, rfl⟩
    | 1 => exact ⟨b, rfl, rfl⟩
    | i + 2 => simp at h
/-- lists that have changed, and nothing else -/
theorem Rel.upd2 [Tabl] (R : Rel C ρ σ Z H) {ρ2 : Rho} {a b : Addr} (hlen : ρ2.length = ρ.length) (zz : Zle Z Z') (le : Zle Z' H')
    (h : ∀ k, (ρ2[k]? = ρ[k]? ∧ ∀ c, isObj ρ k → σ[k]? = some (some (.ref c)) → c ≠ a ∧ c ≠ b) ∨ ∃ s es c, ρ[k]? = some s ∧ s.isObj = true ∧ ρ2[k]? = some (s.put (.lst es)) ∧ σ[k]? = some (some (.ref c)) ∧ Z' c = none ∧ Ob C.K Z' H' c (.lst es))
    (kp : ∀ c, c ≠ a → c ≠ b → nt H c ≠ none → H' c = nt H c ∧ Z' c = Z c) (ha : C.H0 a = none ∨ C.M a) (hb : C.H0 b = none ∨ C.M b) (ta : H' a ≠ none) (tb : H' b ≠ none) (hh : ∀ c, nt H c ≠ none → nt H' c ≠ none) (tt : LamX.Tabs Tabl.T H') (zt : NT Z') : Rel C ρ2 σ Z' H' := by
  have pob : ∀ {s : SV} {es : List PV}, s.isObj = true → (s.put (.lst es)).isObj = true ∧ (s.put (.lst es)).get = some (.lst es) := fun {s es} o => by
    cases s <;> first | exact ⟨rfl, rfl⟩ | cases o
  have back : ∀ {k : Nat}, isObj ρ2 k → isObj ρ k := fun {k} hk => by
    rcases h k with ⟨e, _⟩ | ⟨s, es, c, e1, e2, _⟩
    · obtain ⟨t, q1, q2⟩ := hk; exact ⟨t, e ▸ q1, q2⟩
    · exact ⟨s, e1, e2⟩
  refine ⟨hlen.trans R.len, le, fun k d q => ?_, fun k t d q t1 t2 => ?_, fun j k c hj hk => R.inj j k c (back hj) (back hk), fun k d q => ?_, fun c h1 h2 => ?_, R.zle.trans zz, fun c hc => hh c (R.here c hc), tt, R.n0, zt⟩
  · rcases h k with ⟨e, _⟩ | ⟨s, es, c, e1, e2, e3, _⟩
    · obtain ⟨v, h1, h2⟩ := R.val k d (e ▸ q)
      exact ⟨v, h1, h2.mono zz⟩
    · rw [e3] at q
      have := (pob (es := es) e2).1
      rw [Option.some.inj q] at this
      cases this
  · rcases h k with ⟨e, hne⟩ | ⟨s, es, c, e1, e2, e3, e4, e5, e6⟩
    · obtain ⟨c, h1, h2, h3, h4⟩ := R.obj k t d (e ▸ q) t1 t2
      obtain ⟨n1, n2⟩ := hne c ⟨t, e ▸ q, t1⟩ h1
      obtain ⟨k1, k2⟩ := kp c n1 n2 h3.ntn
      exact ⟨c, h1, k2.trans h2, h3.mono zz (k1.trans h3.nt), h4⟩
    · rw [e3] at q
      cases q
      rw [(pob e2).2] at t2
      cases t2
      obtain ⟨c', _, g1, _, _, g0⟩ := R.objA ⟨s, e1, e2⟩
      rw [e4] at g1; cases g1
      exact ⟨c, e4, e5, e6, g0⟩
  · rcases h k with ⟨e, _⟩ | ⟨s, es, c, e1, e2, e3, _⟩
    · exact R.bor k d (e ▸ q)
    · rw [e3] at q
      cases s with
      | bor d2 => exact R.bor k d2 e1
      | own d2 => cases q
      | _ => cases e2
  · have n1 : c ≠ a := fun z => by
      subst z
      rcases ha with h0 | h0
      · exact h1 h0
      · exact h2 h0
    have n2 : c ≠ b := fun z => by
      subst z
      rcases hb with h0 | h0
      · exact h1 h0
      · exact h2 h0
    obtain ⟨k1, k2⟩ := R.keep c h1 h2
    obtain ⟨k3, k4⟩ := kp c n1 n2 (R.here c h1)
    exact ⟨(k3.trans (nt_keep R.n0 h1 k1)).trans k1, k4.trans k2⟩
theorem Rel.backDD [Tabl] (R : Rel C ρ σ Z H) {i j : Nat} {ds es ds' es' : List PV} {a b : Addr} (hij : i ≠ j) (e : slotL ρ i = some ds) (e2 : slotL ρ j = some es) (ha : σ[i]? = some (some (.ref a))) (hb : σ[j]? = some (some (.ref b)))
    (R' : Rel (C.call2 Z H a b) [.bor (.lst ds'), .bor (.lst es')] [some (.ref a), some (.ref b)] Z' H') : Rel C (TT.putL (TT.putL ρ i ds') j es') σ Z' H' := by
  obtain ⟨s, a', xs, hs, os, _, ha', hz, hx, hd⟩ := slotL_ok R e
  rw [ha] at ha'; cases ha'
  obtain ⟨t, b', ys, ht, ot, _, hb', hz2, hy, he⟩ := slotL_ok R e2
  rw [hb] at hb'; cases hb'
  have hi : i < ρ.length := (List.getElem?_eq_some_iff.mp hs).1
  have hj : j < ρ.length := (List.getElem?_eq_some_iff.mp ht).1
  have hio : isObj ρ i := ⟨s, hs, os⟩
  have hjo : isObj ρ j := ⟨t, ht, ot⟩
  obtain ⟨_, _, ga, _, _, ha0⟩ := R.objA hio
  rw [ha] at ga; cases ga
  obtain ⟨_, _, gb, _, _, hb0⟩ := R.objA hjo
  rw [hb] at gb; cases gb
  obtain ⟨b0, q0, hz0, ob0, _⟩ := R'.obj 0 (.bor (.lst ds')) (.lst ds') rfl rfl rfl
  cases q0
  obtain ⟨b1, q1, hz1, ob1, _⟩ := R'.obj 1 (.bor (.lst es')) (.lst es') rfl rfl rfl
  cases q1
  have kp : ∀ c, c ≠ a → c ≠ b → nt H c ≠ none → H' c = nt H c ∧ Z' c = Z c := fun c n1 n2 h => R'.keep c h (fun z => by
    rcases (show c = a ∨ c = b from z) with z | z
    · exact n1 z
    · exact n2 z)
  have ep : TT.putL (TT.putL ρ i ds') j es' = (ρ.set i (s.put (.lst ds'))).set j (t.put (.lst es')) := by
    have h1 : TT.putL ρ i ds' = ρ.set i (s.put (.lst ds')) := by unfold TT.putL; rw [hs]
    rw [h1]
    unfold TT.putL
    rw [List.getElem?_set_ne hij, ht]
  rw [ep]
  refine R.upd2 (a := a) (b := b) (by rw [List.length_set, List.length_set]) R'.zle R'.le (fun k => ?_) kp ha0 hb0 ob0.there ob1.there (fun c h => R'.here c h) R'.tab R'.zt
  by_cases k1 : k = j
  · subst k1
    exact .inr ⟨t, es', b, ht, ot, List.getElem?_set_self (by rw [List.length_set]; exact hj), hb, hz1, ob1⟩
  · by_cases k2 : k = i
    · subst k2
      exact .inr ⟨s, ds', a, hs, os, by rw [List.getElem?_set_ne (Ne.symm k1), List.getElem?_set_self hi], ha, hz0, ob0⟩
    · refine .inl ⟨by rw [List.getElem?_set_ne (Ne.symm k1), List.getElem?_set_ne (Ne.symm k2)], fun c ho hc => ⟨fun z => k2 (R.inj k i a ho hio (z ▸ hc) ha), fun z => k1 (R.inj k j b ho hjo (z ▸ hc) hb)⟩⟩
end
def fCallDD (F : Sem1) (i j : Nat) : Rho → Res RV := fun ρ => match slotL ρ i, slotL ρ j with
  | some ds, some es => if i = j then .no else (match F [.bor (.lst ds), .bor (.lst es)] with
    | .ok (.val d) [.bor (.lst ds'), .bor (.lst es')] => .ok (.val d) (putL (putL ρ i ds') j es')
    | _ => .no)
  | _, _ => .no
section
variable {X : Cx} {W : WX} {k : Nat} {fa : Addr} {fd : FuncData} {ps : List Str} {i j m : Nat} {F : Sem1} {x y z : Str} {p pos py pz : Pos}
theorem se_callDD [Tabl] (tk : Takes X W) (G : FnOk X.prog X.w X.K X.mg X.base (L2.CX X.prog X.w) k fa fd ps (spF X.K X.mg 2 F)) (hr : Room k X.A) (hg : Gl X x) (hm0 : X.mg x = some (.ref fa)) (hk : PySem.W.keepIn X.K (.ref fa) = true) (hb : Binds X.K fd ps [])
    (hN : X.N[i]? = some y) (hv : Vis X.env.scope y) (hd : (y == ("__debug__" : Str)) = false) (hcd : (y == ("__classdict__" : Str)) = false)
    (hN2 : X.N[j]? = some z) (hv2 : Vis X.env.scope z) (hd2 : (z == ("__debug__" : Str)) = false) (hcd2 : (z == ("__classdict__" : Str)) = false)
    (hdb : (x == ("__debug__" : Str)) = false := by decide) (he : starEach [.Name y py, .Name z pz] X.env = (false, eval (.Name y py) X.env) :: starEach [.Name z pz] X.env := by rfl) (he2 : starEach [.Name z pz] X.env = (false, eval (.Name z pz) X.env) :: starEach [] X.env := by rfl)
    (hpl : (backTo pos (starEach [.Name z pz] X.env)).any (·.1) = false := by rfl) :
    SE X W (.Call (.Name x p) [.Name y py, .Name z pz] [] pos) (fCallDD F i j) :=
  se_of (pe_callSD (E := WE W) G hr hg hm0 hk hb .nil (fun σ => passAt tk σ) (pa_cons (pe_var hN hv hd hcd) (pa_cons (pe_var hN2 hv2 hd2 hcd2) pa_nil he2) he) hdb he hpl) fun C ρ σ Z H Q hK hm R q => by
    unfold fCallDD at q
    cases e1 : slotL ρ i with
    | none => rw [e1] at q; exact q.elim
    | some ds =>
      cases e2 : slotL ρ j with
      | none => rw [e1, e2] at q; exact q.elim
      | some es =>
        rw [e1, e2] at q
        simp only at q
        by_cases hij : i = j
        · rw [if_pos hij] at q; exact q.elim
        · rw [if_neg hij] at q
          obtain ⟨s, a, xs, hs, os, _, hsa, hz, hx, hdn⟩ := slotL_ok R e1
          obtain ⟨t, b, ys, ht, ot, _, hsb, hz2, hy, hdn2⟩ := slotL_ok R e2
          refine ⟨.ref a, hsa, .ref b, hsb, ?_⟩
          have hne : a ≠ b := fun w => hij (R.inj i j a ⟨s, hs, os⟩ ⟨t, ht, ot⟩ hsa (w ▸ hsb))
          have Rc := R.callDD hne hz hx hdn hz2 hy hdn2
          refine ⟨rfl, C.call2 Z H a b, _, Z, hK, hm, Rc, (fun c h => ?_), ?_⟩
          · rcases (show c = a ∨ c = b from h) with rfl | rfl
            · exact ⟨0, .lst ds, rfl, rfl⟩
            · exact ⟨1, .lst es, rfl, rfl⟩
          · split at q
            · rename_i d ds' es' e3
              rw [e3]
              intro v Z' H' R' l dn
              exact q v Z' H' (R.backDD hij e1 e2 hsa hsb R') l dn
            · exact q.elim
theorem se_callCDD [Tabl] (tk : Takes X W) (c : Cal X.prog X.w X.K X.mg X.base x 2 F k) (hr : Room m X.A) (i j : Nat) (hN : X.N[i]? = some y := by rfl) (hv : Vis X.env.scope y := by first | exact Or.inl rfl | exact Or.inr (Or.inl rfl) | exact Or.inr (Or.inr rfl))
    (hN2 : X.N[j]? = some z := by rfl) (hv2 : Vis X.env.scope z := by first | exact Or.inl rfl | exact Or.inr (Or.inl rfl) | exact Or.inr (Or.inr rfl)) (hg : Gl X x := by rfl) (hk : k ≤ m := by decide)
    (hd : (y == ("__debug__" : Str)) = false := by decide) (hcd : (y == ("__classdict__" : Str)) = false := by decide) (hd2 : (z == ("__debug__" : Str)) = false := by decide) (hcd2 : (z == ("__classdict__" : Str)) = false := by decide) (hdb : (x == ("__debug__" : Str)) = false := by decide)
    (he : starEach [.Name y py, .Name z pz] X.env = (false, eval (.Name y py) X.env) :: starEach [.Name z pz] X.env := by rfl) (he2 : starEach [.Name z pz] X.env = (false, eval (.Name z pz) X.env) :: starEach [] X.env := by rfl)
    (hpl : (backTo pos (starEach [.Name z pz] X.env)).any (·.1) = false := by rfl) :
    SE X W (.Call (.Name x p) [.Name y py, .Name z pz] [] pos) (fCallDD F i j) := by
  obtain ⟨fa, fd, ps, G, h1, h2, h3⟩ := c.ex
  exact se_callDD tk G (hr.mono hk) hg h1 h2 h3 hN hv hd hcd hN2 hv2 hd2 hcd2 hdb he he2 hpl
@[simp] theorem fCallDD_ap {ρ : Rho} : fCallDD F i j ρ = match slotL ρ i, slotL ρ j with
  | some ds, some es => if i = j then .no else (match F [.bor (.lst ds), .bor (.lst es)] with
    | .ok (.val d) [.bor (.lst ds'), .bor (.lst es')] => .ok (.val d) (putL (putL ρ i ds') j es')
    | _ => .no)
  | _, _ => .no := rfl
end
end TT

set_option Elab.async false
set_option linter.all false
set_option maxRecDepth 100000
/-! len(set(xs)), xs a list of ints or of tuples of ints; sorted(xs) of ints -/
namespace RLS
open PySem PySem.Spec PyProof.Rows L2
def cntI (ns : List Int) : Nat := (PyProof.Rows.firstMet (fun i => ns.getD i 0) ns.length).length
def wLS (K : PySem.W.Frag) (ta : TA) : TE := fun σ H Q => ta σ H fun vs H1 => ∃ l, vs = [V.ref l] ∧ ((∃ ns : List Int, SqL K H1 l (ns.map V.int) ∧ ns.length ≤ 1000 ∧ Q (.int (cntI ns : Nat)) H1) ∨
  ∃ ks : List (Addr × List Int), SqL K H1 l (ks.map fun p => V.ref p.1) ∧ (∀ p ∈ ks, SqT K H1 p.1 (p.2.map V.int)) ∧ ks.length < 64 ∧ ∀ L : List (List Int), L.Nodup → (∀ x, x ∈ L ↔ x ∈ ks.map (·.2)) → Q (.int (L.length : Nat)) H1)
theorem pe_lenSet {X : Cx} {e : Expr} {ta : TA} {p p' pos pos' : Pos} (hg : Gl X "set") (hm : X.mg "set" = none) (hgl : Gl X "len") (hml : X.mg "len" = none) (hc : X.calm = true) (hu : X.A.units + 64 < cLine) (ha : PA X [e] ta)
    (hs : starEach [e] X.env = (false, eval e X.env) :: starEach [] X.env := by rfl) (hpl : (backTo pos (starEach [] X.env)).any (·.1) = false := by rfl) :
    PE X (.Call (.Name "len" p') [.Call (.Name "set" p) [e] [] pos] [] pos') (wLS X.K ta) := by
  refine ⟨fun pins s σ H Q I h => ?_⟩
  refine wpAny_Call_Name_kw (ld_blt I hgl hml PySem.boot_len ?_)
  refine PyProof.Rows.callWith_builtin1 (Calls.spliced_cons ?_) rfl rfl
  refine wpAny_Call_Name_kw (ld_blt I hg hm (by rfl) ?_)
  refine PyProof.Rows.callWith_type1 (thn (ha.run pos pins s σ H _ I h) fun us s1 ⟨vs, H1, I1, r1, l, ev, q1⟩ => ?_) hs hpl
  subst ev
  rw [Vals.ref1 r1]
  rcases q1 with ⟨ns, hl, hn, q⟩ | ⟨ks, hl, hk, hf, q⟩
  · obtain ⟨its, rv, pl, hz⟩ := I1.list hl
    have hi := rv.ints
    have hlen : its.length = ns.length := by rw [← Paired.length rv, List.length_map]
    have hsb : its.toArray.size + 1 < scanBound := by rw [List.size_toArray, hlen]; unfold scanBound; omega
    refine call_set_list (prog := X.prog) (w := X.w) (ns := ns) (I.ok.hd hc) pl.isList (by simpa using hi) hsb fun h' tk st hk => Calls.spliced_nil ?_
    obtain ⟨o, es, ep, t, ho, hex, hd, _, _, hsz, hfit, hcnt⟩ := st
    have I2 : Inv X pins σ H1 { s1 with heap := h', toks := tk + 1 + 1 } := I1.kept (t' := tk + 1 + 1) fun b o e => hk b o (Heap.lt_size e) e
    refine PySem.call_len_set (s := { s1 with heap := h', toks := tk }) ho hex hd hfit (by unfold scanBound at hsz; omega) ⟨.int (es.size : Nat), H1, I2, ⟨_, rfl⟩, ?_⟩
    rw [hcnt, List.size_toArray, hlen]
    exact q
  · obtain ⟨its, rv, pl, hz⟩ := I1.list hl
    refine call_set_tups (P := X.prog) (w := X.w) ks (I.ok.hd hc) pl.isList (by simpa using refs_of_vals rv) (fun p hp => I1.isT (hk p hp)) hf (by show X.A.units + 3 < cLine; omega) fun h' tk L es ep t R g k => Calls.spliced_nil ?_
    obtain ⟨o, ho, hex, hd⟩ := R.ob
    have hsz : es.size = L.length := by
      have h := congrArg List.length R.rows
      unfold rowsOf at h
      rw [Array.length_toList, List.length_map] at h
      exact h
    have hfit : t.fits es.size = true := by
      have h1 := R.tab.sz
      rw [List.length_map] at h1
      have h3 := R.room
      unfold SetTable.fits SetTable.fill
      rw [R.tab.dm, Bool.and_eq_true, beq_iff_eq, decide_eq_true_eq]
      show t.place.size = es.size ∧ t.place.size + 0 ≤ t.mask
      omega
    have I2 : Inv X pins σ H1 { s1 with heap := h', toks := tk + 1 + 1 } := I1.kept (t' := tk + 1 + 1) k
    have hfew := R.few
    refine PySem.call_len_set (s := { s1 with heap := h', toks := tk }) ho hex hd hfit (by omega) ⟨.int (es.size : Nat), H1, I2, ⟨_, rfl⟩, ?_⟩
    have := q (L.map (·.2)) R.nd fun x => ⟨fun hx => by
      obtain ⟨p, hp, rfl⟩ := List.mem_map.mp hx
      exact List.mem_map.mpr ⟨p, List.mem_of_mem_take (g.sub p hp), rfl⟩, fun hx => by
      obtain ⟨p, hp, rfl⟩ := List.mem_map.mp hx
      exact g.all p (by rw [List.take_length]; exact hp)⟩
    rw [List.length_map] at this
    rw [hsz]
    exact this
end RLS

set_option Elab.async false
set_option linter.all false
set_option maxRecDepth 100000
/-! len(set(xs)), sorted(xs): on values -/
namespace TT
open PySem PySem.Spec L2
def nubW : List (List Int) → List (List Int)
  | [] => []
  | x :: r => if x ∈ r then nubW r else x :: nubW r
theorem nubW_mem : ∀ (l : List (List Int)) (x : List Int), x ∈ nubW l ↔ x ∈ l
  | [], x => by simp [nubW]
  | y :: r, x => by
    unfold nubW
    split
    · rename_i h
      rw [nubW_mem r x, List.mem_cons]
      constructor
      · exact .inr
      · rintro (rfl | h2)
        · exact h
        · exact h2
    · rw [List.mem_cons, List.mem_cons, nubW_mem r x]
theorem nubW_nodup : ∀ l : List (List Int), (nubW l).Nodup
  | [] => List.nodup_nil
  | y :: r => by
    unfold nubW
    split
    · exact nubW_nodup r
    · rename_i h
      exact List.nodup_cons.mpr ⟨fun hm => h ((nubW_mem r y).mp hm), nubW_nodup r⟩
theorem nodup_le {α : Type} [DecidableEq α] : ∀ {l m : List α}, l.Nodup → (∀ x ∈ l, x ∈ m) → l.length ≤ m.length
  | [], _, _, _ => Nat.zero_le _
  | x :: l, m, h, hs => by
    obtain ⟨h1, h2⟩ := List.nodup_cons.mp h
    have hx := hs x List.mem_cons_self
    have := nodup_le (m := m.erase x) h2 fun y hy => (List.mem_erase_of_ne (fun e => h1 (by rw [← e]; exact hy))).mpr (hs y (List.mem_cons_of_mem _ hy))
    rw [List.length_erase_of_mem hx] at this
    have hp := List.length_pos_of_mem hx
    rw [List.length_cons]
    omega
theorem nub_len {l m : List (List Int)} (h : l.Nodup) (e : ∀ x, x ∈ l ↔ x ∈ m) : l.length = (nubW m).length := by
  have a := nodup_le h fun x hx => (nubW_mem m x).mpr ((e x).mp hx)
  have b := nodup_le (nubW_nodup m) fun x hx => (e x).mpr ((nubW_mem m x).mp hx)
  omega
def asWords : List PV → Option (List (List Int))
  | [] => some []
  | .tup es :: ds => (asInts es).bind fun w => (asWords ds).bind fun r => some (w :: r)
  | _ => none
theorem words_of {K : PySem.W.Frag} {Z : Hp} : ∀ {xs : List V} {ds : List PV} {ws : List (List Int)}, DnAll K Z xs ds → asWords ds = some ws → ∃ ks : List (Addr × List Int), xs = ks.map (fun p => V.ref p.1) ∧ (∀ p ∈ ks, SqT K Z p.1 (p.2.map V.int)) ∧ ks.map (·.2) = ws
  | _, [], ws, h, e => by cases e; exact ⟨[], h.nil_inv, fun p hp => by simp at hp, rfl⟩
  | _, .tup es :: ds, ws, h, e => by
    obtain ⟨v, vs, rfl, h1, h2⟩ := DnAll.cons_inv h
    obtain ⟨a, ys, rfl, hs, t⟩ := h1.tup_inv
    unfold asWords at e
    cases e1 : asInts es with
    | none => rw [e1] at e; cases e
    | some w =>
      cases e2 : asWords ds with
      | none => rw [e1, e2] at e; cases e
      | some r =>
        rw [e1, e2] at e
        cases e
        obtain ⟨ks, rfl, k2, k3⟩ := words_of h2 e2
        rw [asInts_eq e1] at t
        rw [ints_of t] at hs
        refine ⟨(a, w) :: ks, rfl, fun p hp => ?_, by rw [List.map_cons, k3]⟩
        rcases List.mem_cons.mp hp with rfl | hp
        · exact hs
        · exact k2 p hp
def lenSetP (ds : List PV) : Option Int := match asInts ds with
  | some ns => if ns.length ≤ 1000 then some (RLS.cntI ns : Nat) else none
  | none => match asWords ds with
    | some ws => if ws.length < 64 then some ((nubW ws).length : Nat) else none
    | none => none
def fLenSet (f : Rho → Res (List RV)) : Rho → Res RV := fun ρ => (f ρ).bind fun rs ρ1 => match peeks rs ρ1 with
  | some [.lst ds] => (match lenSetP ds with
    | some n => .ok (.val (.int n)) ρ1
    | none => .no)
  | _ => .no
section
variable {X : Cx} {W : WX} {e : Expr} {fl : Rho → Res (List RV)} {p p' pos pos' : Pos} {k : Nat}
theorem se_lenSet [Tabl] (hg : Gl X "set") (hm0 : X.mg "set" = none) (hgl : Gl X "len") (hml : X.mg "len" = none) (hc : X.calm = true) (hr : Room k X.A) (he : SA X W [e] fl)
    (hs : starEach [e] X.env = (false, eval e X.env) :: starEach [] X.env := by rfl) (hpl : (backTo pos (starEach [] X.env)).any (·.1) = false := by rfl) :
    SE X W (.Call (.Name "len" p') [.Call (.Name "set" p) [e] [] pos] [] pos') (fLenSet fl) :=
  pe_imp (RLS.pe_lenSet hg hm0 hgl hml hc hr.units he hs hpl) fun σ H Q ⟨C, ρ, Z, hK, hm, R, q⟩ => by
    show TAr X.K X.mg W fl σ H _
    rw [← hK, ← hm]
    refine ta_bind (P := fun r => Aft C W σ Z r Q) R q (fun _ _ h => h) (fun h => h) fun rs ρ1 vs Z1 H1 R1 l dn q => ?_
    split at q
    · rename_i ds hp
      have pk := dn.pk R1 hp
      match vs, pk with
      | [v], ⟨d1, _⟩ =>
        obtain ⟨a, xs, rfl, h, t⟩ := d1
        have hsq : SqL C.K H1 a xs := .inl (.inl h)
        have fin : ∀ n : Int, (match some n with | some n => (Res.ok (RV.val (.int n)) ρ1 : Res RV) | none => .no) = .ok (.val (.int n)) ρ1 := fun _ => rfl
        refine ⟨a, rfl, ?_⟩
        unfold lenSetP at q
        cases e1 : asInts ds with
        | some ns =>
          rw [e1] at q
          simp only at q
          by_cases hn : ns.length ≤ 1000
          · rw [if_pos hn] at q
            rw [asInts_eq e1] at t
            rw [ints_of t] at hsq
            exact .inl ⟨ns, hsq, hn, q _ Z1 H1 R1 l (.int _)⟩
          · rw [if_neg hn] at q; exact q.elim
        | none =>
          rw [e1] at q
          simp only at q
          cases e2 : asWords ds with
          | none => rw [e2] at q; exact q.elim
          | some ws =>
            rw [e2] at q
            simp only at q
            by_cases hn : ws.length < 64
            · rw [if_pos hn] at q
              obtain ⟨ks, rfl, k2, k3⟩ := words_of t e2
              refine .inr ⟨ks, hsq, fun p hp => R1.le.sqT (k2 p hp), by rw [← k3, List.length_map] at hn; exact hn, fun L hd hL => ?_⟩
              rw [nub_len hd hL, k3]
              exact q _ Z1 H1 R1 l (.int _)
            · rw [if_neg hn] at q; exact q.elim
    · exact q.elim
@[simp] theorem fLenSet_ap {ρ : Rho} : fLenSet fl ρ = (fl ρ).bind fun rs ρ1 => match peeks rs ρ1 with
  | some [.lst ds] => (match lenSetP ds with
    | some n => .ok (.val (.int n)) ρ1
    | none => .no)
  | _ => .no := rfl
end
/-! sorted -/
def insI (x : Int) : List Int → List Int
  | [] => [x]
  | y :: r => if x ≤ y then x :: y :: r else y :: insI x r
def srtI : List Int → List Int
  | [] => []
  | x :: r => insI x (srtI r)
theorem insI_perm (x : Int) : ∀ l : List Int, (insI x l).Perm (x :: l)
  | [] => .refl _
  | y :: r => by
    unfold insI
    split
    · exact .refl _
    · exact ((insI_perm x r).cons y).trans (.swap x y r)
theorem srtI_perm : ∀ l : List Int, (srtI l).Perm l
  | [] => .refl _
  | x :: r => (insI_perm x _).trans ((srtI_perm r).cons x)
theorem insI_srt (x : Int) : ∀ l : List Int, l.Pairwise (· ≤ ·) → (insI x l).Pairwise (· ≤ ·)
  | [], _ => by simp [insI]
  | y :: r, h => by
    obtain ⟨h1, h2⟩ := List.pairwise_cons.mp h
    unfold insI
    split
    · rename_i hx
      refine List.pairwise_cons.mpr ⟨fun z hz => ?_, h⟩
      rcases List.mem_cons.mp hz with rfl | hz
      · exact hx
      · exact Int.le_trans hx (h1 z hz)
    · rename_i hx
      refine List.pairwise_cons.mpr ⟨fun z hz => ?_, insI_srt x r h2⟩
      rcases List.mem_cons.mp ((insI_perm x r).mem_iff.mp hz) with rfl | hz
      · omega
      · exact h1 z hz
theorem srtI_srt : ∀ l : List Int, (srtI l).Pairwise (· ≤ ·)
  | [] => .nil
  | x :: r => insI_srt x _ (srtI_srt r)
theorem srtI_eq {l m : List Int} (h : m.Perm l) (hs : m.Pairwise (· ≤ ·)) : m = srtI l :=
  List.Perm.eq_of_pairwise (le := fun a b : Int => a ≤ b) (fun _ _ _ _ h1 h2 => Int.le_antisymm h1 h2) hs (srtI_srt l) (h.trans (srtI_perm l).symm)
def pSortI (ds : List PV) : Option OV := match ds with
  | [.lst es] => (asInts es).bind fun ns => some (.own (.lst ((srtI ns).map .int)))
  | _ => none
theorem p_sortI {K : PySem.W.Frag} : OpN K (rSortedI K) pSortI := by
  intro Z H xs ds o Q l hx ho hw
  unfold pSortI at ho
  split at ho
  · rename_i es
    obtain ⟨v, rfl, h⟩ := pk1 hx
    obtain ⟨a, ys, rfl, hs, t⟩ := h
    cases e2 : asInts es with
    | none => rw [e2] at ho; cases ho
    | some ns =>
      rw [e2] at ho
      cases ho
      rw [asInts_eq e2] at t
      rw [ints_of t] at hs
      refine ⟨a, ns, rfl, .inl (.inl hs), fun ns' p hp hpw hn => ?_⟩
      rw [srtI_eq hp hpw]
      exact hw _ _ p rfl hn dn_ints
  · cases ho
@[simp] theorem pSortI_lst {es : List PV} : pSortI [.lst es] = (asInts es).bind fun ns => some (.own (.lst ((srtI ns).map .int))) := rfl
end TT

set_option Elab.async false
set_option linter.all false
set_option maxRecDepth 100000
/-! defs that may show a tuple: their promise holds where no display is under way (the guards are known to be none) -/
namespace TT
open PySem PySem.Spec L2
structure RoomG (k : Nat) (A : Around) : Prop where
  r : Room k A
  gd : A.guards = some []
theorem RoomG.mono {j k : Nat} {A : Around} (h : RoomG k A) (l : j ≤ k) : RoomG j A := ⟨h.r.mono l, h.gd⟩
theorem RoomG.deeper {k : Nat} {A : Around} (h : RoomG (k + 1) A) (env : Env) : RoomG k (A.deeper env) := ⟨h.r.deeper env, h.gd⟩
structure FnOkG (P : Program) (w : World) (K : PySem.W.Frag) (mg : Str → Option Value) (base : Heap) (CX : CXT) (k : Nat) (f : Addr) (fd : FuncData) (ps : List Str) (sp : Sp) : Prop where
  len : ∀ vs H Q E, sp vs H Q E → vs.length = ps.length
  run : ∀ (A : Around) (outer : List Env) (s : Shared) (H : Hp) (args : Args) (us : List Value) (vs : List V) (Q : VK) (E : XK), RoomG k A → Env0 P w K mg base A outer s H → BindsTo s fd args (ps.zip us) → Vals vs us → sp vs H Q E →
    codeAny (model P w) A (.call (.ref f) args) (CR CX outer P w H s Q E) s
theorem FnOkG.of {P : Program} {w : World} {K : PySem.W.Frag} {mg : Str → Option Value} {base : Heap} {CX : CXT} {k : Nat} {f : Addr} {fd : FuncData} {ps : List Str} {sp : Sp} (F : FnOk P w K mg base CX k f fd ps sp) : FnOkG P w K mg base CX k f fd ps sp :=
  ⟨F.len, fun A outer s H args us vs Q E hr => F.run A outer s H args us vs Q E hr.r⟩
section
variable {P : Program} {w : World} {K : PySem.W.Frag} {mg : Str → Option Value} {base : Heap} {x qual : Str} {params : Arguments} {bd : List Stmt} {scope : Scope} {f : Addr} {fd : FuncData} {N ps : List Str} {k : Nat}
/-- a def's body, run: what its end leaves is the call's end -/
theorem body_end {CX : CXT} {cdv : Value} {A : Around} {outer : List Env} {s s' : Shared} {H : Hp} {Q : VK} {E : XK} {fl : Flow} (h : SP (cxOf CX P w K mg base N qual scope f cdv A outer s H E) [] { nx := fun _ H' => Q .non H', rt := Q } fl s') :
    CR CX outer P w H s Q E (.ok (match fl with | .ret u => .ret u | _ => .ret .none)) s' := by
  cases fl with
  | ret u => obtain ⟨v, _, H', J, rv, q⟩ := h; exact ⟨v, H', J.os, J.bare, J.base, J.hok, rv, q⟩
  | next => obtain ⟨_, H', J, q⟩ := h; exact ⟨.non, H', J.os, J.bare, J.base, J.hok, rfl, q⟩
  | brk => obtain ⟨_, _, _, q⟩ := h; exact q.elim
  | cont => obtain ⟨_, _, _, q⟩ := h; exact q.elim
/-- the body's reading at the call's beginning -/
theorem body_begins [Tabl] {E : XK} {Q : VK} {vs : List V} {H : Hp} {body : Rho → Res Fl} (h : spF K mg ps.length (runF N.length ps.length body) vs H Q E) : TSF K mg (fun cls d _ H => E cls d H) body { nx := fun _ H' => Q .non H', rt := Q } (start N vs) H := by
  obtain ⟨hl, C, args, Z, hK, hm, R, hM, q⟩ := h
  unfold runF at q
  split at q
  · rename_i hc
    have R0 := R.enter (N := N.length)
    have hal : args.length = vs.length := by have := R.len; simpa using this
    refine ⟨C, _, Z, hK, hm, R0, ?_⟩
    have q' : AftF C Z (vs.map some) (exitF args (body (args ++ List.replicate (N.length - vs.length) .un))) Q E := by rw [hl]; exact q
    cases e : body (args ++ List.replicate (N.length - vs.length) .un) with
    | no => rw [e] at q'; exact q'
    | er x ρ1 =>
      rw [e] at q'
      simp only [exitF] at q'
      cases em : merge args ρ1 with
      | none => rw [em] at q'; exact q'.elim
      | some as =>
        rw [em] at q'
        exact fun σ' cls d Z' H' R' l hx => q' cls d Z' H' (R.exit hc.2 hM R' l em).1 l hx
    | ok fl ρ1 =>
      rw [e] at q'
      simp only [exitF] at q'
      cases fl with
      | bk => exact q'.elim
      | ct => exact q'.elim
      | nx =>
        simp only at q'
        cases em : merge args ρ1 with
        | none => rw [em] at q'; exact q'.elim
        | some as =>
          rw [em] at q'
          exact fun σ' Z' H' R' l => q' .non Z' H' (R.exit hc.2 hM R' l em).1 l .non
      | rt r =>
        cases r with
        | ali i => exact q'.elim
        | val d =>
          simp only at q'
          cases em : merge args ρ1 with
          | none => rw [em] at q'; exact q'.elim
          | some as =>
            rw [em] at q'
            exact fun v σ' Z' H' R' l dn => q' v Z' H' (R.exit hc.2 hM R' l em).1 l dn
        | own d =>
          simp only at q'
          cases em : merge args ρ1 with
          | none => rw [em] at q'; exact q'.elim
          | some as =>
            rw [em] at q'
            exact fun v σ' Z' H' R' l dn => q' v Z' H' (R.exit hc.2 hM R' l em).1 l ((R.exit hc.2 hM R' l em).2 d v dn)
  · exact q.elim


/-- THE RULE for such a def -/
theorem fn_okDG [Tabl] {body : Rho → Res Fl} (F : FunD K x qual params bd scope [] [] f fd) (S : FnScope N ps scope)
    (hbody : ∀ (cdv : Value) (A : Around) (outer : List Env) (s : Shared) (H : Hp) (E : XK), RoomG k (A.deeper (PyProof.Rows.envOfC qual scope s.heap.objs.size f cdv)) → Takes (cxOf (L2.CX P w) P w K mg base N qual scope f cdv A outer s H E) (fun cls d _ H => E cls d H) →
      PassesOwn (model P w) (A.deeper (PyProof.Rows.envOfC qual scope s.heap.objs.size f cdv)) (PyProof.Rows.envOfC qual scope s.heap.objs.size f cdv) (cxOf (L2.CX P w) P w K mg base N qual scope f cdv A outer s H E).xe →
      SSs (cxOf (L2.CX P w) P w K mg base N qual scope f cdv A outer s H E) (fun cls d _ H => E cls d H) bd body) : FnOkG P w K mg base (L2.CX P w) (k + 1) f fd ps (spF K mg ps.length (runF N.length ps.length body)) := by
  refine ⟨fun vs H Q E h => h.1, fun A outer s H args us vs Q E hr e0 hb r hsp => ?_⟩
  obtain ⟨oc, od, dV, kV, doc, pm, an, cdv, ct, osl, rfl, lk, hcd, _, _⟩ := F.ex
  have KX : K.In s.heap := e0.mod.kin.keeps fun b o e => (e0.bs b o e).1
  have lim : s.heap.NoLimit := e0.mod.nolimit.keeps fun b o e => (e0.bs b o e).1
  refine codeAny_call_function hr.r.depth (KX _ _ lk) rfl S.co S.gen rfl (PySem.W.codeRec_of KX hcd) (hb _ _ _ _ ?_)
  refine wpAny_newFunctionEnv_cells S.kind (fun ⟨n, v⟩ hy => (S.par n (List.of_mem_zip hy).1).imp id fun q => ⟨q, PySem.W.cellsFrom_some _ _ _ (.inl q)⟩) fun env he s1 y => ?_
  subst he
  refine ⟨lim.keeps y.toInCall.keep, codeAny_func ?_⟩
  have st := hbody cdv A outer s H E (hr.deeper _) (takes_of rfl rfl rfl rfl) (passes_of rfl)
  have I := inv_start (CX := L2.CX P w) (E := E) S hr.r.hd e0 hsp.1 r y
  refine wpAny_mono (st.run [] s1 (start N vs) H _ I (body_begins hsp)) (fun fl s' hs => ?_) fun e s' hs => hs
  have := body_end hs
  cases fl with
  | ret u => exact this
  | next => exact this
  | brk => obtain ⟨_, _, _, q⟩ := hs; exact q.elim
  | cont => obtain ⟨_, _, _, q⟩ := hs; exact q.elim
end
end TT

set_option Elab.async false
set_option linter.all false
set_option maxRecDepth 100000
namespace TT
open PySem PySem.Spec L2
section
variable {X : Cx} {CX : CXT} {k : Nat} {f : Addr} {fd : FuncData} {ps : List Str} {sp : Sp} {dvs : List V} {ds : List Value} {E : L2.St → XK} {x : Str} {p pos : Pos} {e : Expr} {es : List Expr} {t : TA}
theorem run_fnG {pins : List (Addr × Obj)} {σ : L2.St} {H : Hp} {s : Shared} {Q : VK} {us : List Value} {vs : List V} (F : FnOkG X.prog X.w X.K X.mg X.base CX k f fd ps sp) (hr : RoomG k X.A) (hb : Binds X.K fd ps ds) (hd : Vals dvs ds) (hx : PassesAt CX X σ (E σ))
    (I : Inv X pins σ H s) (r : Vals vs us) (h : sp (vs ++ dvs) H Q (E σ)) : wpAny (model X.prog X.w) X.A (call (.ref f) us) (EP X pins σ Q) X.xe s := by
  have r2 : Vals (vs ++ dvs) (us ++ ds) := r.append hd
  have hl : (us ++ ds).length = ps.length := by rw [← r2.length]; exact F.len _ _ _ _ h
  have run := F.run X.A X.stack s H ⟨us, []⟩ (us ++ ds) (vs ++ dvs) Q (E σ) hr I.env0 (hb s us I.kIn hl) r2 h
  refine wpAny_call (codeAny_mono run fun r s' hq => ?_)
  match r, hq with
  | .error e, hq => exact hx pins H s e s' I hq
  | .ok (.ret u), hq => exact I.after hq
  | .ok .next, hq => exact False.elim hq
  | .ok .brk, hq => exact False.elim hq
  | .ok .cont, hq => exact False.elim hq
theorem pe_callGD (F : FnOkG X.prog X.w X.K X.mg X.base CX k f fd ps sp) (hr : RoomG k X.A) (hg : Gl X x) (hm : X.mg x = some (.ref f)) (hk : PySem.W.keepIn X.K (.ref f) = true) (hb : Binds X.K fd ps ds) (hd : Vals dvs ds) (hx : ∀ σ, PassesAt CX X σ (E σ))
    (ha : PA X (e :: es) t) (hdb : (x == ("__debug__" : Str)) = false := by decide) (he : starEach (e :: es) X.env = (false, eval e X.env) :: starEach es X.env := by rfl) (hpl : (backTo pos (starEach es X.env)).any (·.1) = false := by rfl) :
    PE X (.Call (.Name x p) (e :: es) [] pos) (tCallSD sp dvs E t) :=
  ⟨fun pins s σ H Q I h => wpAny_Call_Name_kw (ld_glob I hg hm (PySem.W.callWith_K (h₀ := X.base) I.ok.mod.kin hk (thn (ha.run pos pins s σ H _ I h) fun us s1 ⟨vs, H1, I1, r, q⟩ => ⟨I1.kIn, run_fnG F hr hb hd (hx σ) I1 r q⟩) he hpl) hdb)⟩
end
section
variable {X : Cx} {W : WX} {k : Nat} {fa : Addr} {fd : FuncData} {ps : List Str} {n : Nat} {F : Sem1} {x : Str} {p pos : Pos} {e : Expr} {es : List Expr} {f : Rho → Res (List RV)}
theorem se_callG [Tabl] (tk : Takes X W) (G : FnOkG X.prog X.w X.K X.mg X.base (L2.CX X.prog X.w) k fa fd ps (spF X.K X.mg n F)) (hr : RoomG k X.A) (hg : Gl X x) (hm0 : X.mg x = some (.ref fa)) (hk : PySem.W.keepIn X.K (.ref fa) = true) (hb : Binds X.K fd ps [])
    (ha : SA X W (e :: es) f) (hdb : (x == ("__debug__" : Str)) = false := by decide) (he : starEach (e :: es) X.env = (false, eval e X.env) :: starEach es X.env := by rfl) (hpl : (backTo pos (starEach es X.env)).any (·.1) = false := by rfl) :
    SE X W (.Call (.Name x p) (e :: es) [] pos) (fCall n F f) :=
  se_of (pe_callGD (E := WE W) G hr hg hm0 hk hb .nil (fun σ => passAt tk σ) ha hdb he hpl) fun C ρ σ Z H Q hK hm R q => by
    show TAr X.K X.mg W f σ H fun vs H1 => spF X.K X.mg n F (vs ++ []) H1 Q (WE W σ)
    rw [← hK, ← hm]
    refine ta_bind (P := fun r => Aft C W σ Z r Q) R q (fun _ _ h => h) (fun h => h) fun rs ρ1 vs Z1 H1 R1 l1 d1 q => ?_
    rw [List.append_nil]
    cases e1 : asVals rs with
    | none => rw [e1] at q; exact q.elim
    | some as =>
      rw [e1] at q
      simp only at q
      by_cases hn : as.length = n
      · rw [if_pos hn] at q
        obtain ⟨hl, hv⟩ := asVals_dn d1 e1
        have Rc := R1.callV hl hv
        refine ⟨hl.symm.trans hn, C.call Z1 H1 none, as, Z1, rfl, rfl, Rc, (fun a h => by cases (show none = some a from h)), ?_⟩
        cases e2 : F as with
        | no => rw [e2] at q; exact q.elim
        | er y as' =>
          rw [e2] at q
          exact fun cls d Z' H' R' l hx => q cls d Z' H' (R1.backV R') (l1.trans l) hx
        | ok r as' =>
          rw [e2] at q
          intro v Z' H' R' l dn
          cases r with
          | ali i => exact q.elim
          | val d => exact q v Z' H' (R1.backV R') (l1.trans l) dn
          | own d =>
            have Rb := R1.backV R'
            obtain ⟨a, rfl, h2, h3, h4⟩ := own_backV R1 (fun a h => by cases h) dn
            refine q _ Z' H' Rb (l1.trans l) ⟨a, rfl, h2, h3, .inl (R1.fresh0 h4), fun i hi ei => ?_⟩
            obtain ⟨b, d', e', _, ob, _⟩ := R1.objA hi
            rw [ei] at e'; cases e'
            exact ob.ntn h4
      · rw [if_neg hn] at q; exact q.elim
end
section
variable {X : Cx} {W : WX} {k : Nat} {fa : Addr} {fd : FuncData} {ps : List Str} {n i : Nat} {F : Sem1} {x y : Str} {p pos py : Pos} {es : List Expr} {f : Rho → Res (List RV)}
theorem se_callDG [Tabl] (tk : Takes X W) (G : FnOkG X.prog X.w X.K X.mg X.base (L2.CX X.prog X.w) k fa fd ps (spF X.K X.mg n F)) (hr : RoomG k X.A) (hg : Gl X x) (hm0 : X.mg x = some (.ref fa)) (hk : PySem.W.keepIn X.K (.ref fa) = true) (hb : Binds X.K fd ps [])
    (hN : X.N[i]? = some y) (hv : Vis X.env.scope y) (hd : (y == ("__debug__" : Str)) = false) (hcd : (y == ("__classdict__" : Str)) = false)
    (ha : SA X W es f) (hdb : (x == ("__debug__" : Str)) = false := by decide) (he : starEach (.Name y py :: es) X.env = (false, eval (.Name y py) X.env) :: starEach es X.env := by rfl) (hpl : (backTo pos (starEach es X.env)).any (·.1) = false := by rfl) :
    SE X W (.Call (.Name x p) (.Name y py :: es) [] pos) (fCallD n F i f) :=
  se_of (pe_callGD (E := WE W) G hr hg hm0 hk hb .nil (fun σ => passAt tk σ) (pa_cons (pe_var hN hv hd hcd) ha he) hdb he hpl) fun C ρ σ Z H Q hK hm R q => by
    unfold fCallD at q
    cases e0 : slotL ρ i with
    | none => rw [e0] at q; exact q.elim
    | some ds0 =>
      rw [e0] at q
      simp only at q
      obtain ⟨s, a, xs0, _, _, _, hsa, _, _, _⟩ := slotL_ok R e0
      refine ⟨.ref a, hsa, ?_⟩
      show TAr X.K X.mg W f σ H fun vs H1 => spF X.K X.mg n F ((.ref a :: vs) ++ []) H1 Q (WE W σ)
      rw [← hK, ← hm]
      refine ta_bind (P := fun r => Aft C W σ Z r Q) R q (fun _ _ h => h) (fun h => h) fun rs ρ1 vs Z1 H1 R1 l1 d1 q => ?_
      rw [List.append_nil]
      cases e1 : asVals rs with
      | none => rw [e1] at q; exact q.elim
      | some as =>
        cases e2 : slotL ρ1 i with
        | none => rw [e1, e2] at q; exact q.elim
        | some ds =>
          rw [e1, e2] at q
          simp only at q
          by_cases hn : as.length + 1 = n
          · rw [if_pos hn] at q
            obtain ⟨hl, hv⟩ := asVals_dn d1 e1
            obtain ⟨s1, a1, xs, _, _, _, hsa1, hz, hx, hdn⟩ := slotL_ok R1 e2
            rw [hsa] at hsa1; cases hsa1
            have Rc := R1.callD hz hx hdn hl hv
            refine ⟨by simp [← hn, hl], C.call Z1 H1 (some a), _, Z1, rfl, rfl, Rc, (fun b h => ⟨0, .lst ds, rfl, h⟩), ?_⟩
            cases e3 : F (.bor (.lst ds) :: as) with
            | no => rw [e3] at q; exact q.elim
            | er z as' =>
              rw [e3] at q
              cases as' with
              | nil => exact q.elim
              | cons t as' =>
                cases t with
                | bor t =>
                  cases t with
                  | lst es => exact fun cls d Z' H' R' l hx => q cls d Z' H' (R1.backD (as := as) e2 hsa R') (l1.trans l) hx
                  | _ => exact q.elim
                | _ => exact q.elim
            | ok r as' =>
              rw [e3] at q
              cases as' with
              | nil => cases r <;> exact q.elim
              | cons t as' =>
                cases t with
                | bor t =>
                  cases t with
                  | lst es =>
                    intro v Z' H' R' l dn
                    have Rb := R1.backD (as := as) e2 hsa R'
                    cases r with
                    | ali j => exact q.elim
                    | val d => exact q v Z' H' Rb (l1.trans l) dn
                    | own d =>
                      obtain ⟨b, rfl, h2, h3, h4⟩ := own_backV R1 (fun b h => ⟨0, ⟨_, rfl, rfl⟩, by cases h; rfl⟩) dn
                      refine q _ Z' H' Rb (l1.trans l) ⟨b, rfl, h2, h3, .inl (R1.fresh0 h4), fun j hj ej => ?_⟩
                      obtain ⟨c, d', e', _, ob, _⟩ := R1.objA (putL_obj e2 hj)
                      rw [ej] at e'; cases e'
                      exact ob.ntn h4
                  | _ => cases r <;> exact q.elim
                | _ => cases r <;> exact q.elim
          · rw [if_neg hn] at q; exact q.elim
end
structure CalG [Tabl] (P : Program) (w : World) (K : PySem.W.Frag) (mg : Str → Option Value) (base : Heap) (x : Str) (n : Nat) (F : Sem1) (k : Nat) : Prop where
  ex : ∃ fa fd ps, FnOkG P w K mg base (L2.CX P w) k fa fd ps (spF K mg n F) ∧ mg x = some (.ref fa) ∧ PySem.W.keepIn K (.ref fa) = true ∧ Binds K fd ps []
section
variable {X : Cx} {W : WX} {k j n i : Nat} {F : Sem1} {x y : Str} {p pos py : Pos} {e : Expr} {es : List Expr} {f : Rho → Res (List RV)}
theorem se_callCG [Tabl] (tk : Takes X W) (c : CalG X.prog X.w X.K X.mg X.base x n F k) (hr : RoomG j X.A) (ha : SA X W (e :: es) f) (hg : Gl X x := by rfl) (hk : k ≤ j := by decide) (hdb : (x == ("__debug__" : Str)) = false := by decide)
    (he : starEach (e :: es) X.env = (false, eval e X.env) :: starEach es X.env := by rfl) (hpl : (backTo pos (starEach es X.env)).any (·.1) = false := by rfl) : SE X W (.Call (.Name x p) (e :: es) [] pos) (fCall n F f) := by
  obtain ⟨fa, fd, ps, G, h1, h2, h3⟩ := c.ex
  exact se_callG tk G (hr.mono hk) hg h1 h2 h3 ha hdb he hpl
theorem se_callCDG [Tabl] (tk : Takes X W) (c : CalG X.prog X.w X.K X.mg X.base x n F k) (hr : RoomG j X.A) (i : Nat) (ha : SA X W es f) (hN : X.N[i]? = some y := by rfl) (hv : Vis X.env.scope y := by first | exact Or.inl rfl | exact Or.inr (Or.inl rfl) | exact Or.inr (Or.inr rfl)) (hg : Gl X x := by rfl) (hk : k ≤ j := by decide)
    (hd : (y == ("__debug__" : Str)) = false := by decide) (hcd : (y == ("__classdict__" : Str)) = false := by decide) (hdb : (x == ("__debug__" : Str)) = false := by decide)
    (he : starEach (.Name y py :: es) X.env = (false, eval (.Name y py) X.env) :: starEach es X.env := by rfl) (hpl : (backTo pos (starEach es X.env)).any (·.1) = false := by rfl) : SE X W (.Call (.Name x p) (.Name y py :: es) [] pos) (fCallD n F i f) := by
  obtain ⟨fa, fd, ps, G, h1, h2, h3⟩ := c.ex
  exact se_callDG tk G (hr.mono hk) hg h1 h2 h3 hN hv hd hcd ha hdb he hpl
end
theorem mk_calG [Tabl] {P : Program} {w : World} {K : PySem.W.Frag} {mg : Str → Option Value} {base h : Heap} {fa : List He.Fa} {fn : List He.DefD} {x : Str} {params : Arguments} {bd : List Stmt} {scope : Scope} {N ps : List Str} {k : Nat} {body : Rho → Res Fl} (X : K.In h) (G : h.Ns mainGlobals mg) (c : He.SaysD fa fn K) (i j : Nat)
    (hd : fn[i]? = some ⟨(x, none), x, x, params, bd, scope, [], []⟩) (hf : fa[j]? = some (.glo x)) (S : FnScope N ps scope)
    (hb : ∀ {f : Addr} {fd : FuncData}, FunD K x x params bd scope [] [] f fd → Binds K fd ps [])
    (hbody : ∀ (f : Addr) (cdv : Value) (A : Around) (outer : List Env) (s : Shared) (H : Hp) (E : XK), RoomG k (A.deeper (PyProof.Rows.envOfC x scope s.heap.objs.size f cdv)) → Takes (cxOf (L2.CX P w) P w K mg base N x scope f cdv A outer s H E) (fun cls d _ H => E cls d H) →
      PassesOwn (model P w) (A.deeper (PyProof.Rows.envOfC x scope s.heap.objs.size f cdv)) (PyProof.Rows.envOfC x scope s.heap.objs.size f cdv) (cxOf (L2.CX P w) P w K mg base N x scope f cdv A outer s H E).xe →
      SSs (cxOf (L2.CX P w) P w K mg base N x scope f cdv A outer s H E) (fun cls d _ H => E cls d H) bd body) : CalG P w K mg base x ps.length (runF N.length ps.length body) (k + 1) := by
  obtain ⟨fd, F⟩ := c.def_ i hd
  exact ⟨_, fd, ps, fn_okDG F S (fun cdv A outer s H E => hbody _ cdv A outer s H E), He.glo_ok X G (c.fact j hf), F.kp, hb F⟩

/-! ### the law's end -/
theorem law_endG [Tabl] (hT : Tabl.T = []) {P : Program} {w : World} {K : PySem.W.Frag} {mg : Str → Option Value} {base : Heap} {k : Nat} {f : Addr} {fd : FuncData} {ps : List Str} {F : Sem1} (G : FnOkG P w K mg base (L2.CX P w) k f fd ps (spF K mg 1 F))
    (hF : ∀ ns : List Int, ns.length ≤ 63 → ∃ as, F [.val (.scr (ns.map .int))] = .ok (.val (.bl true)) as) :
    FnOkG P w K mg base CX0 k f fd ps (fun vs H Q _ => ∃ (a : Addr) (ns : List Int), vs = [.ref a] ∧ SqL K H a (ns.map V.int) ∧ ns.length ≤ 63 ∧ ∀ H', Q (.bl true) H') := by
  have key : ∀ (vs : List V) (H : Hp) (Q : VK), (∃ (a : Addr) (ns : List Int), vs = [.ref a] ∧ SqL K H a (ns.map V.int) ∧ ns.length ≤ 63 ∧ ∀ H', Q (.bl true) H') → spF K mg 1 F vs H Q fun _ _ _ => False := by
    rintro vs H Q ⟨a, ns, rfl, hS, hl, q⟩
    obtain ⟨as, e⟩ := hF ns hl
    refine ⟨rfl, ⟨K, mg, H, H, fun _ => False, fun _ => none⟩, [.val (.scr (ns.map .int))], H, rfl, rfl, ?_, fun a h => h.elim, ?_⟩
    · refine ⟨rfl, Zle.refl _, fun i d h => ?_, fun i s d h o g => ?_, fun i j b hi => ?_, fun i d h => ?_, fun b _ _ => ⟨rfl, rfl⟩, Zle.refl _, fun b h => by rw [nt_id hT]; exact h, fun p hp => absurd hp (by rw [hT]; simp), .inl hT, .inl hT⟩
      · cases i with
        | zero =>
          simp at h
          subst h
          exact ⟨.ref a, rfl, .scr hS dn_ints⟩
        | succ i => simp at h
      · cases i with
        | zero => simp at h; subst h; cases o
        | succ i => simp at h
      · obtain ⟨s, es, os⟩ := hi
        cases i with
        | zero => simp at es; subst es; cases os
        | succ i => simp at es
      · cases i with
        | zero => simp at h
        | succ i => simp at h
    · rw [e]
      intro v Z' H' R l dn
      have dn' : Dn K Z' v (.bl true) := dn
      rw [dn'.bl_inv]
      exact q H'
  refine ⟨fun vs H Q E h => G.len vs H Q (fun _ _ _ => False) (key vs H Q h), fun A outer s H args us vs Q E hr he hb hv hs => ?_⟩
  refine codeAny_mono (G.run A outer s H args us vs Q (fun _ _ _ => False) hr he hb hv (key vs H Q hs)) fun r s' hq => ?_
  cases r with
  | ok fl => cases fl <;> exact hq
  | error e =>
    obtain ⟨_, _, _, _, _, _, _, _, _, _, _, _, z⟩ := hq
    exact z.elim
end TT

set_option Elab.async false
set_option linter.all false
set_option maxRecDepth 100000
/-! the law's call, no display being under way -/
namespace TT
open PySem PySem.Spec PyProof.Rows L2
section
variable {P : Program} {w : World} {K : PySem.W.Frag} {mg mb : Str → Option Value} {fa a : Addr} {s₁ : Shared} {vs : List Value} {ns : List Int}
/-- the script, as it is known at the law's call -/
structure ScrAt (P : Program) (w : World) (K : PySem.W.Frag) (s₁ : Shared) (a : Addr) (o : Obj) (xs : List V) (H : Hp) : Prop where
  only : ∀ b, H b = none ∨ (b = a ∧ K.lookup a = none ∧ H b = some (.frz o (.lst xs)))
  sq : SqL K H a xs
  hok : HOk P w H s₁.heap
theorem scr_at (KX : K.In s₁.heap) (ha : s₁.heap.get? a = some { cls := .type "list", data := .seq vs.toArray }) (hi : IntsAre vs ns) (hl : ns.length ≤ sizeLine) : ∃ H, ScrAt P w K s₁ a { cls := .type "list", data := .seq vs.toArray } (ns.map V.int) H := by
  have rv := vals_ints hi
  have lenV := hi.length
  by_cases hk : K.lookup a = none
  · refine ⟨upd (fun _ => none) a (.frz { cls := .type "list", data := .seq vs.toArray } (.lst (ns.map V.int))), fun b => ?_, .inl (.inr ⟨_, upd_same⟩), fun b u z => ?_⟩
    · by_cases hb : b = a
      · subst hb; exact .inr ⟨rfl, hk, upd_same⟩
      · exact .inl (upd_ne hb)
    · by_cases hb : b = a
      · subst hb
        rw [upd_same] at z
        cases z
        exact ⟨ha, by rw [List.length_map]; exact hl, vs, _, rv, ha⟩
      · rw [upd_ne hb] at z; cases z
  · obtain ⟨o, ho⟩ := Option.ne_none_iff_exists'.mp hk
    have e := KX a o ho
    rw [ha] at e
    cases e
    exact ⟨fun _ => none, fun b => .inl rfl, .inr ⟨_, vs.toArray, _, ho, rfl, rfl, rfl, by rw [List.size_toArray, lenV]; exact hl, by simpa using rv⟩, fun b u z => by cases (show (none : Option HO) = some u from z)⟩
theorem ScrAt.no {o : Obj} {xs : List V} {H : Hp} (S : ScrAt P w K s₁ a o xs H) {b : Addr} (h : b = a → K.lookup a ≠ none) : H b = none := by
  rcases S.only b with q | ⟨e, q, _⟩
  · exact q
  · exact absurd q (h e)
theorem law_callG {CX : CXT} {k : Nat} {fd : FuncData} {x : Str} {sp : Sp} (KX : K.In s₁.heap) (hns : s₁.heap.Ns mainGlobals mg) (hb : s₁.heap.Ns builtinsNs mb) (hbb : ∀ x : Str, x ≠ "__name__" → mb x = bootBuiltins x) (hlim : s₁.heap.NoLimit) (hg : s₁.gens = #[])
    (ha : s₁.heap.get? a = some { cls := .type "list", data := .seq vs.toArray }) (hi : IntsAre vs ns) (hl : ns.length ≤ sizeLine) (hr : RoomG k callerA)
    (F : ∀ base : Heap, K.In base → base.Ns mainGlobals mg → FnOkG P w K mg base CX k fa fd [x] sp) (hbind : ∀ (s : Shared) (u : Value), BindsTo s fd ⟨[u], []⟩ [(x, u)])
    (hsp : ∀ H : Hp, SqL K H a (ns.map V.int) → sp [.ref a] H (fun v _ => v = .bl true) fun _ _ _ => False)
    (hCX : ∀ H e s', CX [] H s₁ (fun _ _ _ => False) e s' → False) :
    codeAny (model P w) callerA (.call (.ref fa) ⟨[.ref a], []⟩) (fun r s' => r = .ok (.ret (.bool true)) ∧ OldK s₁.heap s'.heap ∧ s'.os = s₁.os ∧ AllBare s'.gens) s₁ := by
  obtain ⟨H, S⟩ := scr_at (P := P) (w := w) KX ha hi hl
  have there : ∀ {b : Addr} {o : Obj}, s₁.heap.get? b = some o → H b = none → (hidT s₁.heap H).get? b = some o := fun e n => hidT_get e n
  have kin : K.In (hidT s₁.heap H) := fun b o e => there (KX b o e) (S.no fun z => by rw [← z, e]; exact Option.some_ne_none _)
  have isD : ∀ {b : Addr} {m : Str → Option Value}, s₁.heap.Ns b m → (hidT s₁.heap H).Ns b m := fun {b m} ⟨o, es, ep, e, d, r⟩ => by
    refine ⟨o, es, ep, there e ?_, d, r⟩
    rcases S.only b with q | ⟨z, _, _⟩
    · exact q
    · subst z
      rw [ha] at e
      cases e
      exact absurd (show Data.seq vs.toArray _ = Data.dict es ep from d) (fun z => by cases z)
  have md : Mod K mg (hidT s₁.heap H) := ⟨kin, isD hns, ⟨mb, isD hb, hbb⟩, hlim.imp fun m h => ⟨isD h.1, h.2⟩⟩
  have noF : ∀ b ∈ frs ([] : List Env), H b = none := fun b h => absurd (show b ∈ ([] : List Addr) from h) (by simp)
  have e0 : Env0 P w K mg (hidT s₁.heap H) callerA [] s₁ H := ⟨rfl, md, fun b o e => of_hidT e, Nat.le_of_eq (hidT_size _ _), trivial, noF, S.hok, .of_eq hg⟩
  have run := (F _ kin (isD hns)).run callerA [] s₁ H ⟨[.ref a], []⟩ [.ref a] [.ref a] _ _ hr e0 (hbind s₁ (.ref a)) (.cons rfl .nil) (hsp H S.sq)
  refine codeAny_mono run fun r s' h => ?_
  match r, h with
  | .error e, h => exact (hCX H e s' h).elim
  | .ok .next, h => exact False.elim h
  | .ok .brk, h => exact False.elim h
  | .ok .cont, h => exact False.elim h
  | .ok (.ret u), ⟨v, H', os, bare, un, hok', rv, q⟩ =>
    cases (show v = .bl true from q)
    cases (show u = Value.bool true from rv)
    refine ⟨rfl, OldK.of_keep fun b o e => ?_, os, bare⟩
    rcases S.only b with q | ⟨_, _, q⟩
    · exact un.keep b o e q (fun z => absurd (show b ∈ ([] : List Addr) from z) (by simp)) (by simp)
    · have e1 := (S.hok b _ q).1
      have e2 := (hok' b _ (un.frzs b _ _ q)).1
      rw [e] at e1
      cases e1
      exact e2
end
/-- the goal that the head leaves -/
theorem walk_ofG {l : PySem.W.OpenLaw} {n k : Nat} {q : Program} {loose : List Str} {XP : (Str → Option Value) → Heap → Prop} {YP : World → Heap → Prop} {d : DefRec} {CX : CXT} {x : Str}
    (hn : l.most = some n) (hn2 : n ≤ sizeLine) (hdf : d.params.defaults = []) (hr : RoomG k callerA)
    (F : ∀ (w : World) (mg : Str → Option Value) (fa : Addr) (h : Heap), YP w h → h.Ns mainGlobals mg → mg d.name = some (.ref fa) →
      ∃ (K : PySem.W.Frag) (fd : FuncData) (sp : Sp), K.In h ∧ (∀ (s : Shared) (u : Value), BindsTo s fd ⟨[u], []⟩ [(x, u)]) ∧
        (∀ (H : Hp) (a : Addr) (ns : List Int), ns.length ≤ n → SqL K H a (ns.map V.int) → sp [.ref a] H (fun v _ => v = .bl true) fun _ _ _ => False) ∧
        ∀ base : Heap, K.In base → base.Ns mainGlobals mg → FnOkG l.prog w K mg base CX k fa fd [x] sp)
    (hCX : ∀ (H : Hp) (s : Shared) (e : Value) (s' : Shared), CX [] H s (fun _ _ _ => False) e s' → False) :
    PySem.W.WalkO q loose XP YP l.row.toRowW d [] (fun f vs => PySem.call f vs) := by
  refine Att.attach_call hn hdf fun w s₀ s₁ mg mb fa o pm cd doc a vs ns G Y ho hd hcd hmg hobj hints hlen hg => ?_
  obtain ⟨K, fd, sp, KX, hb, hsp, hF⟩ := F w mg fa _ Y G.T.g hmg
  exact law_callG KX G.T.g G.T.b G.T.builtins G.T.nolimit hg hobj hints (Nat.le_trans hlen hn2) hr hF hb (fun H hS => hsp H a ns hlen hS) fun H e s' => hCX H s₁ e s'
end TT

set_option Elab.async false
set_option linter.all false
set_option maxRecDepth 100000
/-! repr of a tuple of whole numbers -/
namespace TT
open PySem PySem.Spec PyProof.Rows L2
def shownT (ns : List Int) : Str := (PyData.tuple (ns.map PyData.int)).shown
def okShow (ns : List Int) : Bool := decide (ns.length ≤ 100000) && ns.all fun n => decide (n.natAbs < 10 ^ 12)
theorem nat_shown (m : Nat) (h : m < 10 ^ 12) : (toString m).length ≤ 12 := by
  have e : (toString m).length = (Nat.toDigits 10 m).length := by
    show (Nat.repr m).length = _
    unfold Nat.repr
    simp
  rw [e]
  exact toDigits_len_pow (by decide) (by decide) h
theorem int_shown {n : Int} (h : n.natAbs < 10 ^ 12) : (PyData.shown (.int n)).length ≤ 13 := by
  have e : ∀ s : String, (Str.ofString s).length = s.length := fun s => ofString_len s
  show (Str.ofString (toString n)).length ≤ 13
  by_cases q : n < 0
  · rw [len_text_neg q, e]
    obtain ⟨m, hm⟩ : ∃ m : Nat, (0 : Int) - n = m := ⟨n.natAbs, by omega⟩
    have := nat_shown m (by omega)
    rw [hm]
    have e2 : (toString ((m : Nat) : Int)) = toString m := rfl
    rw [e2]
    omega
  · obtain ⟨m, hm⟩ : ∃ m : Nat, n = m := ⟨n.natAbs, by omega⟩
    have := nat_shown m (by omega)
    rw [hm, e]
    have e2 : (toString ((m : Nat) : Int)) = toString m := rfl
    rw [e2]
    omega
theorem okShow_leaves : ∀ {ns : List Int}, (∀ n ∈ ns, n.natAbs < 10 ^ 12) → PyData.leavesShortAll 13 (ns.map PyData.int) = true ∧ PyData.showableAll (ns.map PyData.int) = true ∧ PyData.bulkAll (ns.map PyData.int) = ns.length
  | [], _ => ⟨rfl, rfl, rfl⟩
  | n :: ns, h => by
    obtain ⟨a, b, c⟩ := okShow_leaves (ns := ns) fun m hm => h m (List.mem_cons_of_mem _ hm)
    have h0 := h n List.mem_cons_self
    have hl : n.natAbs.log2 < 1920 := PySem.Flt.log2_lt_of (by decide) (Nat.lt_trans h0 (by decide +kernel))
    refine ⟨?_, ?_, ?_⟩
    · simp only [List.map_cons, PyData.leavesShortAll, PyData.leavesShort, Bool.and_eq_true, decide_eq_true_eq]
      exact ⟨int_shown h0, a⟩
    · simp only [List.map_cons, PyData.showableAll, PyData.showable, Bool.and_eq_true, decide_eq_true_eq]
      exact ⟨hl, b⟩
    · simp only [List.map_cons, PyData.bulkAll, PyData.bulk, List.length_cons]
      omega
theorem reads_ints {h : Heap} : ∀ {ns : List Int} {its : List Value}, Vals (ns.map V.int) its → ReadsAll h its (ns.map PyData.int) []
  | [], _, .nil => .nil
  | n :: ns, _, .cons r t => by
    obtain ⟨tk, rfl⟩ := r
    exact ReadsAll.cons (as := []) (bs := []) (.int n tk) (reads_ints t)
theorem depth_ints : ∀ ns : List Int, PyData.depthAll (ns.map PyData.int) ≤ 1
  | [] => by simp [PyData.depthAll]
  | n :: ns => by
    have := depth_ints ns
    simp only [List.map_cons, PyData.depthAll, PyData.depth]
    omega
theorem noDict_ints : ∀ ns : List Int, (PyData.tuple (ns.map PyData.int)).hasDict = true → False
  | [], h => by simp [PyData.hasDict, PyData.hasDictAll] at h
  | n :: ns, h => by
    refine noDict_ints ns ?_
    simpa [PyData.hasDict, PyData.hasDictAll] using h
def rReprT (K : PySem.W.Frag) : List V → Hp → VK → Prop := fun xs H Q => ∃ (a : Addr) (ns : List Int), xs = [.ref a] ∧ SqT K H a (ns.map V.int) ∧ okShow ns = true ∧ Q (.str (shownT ns)) H
theorem cr_reprT {X : Cx} {k : Nat} (hr : RoomG k X.A) : CallR X (.builtin "repr") (rReprT X.K) := by
  intro pins s σ H xs us Q I r ⟨a, ns, ex, hs, ok, q⟩
  subst ex
  rw [Vals.ref1 r]
  obtain ⟨its, rv, ⟨o, ho, hc, n, hd⟩, hz⟩ := I.tuple hs
  unfold okShow at ok
  rw [Bool.and_eq_true, decide_eq_true_eq, List.all_eq_true] at ok
  obtain ⟨ok1, ok2⟩ := ok
  obtain ⟨l1, l2, l3⟩ := okShow_leaves (ns := ns) fun n hn => of_decide_eq_true (ok2 n hn)
  have rd : Reads s.heap (.ref a) (.tuple (ns.map PyData.int)) [] := .tuple ho hc hd (by simpa using reads_ints rv)
  have hu := hr.r.units
  have hdp := depth_ints ns
  refine repr_of_reads' (h₀ := s.heap) rd (by simpa only [PyData.showable] using l2) (fun h => (noDict_ints ns h).elim) hr.gd (by simp only [PyData.depth]; omega) (fun _ _ e => e) (fun h' u tk hk => ⟨.str (shownT ns), H, I.kept (t' := tk) hk, ⟨_, rfl⟩, q⟩)
    (PyData.shown_fits_bulk (B := 13) (by decide) (by decide) (by simpa only [PyData.leavesShort] using l1) (by simp only [PyData.bulk]; rw [l3]; omega))
def pReprT : List PV → Option OV
  | [.tup ds] => (asInts ds).bind fun ns => guard (okShow ns) (some (.val (.str (shownT ns))))
  | _ => none
theorem p_reprT {K : PySem.W.Frag} : OpN K (rReprT K) pReprT := by
  intro Z H xs ds o Q l hx ho hw
  unfold pReprT at ho
  split at ho
  · rename_i es
    obtain ⟨v, rfl, h⟩ := pk1 hx
    obtain ⟨a, ys, rfl, hs, t⟩ := h.tup
    cases e2 : asInts es with
    | none => rw [e2] at ho; cases ho
    | some ns =>
      rw [e2] at ho
      obtain ⟨hc, ho⟩ := guard_inv ho
      cases ho
      rw [asInts_eq e2] at t
      rw [ints_of t] at hs
      exact ⟨a, ns, rfl, l.sqT hs, hc, hw.1 _ (.str _)⟩
  · cases ho
@[simp] theorem pReprT_tup {ds : List PV} : pReprT [.tup ds] = (asInts ds).bind fun ns => guard (okShow ns) (some (.val (.str (shownT ns)))) := rfl
end TT

set_option Elab.async false
set_option linter.all false
set_option maxRecDepth 100000
/-! xs.pop(e); xs.extend(e) for a caller -/
namespace TT
open PySem PySem.Spec L2
theorem seqIx_of {n k : Nat} (h : k < n) : seqIndex? (k : Int) n = some k := by
  have q : ¬ ((k : Int) < 0) := by omega
  unfold seqIndex?
  simp [q, h]
theorem DnAll.erase {K : PySem.W.Frag} {Z : Hp} : ∀ {vs : List V} {ds : List PV} (k : Nat), DnAll K Z vs ds → DnAll K Z (vs.eraseIdx k) (ds.eraseIdx k)
  | _, _, _, .nil => .nil
  | _, _, 0, .cons _ t => t
  | _, _, k + 1, .cons h t => .cons h (DnAll.erase k t)
/-- xs.pop(e) -/
def fPopAt (i : Nat) (f : Rho → Res RV) : Rho → Res RV := fun ρ => match slotL ρ i with
  | none => .no
  | some _ => (fV f ρ).bind fun r ρ1 => (match r, slotL ρ1 i with
    | .val (.int k), some ds => (match ds[k.toNat]? with
      | some d => if decide (0 ≤ k) && decide (k ≤ 1000000) then .ok (.val d) (putL ρ1 i (ds.eraseIdx k.toNat)) else .no
      | none => .no)
    | _, _ => .no)
section
variable {X : Cx} {W : WX} {e : Expr} {f : Rho → Res RV} {i : Nat} {x : Str} {p apos cpos : Pos}
theorem se_popAt [Tabl] (i : Nat) (he : SE X W e f) (hN : X.N[i]? = some x := by rfl) (hv : Vis X.env.scope x := by first | exact Or.inl rfl | exact Or.inr (Or.inl rfl) | exact Or.inr (Or.inr rfl)) (hd : (x == ("__debug__" : Str)) = false := by decide) (hcd : (x == ("__classdict__" : Str)) = false := by decide)
    (hbase : attributeBase (.Name x p) "pop" X.env (eval (.Name x p) X.env) = eval (.Name x p) X.env := by rfl)
    (hfew : ((backTo cpos (starEach [e] X.env)).all (fun x => !x.1) && (backToKw cpos (keywordEach [] X.env)).all (fun x => x.1.isSome)
      && decide ([e].length + ([] : List Keyword).length + (if ([] : List Keyword).isEmpty then 0 else 1) < 30)) = true := by rfl)
    (hline : (apos.endLine == cpos.line) = true := by rfl) (hs : starEach [e] X.env = (false, eval e X.env) :: starEach [] X.env := by rfl) (hplain : (backTo cpos (starEach [] X.env)).any (·.1) = false := by rfl) :
    SE X W (.Call (.Attribute (.Name x p) "pop" apos) [e] [] cpos) (fPopAt i f) :=
  se_of (pe_bm PySem.F.plainAttrs_list PySem.F.slot_list_pop PySem.F.type_list_pop mt_popAt (pe_var hN hv hd hcd) (pa_cons (se_v he) pa_nil hs) hbase hfew hline hs hplain) fun C ρ σ Z H Q hK hm R q => by
    unfold fPopAt at q
    cases e1 : slotL ρ i with
    | none => rw [e1] at q; exact q.elim
    | some ds =>
      rw [e1] at q
      obtain ⟨s, a, xs, q1, ob, _, h1, h2, h3, h4⟩ := slotL_ok R e1
      refine ⟨.ref a, h1, .inl ⟨rfl, xs, .of h3⟩, ?_⟩
      show TF X.K X.mg W (fV f) σ H _
      rw [← hK, ← hm]
      refine tf_bind (P := fun r => Aft C W σ Z r Q) R q (fun _ _ h => h) (fun h => h) fun r ρ1 v Z1 H1 R1 l dn q => ?_
      split at q
      · rename_i k es e2
        cases e3 : es[k.toNat]? with
        | none => rw [e3] at q; exact q.elim
        | some d =>
          rw [e3] at q
          simp only at q
          by_cases hk' : (decide (0 ≤ k) && decide (k ≤ 1000000)) = true
          · rw [if_pos hk'] at q
            simp only [Bool.and_eq_true, decide_eq_true_eq] at hk'
            obtain ⟨hk, hkm⟩ := hk'
            obtain ⟨a', ys, g1, g2, g3, g4⟩ := R1.putL (es := es.eraseIdx k.toNat) e2
            rw [h1] at g1; cases g1
            have hlt := (List.getElem?_eq_some_iff.mp e3).1
            obtain ⟨w, hw, dw⟩ := g3.get e3
            have hint : v = .int k := Dn.int_inv (K := C.K) (Z := Z1) dn
            subst hint
            have hz : k = ((k.toNat : Nat) : Int) := by omega
            have hlen := g3.length
            refine ⟨a, ys, k, k.toNat, w, rfl, rfl, g2, by omega, ?_, ?_, hw, q w Z1 _ (g4 _ (g3.erase _)) l dw⟩
            · omega
            · rw [hlen, hz]
              exact seqIx_of (by omega)
          · rw [if_neg hk'] at q; exact q.elim
      · exact q.elim
@[simp] theorem fPopAt_ap {ρ : Rho} : fPopAt i f ρ = match slotL ρ i with
  | none => .no
  | some _ => (fV f ρ).bind fun r ρ1 => (match r, slotL ρ1 i with
    | .val (.int k), some ds => (match ds[k.toNat]? with
      | some d => if decide (0 ≤ k) && decide (k ≤ 1000000) then .ok (.val d) (putL ρ1 i (ds.eraseIdx k.toNat)) else .no
      | none => .no)
    | _, _ => .no) := rfl
end
end TT

set_option Elab.async false
set_option linter.all false
set_option maxRecDepth 100000
/-! [e for t in .. if .. for t1 in .. if ..] -/
namespace TT
open PySem PySem.Spec L2
theorem wipe_wipe {σ : Sg} {vs : List Nat} : wipe (wipe σ vs) vs = wipe σ vs := by
  apply List.ext_getElem?
  intro j
  by_cases hj : j ∈ vs
  · rw [wipe_at hj, wipe_at hj, wipe_length]
  · rw [wipe_out hj]
theorem wipe_sub {σ : Sg} {vs vs1 : List Nat} (h : ∀ i ∈ vs1, i ∈ vs) : wipe (wipe σ vs1) vs = wipe σ vs := by
  apply List.ext_getElem?
  intro j
  by_cases hj : j ∈ vs
  · rw [wipe_at hj, wipe_at hj, wipe_length]
  · rw [wipe_out hj, wipe_out hj, wipe_out fun m => hj (h j m)]
section
variable {vs vs1 : List Nat} {fg1 : PV → Rho → Option Rho} {ft1 : Rho → Res Bool} {fe : Rho → Res RV}
/-- the inner loop, whose end is known -/
theorem lc_inner [Tabl] {C : Ct} {ρ ρF : Rho} {σ2 : Sg} {Z H : Hp} {D : Addr} {acc accF items : List PV} {J : It} {N : Hp → Prop} (R : Rel C ρ σ2 Z H) (dn : DnR C ρ σ2 Z H (.ref D) (.own (.lst acc))) (wk : Walks C.K Z J items)
    (e : lcL vs1 fg1 ft1 fe items acc (wipeR ρ vs1) = .ok accF ρF) (fin : ∀ Z' H', Rel C ρF (wipe σ2 vs1) Z' H' → Zle Z Z' → DnR C ρF (wipe σ2 vs1) Z' H' (.ref D) (.own (.lst accF)) → N H') :
    ∃ W1 : Nat → Nat → Hp → Prop, (∃ m, W1 0 m H) ∧ ∀ j k H, W1 j k H →
      (J.stop j H ∧ N H) ∨ (J.go j H ∧ ∃ Nx1 : Hp → Prop, (∀ H', Nx1 H' → ∃ k', k' < k ∧ W1 (j + 1) k' H') ∧ ∀ x H', J.yld j H x H' → (TGc C.K C.mg vs1 fg1) x (wipe σ2 vs1) H' fun σ3 H5 => wipe σ3 vs1 = wipe σ2 vs1 ∧ (TB C.K C.mg W0 ft1) σ3 H5 fun b H6 =>
        if b = true then (TF C.K C.mg W0 (fV fe)) σ3 H6 fun y H7 => ∃ acc, H7 D = some (.lst acc) ∧ acc.length < sizeLine ∧ Nx1 (upd H7 D (.lst (acc ++ [y]))) else Nx1 H6) := by
  refine ⟨fun j k H => k + j = items.length ∧ ∃ ρ Z' acc, Rel C ρ (wipe σ2 vs1) Z' H ∧ Zle Z Z' ∧ DnR C ρ (wipe σ2 vs1) Z' H (.ref D) (.own (.lst acc)) ∧ lcL vs1 fg1 ft1 fe (items.drop j) acc ρ = .ok accF ρF,
    ⟨items.length, by simp, wipeR ρ vs1, Z, acc, R.wipe vs1, Zle.refl _, dn.wipe vs1, e⟩, ?_⟩
  rintro j k H2 ⟨hk, ρ2, Z2, acc2, R2, l2, d2, e2⟩
  obtain ⟨w1, w2⟩ := wk Z2 H2 l2 R2.le
  by_cases hlt : j < items.length
  · obtain ⟨g1, g2⟩ := w2 j items[j] (List.getElem?_eq_getElem hlt)
    rw [List.drop_eq_getElem_cons hlt] at e2
    refine .inr ⟨g1, fun H => ∃ ρ Z' acc, Rel C ρ (wipe σ2 vs1) Z' H ∧ Zle Z Z' ∧ DnR C ρ (wipe σ2 vs1) Z' H (.ref D) (.own (.lst acc)) ∧ lcL vs1 fg1 ft1 fe (items.drop (j + 1)) acc ρ = .ok accF ρF,
      fun H3 ⟨ρ3, Z3, acc3, R3, l3, d3, q3⟩ => ⟨k - 1, by omega, by omega, ρ3, Z3, acc3, R3, l3, d3, q3⟩, fun x H3 hy => ?_⟩
    have R2b := R2.base
    obtain ⟨Z3, R3, l3, dx⟩ := R2b.yv (g2 x H3 hy)
    refine ⟨C.at ρ2 (wipe σ2 vs1) Z2 H2, ρ2, Z3, items[j], rfl, rfl, R3, dx, ?_⟩
    unfold lcL at e2
    cases eg : fg1 items[j] ρ2 with
    | none => rw [eg] at e2; cases e2
    | some ρ3 =>
      rw [eg] at e2
      simp only at e2 ⊢
      intro σ4 R4 w4
      have w4' : wipe σ4 vs1 = wipe σ2 vs1 := by rw [w4, wipe_wipe]
      refine ⟨w4', C.at ρ2 (wipe σ2 vs1) Z2 H2, ρ3, Z3, rfl, rfl, R4, ?_⟩
      cases et : ft1 ρ3 with
      | er y ρ5 => rw [et] at e2; cases e2
      | no => rw [et] at e2; cases e2
      | ok b ρ5 =>
        rw [et] at e2
        intro Z5 H5 R5 l5
        cases b with
        | false =>
          have e3 : lcL vs1 fg1 ft1 fe (items.drop (j + 1)) acc2 (wipeR ρ5 vs1) = .ok accF ρF := e2
          rw [if_neg Bool.false_ne_true]
          have R5' := (R2.unbase R5).wipe vs1
          have d5 := (carryOwn R2 R5 d2).wipe vs1
          rw [w4'] at R5' d5
          exact ⟨_, Z5, acc2, R5', l2.trans (l3.trans l5), d5, e3⟩
        | true =>
          rw [if_pos rfl]
          refine ⟨C.at ρ2 (wipe σ2 vs1) Z2 H2, ρ5, Z5, rfl, rfl, R5, ?_⟩
          have e3 : ((noEr (fV fe ρ5)).bind fun r ρ3 => (match r with
            | .val e => if acc2.length < bigN then lcL vs1 fg1 ft1 fe (items.drop (j + 1)) (acc2 ++ [e]) (wipeR ρ3 vs1) else .no
            | _ => .no)) = .ok accF ρF := e2
          cases ee : fV fe ρ5 with
          | er y ρ6 => rw [ee] at e3; cases e3
          | no => rw [ee] at e3; cases e3
          | ok r ρ6 =>
            rw [ee] at e3
            cases r with
            | own d => cases e3
            | ali j => cases e3
            | val d =>
              intro v Z6 H6 R6 l6 dn6
              have e4 : (if acc2.length < bigN then lcL vs1 fg1 ft1 fe (items.drop (j + 1)) (acc2 ++ [d]) (wipeR ρ6 vs1) else .no) = .ok accF ρF := e3
              by_cases hl : acc2.length < bigN
              · rw [if_pos hl] at e4
                have R6' := R2.unbase R6
                have d6 := carryOwn R2 R6 d2
                obtain ⟨a, ea, hz6, ⟨xs, hx, hxs⟩, h06, hs6⟩ := d6
                cases ea
                have hlen := hxs.length
                have hbig := bigN_line
                refine ⟨xs, hx, by omega, ?_⟩
                have R7 := R6'.updOwn (o := .lst (xs ++ [v])) hz6 h06 hs6 ⟨_, hx, fun _ z => (by cases z), fun _ _ z => (by unfold LamX.CodeO at z; cases z)⟩
                have d7 : DnR C ρ6 σ4 Z6 (upd H6 D (.lst (xs ++ [v]))) (.ref D) (.own (.lst (acc2 ++ [d]))) := ⟨D, rfl, hz6, ⟨_, upd_same, hxs.append (.cons dn6 .nil)⟩, h06, hs6⟩
                have R8 := R7.wipe vs1
                have d8 := d7.wipe vs1
                rw [w4'] at R8 d8
                exact ⟨_, Z6, _, R8, l2.trans (l3.trans (l5.trans l6)), d8, e4⟩
              · rw [if_neg hl] at e4; cases e4
  · have e0 : items.drop j = [] := List.drop_eq_nil_of_le (by omega)
    rw [e0] at e2
    have hj : j = items.length := by omega
    subst hj
    cases (show Res.ok acc2 ρ2 = .ok accF ρF from e2)
    exact .inl ⟨w1, fin Z2 H2 R2 l2 d2⟩
end
def lcO (vs vs1 : List Nat) (fg : PV → Rho → Option Rho) (ft : Rho → Res Bool) (fi1 : Rho → Res (List PV)) (fg1 : PV → Rho → Option Rho) (ft1 : Rho → Res Bool) (fe : Rho → Res RV) : List PV → List PV → Rho → Res (List PV)
  | [], acc, ρ => .ok acc ρ
  | d :: ds, acc, ρ => match fg d ρ with
    | none => .no
    | some ρ1 => (noEr (ft ρ1)).bind fun b ρ2 => if b = true then (noEr (fi1 ρ2)).bind fun items ρ3 => (lcL vs1 fg1 ft1 fe items acc (wipeR ρ3 vs1)).bind fun acc' ρ4 => lcO vs vs1 fg ft fi1 fg1 ft1 fe ds acc' (wipeR ρ4 vs)
      else lcO vs vs1 fg ft fi1 fg1 ft1 fe ds acc (wipeR ρ2 vs)
def fLc2 (vs vs1 : List Nat) (fi : Rho → Res (List PV)) (fg : PV → Rho → Option Rho) (ft : Rho → Res Bool) (fi1 : Rho → Res (List PV)) (fg1 : PV → Rho → Option Rho) (ft1 : Rho → Res Bool) (fe : Rho → Res RV) : Rho → Res RV := fun ρ => (fi ρ).bind fun items ρ1 =>
  if savable ρ1 vs = true then (noEr (lcO vs vs1 fg ft fi1 fg1 ft1 fe items [] (wipeR ρ1 vs))).bind fun ds ρ2 => .ok (.own (.lst ds)) (restoreR ρ2 ρ1 vs) else .no
section
variable {W : WX} {vs vs1 : List Nat} {fi fi1 : Rho → Res (List PV)} {fg fg1 : PV → Rho → Option Rho} {ft ft1 : Rho → Res Bool} {fe : Rho → Res RV}
theorem lc2_ok [Tabl] {C : Ct} {ρ : Rho} {σ : Sg} {Z H : Hp} {Q : VK} (hv : ∀ i ∈ vs1, i ∈ vs) (R : Rel C ρ σ Z H) (q : Aft C W σ Z (fLc2 vs vs1 fi fg ft fi1 fg1 ft1 fe ρ) Q) :
    tLc2 (TIc C.K C.mg W fi) (TGc C.K C.mg vs fg) (TB C.K C.mg W0 ft) (TIc C.K C.mg W0 fi1) (TGc C.K C.mg vs1 fg1) (TB C.K C.mg W0 ft1) (TF C.K C.mg W0 (fV fe)) vs vs1 σ H Q := by
  show TIc C.K C.mg W fi σ H _
  refine ti_bind (P := fun r => Aft C W σ Z r Q) R q (fun _ _ h => h) (fun h => h) fun items ρ1 J Z1 H1 R1 l1 wk q => ?_
  by_cases sv : savable ρ1 vs = true
  · rw [if_pos sv] at q
    cases eO : lcO vs vs1 fg ft fi1 fg1 ft1 fe items [] (wipeR ρ1 vs) with
    | er x ρ2 => rw [eO] at q; exact q.elim
    | no => rw [eO] at q; exact q.elim
    | ok accF ρF =>
      rw [eO] at q
      intro D hD
      obtain ⟨hDz, hD0⟩ := R1.fresh hD
      refine ⟨fun i m H => m + i = items.length ∧ ∃ ρ Z' acc, Rel C ρ (wipe σ vs) Z' H ∧ Zle Z1 Z' ∧ DnR C ρ (wipe σ vs) Z' H (.ref D) (.own (.lst acc)) ∧ lcO vs vs1 fg ft fi1 fg1 ft1 fe (items.drop i) acc ρ = .ok accF ρF,
        ⟨items.length, by simp, wipeR ρ1 vs, Z1, [], (R1.wipe vs).new hD, Zle.refl _, ?_, eO⟩, ?_⟩
      · refine ⟨D, rfl, hDz, ⟨[], upd_same, .nil⟩, .inl hD0, fun i hi e => ?_⟩
        obtain ⟨a, d', e', _, ob, _⟩ := (R1.wipe vs).objA hi
        rw [e] at e'; cases e'
        exact ob.there hD
      · rintro i m H2 ⟨hm2, ρ2, Z2, acc, R2, l2, d2, e2⟩
        obtain ⟨w1, w2⟩ := wk Z2 H2 l2 R2.le
        by_cases hlt : i < items.length
        · obtain ⟨g1, g2⟩ := w2 i items[i] (List.getElem?_eq_getElem hlt)
          rw [List.drop_eq_getElem_cons hlt] at e2
          refine .inr ⟨g1, fun H => ∃ ρ Z' acc, Rel C ρ (wipe σ vs) Z' H ∧ Zle Z1 Z' ∧ DnR C ρ (wipe σ vs) Z' H (.ref D) (.own (.lst acc)) ∧ lcO vs vs1 fg ft fi1 fg1 ft1 fe (items.drop (i + 1)) acc ρ = .ok accF ρF,
            fun H3 ⟨ρ3, Z3, acc3, R3, l3, d3, q3⟩ => ⟨m - 1, by omega, by omega, ρ3, Z3, acc3, R3, l3, d3, q3⟩, fun x H3 hy => ?_⟩
          have R2b := R2.base
          obtain ⟨Z3, R3, l3, dn⟩ := R2b.yv (g2 x H3 hy)
          refine ⟨C.at ρ2 (wipe σ vs) Z2 H2, ρ2, Z3, items[i], rfl, rfl, R3, dn, ?_⟩
          unfold lcO at e2
          cases eg : fg items[i] ρ2 with
          | none => rw [eg] at e2; cases e2
          | some ρ3 =>
            rw [eg] at e2
            simp only at e2 ⊢
            intro σ4 R4 w4
            have w4' : wipe σ4 vs = wipe σ vs := by rw [w4, wipe_wipe]
            refine ⟨w4', C.at ρ2 (wipe σ vs) Z2 H2, ρ3, Z3, rfl, rfl, R4, ?_⟩
            cases et : ft ρ3 with
            | er y ρ5 => rw [et] at e2; cases e2
            | no => rw [et] at e2; cases e2
            | ok b ρ5 =>
              rw [et] at e2
              intro Z5 H5 R5 l5
              cases b with
              | false =>
                have e3 : lcO vs vs1 fg ft fi1 fg1 ft1 fe (items.drop (i + 1)) acc (wipeR ρ5 vs) = .ok accF ρF := e2
                rw [if_neg Bool.false_ne_true]
                have R5' := (R2.unbase R5).wipe vs
                have d5 := (carryOwn R2 R5 d2).wipe vs
                rw [w4'] at R5' d5
                exact ⟨_, Z5, acc, R5', l2.trans (l3.trans l5), d5, e3⟩
              | true =>
                rw [if_pos rfl]
                have e3 : ((noEr (fi1 ρ5)).bind fun items ρ3 => (lcL vs1 fg1 ft1 fe items acc (wipeR ρ3 vs1)).bind fun acc' ρ4 => lcO vs vs1 fg ft fi1 fg1 ft1 fe (List.drop (i + 1) _) acc' (wipeR ρ4 vs)) = .ok accF ρF := e2
                refine ⟨C.at ρ2 (wipe σ vs) Z2 H2, ρ5, Z5, rfl, rfl, R5, ?_⟩
                cases ei : fi1 ρ5 with
                | er y ρ6 => rw [ei] at e3; cases e3
                | no => rw [ei] at e3; cases e3
                | ok its ρ6 =>
                  rw [ei] at e3
                  intro J1 Z6 H6 R6 l6 wk1
                  have e4 : ((lcL vs1 fg1 ft1 fe its acc (wipeR ρ6 vs1)).bind fun acc' ρ4 => lcO vs vs1 fg ft fi1 fg1 ft1 fe (List.drop (i + 1) items) acc' (wipeR ρ4 vs)) = .ok accF ρF := e3
                  cases el : lcL vs1 fg1 ft1 fe its acc (wipeR ρ6 vs1) with
                  | er y ρ7 => rw [el] at e4; cases e4
                  | no => rw [el] at e4; cases e4
                  | ok acc7 ρ7 =>
                    rw [el] at e4
                    have e5 : lcO vs vs1 fg ft fi1 fg1 ft1 fe (items.drop (i + 1)) acc7 (wipeR ρ7 vs) = .ok accF ρF := e4
                    refine lc_inner (R2.unbase R6) (carryOwn R2 R6 d2) wk1 el fun Z8 H8 R8 l8 d8 => ?_
                    have R9 := R8.wipe vs
                    have d9 := d8.wipe vs
                    rw [wipe_sub hv, w4'] at R9 d9
                    exact ⟨_, Z8, acc7, R9, l2.trans (l3.trans (l5.trans (l6.trans l8))), d9, e5⟩
        · have e0 : items.drop i = [] := List.drop_eq_nil_of_le (by omega)
          rw [e0] at e2
          have hi' : i = items.length := by omega
          subst hi'
          cases (show Res.ok acc ρ2 = .ok accF ρF from e2)
          refine .inl ⟨w1, ?_⟩
          have R3 := R1.restore l2 sv R2
          have q' : Aft C W σ Z (.ok (.own (.lst accF)) (restoreR ρF ρ1 vs)) Q := q
          refine q' (.ref D) Z2 H2 R3 (l1.trans l2) ?_
          obtain ⟨a, ea, hz, ob, h0, hs⟩ := d2
          cases ea
          refine ⟨D, rfl, hz, ob, h0, fun j hj e => ?_⟩
          have hl : ρ1.length = ρF.length := by rw [R1.len, R2.len, wipe_length]
          by_cases hjv : j ∈ vs
          · obtain ⟨s, es, os⟩ := hj
            have e' := restore_in hl hjv es
            rw [savable_obj sv hjv e'] at os
            cases os
          · obtain ⟨s, es, os⟩ := hj
            rw [restore_out hjv] at es
            exact hs j ⟨s, es, os⟩ ((wipe_out hjv).trans e)
  · rw [if_neg sv] at q; exact q.elim
end
section
variable {X : Cx} {W : WX} {elt tg iter tg1 iter1 : Expr} {ifs ifs1 : List Expr} {scope : Scope} {own : List (Str × Nat)} {vs1 : List Nat} {pos : Pos} {fi fi1 : Rho → Res (List PV)} {fg fg1 : PV → Rho → Option Rho} {ft ft1 : Rho → Res Bool} {fe : Rho → Res RV}
theorem se_lc2 [Tabl] (vs1 : List Nat) (hc : X.calm = true) (hN : X.N.Nodup) (hi : SI X W tg iter fi) (ok : BlkOk X.N X.env.scope scope own) (hv : ∀ i ∈ vs1, i ∈ own.map (·.2))
    (hg : ∀ (s : Shared) (H : Hp) (C : Addr) (cl : List (Str × Addr)) (fp : List Addr), SG (X.blk s H scope (compEnvC scope cl C X.env) fp) (own.map (·.2)) tg fg) (ht : ∀ (s : Shared) (H : Hp) (C : Addr) (cl : List (Str × Addr)) (fp : List Addr), SPt (X.blk s H scope (compEnvC scope cl C X.env) fp) W0 ifs ft)
    (hi1 : ∀ (s : Shared) (H : Hp) (C : Addr) (cl : List (Str × Addr)) (fp : List Addr), SI (X.blk s H scope (compEnvC scope cl C X.env) fp) W0 tg1 iter1 fi1)
    (hg1 : ∀ (s : Shared) (H : Hp) (C : Addr) (cl : List (Str × Addr)) (fp : List Addr), SG (X.blk s H scope (compEnvC scope cl C X.env) fp) vs1 tg1 fg1) (ht1 : ∀ (s : Shared) (H : Hp) (C : Addr) (cl : List (Str × Addr)) (fp : List Addr), SPt (X.blk s H scope (compEnvC scope cl C X.env) fp) W0 ifs1 ft1)
    (he : ∀ (s : Shared) (H : Hp) (C : Addr) (cl : List (Str × Addr)) (fp : List Addr), SE (X.blk s H scope (compEnvC scope cl C X.env) fp) W0 elt fe) (hs : ∀ x, foldedSetIterable iter X.env x = pure x := by intro _; rfl) (hs1 : ∀ env x, foldedSetIterable iter1 env x = pure x := by intro _ _; rfl) :
    SE X W (.ListComp elt [⟨tg, iter, ifs, 0⟩, ⟨tg1, iter1, ifs1, 0⟩] scope pos) (fLc2 (own.map (·.2)) vs1 fi fg ft fi1 fg1 ft1 fe) :=
  se_of (pe_lc2 hc hN hi ok hv hg ht hi1 hg1 ht1 (fun s H C cl fp => se_v (he s H C cl fp)) hs hs1) fun C ρ σ Z H Q hK hm R q => by
    have := lc2_ok hv R q
    rw [hK, hm] at this
    exact this
theorem ss_setLc2 [Tabl] {i : Nat} {y : Str} {py spos : Pos} (vs1 : List Nat) (hc : X.calm = true) (hN : X.N.Nodup) (hy : X.N[i]? = some y) (hyl : X.env.scope.names.lookup y = some .local)
    (hsw : swapsWith (.ListComp elt [⟨tg, iter, ifs, 0⟩, ⟨tg1, iter1, ifs1, 0⟩] scope pos) (some (.Name y py)) spos.line X.env = pure true) (hi : SI X W tg iter fi) (ok : BlkOk X.N X.env.scope scope own) (hv : ∀ i ∈ vs1, i ∈ own.map (·.2))
    (hg : ∀ (s : Shared) (H : Hp) (C : Addr) (cl : List (Str × Addr)) (fp : List Addr), SG (X.blk s H scope (compEnvC scope cl C X.env) fp) (own.map (·.2)) tg fg) (ht : ∀ (s : Shared) (H : Hp) (C : Addr) (cl : List (Str × Addr)) (fp : List Addr), SPt (X.blk s H scope (compEnvC scope cl C X.env) fp) W0 ifs ft)
    (hi1 : ∀ (s : Shared) (H : Hp) (C : Addr) (cl : List (Str × Addr)) (fp : List Addr), SI (X.blk s H scope (compEnvC scope cl C X.env) fp) W0 tg1 iter1 fi1)
    (hg1 : ∀ (s : Shared) (H : Hp) (C : Addr) (cl : List (Str × Addr)) (fp : List Addr), SG (X.blk s H scope (compEnvC scope cl C X.env) fp) vs1 tg1 fg1) (ht1 : ∀ (s : Shared) (H : Hp) (C : Addr) (cl : List (Str × Addr)) (fp : List Addr), SPt (X.blk s H scope (compEnvC scope cl C X.env) fp) W0 ifs1 ft1)
    (he : ∀ (s : Shared) (H : Hp) (C : Addr) (cl : List (Str × Addr)) (fp : List Addr), SE (X.blk s H scope (compEnvC scope cl C X.env) fp) W0 elt fe) (hs : ∀ x, foldedSetIterable iter X.env x = pure x := by intro _; rfl) (hs1 : ∀ env x, foldedSetIterable iter1 env x = pure x := by intro _ _; rfl) :
    SS X W (.Assign [.Name y py] (.ListComp elt [⟨tg, iter, ifs, 0⟩, ⟨tg1, iter1, ifs1, 0⟩] scope pos) spos) (fSet i (fLc2 (own.map (·.2)) vs1 fi fg ft fi1 fg1 ft1 fe)) :=
  ss_of (ps_setLc2 hc hN hy hyl hsw hi ok hv hg ht hi1 hg1 ht1 (fun s H C cl fp => se_v (he s H C cl fp)) hs hs1) fun C ρ σ Z H D hK hm R q => by
    show tLc2 (TIc X.K X.mg W fi) (TGc X.K X.mg (own.map (·.2)) fg) (TB X.K X.mg W0 ft) (TIc X.K X.mg W0 fi1) (TGc X.K X.mg vs1 fg1) (TB X.K X.mg W0 ft1) (TF X.K X.mg W0 (fV fe)) (own.map (·.2)) vs1 σ H (fun x H1 => D.nx (σ.set i (some x)) H1)
    rw [← hK, ← hm]
    refine lc2_ok (W := W) hv R ?_
    have q' : AftS C W Z ((fLc2 (own.map (·.2)) vs1 fi fg ft fi1 fg1 ft1 fe ρ).bind fun r ρ1 => optF (asgR i r ρ1)) D := q
    cases e : fLc2 (own.map (·.2)) vs1 fi fg ft fi1 fg1 ft1 fe ρ with
    | er x ρ1 => rw [e] at q'; exact q' σ
    | no => rw [e] at q'; exact q'
    | ok r ρ1 =>
      rw [e] at q'
      intro v Z1 H1 R1 l dn
      have q2 : AftS C W Z (optF (asgR i r ρ1)) D := q'
      cases e1 : asgR i r ρ1 with
      | none => rw [e1] at q2; exact q2.elim
      | some ρ2 =>
        rw [e1] at q2
        obtain ⟨Z', R', l'⟩ := R1.asg dn e1
        exact q2 _ Z' H1 R' (l.trans l')
@[simp] theorem fLc2_ap {vs vs1 : List Nat} {ρ : Rho} : fLc2 vs vs1 fi fg ft fi1 fg1 ft1 fe ρ = (fi ρ).bind fun items ρ1 =>
  if savable ρ1 vs = true then (noEr (lcO vs vs1 fg ft fi1 fg1 ft1 fe items [] (wipeR ρ1 vs))).bind fun ds ρ2 => .ok (.own (.lst ds)) (restoreR ρ2 ρ1 vs) else .no := rfl
end
end TT

set_option Elab.async false
set_option linter.all false
set_option maxRecDepth 100000
namespace TT
open PySem PySem.Spec PyProof.Rows L2
theorem cr_reprA {X : Cx} {k : Nat} (hr : RoomG k X.A) : CallR X (.builtin "repr") (fun vs H Q => rRepr vs H Q ∨ rReprT X.K vs H Q) := cr_repr.or (cr_reprT hr)
def pReprA (ds : List PV) : Option OV := match ds with
  | [.tup es] => pReprT [.tup es]
  | _ => pRepr ds
theorem p_reprA {K : PySem.W.Frag} : OpN K (fun vs H Q => rRepr vs H Q ∨ rReprT K vs H Q) pReprA := by
  intro Z H xs ds o Q l hx ho hw
  unfold pReprA at ho
  split at ho
  · exact .inr (p_reprT Z H xs _ o Q l hx ho hw)
  · exact .inl (p_repr Z H xs ds o Q l hx ho hw)
@[simp] theorem pReprA_tup {es : List PV} : pReprA [.tup es] = (asInts es).bind fun ns => guard (okShow ns) (some (.val (.str (shownT ns)))) := rfl
section
variable {X : Cx} {W : WX} {e : Expr} {f : Rho → Res RV} {x : Str} {p apos cpos : Pos}
theorem se_ext [Tabl] (i : Nat) (he : SE X W e f) (hN : X.N[i]? = some x := by rfl) (hv : Vis X.env.scope x := by first | exact Or.inl rfl | exact Or.inr (Or.inl rfl) | exact Or.inr (Or.inr rfl)) (hd : (x == ("__debug__" : Str)) = false := by decide) (hcd : (x == ("__classdict__" : Str)) = false := by decide)
    (hbase : attributeBase (.Name x p) "extend" X.env (eval (.Name x p) X.env) = eval (.Name x p) X.env := by rfl)
    (hfew : ((backTo cpos (starEach [e] X.env)).all (fun x => !x.1) && (backToKw cpos (keywordEach [] X.env)).all (fun x => x.1.isSome)
      && decide ([e].length + ([] : List Keyword).length + (if ([] : List Keyword).isEmpty then 0 else 1) < 30)) = true := by rfl)
    (hline : (apos.endLine == cpos.line) = true := by rfl) (hs : starEach [e] X.env = (false, eval e X.env) :: starEach [] X.env := by rfl) (hplain : (backTo cpos (starEach [] X.env)).any (·.1) = false := by rfl) :
    SE X W (.Call (.Attribute (.Name x p) "extend" apos) [e] [] cpos) (fExtend i f) := se_extend hN hv hd hcd he hbase hfew hline hs hplain
end
end TT

set_option Elab.async false
set_option linter.all false
set_option maxRecDepth 100000
/-! a, b = two new things that both may change -/
namespace TT
open PySem PySem.Spec L2
def fParO (i j : Nat) (f g : Rho → Res RV) : Rho → Res Fl := fun ρ => (f ρ).bind fun r ρ1 => (g ρ1).bind fun s ρ2 => match r, s with
  | .own d, .own e => optF ((asgR i (.own d) ρ2).bind (asgR j (.own e)))
  | _, _ => .no
section
variable {X : Cx} {W : WX} {i j : Nat} {x y : Str} {a b : Expr} {f g : Rho → Res RV} {px py pt pos : Pos} {kt k2 : Nat} {pt2 : Pos}
theorem ss_parO [Tabl] (hc : X.calm = true) (hN : X.N.Nodup) (hi : X.N[i]? = some x) (hj : X.N[j]? = some y) (hij : i ≠ j)
    (hx : X.env.scope.names.lookup x = some .local) (hy : X.env.scope.names.lookup y = some .local) (ha : SE X W a f) (hb : SE X W b g)
    (hw : swappedStores [.Tuple [.Name x px, .Name y py] kt pt] (.Tuple [a, b] k2 pt2) X.env = pure (some [x, y]) := by rfl)
    (hs : swapsWithSole [.Tuple [.Name x px, .Name y py] kt pt] (.Tuple [a, b] k2 pt2) pos.line X.env = pure false := by rfl)
    (h1 : starEach [a, b] X.env = (false, eval a X.env) :: starEach [b] X.env := by rfl) (h2 : starEach [b] X.env = (false, eval b X.env) :: starEach [] X.env := by rfl) :
    SS X W (.Assign [.Tuple [.Name x px, .Name y py] kt pt] (.Tuple [a, b] k2 pt2) pos) (fParO i j f g) :=
  ss_of (ps_par hc hN hi hj hij hx hy (pa_cons ha (pa_cons hb pa_nil h2) h1) hw hs) fun C ρ σ Z H D hK hm R q => by
    show TF X.K X.mg W f σ H fun v H1 => TF X.K X.mg W g σ H1 fun w H2 => ∃ v' w', [v, w] = [v', w'] ∧ D.nx ((σ.set i (some v')).set j (some w')) H2
    rw [← hK, ← hm]
    refine tf_bind (P := fun r => AftS C W Z r D) R q (fun _ _ h => h σ) (fun h => h) fun r ρ1 v Z1 H1 R1 l1 d1 q => ?_
    have R1b := R1.base
    refine tf_bind (C := C.at ρ1 σ Z1 H1) (P := fun r => AftS C W Z r D) R1b q (fun _ _ h => AftX.base R1 (AftX.mono (h σ) l1)) (fun h => h) fun s ρ2 w Z2 H2 R2 l2 d2 q => ?_
    cases r with
    | val d => exact q.elim
    | ali k => cases s <;> exact q.elim
    | own d =>
      cases s with
      | val e => exact q.elim
      | ali k => exact q.elim
      | own e =>
        have c1 := d1.carry R1 R2
        have c2 := d2.unbase R1
        have R2' := R1.unbase R2
        obtain ⟨p, rfl, _, ob1, _, hs1⟩ := d1
        obtain ⟨p', hp', g2, g3, g4, g5⟩ := c1
        cases hp'
        obtain ⟨t, rfl, _, _, h02, _⟩ := d2
        obtain ⟨t', ht', k2, k3, k4, k5⟩ := c2
        cases ht'
        have hne : p ≠ t := fun z => by
          subst z
          rcases h02 with h02 | ⟨k, hk, ek⟩
          · exact ob1.ntn h02
          · exact hs1 k hk ek
        have q' : AftS C W Z (optF ((asgR i (.own d) ρ2).bind (asgR j (.own e)))) D := q
        refine ⟨_, _, rfl, ?_⟩
        cases e1 : asgR i (.own d) ρ2 with
        | none => rw [e1] at q'; exact q'.elim
        | some ρ3 =>
          rw [e1] at q'
          have q2 : AftS C W Z (optF (asgR j (.own e) ρ3)) D := q'
          cases e2 : asgR j (.own e) ρ3 with
          | none => rw [e2] at q2; exact q2.elim
          | some ρ4 =>
            rw [e2] at q2
            unfold asgR at e1 e2
            split at e1
            · cases e1
            · cases e1
              split at e2
              · cases e2
              · cases e2
                have R3 := R2'.asgOwn (i := i) g2 g3 g4 g5
                have s5 : ∀ k, isObj (ρ2.set i (.own d)) k → (σ.set i (some (.ref p)))[k]? ≠ some (some (.ref t)) := fun k hk ek => by
                  by_cases hki : k = i
                  · subst hki
                    rw [List.getElem?_set] at ek
                    simp only [if_true] at ek
                    split at ek
                    · cases ek; exact hne rfl
                    · cases ek
                  · rw [List.getElem?_set_ne (Ne.symm hki)] at ek
                    rcases isObj_set hk with h | h
                    · exact hki h
                    · exact k5 k h ek
                have R4 := R3.asgOwn (i := j) k2 k3 k4 s5
                exact q2 _ Z2 H2 R4 (l1.trans l2)
@[simp] theorem fParO_ap {ρ : Rho} : fParO i j f g ρ = (f ρ).bind fun r ρ1 => (g ρ1).bind fun s ρ2 => match r, s with
  | .own d, .own e => optF ((asgR i (.own d) ρ2).bind (asgR j (.own e)))
  | _, _ => .no := rfl
end
end TT

set_option Elab.async false
set_option linter.all false
set_option maxRecDepth 100000
/-! tuple(range(a, b)) -/
namespace TT
open PySem PySem.Spec PyProof.Rows L2
def fTupR2 (f g : Rho → Res RV) : Rho → Res RV := fun ρ => (f ρ).bind fun r ρ1 => match r with
  | .val (.int i) => (g ρ1).bind fun s ρ2 => (match s with
    | .val (.int j) => if -1000000 ≤ i ∧ i ≤ 1000000 ∧ -1000000 ≤ j ∧ j ≤ 1000000 then .ok (.val (.tup (rngL i (j - i).toNat))) ρ2 else .no
    | _ => .no)
  | _ => .no
section
variable {X : Cx} {W : WX} {a b : Expr} {f g : Rho → Res RV} {pos p p2 pos2 : Pos}
theorem se_tupR2 [Tabl] (hc : X.calm = true) (hg : Gl X "tuple") (hm : X.mg "tuple" = none) (hg2 : Gl X "range") (hm2 : X.mg "range" = none) (he : SE X W a f) (he2 : SE X W b g)
    (na : starEach [a, b] X.env = (false, eval a X.env) :: starEach [b] X.env := by rfl) (na2 : starEach [b] X.env = (false, eval b X.env) :: starEach [] X.env := by rfl) (hp : (backTo pos2 (starEach [b] X.env)).any (·.1) = false := by rfl)
    (nb : starEach [.Call (.Name "range" p2) [a, b] [] pos2] X.env = (false, eval (.Call (.Name "range" p2) [a, b] [] pos2) X.env) :: starEach [] X.env := by rfl) :
    SE X W (.Call (.Name "tuple" p) [.Call (.Name "range" p2) [a, b] [] pos2] [] pos) (fTupR2 f g) :=
  se_of (pe_tupRg hc hg hm (prg_2 hg2 hm2 he he2 na na2 hp) nb) fun C ρ σ Z H Q hK hm0 R q => by
    show TF X.K X.mg W f σ H fun x H1 => TF X.K X.mg W g σ H1 fun y H2 => ∃ i j : Int, x = .int i ∧ y = .int j ∧ (RgOk i j ∧ ∀ q, H2 q = none → Q (.ref q) (upd H2 q (.tup (rgV i j))))
    rw [← hK, ← hm0]
    refine tf_bind (P := fun r => Aft C W σ Z r Q) R q (fun _ _ h => h) (fun h => h) fun r ρ1 v Z1 H1 R1 l dn q => ?_
    cases r with
    | own d => exact q.elim
    | ali i => exact q.elim
    | val d =>
      cases d with
      | int i =>
        simp only at q
        have ev := Dn.int_inv (K := C.K) (Z := Z1) dn
        have R1b := R1.base
        refine tf_bind (C := C.at ρ1 σ Z1 H1) (P := fun r => Aft C W σ Z r Q) R1b q (fun y ρ' hy => AftX.base R1 (AftX.mono hy l)) (fun h => h) fun s ρ2 u Z2 H2 R2' l2 dn2 q => ?_
        have R2 := R1.unbase R2'
        cases s with
        | own d => exact q.elim
        | ali i => exact q.elim
        | val d =>
          cases d with
          | int j =>
            simp only at q
            by_cases hj : -1000000 ≤ i ∧ i ≤ 1000000 ∧ -1000000 ≤ j ∧ j ≤ 1000000
            · rw [if_pos hj] at q
              have e2 := Dn.int_inv (K := C.K) (Z := Z2) dn2
              refine ⟨i, j, ev, e2, ⟨by omega, by omega, by omega, by omega, by omega⟩, fun p hp => ?_⟩
              exact (want_of (o := .val (.tup (rngL i (j - i).toNat))) R2 q (l.trans l2)).2 (rgV i j) _ p rfl hp (dn_rg i _)
            · rw [if_neg hj] at q
              exact q.elim
          | _ => exact q.elim
      | _ => exact q.elim
@[simp] theorem fTupR2_ap {ρ : Rho} : fTupR2 f g ρ = (f ρ).bind fun r ρ1 => match r with
  | .val (.int i) => (g ρ1).bind fun s ρ2 => (match s with
    | .val (.int j) => if -1000000 ≤ i ∧ i ≤ 1000000 ∧ -1000000 ≤ j ∧ j ≤ 1000000 then .ok (.val (.tup (rngL i (j - i).toNat))) ρ2 else .no
    | _ => .no)
  | _ => .no := rfl
end
end TT

set_option Elab.async false
set_option linter.all false
set_option maxRecDepth 100000
/-! a, b, c = a new list, y, z -/
namespace TT
open PySem PySem.Spec L2
def fPar3o (i j l : Nat) (f : Rho → Res (List RV)) : Rho → Res Fl := fun ρ => (f ρ).bind fun rs ρ1 => match rs with
  | [.own u, .val v, .val w] => optF (((asgR i (.own u) ρ1).bind (asgR j (.val v))).bind (asgR l (.val w)))
  | _ => .no
section
variable {X : Cx} {W : WX} {i j l : Nat} {x y z : Str} {a b c : Expr} {f : Rho → Res (List RV)} {px py pz pt pos : Pos} {kt k2 : Nat} {pt2 : Pos}
theorem ss_par3o [Tabl] (hc : X.calm = true) (hN : X.N.Nodup) (hi : X.N[i]? = some x) (hj : X.N[j]? = some y) (hl : X.N[l]? = some z) (hij : i ≠ j) (hil : i ≠ l) (hjl : j ≠ l)
    (hx : X.env.scope.names.lookup x = some .local) (hy : X.env.scope.names.lookup y = some .local) (hz : X.env.scope.names.lookup z = some .local) (ha : SA X W [a, b, c] f)
    (hw : swappedStores [.Tuple [.Name x px, .Name y py, .Name z pz] kt pt] (.Tuple [a, b, c] k2 pt2) X.env = pure (some [x, y, z]) := by rfl)
    (hs : swapsWithSole [.Tuple [.Name x px, .Name y py, .Name z pz] kt pt] (.Tuple [a, b, c] k2 pt2) pos.line X.env = pure false := by rfl) :
    SS X W (.Assign [.Tuple [.Name x px, .Name y py, .Name z pz] kt pt] (.Tuple [a, b, c] k2 pt2) pos) (fPar3o i j l f) :=
  ss_of (ps_par3 hc hN hi hj hl hij hil hjl hx hy hz ha hw hs) fun C ρ σ Z H D hK hm R q => by
    show TAr X.K X.mg W f σ H _
    rw [← hK, ← hm]
    refine ta_bind (P := fun r => AftS C W Z r D) R q (fun _ _ h => h σ) (fun h => h) fun rs ρ1 vs Z1 H1 R1 l1 d1 q => ?_
    split at q
    · rename_i u v w
      match vs, d1 with
      | [vu, vv, vw], ⟨du, dv, dw, _⟩ =>
        refine ⟨vu, vv, vw, rfl, ?_⟩
        cases e1 : asgR i (.own u) ρ1 with
        | none => rw [e1] at q; exact q.elim
        | some ρ2 =>
          rw [e1] at q
          simp only [Option.bind_some] at q
          cases e2 : asgR j (.val v) ρ2 with
          | none => rw [e2] at q; exact q.elim
          | some ρ3 =>
            rw [e2] at q
            simp only [Option.bind_some] at q
            cases e3 : asgR l (.val w) ρ3 with
            | none => rw [e3] at q; exact q.elim
            | some ρ4 =>
              rw [e3] at q
              have R2 : Rel C ρ2 (σ.set i (some vu)) Z1 H1 := by
                unfold asgR at e1
                split at e1
                · cases e1
                · cases e1
                  obtain ⟨a, rfl, h2, h3, h4, h5⟩ := du
                  exact R1.asgOwn h2 h3 h4 h5
              exact q _ Z1 H1 (asgV (asgV R2 e2 dv) e3 dw) l1
    · exact q.elim
@[simp] theorem fPar3o_ap {ρ : Rho} : fPar3o i j l f ρ = (f ρ).bind fun rs ρ1 => match rs with
  | [.own u, .val v, .val w] => optF (((asgR i (.own u) ρ1).bind (asgR j (.val v))).bind (asgR l (.val w)))
  | _ => .no := rfl
end
end TT

set_option Elab.async false
set_option linter.all false
set_option maxRecDepth 100000
/-! sorted(xs), min(xs): xs a list of tuples of ints, none empty for sorted; t < u of tuples -/
namespace STp
open PySem PySem.Spec PyProof.Rows L2
section
variable {prog : Program} {w : World} {A : Around} {E : Value → Shared → Prop} {s : Shared} {Q : Bool → Shared → Prop}
/-- the walk over two rows of ints ends as their order says -/
theorem walk_ints {b fin : Bool} {xs : List Value} {ns : List Int} (hx : IntsAre xs ns) : ∀ {ys : List Value} {ms : List Int} (i : Nat), IntsAre ys ms → fin = decide (ns.length < ms.length) → Q (HT.lexLt ns ms) s →
    PySem.W.KatLex prog w A b fin Q (xs.zip ys) i s := by
  induction hx with
  | nil =>
    intro ys ms i hy hf h
    rw [List.zip_nil_left]
    refine PySem.W.kat_nil ?_
    rw [hf]
    cases hy with
    | nil => exact h
    | cons q u hy => exact h
  | @cons p t xs ns hx ih =>
    intro ys ms i hy hf h
    cases hy with
    | nil =>
      rw [List.zip_nil_right]
      refine PySem.W.kat_nil ?_
      rw [hf]
      exact h
    | @cons q u ys ms hy =>
      show PySem.W.KatLex prog w A b fin Q ((Value.int p t, Value.int q u) :: xs.zip ys) i s
      refine PySem.W.kat_cons (wpAny_eqBool_int ?_)
      rw [HT.lexLt_cons] at h
      by_cases e : p = q
      · rw [if_pos e] at h
        rw [show (p == q) = true from beq_iff_eq.mpr e]
        refine PySem.W.kat_yes (ih (i + 1) hy ?_ h)
        rw [hf]
        simp
      · rw [if_neg e] at h
        rw [show (p == q) = false from beq_eq_false_iff_ne.mpr e]
        exact PySem.W.kat_no (TS.oneLt_ints _ h)
theorem cmpT {b : Bool} {u v : Value} {ns ms : List Int} {Q' : Bool → Shared → Prop} (h1 : TS.TupInts s.heap u ns) (h2 : TS.TupInts s.heap v ms) (h : Q' (HT.lexLt ns ms) s) : wpAny (model prog w) A (keyLt' (tuples' b) u v) Q' E s := by
  obtain ⟨a, xs, e1, ⟨o, ho, hc, n, hdt⟩, i⟩ := h1
  obtain ⟨a', ys, e2, ⟨o', ho', hc', n', hdt'⟩, i'⟩ := h2
  rw [e1, e2]
  refine PySem.W.kat_lt ho hdt ho' hdt' (walk_ints i 0 i' ?_ h)
  have l1 := i.length
  have l2 := i'.length
  rw [Array.length_toList] at l1 l2
  rw [l1, l2]
def Full (h : Heap) (vs : List Value) : Prop := ∀ v, v ∈ vs → ∃ ns, TS.TupInts h v ns ∧ ns ≠ []
theorem heads {h : Heap} : ∀ vs : List Value, Full h vs → ∃ fs, PySem.W.KatTups h vs fs ∧ fs.length = vs.length ∧ ∀ f, f ∈ fs → ∃ n t, f = Value.int n t
  | [], _ => ⟨[], PySem.W.KatTups.nil, rfl, fun f hf => by simp at hf⟩
  | v :: vs, x => by
    obtain ⟨fs, k, hl, hi⟩ := heads vs fun u hu => x u (List.mem_cons_of_mem _ hu)
    obtain ⟨ns, ⟨a, xs, rfl, ⟨o, ho, hc, n, hdt⟩, i⟩, hn⟩ := x v List.mem_cons_self
    cases q : xs.toList with
    | nil =>
      rw [q] at i
      cases i
      exact absurd rfl hn
    | cons y ys =>
      obtain ⟨m, t, hy⟩ := i.all y (by rw [q]; exact List.mem_cons_self)
      refine ⟨y :: fs, PySem.W.KatTups.cons ho hc hdt ?_ k, by simp [hl], fun f hf => ?_⟩
      · have z := congrArg (fun l : List Value => l[0]?) q
        simpa using z
      · rcases List.mem_cons.mp hf with rfl | hf
        · exact ⟨m, t, hy⟩
        · exact hi f hf
theorem full_sortable {a : Addr} {vs : List Value} (h2 : 2 ≤ vs.length) (x : Full s.heap vs) (ha : ∀ o, s.heap.get? a = some o → o.cls ≠ .type "tuple") :
    SrtO.SortableO prog w A s a vs fun v u => HT.lexLt (TS.intsOf s.heap v) (TS.intsOf s.heap u) := by
  intro h' keep
  have kp : ∀ b o, s.heap.get? b = some o → o.cls = .type "tuple" → h'.get? b = some o := fun b o e c => keep b o (fun z => ha o (by rw [← z]; exact e) c) e
  have x' : Full h' vs := fun v hv => let ⟨ns, t, r⟩ := x v hv; ⟨ns, t.keeps kp, r⟩
  obtain ⟨fs, k, hl, hi⟩ := heads vs x'
  refine ⟨_, fun Q E hq => PySem.W.kat_kind (T := Value.type "int") k (by omega) (fun f hf => ?_) rfl hq, fun p q hp hq => ?_⟩
  · obtain ⟨n, t, rfl⟩ := hi f hf
    exact PySem.W.Looks.of_pure rfl
  · obtain ⟨ns, tp, _⟩ := x p.1 hp
    obtain ⟨ms, tq, _⟩ := x q.1 hq
    refine cmpT (s := { s with heap := h' }) (tp.keeps kp) (tq.keeps kp) ⟨rfl, ?_⟩
    show HT.lexLt ns ms = HT.lexLt (TS.intsOf s.heap p.1) (TS.intsOf s.heap q.1)
    rw [tp.ints, tq.ints]
end
def refsOf (ks : List (Addr × List Int)) : List V := ks.map fun p => V.ref p.1
theorem vals_refs : ∀ ks : List (Addr × List Int), Vals (refsOf ks) (ks.map fun p => Value.ref p.1)
  | [] => .nil
  | _ :: ks => .cons rfl (vals_refs ks)
theorem refs_vals : ∀ {ks : List (Addr × List Int)} {us : List Value}, Vals (refsOf ks) us → us = ks.map fun p => Value.ref p.1
  | [], us, r => by
    cases r
    rfl
  | k :: ks, us, r => by
    cases r with
    | cons h q =>
      cases h
      rw [List.map_cons, ← refs_vals q]
theorem tupInts {X : Cx} {pins : List (Addr × Obj)} {σ : L2.St} {H : Hp} {s : Shared} {p : Addr × List Int} (I : Inv X pins σ H s) (h : SqT X.K H p.1 (p.2.map V.int)) : TS.TupInts s.heap (.ref p.1) p.2 := by
  obtain ⟨its, r, ht, _⟩ := I.tuple h
  exact ⟨p.1, its.toArray, rfl, ht, by simpa using intsAre_of r⟩
def rSortedWs (K : PySem.W.Frag) : List V → Hp → VK → Prop := fun vs H Q => ∃ (a : Addr) (ks : List (Addr × List Int)), vs = [V.ref a] ∧ SqL K H a (refsOf ks) ∧ (∀ p ∈ ks, SqT K H p.1 (p.2.map V.int)) ∧ (∀ p ∈ ks, p.2 ≠ []) ∧
  ∀ ks' : List (Addr × List Int), ks'.Perm ks → ks'.Pairwise (fun x y => HT.lexLt y.2 x.2 = false) → ∀ p, H p = none → Q (.ref p) (upd H p (.lst (refsOf ks')))
def rMinT (K : PySem.W.Frag) : List V → Hp → VK → Prop := fun vs H Q => ∃ (a : Addr) (ks : List (Addr × List Int)), vs = [V.ref a] ∧ SqL K H a (refsOf ks) ∧ (∀ p ∈ ks, SqT K H p.1 (p.2.map V.int)) ∧ ks ≠ [] ∧
  ∀ p ∈ ks, (∀ q ∈ ks, HT.lexLt q.2 p.2 = false) → Q (.ref p.1) H
section
variable {X : Cx}
theorem cr_sortedWs : CallR X (.builtin "sorted") (rSortedWs X.K) := by
  intro pins s σ H vs us Q I r h
  obtain ⟨a, ks, rfl, hs, hk, hn, q⟩ := h
  obtain ⟨its, rv, hl, hz⟩ := I.list hs
  rw [Vals.ref1 r]
  have ei := refs_vals rv
  have hT : ∀ p ∈ ks, TS.TupInts s.heap (.ref p.1) p.2 := fun p hp => tupInts I (hk p hp)
  have hF : Full s.heap its := fun v hv => by
    rw [ei] at hv
    obtain ⟨p, hp, rfl⟩ := List.mem_map.mp hv
    exact ⟨_, hT p hp, hn p hp⟩
  refine SrtO.sorted_ord (NtL.swo_lexL (TS.intsOf s.heap)) hl.isList (by rw [← rv.length]; exact hz) (fun h2 h₁ a' h3 h4 => ?_) fun out h1 h2 => ?_
  · have kp : ∀ b o, s.heap.get? b = some o → o.cls = .type "tuple" → h₁.get? b = some o := fun b o e _ => (h4 b o e).2
    have hF' : Full h₁ its := fun v hv => let ⟨ns, t, r⟩ := hF v hv; ⟨ns, t.keeps kp, r⟩
    have := full_sortable (prog := X.prog) (w := X.w) (A := X.A.in1.in1) (s := { s with heap := h₁ }) (a := a') h2 hF' (fun o e c => by
      have e' : some o = some _ := e.symm.trans h3
      cases e'
      exact absurd (Value.type.inj c) (by decide))
    intro h' keep
    obtain ⟨κ, g1, g2⟩ := this h' keep
    refine ⟨κ, g1, fun p q hp hq => ?_⟩
    have z := g2 p q hp hq
    obtain ⟨ns, tp, _⟩ := hF p.1 hp
    obtain ⟨ms, tq, _⟩ := hF q.1 hq
    refine wpAny_mono z (fun r s' e => ⟨e.1, e.2.trans ?_⟩) fun _ _ x => x
    show HT.lexLt (TS.intsOf h₁ p.1) (TS.intsOf h₁ q.1) = HT.lexLt (TS.intsOf s.heap p.1) (TS.intsOf s.heap q.1)
    rw [tp.ints, tq.ints, (tp.keeps kp).ints, (tq.keeps kp).ints]
  · obtain ⟨ep, he'⟩ := PyProof.Rows.sortedAll_at s.heap its out.toArray
    obtain ⟨ks', p1, p2⟩ := perm_lift (fun p : Addr × List Int => Value.ref p.1) h2.perm ks ei.symm
    have hlen : (refsOf ks').length ≤ sizeLine := by
      have : (refsOf ks').length = (refsOf ks).length := by
        show (ks'.map _).length = (ks.map _).length
        rw [List.length_map, List.length_map, p1.length_eq]
      rw [this]
      exact hz
    have hv : Vals (refsOf ks') out := by
      rw [← p2]
      exact vals_refs ks'
    have hpw : ks'.Pairwise (fun x y => HT.lexLt y.2 x.2 = false) := by
      have h1' : (ks'.map fun p => Value.ref p.1).Pairwise (fun x y => HT.lexLt (TS.intsOf s.heap y) (TS.intsOf s.heap x) = false) := by
        rw [p2]
        exact h1
      rw [List.pairwise_map] at h1'
      refine List.Pairwise.imp_of_mem (fun {x y} hx hy z => ?_) h1'
      rw [(hT x (p1.mem_iff.mp hx)).ints, (hT y (p1.mem_iff.mp hy)).ints] at z
      exact z
    exact ⟨.ref _, upd H (s.heap.objs.size + 1) (.lst (refsOf ks')), I.laid (t' := s.toks) (fun _ _ => PyProof.Rows.sortedAll_old) (Nat.le_succ _) ⟨hlen, out, ep, hv, he'⟩, rfl, q ks' p1 hpw _ (I.hok.fresh (Nat.le_succ _))⟩
end
end STp

set_option Elab.async false
set_option linter.all false
set_option maxRecDepth 100000
/-! min(xs), xs a list of tuples of ints -/
namespace STp
open PySem PySem.Spec PyProof.Rows L2
/-- the places of a list hold tuples of these ints -/
def Rows (h : Heap) (its : Array Value) (k : Nat → List Int) : Prop := ∀ (i : Nat) (v : Value), its[i]? = some v → TS.TupInts h v (k i)
abbrev ltK (k : Nat → List Int) : Nat → Nat → Bool := fun i j => HT.lexLt (k i) (k j)
section
variable {prog : Program} {w : World} {A : Around} {I l S : Addr} {its : Array Value} {k : Nat → List Int}
theorem Rows.on {h h' : Heap} {i c : Nat} {vs : Array Value} (r : Rows h its k) (hI : h.IsListIter I l i) (hS : h.get? S = some { cls := .type "list", dict := none, data := .seq vs c, slots := #[] })
    (kp : ∀ b o, b ≠ I → b ≠ S → h.get? b = some o → h'.get? b = some o) : Rows h' its k := fun j v hv => (r j v hv).keeps fun b o e ec => by
  refine kp b o (fun z => ?_) (fun z => ?_) e
  · obtain ⟨q, hq, hc, _⟩ := hI
    rw [← z, e] at hq
    cases hq
    rw [ec] at hc
    exact absurd (Value.type.inj hc) (by decide)
  · rw [← z, e] at hS
    cases hS
    exact absurd (Value.type.inj ec) (by decide)
theorem less {i j : Nat} {vi vj : Value} {s : Shared} {Q : Value → Shared → Prop} {E : Value → Shared → Prop} (hu : A.units < cLine) (r : Rows s.heap its k) (hi : its[i]? = some vi) (hj : its[j]? = some vj) (h : Q (.bool (ltK k i j)) s) :
    wpAny (model prog w) A (richCompare .Lt vi vj) Q E s := by
  obtain ⟨a, xs, e1, t1, i1⟩ := r i vi hi
  obtain ⟨b, ys, e2, t2, i2⟩ := r j vj hj
  rw [e1, e2]
  exact (HT.lt_tupInts t1 t2 i1 i2 hu h : wpAny (model prog w) A (compareOp .Lt (.ref a) (.ref b)) Q E s)
theorem loop_from {R : Result → Shared → Prop} (hh : A.in1.handled = none) (hu : A.in1.units < cLine) (hl : l ≠ I) (hI : S ≠ I) (hS2 : S ≠ l) :
    ∀ (m j : Nat) (s : Shared) (vb : Value) (c : Nat), its.size - (j + 1) = m → j + 1 ≤ its.size → s.heap.IsListIter I l (j + 1) → s.heap.IsList l its → Rows s.heap its k → its[argBest (ltK k) j]? = some vb →
    s.heap.get? S = some { cls := .type "list", dict := none, data := .seq #[vb, vb] c, slots := #[] } →
    (∀ v h' tk, its[argBest (ltK k) (its.size - 1)]? = some v → (∀ b o, b ≠ I → b ≠ S → s.heap.get? b = some o → h'.get? b = some o) → R (.ok (.ret v)) { s with heap := h', toks := tk }) →
    codeAny (model prog w) A (.builtin "min.loop" ⟨[.ref I, .none, .ref S], []⟩) R s := by
  have W : Walks prog w A.in1 I [I, l] [I] its.size _ _ := Walks.list hh I l hl its
  have nI : ∀ b : Addr, b ≠ I → b ∉ [I] := fun b h z => h (by simpa using z)
  have hname : (toString "min" ++ toString ".loop" : String) = "min.loop" := by decide
  intro m
  induction m with
  | zero =>
    intro j s vb c hm hj hit hli hr hb hS hR
    have hin : j + 1 = its.size := by omega
    refine codeAny_builtin F.entry_min_loop ?_
    rw [Around.under_plainId F.plain_min_loop _]
    show wpAny _ A.in1 (seqItems? (.ref S) >>= _) _ _ s
    refine wpAny_bind (wpAny_seqItems hS rfl ?_)
    show wpAny _ A.in1 (tryCatch (pyNext (.ref I)) _ >>= _) _ _ s
    refine wpAny_bind (wpAny_tryCatch (W.done s _ _ ⟨hin ▸ hit, hli⟩ fun h' tk hk => ?_))
    have hS' := hk S _ (nI S hI) hS
    show wpAny _ A.in1 (updateSeq S (fun _ => #[]) >>= _) _ _ _
    refine wpAny_bind (wpAny_updateSeq hS' rfl (wpAny_bind (wpAny_letGo (wpAny_pure ?_))))
    have e : its.size - 1 = j := by omega
    exact hR vb _ tk (by rw [e]; exact hb) fun b o h1 h2 q => (Heap.get?_update_other _ _ (Ne.symm h2)).trans (hk b o (nI b h1) q)
  | succ m ih =>
    intro j s vb c hm hj hit hli hr hb hS hR
    have hlt : j + 1 < its.size := by omega
    refine codeAny_builtin F.entry_min_loop ?_
    rw [Around.under_plainId F.plain_min_loop _]
    show wpAny _ A.in1 (seqItems? (.ref S) >>= _) _ _ s
    refine wpAny_bind (wpAny_seqItems hS rfl ?_)
    show wpAny _ A.in1 (tryCatch (pyNext (.ref I)) _ >>= _) _ _ s
    refine wpAny_bind (wpAny_tryCatch (W.item (j + 1) s _ _ hlt ⟨hit, hli⟩ fun v h' tk hP st hk => ?_))
    have hS' := hk S _ (nI S hI) hS
    have hr' : Rows h' its k := hr.on hit hS fun b o h1 _ q => hk b o (nI b h1) q
    show wpAny _ A.in1 (tryCatch (holding [v, v] (richCompare .Lt v vb >>= _)) _ >>= _) _ _ _
    refine wpAny_bind (wpAny_tryCatch (wpAny_holding (wpAny_bind (less hu hr' hP hb ?_))))
    refine wpAny_bind (wpAny_holding (wpAny_truthy_bool ?_))
    refine wpAny_bind (wpAny_letGo (wpAny_pure ?_))
    cases hb2 : ltK k (j + 1) (argBest (ltK k) j) with
    | true =>
      simp only [if_true]
      refine wpAny_bind (wpAny_updateSeq hS' rfl (wpAny_bind (wpAny_letGo ?_)))
      rw [hname]
      have kp : ∀ b o, b ≠ S → h'.get? b = some o → (h'.update S (Obj.mapSeq fun _ => #[v, v])).get? b = some o := fun b o h2 q => (Heap.get?_update_other _ _ (Ne.symm h2)).trans q
      obtain ⟨oi, hoi, ri⟩ := st.1
      obtain ⟨ol, hol, rl⟩ := st.2
      refine wpAny_pure ⟨plainId_quiet F.plain_min_loop _, ih (j + 1) _ v _ (by omega) hlt ⟨oi, kp _ _ (Ne.symm hI) hoi, ri⟩ ⟨ol, kp _ _ (Ne.symm hS2) hol, rl⟩ (hr'.on st.1 hS' fun b o _ h2 q => kp b o h2 q) (by simp only [argBest, hb2, if_true]; exact hP) (Heap.get?_update_self _ hS' rfl)
        fun v' h'' tk'' hP' hk'' => hR v' h'' tk'' hP' fun b o h1 h2 q => hk'' b o h1 h2 (kp b o h2 (hk b o (nI b h1) q))⟩
    | false =>
      simp only [Bool.false_eq_true, if_false]
      refine wpAny_bind (wpAny_letGo ?_)
      rw [hname]
      exact wpAny_pure ⟨plainId_quiet F.plain_min_loop _, ih (j + 1) _ vb c (by omega) hlt st.1 st.2 hr' (by simp only [argBest, hb2, Bool.false_eq_true, if_false]; exact hb) hS'
        fun v' h'' tk'' hP' hk'' => hR v' h'' tk'' hP' fun b o h1 h2 q => hk'' b o h1 h2 (hk b o (nI b h1) q)⟩
theorem min_rows {E : Value → Shared → Prop} {s : Shared} {Q : Value → Shared → Prop} (hh : A.in1.handled = none) (hu : A.in1.units < cLine) (hl : s.heap.IsList l its) (hn : 0 < its.size) (hr : Rows s.heap its k)
    (h : ∀ v h' tk, its[argBest (ltK k) (its.size - 1)]? = some v → (∀ b o, s.heap.get? b = some o → h'.get? b = some o) → Q v { s with heap := h', toks := tk }) :
    wpAny (model prog w) A (call (.builtin "min") [.ref l]) Q E s := by
  have hname : (toString "min" ++ toString ".loop" : String) = "min.loop" := by decide
  have hlt : l < s.heap.objs.size := by obtain ⟨_, e, _⟩ := hl; exact Heap.lt_size e
  have hne : l ≠ s.heap.objs.size := Nat.ne_of_lt hlt
  refine call_function_tree F.kind_min F.plain_min F.entry_min (F.args_min1 _) ?_
  show wpAny _ A.in1 (Builtin.Builtins.bindParams "min" ["key", "default"] 0 ⟨[], []⟩ >>= _) _ _ s
  refine wpAny_bind (wpAny_of_eq (show Builtin.Builtins.bindParams "min" ["key", "default"] 0 ⟨[], []⟩ = pure [none, none] from rfl) ?_)
  refine wpAny_bind (wpAny_pure ?_)
  refine wpAny_bind (wpAny_pyIter_list hl ?_)
  refine wpAny_bind (wpAny_newObj_type ?_)
  rw [hname]
  have k0 : ∀ b o, s.heap.get? b = some o → ((s.heap.push { cls := .type "list_iterator", data := .fields #[.ref l, .int 0 0] }).push { cls := .type "list", dict := none, data := .seq #[] 0, slots := #[] }).get? b = some o := fun b o e => Heap.get?_push_of_some _ (Heap.get?_push_of_some _ e)
  have z1 : (s.heap.push { cls := .type "list_iterator", data := .fields #[.ref l, .int 0 0] }).objs.size = s.heap.objs.size + 1 := Heap.size_push ..
  have hI : (s.heap.push { cls := .type "list_iterator", data := .fields #[.ref l, .int 0 0] }).objs.size ≠ s.heap.objs.size := fun e => by rw [z1] at e; exact absurd e (Nat.succ_ne_self _)
  have hSl : (s.heap.push { cls := .type "list_iterator", data := .fields #[.ref l, .int 0 0] }).objs.size ≠ l := fun e => by rw [z1] at e; rw [← e] at hlt; exact absurd (Nat.lt_of_succ_lt hlt) (Nat.lt_irrefl _)
  have W : Walks prog w A.in1 s.heap.objs.size [s.heap.objs.size, l] [s.heap.objs.size] its.size _ _ := Walks.list hh s.heap.objs.size l hne its
  obtain ⟨ol, hol, rl⟩ := id hl
  refine wpAny_pure ⟨plainId_quiet F.plain_min_loop _, ?_⟩
  refine codeAny_builtin F.entry_min_loop ?_
  rw [Around.under_plainId F.plain_min_loop _]
  show wpAny _ A.in1 (seqItems? (.ref _) >>= _) _ _ _
  refine wpAny_bind (wpAny_seqItems (Heap.get?_push_size _ rfl) rfl ?_)
  show wpAny _ A.in1 (tryCatch (pyNext (.ref s.heap.objs.size)) _ >>= _) _ _ _
  have hit : ((s.heap.push { cls := .type "list_iterator", data := .fields #[.ref l, .int 0 0] }).push { cls := .type "list", dict := none, data := .seq #[] 0, slots := #[] }).IsListIter s.heap.objs.size l 0 := ⟨_, Heap.get?_push_of_some _ (Heap.get?_push_size _ rfl), rfl, rfl⟩
  have nI : ∀ b : Addr, b ≠ s.heap.objs.size → b ∉ [s.heap.objs.size] := fun b h z => h (by simpa using z)
  have hr0 : Rows ((s.heap.push { cls := .type "list_iterator", data := .fields #[.ref l, .int 0 0] }).push { cls := .type "list", dict := none, data := .seq #[] 0, slots := #[] }) its k := fun j v hv => (hr j v hv).keeps fun b o e _ => k0 b o e
  refine wpAny_bind (wpAny_tryCatch (W.item 0 _ _ _ hn ⟨hit, ol, k0 _ _ hol, rl⟩ fun v h' tk hP st hk => ?_))
  have hS' := hk _ _ (nI _ hI) (Heap.get?_push_size _ rfl)
  have hr' : Rows h' its k := hr0.on hit (Heap.get?_push_size _ rfl) fun b o h1 _ q => hk b o (nI b h1) q
  show wpAny _ A.in1 (updateSeq _ (fun _ => #[v, v]) >>= _) _ _ _
  refine wpAny_bind (wpAny_updateSeq hS' rfl ?_)
  rw [hname]
  have kp : ∀ b o, b ≠ (s.heap.push { cls := .type "list_iterator", data := .fields #[.ref l, .int 0 0] }).objs.size → h'.get? b = some o → (h'.update (s.heap.push { cls := .type "list_iterator", data := .fields #[.ref l, .int 0 0] }).objs.size (Obj.mapSeq fun _ => #[v, v])).get? b = some o := fun b o h2 q => (Heap.get?_update_other _ _ (Ne.symm h2)).trans q
  obtain ⟨oi, hoi, ri⟩ := st.1
  obtain ⟨ol', hol', rl'⟩ := st.2
  refine wpAny_pure ⟨plainId_quiet F.plain_min_loop _, loop_from hh hu hne hI hSl _ 0 _ v _ rfl hn ⟨oi, kp _ _ (Ne.symm hI) hoi, ri⟩ ⟨ol', kp _ _ (Ne.symm hSl) hol', rl'⟩ (hr'.on st.1 hS' fun b o _ h2 q => kp b o h2 q) hP (Heap.get?_update_self _ hS' rfl) fun v' h'' tk'' hP' hk'' => ?_⟩
  refine h v' h'' tk'' hP' fun b o e => ?_
  have hb := Heap.lt_size e
  have b1 : b ≠ s.heap.objs.size := Nat.ne_of_lt hb
  have b2 : b ≠ (s.heap.push { cls := .type "list_iterator", data := .fields #[.ref l, .int 0 0] }).objs.size := Nat.ne_of_lt (by rw [z1]; exact Nat.lt_succ_of_lt hb)
  exact hk'' b o b1 b2 (kp b o b2 (hk b o (nI b b1) (k0 b o e)))
end
theorem best_least {k : Nat → List Int} : ∀ n : Nat, argBest (ltK k) n ≤ n ∧ ∀ i, i ≤ n → HT.lexLt (k i) (k (argBest (ltK k) n)) = false
  | 0 => ⟨Nat.le_refl _, fun i h => by
    have : i = 0 := by omega
    subst this
    exact (NtL.swo_lexL k).refl 0⟩
  | n + 1 => by
    obtain ⟨h1, h2⟩ := best_least (k := k) n
    have O := NtL.swo_lexL k
    show (if ltK k (n + 1) (argBest (ltK k) n) then n + 1 else argBest (ltK k) n) ≤ n + 1 ∧ ∀ i, i ≤ n + 1 → HT.lexLt (k i) (k (if ltK k (n + 1) (argBest (ltK k) n) then n + 1 else argBest (ltK k) n)) = false
    cases hb : ltK k (n + 1) (argBest (ltK k) n) with
    | true =>
      rw [if_pos rfl]
      refine ⟨Nat.le_refl _, fun i hi => ?_⟩
      by_cases e : i = n + 1
      · subst e; exact O.refl _
      · exact O.tr _ _ _ (O.asym _ _ hb) (h2 i (by omega))
    | false =>
      rw [if_neg (by simp)]
      refine ⟨by omega, fun i hi => ?_⟩
      by_cases e : i = n + 1
      · subst e; exact hb
      · exact h2 i (by omega)
section
variable {X : Cx}
theorem cr_minT (hc : X.calm = true) (hu : X.A.units + 64 < cLine) : CallR X (.builtin "min") (rMinT X.K) := by
  intro pins s σ H vs us Q I r h
  obtain ⟨a, ks, rfl, hs, hk, hn, q⟩ := h
  obtain ⟨its, rv, hl, hz⟩ := I.list hs
  rw [Vals.ref1 r]
  have ei := refs_vals rv
  have hlen : its.length = ks.length := by rw [ei, List.length_map]
  have hp : 0 < ks.length := List.length_pos_iff.mpr hn
  have hr : Rows s.heap its.toArray fun i => ((ks[i]?).map (·.2)).getD [] := fun i v hv => by
    have hv' : its[i]? = some v := by simpa using hv
    rw [ei, List.getElem?_map] at hv'
    cases e : ks[i]? with
    | none => rw [e] at hv'; cases hv'
    | some p =>
      rw [e] at hv'
      cases hv'
      show TS.TupInts s.heap (Value.ref p.1) (((ks[i]?).map (·.2)).getD [])
      rw [e]
      exact tupInts I (hk p (List.mem_of_getElem? e))
  refine min_rows (I.ok.hd hc) (by show X.A.units + _ < cLine; omega) hl.isList (by simp; omega) hr fun v h' tk hv hk' => ?_
  obtain ⟨b1, b2⟩ := best_least (k := fun i => ((ks[i]?).map (·.2)).getD []) (its.toArray.size - 1)
  generalize hB : argBest (ltK fun i => ((ks[i]?).map (·.2)).getD []) (its.toArray.size - 1) = B at hv b1 b2
  have hv' : its[B]? = some v := by simpa using hv
  rw [ei, List.getElem?_map] at hv'
  cases e : ks[B]? with
  | none => rw [e] at hv'; cases hv'
  | some p =>
    rw [e] at hv'
    cases hv'
    refine ⟨.ref p.1, H, I.kept hk', rfl, q p (List.mem_of_getElem? e) fun z hz' => ?_⟩
    obtain ⟨i, hi⟩ := List.mem_iff_getElem?.mp hz'
    have hi2 : i < ks.length := (List.getElem?_eq_some_iff.mp hi).1
    have := b2 i (by simp; omega)
    rw [hi, e] at this
    exact this
end
end STp

set_option Elab.async false
set_option linter.all false
set_option maxRecDepth 100000
/-! sorted, min, < of tuples of ints: on values -/
namespace TT
open PySem PySem.Spec L2 STp
abbrev ltW : List Int → List Int → Bool := HT.lexLt
theorem ltW_asym (a b : List Int) (h : ltW a b = true) : ltW b a = false := NtL.lex_asym a b h
theorem ltW_tr (a b c : List Int) (h1 : ltW b a = false) (h2 : ltW c b = false) : ltW c a = false := NtL.lex_tr a b c h1 h2
theorem ltW_anti : ∀ {a b : List Int}, ltW a b = false → ltW b a = false → a = b
  | [], [], _, _ => rfl
  | [], _ :: _, h, _ => by cases h
  | _ :: _, [], _, h => by cases h
  | x :: a, y :: b, h1, h2 => by
    have h1' : (if x = y then HT.lexLt a b else decide (x < y)) = false := h1
    have h2' : (if y = x then HT.lexLt b a else decide (y < x)) = false := h2
    by_cases e : x = y
    · subst e
      rw [if_pos rfl] at h1' h2'
      rw [ltW_anti h1' h2']
    · rw [if_neg e] at h1'
      rw [if_neg (fun z => e z.symm)] at h2'
      have g1 := of_decide_eq_false h1'
      have g2 := of_decide_eq_false h2'
      omega
def insW (x : List Int) : List (List Int) → List (List Int)
  | [] => [x]
  | y :: r => if ltW y x then y :: insW x r else x :: y :: r
def srtW : List (List Int) → List (List Int)
  | [] => []
  | x :: r => insW x (srtW r)
def leastW : List (List Int) → List Int
  | [] => []
  | [x] => x
  | x :: y :: r => if ltW (leastW (y :: r)) x then leastW (y :: r) else x
theorem insW_perm (x : List Int) : ∀ l : List (List Int), (insW x l).Perm (x :: l)
  | [] => .refl _
  | y :: r => by
    unfold insW
    split
    · exact ((insW_perm x r).cons y).trans (.swap x y r)
    · exact .refl _
theorem srtW_perm : ∀ l : List (List Int), (srtW l).Perm l
  | [] => .refl _
  | x :: r => (insW_perm x _).trans ((srtW_perm r).cons x)
theorem insW_srt (x : List Int) : ∀ l : List (List Int), l.Pairwise (fun a b => ltW b a = false) → (insW x l).Pairwise (fun a b => ltW b a = false)
  | [], _ => by simp [insW]
  | y :: r, h => by
    obtain ⟨h1, h2⟩ := List.pairwise_cons.mp h
    unfold insW
    split
    · rename_i hx
      refine List.pairwise_cons.mpr ⟨fun z hz => ?_, insW_srt x r h2⟩
      rcases List.mem_cons.mp ((insW_perm x r).mem_iff.mp hz) with rfl | hz
      · exact ltW_asym _ _ hx
      · exact h1 z hz
    · rename_i hx
      have hx' : ltW y x = false := by simpa using hx
      refine List.pairwise_cons.mpr ⟨fun z hz => ?_, h⟩
      rcases List.mem_cons.mp hz with rfl | hz
      · exact hx'
      · exact ltW_tr _ _ _ hx' (h1 z hz)
theorem srtW_srt : ∀ l : List (List Int), (srtW l).Pairwise (fun a b => ltW b a = false)
  | [] => .nil
  | x :: r => insW_srt x _ (srtW_srt r)
theorem srtW_eq {l m : List (List Int)} (h : m.Perm l) (hs : m.Pairwise (fun a b => ltW b a = false)) : m = srtW l :=
  List.Perm.eq_of_pairwise (le := fun a b : List Int => ltW b a = false) (fun _ _ _ _ h1 h2 => ltW_anti h2 h1) hs (srtW_srt l) (h.trans (srtW_perm l).symm)
theorem leastW_ok : ∀ {l : List (List Int)}, l ≠ [] → leastW l ∈ l ∧ ∀ x ∈ l, ltW x (leastW l) = false
  | [], h => absurd rfl h
  | [x], _ => ⟨by simp [leastW], fun y hy => by
    have : y = x := by simpa using hy
    subst this
    exact (NtL.swo_lexL (fun w : List Int => w)).refl y⟩
  | x :: y :: r, _ => by
    obtain ⟨h1, h2⟩ := leastW_ok (l := y :: r) (by simp)
    show (if ltW (leastW (y :: r)) x then leastW (y :: r) else x) ∈ x :: y :: r ∧ ∀ z ∈ x :: y :: r, ltW z (if ltW (leastW (y :: r)) x then leastW (y :: r) else x) = false
    cases hb : ltW (leastW (y :: r)) x with
    | true =>
      rw [if_pos rfl]
      refine ⟨List.mem_cons_of_mem _ h1, fun z hz => ?_⟩
      rcases List.mem_cons.mp hz with rfl | hz
      · exact ltW_asym _ _ hb
      · exact h2 z hz
    | false =>
      rw [if_neg (by simp)]
      refine ⟨List.mem_cons_self, fun z hz => ?_⟩
      rcases List.mem_cons.mp hz with rfl | hz
      · exact (NtL.swo_lexL (fun w : List Int => w)).refl z
      · exact ltW_tr _ _ _ hb (h2 z hz)
theorem leastW_eq {l : List (List Int)} {m : List Int} (hm : m ∈ l) (h : ∀ x ∈ l, ltW x m = false) : m = leastW l := by
  obtain ⟨h1, h2⟩ := leastW_ok (l := l) (fun e => by rw [e] at hm; cases hm)
  exact ltW_anti (h2 m hm) (h _ h1)
abbrev wP (w : List Int) : PV := .tup (w.map .int)
theorem asWords_map : ∀ ws : List (List Int), asWords (ws.map wP) = some ws
  | [] => rfl
  | w :: ws => by
    show (asInts (w.map .int)).bind (fun w => (asWords (ws.map wP)).bind fun r => some (w :: r)) = _
    rw [asInts_map w, asWords_map ws]
    rfl
theorem dn_words {K : PySem.W.Frag} {Z : Hp} : ∀ {ks : List (Addr × List Int)}, (∀ p ∈ ks, SqT K Z p.1 (p.2.map V.int)) → DnAll K Z (refsOf ks) ((ks.map (·.2)).map wP)
  | [], _ => .nil
  | k :: ks, h => .cons (.tup (h k List.mem_cons_self) dn_ints) (dn_words fun p hp => h p (List.mem_cons_of_mem _ hp))
def pSortT (ds : List PV) : Option OV := match ds with
  | [.lst es] => (asWords es).bind fun ws => if ws.all (fun w => !w.isEmpty) then some (.own (.lst ((srtW ws).map wP))) else none
  | _ => none
theorem p_sortT {K : PySem.W.Frag} : OpN K (rSortedWs K) pSortT := by
  intro Z H xs ds o Q l hx ho hw
  unfold pSortT at ho
  split at ho
  · rename_i es
    obtain ⟨v, rfl, h⟩ := pk1 hx
    obtain ⟨a, ys, rfl, hs, t⟩ := h
    cases e2 : asWords es with
    | none => rw [e2] at ho; cases ho
    | some ws =>
      rw [e2] at ho
      simp only [Option.bind_some] at ho
      by_cases hn : ws.all (fun w => !w.isEmpty) = true
      · rw [if_pos hn] at ho
        cases ho
        obtain ⟨ks, rfl, k2, rfl⟩ := words_of t e2
        refine ⟨a, ks, rfl, .inl (.inl hs), fun p hp => l.sqT (k2 p hp), fun p hp e => ?_, fun ks' hp hpw p hn' => ?_⟩
        · have := List.all_eq_true.mp hn p.2 (List.mem_map.mpr ⟨p, hp, rfl⟩)
          rw [e] at this
          cases this
        · have e : ks'.map (·.2) = srtW (ks.map (·.2)) := srtW_eq (hp.map _) (List.pairwise_map.mpr hpw)
          rw [← e] at hw
          exact hw _ _ p rfl hn' (dn_words fun p h => k2 p (hp.mem_iff.mp h))
      · rw [if_neg hn] at ho; cases ho
  · cases ho
theorem pSortT_ap {ws : List (List Int)} (h : ∀ w ∈ ws, w ≠ []) : pSortT [.lst (ws.map wP)] = some (.own (.lst ((srtW ws).map wP))) := by
  show (asWords (ws.map wP)).bind _ = _
  rw [asWords_map]
  simp only [Option.bind_some]
  rw [if_pos]
  refine List.all_eq_true.mpr fun w hw => ?_
  have := h w hw
  cases w with
  | nil => exact absurd rfl this
  | cons _ _ => rfl
abbrev rMinB (K : PySem.W.Frag) : List V → Hp → VK → Prop := fun vs H Q => rMinA K vs H Q ∨ rMinT K vs H Q
theorem cr_minB {X : Cx} (hc : X.calm = true) {k : Nat} (hr : Room k X.A) : CallR X (.builtin "min") (rMinB X.K) := (cr_minA hc).or (cr_minT hc hr.units)
def pMinB (ds : List PV) : Option OV := match pMin ds with
  | some o => some o
  | none => match ds with
    | [.lst es] => (asWords es).bind fun ws => if ws = [] then none else some (.val (wP (leastW ws)))
    | _ => none
theorem p_minB {K : PySem.W.Frag} : OpN K (rMinB K) pMinB := by
  intro Z H xs ds o Q l hx ho hw
  unfold pMinB at ho
  cases e0 : pMin ds with
  | some o' =>
    rw [e0] at ho
    cases ho
    exact .inl (p_min Z H xs ds o Q l hx e0 hw)
  | none =>
    rw [e0] at ho
    simp only at ho
    split at ho
    · rename_i es
      obtain ⟨v, rfl, h⟩ := pk1 hx
      obtain ⟨a, ys, rfl, hs, t⟩ := h
      cases e2 : asWords es with
      | none => rw [e2] at ho; cases ho
      | some ws =>
        rw [e2] at ho
        simp only [Option.bind_some] at ho
        by_cases hn : ws = []
        · rw [if_pos hn] at ho; cases ho
        · rw [if_neg hn] at ho
          cases ho
          obtain ⟨ks, rfl, k2, rfl⟩ := words_of t e2
          refine .inr ⟨a, ks, rfl, .inl (.inl hs), fun p hp => l.sqT (k2 p hp), fun e => hn (by rw [e]; rfl), fun p hp hle => ?_⟩
          have e : p.2 = leastW (ks.map (·.2)) := leastW_eq (List.mem_map.mpr ⟨p, hp, rfl⟩) fun x hx => by
            obtain ⟨q, hq, rfl⟩ := List.mem_map.mp hx
            exact hle q hq
          rw [← e] at hw
          exact hw.1 _ (.tup (k2 p hp) dn_ints)
    · cases ho
theorem pMinB_ints {xs : List Int} (h : xs ≠ []) : pMinB [.lst (xs.map .int)] = pMin [.lst (xs.map .int)] := by
  unfold pMinB
  have : pMin [.lst (xs.map .int)] = vI (minI xs) := by
    show (asInts (xs.map .int)).bind _ = _
    rw [asInts_map xs]
    simp only [Option.bind_some]
    rw [if_neg h]
  rw [this]
  rfl
theorem pMinB_words {ws : List (List Int)} (h : ws ≠ []) : pMinB [.lst (ws.map wP)] = some (.val (wP (leastW ws))) := by
  have e : pMin [.lst (ws.map wP)] = none := by
    cases ws with
    | nil => exact absurd rfl h
    | cons w ws => rfl
  unfold pMinB
  rw [e]
  show (asWords (ws.map wP)).bind _ = _
  rw [asWords_map]
  simp only [Option.bind_some]
  rw [if_neg h]
/-! < -/
abbrev rLtB (K : PySem.W.Frag) : R2 := fun x y H Q => rI0 (fun i j => .bl (decide (i < j))) x y H Q ∨ rLtT K x y H Q
theorem op_ltB {X : Cx} {k : Nat} (hr : Room k X.A) : OpR X (compareOp .Lt) (rLtB X.K) := op_lt.or (op_ltT (by have := hr.units; omega))
def pLtB : PV → PV → Option OV
  | .int i, .int j => vB (decide (i < j))
  | .tup es, .tup fs => (asInts es).bind fun a => (asInts fs).bind fun b => vB (ltW a b)
  | _, _ => none
theorem p_ltB {K : PySem.W.Frag} : Op2 K (rLtB K) pLtB := by
  intro Z H x y d e o Q l hx hy ho hw
  unfold pLtB at ho
  split at ho
  · rw [hx.int, hy.int]; cases ho; exact .inl ⟨_, _, rfl, rfl, hw.1 _ (.bl _)⟩
  · rename_i es fs
    obtain ⟨a, xs, rfl, h1, t1⟩ := hx.tup
    obtain ⟨b, ys, rfl, h2, t2⟩ := hy.tup
    cases e1 : asInts es with
    | none => rw [e1] at ho; cases ho
    | some ns =>
      cases e2 : asInts fs with
      | none => rw [e1, e2] at ho; cases ho
      | some ms =>
        rw [e1, e2] at ho
        cases ho
        rw [asInts_eq e1] at t1
        rw [asInts_eq e2] at t2
        rw [ints_of t1] at h1
        rw [ints_of t2] at h2
        exact .inr ⟨a, b, ns, ms, rfl, rfl, l.sqT h1, l.sqT h2, hw.1 _ (.bl _)⟩
  · cases ho
theorem pLtB_int (i j : Int) : pLtB (.int i) (.int j) = vB (decide (i < j)) := rfl
theorem pLtB_words (a b : List Int) : pLtB (wP a) (wP b) = vB (ltW a b) := by
  show (asInts (a.map .int)).bind (fun a => (asInts (b.map .int)).bind fun b => vB (ltW a b)) = _
  rw [asInts_map, asInts_map]
  rfl
end TT

set_option Elab.async false
set_option linter.all false
set_option maxRecDepth 100000
/-! raise; f(lambda: e) of a def that calls what it got in a try; defs that make lambdas -/
namespace TT
open PySem PySem.Spec L2
/-! ### raise X('..') -/
def excB (K : PySem.W.Frag) (c : Str) : Bool := PySem.W.excIn K (He.ga K c) [.type "ValueError", .type "Exception", .type "BaseException", .type "object"] "ValueError.__new__" && (PySem.W.keepIn K (.ref (He.ga K c)) &&
  (decide (PySem.W.subIn K (.ref (He.ga K c)) (.type "BaseException") = some true) && decide (PySem.W.typeIn K (.ref (He.ga K c)) = some (.type "type"))))
def fRaise (c : Str) : Rho → Res Fl := fun ρ => .er ⟨c, []⟩ ρ
@[simp] theorem fRaise_ap {c : Str} {ρ : Rho} : fRaise c ρ = .er ⟨c, []⟩ ρ := rfl
theorem ss_raise [Tabl] {X : Cx} {W : WX} {x m : Str} {j : Nat} {p p2 pos pos2 : Pos} (tk : Takes X W) (F : excB X.K x = true) (gx : X.mg x = some (.ref (He.ga X.K x))) (hc : X.calm = true := by rfl) (hg : Gl X x := by rfl)
    (hdb : (x == ("__debug__" : Str)) = false := by decide) : SS X W (.Raise (some (.Call (.Name x p) [.Constant (.str m) j p2] [] pos)) none pos2) (fRaise x) := by
  have b1 := He.ba F
  have b2 := He.ba b1.2
  have b3 := He.ba b2.2
  refine ss_of (ps_raise hc tk (pmk_own PySem.F.excBase_ValueError b1.1 gx b2.1 (raises_own (of_decide_eq_true b3.1) (of_decide_eq_true b3.2)) hg hdb)) fun C ρ σ Z H D hK hm R q => ?_
  exact q σ _ none Z H R (Zle.refl _) ⟨by rw [hm]; exact gx, .inl ⟨rfl, rfl⟩⟩
/-! ### the classes that clauses name -/
abbrev Tb : Type := List (Str × Str × Bool)
def lookTb (tb : Tb) (c d : Str) : Option Bool := match tb with
  | [] => none
  | e :: r => if e.1 = c ∧ e.2.1 = d then some e.2.2 else lookTb r c d
def tbB (K : PySem.W.Frag) (tb : Tb) : Bool := tb.all fun e => decide (PySem.W.exmOne K (.ref (He.ga K e.1)) (.ref (He.ga K e.2.1)) = some e.2.2)
def pickH (tb : Tb) (c : Str) : List (Str × PV) → Option PV
  | [] => none
  | (d, r) :: t => match lookTb tb c d with
    | some true => some r
    | some false => pickH tb c t
    | none => none
structure TbOk (K : PySem.W.Frag) (mg : Str → Option Value) (tb : Tb) : Prop where
  ex : tbB K tb = true
  gl : ∀ e ∈ tb, mg e.1 = some (.ref (He.ga K e.1))
theorem lookTb_ok {K : PySem.W.Frag} {mg : Str → Option Value} : ∀ {tb : Tb} {c d : Str} {b : Bool}, tbB K tb = true → (∀ e ∈ tb, mg e.1 = some (.ref (He.ga K e.1))) → lookTb tb c d = some b → PySem.W.exmOne K (.ref (He.ga K c)) (.ref (He.ga K d)) = some b ∧ mg c = some (.ref (He.ga K c))
  | [], _, _, _, _, _, h => by cases h
  | e :: r, c, d, b, h, g, hl => by
    unfold lookTb at hl
    have h1 : (decide (PySem.W.exmOne K (.ref (He.ga K e.1)) (.ref (He.ga K e.2.1)) = some e.2.2) && tbB K r) = true := h
    have b1 := He.ba h1
    split at hl
    · rename_i q
      obtain ⟨rfl, rfl⟩ := q
      cases hl
      exact ⟨of_decide_eq_true b1.1, g e List.mem_cons_self⟩
    · exact lookTb_ok b1.2 (fun e he => g e (List.mem_cons_of_mem _ he)) hl
/-! ### constants -/
def vC : PV → V
  | .str s => .str s
  | .bl b => .bl b
  | _ => .non
def isCn : PV → Bool
  | .str _ => true
  | .bl _ => true
  | _ => false
theorem dn_vC {K : PySem.W.Frag} {Z : Hp} : ∀ {d : PV}, isCn d = true → Dn K Z (vC d) d
  | .str s, _ => .str s
  | .bl b, _ => .bl b
  | .non, h => by cases h
  | .int _, h => by cases h
  | .tup _, h => by cases h
  | .lst _, h => by cases h
  | .scr _, h => by cases h
  | .obj _ _, h => by cases h
  | .rng _ _, h => by cases h
  | .dct _ _, h => by cases h
  | .dcT _ _, h => by cases h
/-! ### the def that calls in a try -/
def chW (K : PySem.W.Frag) (Q : VK) : List (Str × PV) → XK
  | [] => fun _ _ _ => False
  | (c, r) :: t => fun cls d H => ∃ b, PySem.W.exmOne K cls (.ref (He.ga K c)) = some b ∧ (b = true → Q (vC r) H) ∧ (b = false → chW K Q t cls d H)
def TTw (K : PySem.W.Frag) (l : List (Str × PV)) (dflt : PV) : (XK → Hp → VK → Prop) → Hp → VK → Prop := fun tl H Q => tl (chW K Q l) H fun _ H' => Q (vC dflt) H'
def hdL (K : PySem.W.Frag) (l : List (Str × PV)) : List (Value × (Addr → Value → Option Addr → TS)) := l.map fun e => (.ref (He.ga K e.1), fun _ _ _ => tRet (tC (vC e.2)))
theorem chW_many {K : PySem.W.Frag} {Q : VK} {D : Ends} (hD : D.rt = Q) : ∀ (l : List (Str × PV)) (cls : Value) (d : Option Addr) (σ : L2.St) (H : Hp), chW K Q l cls d H → wMany K (fun _ _ _ _ => False) D (hdL K l) cls d σ H
  | [], _, _, _, _, h => h
  | (c, r) :: t, cls, d, σ, H, ⟨b, e, h1, h2⟩ => ⟨b, e, fun hb a _ => by show D.rt (vC r) H; rw [hD]; exact h1 hb, fun hb => chW_many hD t cls d σ H (h2 hb)⟩
/-- such clauses -/
inductive HdC : List ExceptHandler → List (Str × PV) → Prop
  | nil : HdC [] []
  | str {x : Str} {np p1 p2 pos' : Pos} {j : Nat} {s : Str} {hds : List ExceptHandler} {l : List (Str × PV)} : HdC hds l → HdC (.ExceptHandler (some (.Name x np)) none [.Return (some (.Constant (.str s) j p1)) p2] pos' :: hds) ((x, .str s) :: l)
  | bl {x : Str} {np p1 p2 pos' : Pos} {j : Nat} {s : Bool} {hds : List ExceptHandler} {l : List (Str × PV)} : HdC hds l → HdC (.ExceptHandler (some (.Name x np)) none [.Return (some (.Constant (.bool s) j p1)) p2] pos' :: hds) ((x, .bl s) :: l)
theorem hdC_ok {X : Cx} {hds : List ExceptHandler} {l : List (Str × PV)} (h : HdC hds l) (hn : ∀ e ∈ l, Names X e.1 (.ref (He.ga X.K e.1))) : HdsOk X hds (hdL X.K l) := by
  induction h with
  | nil => exact .nil
  | str h ih => exact .cons (hn _ List.mem_cons_self) (fun a oe cls d pn _ _ => pss_one (ps_ret pe_str)) (ih fun e he => hn e (List.mem_cons_of_mem _ he))
  | bl h ih => exact .cons (hn _ List.mem_cons_self) (fun a oe cls d pn _ _ => pss_one (ps_ret pe_bl)) (ih fun e he => hn e (List.mem_cons_of_mem _ he))
theorem word_gives {X : Cx} {Ng : List Str} {x a q : Str} {sg : Scope} {g : Addr} {cdg : Value} {p1 p2 p3 p8 p9 : Pos} {h0 : ExceptHandler} {hds : List ExceptHandler} {l : List (Str × PV)} {rc : Expr} {dflt : PV} (hh : HdC (h0 :: hds) l)
    (hl : ∀ e ∈ l, sg.names.lookup e.1 = some .globalImplicit ∧ (e.1 == ("__debug__" : Str)) = false ∧ X.mg e.1 = some (.ref (He.ga X.K e.1))) (hr : ∀ X : Cx, PE X rc (tC (vC dflt))) (h00 : ∀ f : Addr, (L2.start Ng [V.ref f])[0]? = some (some (V.ref f))) :
    LamX.GivesTo X Ng x sg g cdg [.Try [.Expr (.Call (.Name a p1) [] [] p2) p3] (h0 :: hds) [] [] p8, .Return (some rc) p9] a q (TTw X.K l dflt) := by
  intro f c' s H Q tl act hc h
  have hd := hdC_ok (X := (cxOf C8.CX0 X.prog X.w X.K X.mg X.base Ng x sg g cdg X.A X.stack s H C8.E0).nox) hh (fun e he => ⟨(hl e he).1, (hl e he).2.1, .inl (hl e he).2.2⟩)
  refine ⟨_, pss_cons (ps_try_many (X := (cxOf C8.CX0 X.prog X.w X.K X.mg X.base Ng x sg g cdg X.A X.stack s H C8.E0).nox) (Wout := fun _ _ _ _ => False)
      (tb := fun W D σ H => ∃ Ech : XK, (∀ cls d σ' H', Ech cls d H' → W cls d σ' H') ∧ σ[0]? = some (some (.ref f)) ∧ H c' = some (LamX.CodeO c' q) ∧ tl Ech H (fun _ H' => ∃ σ', σ' = σ ∧ D.nx σ' H'))
      rfl rfl takes_none5 (fun W pn xe tk _ => ?_) hd) (pss_one (ps_ret (hr _))), ?_⟩
  · refine ⟨fun pins s' σ H' D I h' => ?_⟩
    obtain ⟨Ech, hW, h1, h2, h3⟩ := h'
    have hp := act W pn xe Ech p1 p2 tk hW
    have hq := pss_one (ps_expr (pos := p3) hp)
    exact hq.run pins s' σ H' D I ⟨h1, h2, by
      have e : (fun (_ : V) (H' : Hp) => ∃ σ', σ' = σ ∧ D.nx σ' H') = fun (_ : V) (H' : Hp) => D.nx σ H' := by
        funext _ H'
        exact propext ⟨fun ⟨_, e, z⟩ => e ▸ z, fun z => ⟨_, rfl, z⟩⟩
      rw [e] at h3
      exact h3⟩
  · refine ⟨chW X.K Q l, fun cls d σ' H' z => chW_many rfl l cls d σ' H' z, h00 f, hc, ?_⟩
    have e : (fun (_ : V) (H' : Hp) => ∃ σ', σ' = L2.start Ng [V.ref f] ∧ (tRet (tC (vC dflt)) { nx := fun _ H' => Q .non H', rt := Q } σ' H')) = fun (_ : V) (H' : Hp) => Q (vC dflt) H' := by
      funext _ H'
      exact propext ⟨fun ⟨_, _, z⟩ => z, fun z => ⟨_, rfl, z⟩⟩
    show tl (chW X.K Q l) H (fun (_ : V) (H' : Hp) => ∃ σ', σ' = L2.start Ng [V.ref f] ∧ (tRet (tC (vC dflt)) { nx := fun _ H' => Q .non H', rt := Q } σ' H'))
    rw [e]
    exact h
end TT

set_option Elab.async false
set_option linter.all false
set_option maxRecDepth 100000
/-! f(lambda: e), f a def that calls in a try; the def that makes the lambda -/
namespace TT
open PySem PySem.Spec L2
section
variable {C : Ct} {ρ ρ' : Rho} {σ σ' : Sg} {Z Z' H H' H1 : Hp}
/-- the tables have grown -/
theorem Rel.extN [Tabl] (R : Rel C ρ σ Z H) (hT : Tabl.T ≠ []) (e : LamX.ExtN H H1) (t : LamX.Tabs Tabl.T H1) : Rel C ρ σ Z H1 := by
  have zt : ∀ a ps, Z a ≠ some (.tbl ps) := R.zt.resolve_left hT
  have n0 : ∀ a ps, C.H0 a ≠ some (.tbl ps) := R.n0.resolve_left hT
  refine ⟨R.len, fun a o h => e a o (R.le a o h) fun ps z => zt a ps (by rw [h, z]), R.val, fun i s d h o g => ?_, R.inj, R.bor, fun a h1 h2 => ?_, R.zle, fun a h => ?_, t, R.n0, R.zt⟩
  · obtain ⟨a, g1, g2, g3, g4⟩ := R.obj i s d h o g
    obtain ⟨u, k1, k2, _⟩ := g3.noT
    exact ⟨a, g1, g2, g3.mono (Zle.refl _) ((e a u k1 k2).trans k1.symm), g4⟩
  · obtain ⟨k1, k2⟩ := R.keep a h1 h2
    refine ⟨?_, k2⟩
    cases q : C.H0 a with
    | none => exact absurd q h1
    | some u =>
      rw [q] at k1
      exact e a u k1 fun ps z => n0 a ps (by rw [q, z])
  · have q := R.here a h
    unfold nt at q ⊢
    cases k : H a with
    | none => rw [k] at q; exact absurd rfl q
    | some u =>
      rw [k] at q
      have hu : ∀ ps, u ≠ .tbl ps := fun ps z => by
        subst z
        have e1 : (isTbl (.tbl ps) && !(Tabl.T : List (Addr × Str)).isEmpty) = true := by
          cases hE : (Tabl.T : List (Addr × Str)) with
          | nil => exact absurd hE hT
          | cons _ _ => rfl
        simp only [e1, if_true] at q
        exact q rfl
      rw [e a u k hu]
      exact q
/-- seen from inside: no object of ours -/
def hideS : SV → SV
  | .val d => .val d
  | _ => .un
def hide (ρ : Rho) : Rho := ρ.map hideS
theorem hide_val {i : Nat} {d : PV} (h : (hide ρ)[i]? = some (.val d)) : ρ[i]? = some (.val d) := by
  unfold hide at h
  rw [List.getElem?_map] at h
  obtain ⟨s, hs, e⟩ := Option.map_eq_some_iff.mp h
  cases s with
  | val d' => rw [hs]; cases e; rfl
  | own _ => cases e
  | bor _ => cases e
  | un => cases e
theorem hide_no {i : Nat} : ¬ isObj (hide ρ) i := fun ⟨s, h, o⟩ => by
  unfold hide at h
  rw [List.getElem?_map] at h
  obtain ⟨t, hs, e⟩ := Option.map_eq_some_iff.mp h
  cases t with
  | val d' => cases e; cases o
  | own _ => cases e; cases o
  | bor _ => cases e; cases o
  | un => cases e; cases o
theorem Rel.inner [Tabl] (R : Rel C ρ σ Z H) : Rel (C.call Z H none) (hide ρ) σ Z H := by
  refine ⟨by unfold hide; rw [List.length_map]; exact R.len, R.le, fun i d h => R.val i d (hide_val h), fun i s d h o g => (hide_no ⟨s, h, o⟩).elim, fun i j a hi => (hide_no hi).elim, fun i d h => (hide_no ⟨_, h, rfl⟩).elim, fun a h _ => ⟨(nt_eq h).symm, rfl⟩, Zle.refl _, fun a h => h, R.tab, nt_NT, R.zt⟩
theorem Rel.outer [Tabl] (R : Rel C ρ σ Z H) (R' : Rel (C.call Z H none) ρ' σ' Z' H') : Rel C ρ σ Z' H' := by
  have kp : ∀ a, nt H a ≠ none → H' a = nt H a ∧ Z' a = Z a := fun a h => R'.keep a h (fun z => by cases z)
  refine ⟨R.len, R'.le, fun i d h => ?_, fun i s d h o g => ?_, R.inj, R.bor, fun a h1 h2 => ?_, R.zle.trans R'.zle, fun a h => ?_, R'.tab, R.n0, R'.zt⟩
  · obtain ⟨v, h1, h2⟩ := R.val i d h
    exact ⟨v, h1, h2.mono R'.zle⟩
  · obtain ⟨a, h1, h2, h3, h4⟩ := R.obj i s d h o g
    obtain ⟨k1, k2⟩ := kp a h3.ntn
    exact ⟨a, h1, k2.trans h2, h3.mono R'.zle (k1.trans h3.nt), h4⟩
  · obtain ⟨k1, k2⟩ := R.keep a h1 h2
    obtain ⟨k3, k4⟩ := kp a (R.here a h1)
    exact ⟨(k3.trans (nt_keep R.n0 h1 k1)).trans k1, k4.trans k2⟩
  · exact R'.here a (R.here a h)
end
def fLam (tb : Tb) (l : List (Str × PV)) (dflt : PV) (f : Rho → Res RV) : Rho → Res RV := fun ρ => match f (hide ρ) with
  | .ok _ _ => .ok (.val dflt) ρ
  | .er x _ => (match pickH tb x.c l with
    | some d => .ok (.val d) ρ
    | none => .no)
  | .no => .no
theorem pick_ch {K : PySem.W.Frag} {mg : Str → Option Value} {tb : Tb} (T : TbOk K mg tb) {Q : VK} {cls : Value} {d : Option Addr} {H' : Hp} {c : Str} (hc : mg c = some cls) : ∀ {l : List (Str × PV)} {r : PV}, pickH tb c l = some r → Q (vC r) H' → chW K Q l cls d H'
  | [], r, h, _ => by cases h
  | (e, s) :: l, r, h, q => by
    unfold pickH at h
    cases hl : lookTb tb c e with
    | none => rw [hl] at h; cases h
    | some b =>
      obtain ⟨h1, h2⟩ := lookTb_ok T.ex T.gl hl
      rw [hc] at h2
      cases h2
      rw [hl] at h
      cases b with
      | true =>
        have h' : some s = some r := h
        cases h'
        exact ⟨true, h1, fun _ => q, fun z => by cases z⟩
      | false =>
        have h' : pickH tb c l = some r := h
        exact ⟨false, h1, (fun z => by cases z), fun _ => pick_ch T hc h' q⟩
theorem se_lam [Tabl] {X : Cx} {W : WX} {tb : Tb} {l : List (Str × PV)} {dflt : PV} {x a : Str} {g c P : Addr} {k : Nat} {pg : Arguments} {bg : List Stmt} {sg : Scope} {dV kV doc pm cdv ct oc : Value} {an od : Option Addr} {osl : Array (Option Value)} {Ng : List Str}
    {params : Arguments} {body : Expr} {scope : Scope} {f : Rho → Res RV} {p lpos pos : Pos} (hT : Tabl.T ≠ []) (TBk : TbOk X.K X.mg tb) (hd1 : isCn dflt = true) (hl1 : l.all (fun e => isCn e.2) = true)
    (hg : Gl X x) (hm : X.mg x = some (.ref g)) (hk : PySem.W.keepIn X.K (.ref g) = true)
    (lk : X.K.lookup g = some ⟨oc, od, .func (PySem.W.fnOf x x pg bg sg dV kV doc pm an cdv ct), osl⟩) (hcg : PySem.W.codeIn X.K cdv x = true) (hb : L2.Binds X.K (PySem.W.fnOf x x pg bg sg dV kV doc pm an cdv ct) [a] []) (Sg : FnScope Ng [a] sg) (hNg : Ng[0]? = some a) (hva : Vis sg a)
    (hG : LamX.GivesTo X Ng x sg g cdv bg a (X.env.qual ++ "<lambda>") (TTw X.K l dflt))
    (TB : LamX.TabB X.base X.mg c P) (hcode : X.env.code = .ref c) (hmT : (P, X.env.qual ++ "<lambda>") ∈ Tabl.T) (hu : ∀ p ∈ Tabl.T, p.1 = P → p.2 = X.env.qual ++ "<lambda>") (hr : Room (k + 2) X.A) (L : LamX.LamS X.env.scope scope) (hdef : defaultsOf params X.env = ([], []))
    (hbind : ∀ (q : Str) (cl : List (Str × Addr)) (pm cv ctv : Value), bindArgs (PySem.W.kla_fn "<lambda>" q params body scope cl pm cv ctv) ⟨[], []⟩ = pure [])
    (hbody : ∀ (A : Around) (outer : List Env) (s : Shared) (H : Hp) (E : XK) (f' c' : Addr), Room k (A.deeper (LamX.lamEnv X scope s.heap.objs.size f' c')) → SE (LamX.lamCx X A outer s H E scope f' c') (fun cls d _ H => E cls d H) body f)
    (hdb : (x == ("__debug__" : Str)) = false := by decide) (hd : (a == ("__debug__" : Str)) = false := by decide) (hcd : (a == ("__classdict__" : Str)) = false := by decide) :
    SE X W (.Call (.Name x p) [.Lambda params body scope lpos] [] pos) (fLam tb l dflt f) :=
  pe_imp (LamX.pe_lamcall (T := Tabl.T) (TT := TTw X.K l dflt) (t := fun E => TF X.K X.mg (fun cls d _ H => E cls d H) f) hg hm hk lk hcg hb Sg hNg hva hG TB hcode hmT hu hr L hdef hbind (fun A outer s H E f' c' hr' => hbody A outer s H E f' c' hr') hdb hd hcd)
    fun σ H Q ⟨C, ρ, Z, hK, hm', R, q⟩ => ⟨R.tab, fun H1 e1 t1 => by
      have R1 := R.extN hT e1 t1
      show TF X.K X.mg (fun cls d _ H => chW X.K Q l cls d H) f σ H1 (fun _ H' => Q (vC dflt) H')
      refine ⟨C.call Z H1 none, hide ρ, Z, hK, hm', R1.inner, ?_⟩
      have q' : Aft C W σ Z (match f (hide ρ) with
        | .ok _ _ => .ok (.val dflt) ρ
        | .er x _ => (match pickH tb x.c l with
          | some d => .ok (.val d) ρ
          | none => .no)
        | .no => .no) Q := q
      cases ef : f (hide ρ) with
      | no => rw [ef] at q'; exact q'.elim
      | ok r ρ1 =>
        rw [ef] at q'
        exact fun v Z' H' R' l' dn => q' (vC dflt) Z' H' (R1.outer R') l' (dn_vC hd1)
      | er ex ρ1 =>
        rw [ef] at q'
        simp only at q'
        cases ep : pickH tb ex.c l with
        | none => rw [ep] at q'; exact q'.elim
        | some r =>
          rw [ep] at q'
          have hcn : ∀ {l : List (Str × PV)} {r : PV}, l.all (fun e => isCn e.2) = true → pickH tb ex.c l = some r → isCn r = true := by
            intro l
            induction l with
            | nil => intro r _ h; cases h
            | cons e l ih =>
              intro r ha h
              obtain ⟨e1, e2⟩ := e
              have ha' : (isCn e2 && l.all (fun e => isCn e.2)) = true := ha
              rw [Bool.and_eq_true] at ha'
              unfold pickH at h
              cases hl : lookTb tb ex.c e1 with
              | none => rw [hl] at h; cases h
              | some b =>
                rw [hl] at h
                cases b with
                | true =>
                  have h' : some e2 = some r := h
                  cases h'
                  exact ha'.1
                | false => exact ih ha'.2 h
          intro cls d Z' H' R' l' hx
          have hmg : X.mg ex.c = some cls := by
            have := hx.1
            rw [show (C.call Z H1 none).mg = X.mg from hm'] at this
            exact this
          exact pick_ch TBk hmg ep (q' (vC r) Z' H' (R1.outer R') l' (dn_vC (hcn hl1 ep)))⟩
end TT

set_option Elab.async false
set_option linter.all false
set_option maxRecDepth 100000
/-! defs that make lambdas, defs that call them in a try: from the head's facts -/
namespace TT
open PySem PySem.Spec L2
/-- a def's code object and its table -/
def codT (K : PySem.W.Frag) (x : Str) : Option (Addr × Addr) := match K.lookup (He.ga K x) with
  | some ⟨_, _, .func fd, _⟩ => (match fd.code with
    | .ref c => (match K.lookup c with
      | some ⟨_, _, .fields vs, _⟩ => (match (vs[11]? : Option Value) with
        | some (.ref P) => some (c, P)
        | _ => none)
      | _ => none)
    | _ => none)
  | _ => none
theorem codT_code {K : PySem.W.Frag} {x : Str} {c P : Addr} {oc : Value} {od : Option Addr} {fd : FuncData} {osl : Array (Option Value)} (h : codT K x = some (c, P)) (lk : K.lookup (He.ga K x) = some ⟨oc, od, .func fd, osl⟩) : fd.code = .ref c := by
  unfold codT at h
  rw [lk] at h
  simp only at h
  split at h
  · rename_i c' e
    split at h
    · split at h
      · cases h
        exact e
      · cases h
    · cases h
  · cases h
def lamQ (x : Str) : Str := x ++ ".<locals>." ++ "<lambda>"
def csK (K : PySem.W.Frag) (ms : List Str) : List (Addr × Addr) := ms.filterMap (codT K)
def tabT (K : PySem.W.Frag) (ms : List Str) : List (Addr × Str) := ms.filterMap fun x => (codT K x).map fun p => (p.2, lamQ x)
/-- what is known of the tables -/
structure TabE [Tabl] (K : PySem.W.Frag) (base : Heap) (mg : Str → Option Value) (ms : List Str) : Prop where
  T : Tabl.T = tabT K ms
  has : ∀ x ∈ ms, ∃ p, codT K x = some p
  inj : ∀ x ∈ ms, ∀ y ∈ ms, ∀ p r, codT K x = some p → codT K y = some r → p.2 = r.2 → x = y
  tb : ∀ p ∈ csK K ms, LamX.TabB base mg p.1 p.2
structure LamE [Tabl] (X : Cx) : Prop where
  ex : ∃ c P, LamX.TabB X.base X.mg c P ∧ X.env.code = .ref c ∧ (P, X.env.qual ++ "<lambda>") ∈ Tabl.T ∧ (∀ p ∈ Tabl.T, p.1 = P → p.2 = X.env.qual ++ "<lambda>") ∧ Tabl.T ≠ []
theorem TabE.lam [Tabl] {K : PySem.W.Frag} {base : Heap} {mg : Str → Option Value} {ms : List Str} (te : TabE K base mg ms) {x : Str} (hx : x ∈ ms) {X : Cx} (hb : X.base = base) (hm : X.mg = mg) (hq : X.env.qual ++ "<lambda>" = lamQ x) (hc : ∀ c P, codT K x = some (c, P) → X.env.code = .ref c) : LamE X := by
  obtain ⟨⟨c, P⟩, hp⟩ := te.has x hx
  have hmem : (P, lamQ x) ∈ Tabl.T := by
    rw [te.T]
    exact List.mem_filterMap.mpr ⟨x, hx, by rw [hp]; rfl⟩
  refine ⟨c, P, ?_, hc c P hp, by rw [hq]; exact hmem, fun p h e => ?_, fun z => by rw [z] at hmem; cases hmem⟩
  · rw [hb, hm]
    exact te.tb (c, P) (List.mem_filterMap.mpr ⟨x, hx, hp⟩)
  · rw [te.T] at h
    obtain ⟨y, hy, ey⟩ := List.mem_filterMap.mp h
    obtain ⟨r, hr, e2⟩ := Option.map_eq_some_iff.mp ey
    rw [← e2] at e ⊢
    rw [hq, te.inj x hx y hy (c, P) r hp hr e.symm]
theorem FunD.okC {P : Program} {w : World} {K : PySem.W.Frag} {mg : Str → Option Value} {base : Heap} {x qual : Str} {params : Arguments} {body : List Stmt} {scope : Scope} {dvs : List V} {kws : List (Str × V)} {f : Addr} {fd : FuncData} {CX : CXT} {N ps : List Str} {k : Nat} {sp : Sp} (F : FunD K x qual params body scope dvs kws f fd) (S : FnScope N ps scope) (len : ∀ vs H Q E, sp vs H Q E → vs.length = ps.length)
    (hbody : ∀ (cdv : Value) (A : Around) (outer : List Env) (s : Shared) (H : Hp) (vs : List V) (Q : VK) (E : XK), fd.code = cdv → Room k (A.deeper (PyProof.Rows.envOfC qual scope s.heap.objs.size f cdv)) → sp vs H Q E →
      ∃ t, PSs (cxOf CX P w K mg base N qual scope f cdv A outer s H E) body t ∧ t { nx := fun _ H' => Q .non H', rt := Q } (start N vs) H) : FnOk P w K mg base CX (k + 1) f fd ps sp := by
  obtain ⟨oc, od, dV, kV, doc, pm, an, cdv, ct, osl, rfl, lk, hcd, _, _⟩ := F.ex
  exact fn_of lk hcd S len fun A outer s H vs Q E hr hsp => hbody cdv A outer s H vs Q E rfl hr hsp
theorem fn_okC [Tabl] {P : Program} {w : World} {K : PySem.W.Frag} {mg : Str → Option Value} {base : Heap} {x qual : Str} {params : Arguments} {bd : List Stmt} {scope : Scope} {f : Addr} {fd : FuncData} {N ps : List Str} {k : Nat} {body : Rho → Res Fl} (F : FunD K x qual params bd scope [] [] f fd) (S : FnScope N ps scope)
    (hbody : ∀ (cdv : Value) (A : Around) (outer : List Env) (s : Shared) (H : Hp) (E : XK), fd.code = cdv → Room k (A.deeper (PyProof.Rows.envOfC qual scope s.heap.objs.size f cdv)) → Takes (cxOf (L2.CX P w) P w K mg base N qual scope f cdv A outer s H E) (fun cls d _ H => E cls d H) →
      PassesOwn (model P w) (A.deeper (PyProof.Rows.envOfC qual scope s.heap.objs.size f cdv)) (PyProof.Rows.envOfC qual scope s.heap.objs.size f cdv) (cxOf (L2.CX P w) P w K mg base N qual scope f cdv A outer s H E).xe →
      SSs (cxOf (L2.CX P w) P w K mg base N qual scope f cdv A outer s H E) (fun cls d _ H => E cls d H) bd body) : FnOk P w K mg base (L2.CX P w) (k + 1) f fd ps (spF K mg ps.length (runF N.length ps.length body)) := by
  refine FunD.okC F S (fun vs H Q E h => h.1) fun cdv A outer s H vs Q E hcv hr h => ⟨_, hbody cdv A outer s H E hcv hr (takes_of rfl rfl rfl rfl) (passes_of rfl), ?_⟩
  obtain ⟨hl, C, args, Z, hK, hm, R, hM, q⟩ := h
  unfold runF at q
  split at q
  · rename_i hc
    have R0 := R.enter (N := N.length)
    have hal : args.length = vs.length := by have := R.len; simpa using this
    refine ⟨C, _, Z, hK, hm, R0, ?_⟩
    have q' : AftF C Z (vs.map some) (exitF args (body (args ++ List.replicate (N.length - vs.length) .un))) Q E := by rw [hl]; exact q
    cases e : body (args ++ List.replicate (N.length - vs.length) .un) with
    | no => rw [e] at q'; exact q'
    | er x ρ1 =>
      rw [e] at q'
      simp only [exitF] at q'
      cases em : merge args ρ1 with
      | none => rw [em] at q'; exact q'.elim
      | some as =>
        rw [em] at q'
        exact fun σ' cls d Z' H' R' l hx => q' cls d Z' H' (R.exit hc.2 hM R' l em).1 l hx
    | ok fl ρ1 =>
      rw [e] at q'
      simp only [exitF] at q'
      cases fl with
      | bk => exact q'.elim
      | ct => exact q'.elim
      | nx =>
        simp only at q'
        cases em : merge args ρ1 with
        | none => rw [em] at q'; exact q'.elim
        | some as =>
          rw [em] at q'
          exact fun σ' Z' H' R' l => q' .non Z' H' (R.exit hc.2 hM R' l em).1 l .non
      | rt r =>
        cases r with
        | ali i => exact q'.elim
        | val d =>
          simp only at q'
          cases em : merge args ρ1 with
          | none => rw [em] at q'; exact q'.elim
          | some as =>
            rw [em] at q'
            exact fun v σ' Z' H' R' l dn => q' v Z' H' (R.exit hc.2 hM R' l em).1 l dn
        | own d =>
          simp only at q'
          cases em : merge args ρ1 with
          | none => rw [em] at q'; exact q'.elim
          | some as =>
            rw [em] at q'
            exact fun v σ' Z' H' R' l dn => q' v Z' H' (R.exit hc.2 hM R' l em).1 l ((R.exit hc.2 hM R' l em).2 d v dn)
  · exact q.elim

theorem mk_calT [Tabl] {P : Program} {w : World} {K : PySem.W.Frag} {mg : Str → Option Value} {base h : Heap} {fa : List He.Fa} {fn : List He.DefD} {x : Str} {params : Arguments} {bd : List Stmt} {scope : Scope} {N ps ms : List Str} {k : Nat} {body : Rho → Res Fl} (te : TabE K base mg ms) (hx : x ∈ ms) (X : K.In h) (G : h.Ns mainGlobals mg) (c : He.SaysD fa fn K) (i j : Nat)
    (hd : fn[i]? = some ⟨(x, none), x, x, params, bd, scope, [], []⟩) (hf : fa[j]? = some (.glo x)) (S : FnScope N ps scope)
    (hb : ∀ {f : Addr} {fd : FuncData}, FunD K x x params bd scope [] [] f fd → Binds K fd ps [])
    (hbody : ∀ (f : Addr) (cdv : Value) (A : Around) (outer : List Env) (s : Shared) (H : Hp) (E : XK), LamE (cxOf (L2.CX P w) P w K mg base N x scope f cdv A outer s H E) → Room k (A.deeper (PyProof.Rows.envOfC x scope s.heap.objs.size f cdv)) → Takes (cxOf (L2.CX P w) P w K mg base N x scope f cdv A outer s H E) (fun cls d _ H => E cls d H) →
      PassesOwn (model P w) (A.deeper (PyProof.Rows.envOfC x scope s.heap.objs.size f cdv)) (PyProof.Rows.envOfC x scope s.heap.objs.size f cdv) (cxOf (L2.CX P w) P w K mg base N x scope f cdv A outer s H E).xe →
      SSs (cxOf (L2.CX P w) P w K mg base N x scope f cdv A outer s H E) (fun cls d _ H => E cls d H) bd body) : Cal P w K mg base x ps.length (runF N.length ps.length body) (k + 1) := by
  obtain ⟨fd, F⟩ := c.def_ i hd
  refine ⟨_, fd, ps, fn_okC F S (fun cdv A outer s H E hcv => hbody _ cdv A outer s H E (te.lam hx rfl rfl rfl fun c0 P0 h0 => ?_)), He.glo_ok X G (c.fact j hf), F.kp, hb F⟩
  obtain ⟨oc, od, dV, kV, doc, pm, an, cdv', ct, osl, _, lk, _, _, _⟩ := F.ex
  show cdv = .ref c0
  rw [← hcv]
  exact codT_code h0 lk
/-- the def that calls in a try -/
structure Wrd (P : Program) (w : World) (K : PySem.W.Frag) (mg : Str → Option Value) (base : Heap) (x : Str) (l : List (Str × PV)) (dflt : PV) : Prop where
  ex : ∃ (a : Str) (g : Addr) (pg : Arguments) (bg : List Stmt) (sg : Scope) (dV kV doc pm cdv ct oc : Value) (an od : Option Addr) (osl : Array (Option Value)) (Ng : List Str), mg x = some (.ref g) ∧ PySem.W.keepIn K (.ref g) = true ∧
    K.lookup g = some ⟨oc, od, .func (PySem.W.fnOf x x pg bg sg dV kV doc pm an cdv ct), osl⟩ ∧ PySem.W.codeIn K cdv x = true ∧ L2.Binds K (PySem.W.fnOf x x pg bg sg dV kV doc pm an cdv ct) [a] [] ∧ FnScope Ng [a] sg ∧ Ng[0]? = some a ∧ Vis sg a ∧
    (a == ("__debug__" : Str)) = false ∧ (a == ("__classdict__" : Str)) = false ∧ ∀ (X : Cx), X.K = K → X.mg = mg → ∀ q, LamX.GivesTo X Ng x sg g cdv bg a q (TTw K l dflt)
theorem mk_wrd {P : Program} {w : World} {K : PySem.W.Frag} {mg : Str → Option Value} {base h : Heap} {fa : List He.Fa} {fn : List He.DefD} {x a : Str} {params : Arguments} {scope : Scope} {N : List Str} {p1 p2 p3 p8 p9 : Pos} {h0 : ExceptHandler} {hds : List ExceptHandler} {l : List (Str × PV)} {rc : Expr} {dflt : PV} (X : K.In h) (G : h.Ns mainGlobals mg) (c : He.SaysD fa fn K) (i j : Nat)
    (hd : fn[i]? = some ⟨(x, none), x, x, params, [.Try [.Expr (.Call (.Name a p1) [] [] p2) p3] (h0 :: hds) [] [] p8, .Return (some rc) p9], scope, [], []⟩) (hf : fa[j]? = some (.glo x)) (S : FnScope N [a] scope)
    (hb : ∀ {f : Addr} {fd : FuncData}, FunD K x x params [.Try [.Expr (.Call (.Name a p1) [] [] p2) p3] (h0 :: hds) [] [] p8, .Return (some rc) p9] scope [] [] f fd → Binds K fd [a] [])
    (hh : HdC (h0 :: hds) l) (hl : ∀ e ∈ l, scope.names.lookup e.1 = some .globalImplicit ∧ (e.1 == ("__debug__" : Str)) = false ∧ mg e.1 = some (.ref (He.ga K e.1))) (hr : ∀ X : Cx, PE X rc (tC (vC dflt)))
    (hN0 : N[0]? = some a := by rfl) (hva : Vis scope a := by first | exact Or.inl rfl | exact Or.inr (Or.inl rfl)) (h00 : ∀ f : Addr, (L2.start N [V.ref f])[0]? = some (some (V.ref f)) := by intro f; rfl)
    (hdb : (a == ("__debug__" : Str)) = false := by decide) (hcd : (a == ("__classdict__" : Str)) = false := by decide) : Wrd P w K mg base x l dflt := by
  obtain ⟨fd, F⟩ := c.def_ i hd
  obtain ⟨oc, od, dV, kV, doc, pm, an, cdv, ct, osl, efd, lk, hcg, _, _⟩ := F.ex
  have hbn := hb F
  have lk2 := lk
  rw [efd] at hbn lk2
  exact ⟨a, _, params, _, scope, dV, kV, doc, pm, cdv, ct, oc, an, od, osl, N, He.glo_ok X G (c.fact j hf), F.kp, lk2, hcg, hbn, S, hN0, hva, hdb, hcd, fun Y hK hm q => by
    have := word_gives (X := Y) (Ng := N) (x := x) (a := a) (q := q) (sg := scope) (g := He.fAd K (x, none)) (cdg := cdv) (p1 := p1) (p2 := p2) (p3 := p3) (p8 := p8) (p9 := p9) (rc := rc) (dflt := dflt) hh (fun e he => by rw [hK, hm]; exact hl e he) hr h00
    rw [hK] at this
    exact this⟩
theorem se_lamW [Tabl] {X : Cx} {W : WX} {tb : Tb} {l : List (Str × PV)} {dflt : PV} {x : Str} {k j : Nat} {params : Arguments} {body : Expr} {scope : Scope} {f : Rho → Res RV} {p lpos pos : Pos} (le : LamE X) (Wd : Wrd X.prog X.w X.K X.mg X.base x l dflt) (TBk : TbOk X.K X.mg tb) (hr : Room j X.A)
    (hbody : ∀ (A : Around) (outer : List Env) (s : Shared) (H : Hp) (E : XK) (f' c' : Addr), Room k (A.deeper (LamX.lamEnv X scope s.heap.objs.size f' c')) → SE (LamX.lamCx X A outer s H E scope f' c') (fun cls d _ H => E cls d H) body f)
    (L : LamX.LamS X.env.scope scope) (hg : Gl X x := by rfl) (hk : k + 2 ≤ j := by decide) (hd1 : isCn dflt = true := by rfl) (hl1 : l.all (fun e => isCn e.2) = true := by rfl) (hdef : defaultsOf params X.env = ([], []) := by rfl)
    (hbind : ∀ (q : Str) (cl : List (Str × Addr)) (pm cv ctv : Value), bindArgs (PySem.W.kla_fn "<lambda>" q params body scope cl pm cv ctv) ⟨[], []⟩ = pure [] := by intros; rfl) (hdb : (x == ("__debug__" : Str)) = false := by decide) :
    SE X W (.Call (.Name x p) [.Lambda params body scope lpos] [] pos) (fLam tb l dflt f) := by
  obtain ⟨c, P, TB, hcode, hmT, hu, hT⟩ := le.ex
  obtain ⟨a, g, pg, bg, sg, dV, kV, doc, pm, cdv, ct, oc, an, od, osl, Ng, hm, hkp, lk, hcg, hb, Sg, hNg, hva, hd, hcd, hG⟩ := Wd.ex
  exact se_lam hT TBk hd1 hl1 hg hm hkp lk hcg hb Sg hNg hva (hG X rfl rfl _) TB hcode hmT hu (hr.mono hk) L hdef hbind hbody hdb hd hcd
end TT

set_option Elab.async false
set_option linter.all false
set_option maxRecDepth 100000
/-! the head with tables of code objects; the law's end -/
namespace TT
open PySem PySem.Spec L2
def asT (g : Addr → Option Obj) (n : Nat) (ms : List Str) : List Addr := (He.asD g n).filter fun a => !((csK (He.frG g (He.asD g n)) ms).map (·.2)).contains a
def tblB (g : Addr → Option Obj) (P : Addr) : Bool := match g P with
  | some ⟨.none, none, .fields vs, sl⟩ => vs.isEmpty && sl.isEmpty
  | _ => false
theorem tblB_ok {g : Addr → Option Obj} {P : Addr} (h : tblB g P = true) : g P = some { cls := .none, data := .fields #[] } := by
  unfold tblB at h
  split at h
  · rename_i vs sl e
    rw [Bool.and_eq_true] at h
    have h1 : vs = #[] := by simpa using h.1
    have h2 : sl = #[] := by simpa using h.2
    rw [e, h1, h2]
  · cases h
def okT (K : PySem.W.Frag) (ms : List Str) : Bool := ms.all (fun x => (codT K x).isSome) && ms.all fun x => ms.all fun y => decide (x = y) || !decide ((codT K x).map (·.2) = (codT K y).map (·.2))
def hdT (g : Addr → Option Obj) (K : PySem.W.Frag) (ms : List Str) : Bool := (csK K ms).all fun p => tblB g p.2 && ((K.lookup p.2).isNone && PySem.W.codeHdIn K p.1 p.2)
def obsT (n : Nat) (fa : List He.Fa) (fn pn : List He.DefD) (B : PySem.W.Frag → Bool) (ms : List Str) (g : Addr → Option Obj) : AlY :=
  (B (He.frG g (asT g n ms)) && (pn.all (fun d => prB (He.frG g (asT g n ms)) d) && (okT (He.frG g (asT g n ms)) ms && hdT g (He.frG g (asT g n ms)) ms)), He.obsD fa fn (He.frG g (asT g n ms)), pn.map fun d => prW (He.frG g (asT g n ms)) d)
def SaysT (fa : List He.Fa) (fn pn : List He.DefD) (B : PySem.W.Frag → Bool) (ms : List Str) (K : PySem.W.Frag) (h : Heap) : Prop := SaysY fa fn pn B K ∧ okT K ms = true ∧ ∀ p ∈ csK K ms, h.get? p.2 = some { cls := .none, data := .fields #[] } ∧ K.lookup p.2 = none ∧ PySem.W.codeHdIn K p.1 p.2 = true
def hookT (n : Nat) (fa : List He.Fa) (fn pn : List He.DefD) (B : PySem.W.Frag → Bool) (ms : List Str) : PySem.W.Hook where
  α := AlY
  obs := fun s => obsT n fa fn pn B ms s.heap.get?
  val := fun _ => (true, He.valD fn, pn.map He.DefD.val)
  says := fun _ h => ∃ K : PySem.W.Frag, K.In h ∧ SaysT fa fn pn B ms K h
  of := fun w s e => by
    have b1 := He.ba (congrArg (fun z : AlY => z.1) e)
    have b2 := He.ba b1.2
    have b3 := He.ba b2.2
    refine ⟨_, He.frG_in, ⟨congrArg (fun z : AlY => z.2.1) e, b1.1, b2.1, congrArg (fun z : AlY => z.2.2) e⟩, b3.1, fun p hp => ?_⟩
    have z := List.all_eq_true.mp b3.2 p hp
    have z1 := He.ba z
    have z2 := He.ba z1.2
    exact ⟨tblB_ok z1.1, by simpa using z2.1, z2.2⟩
  keeps := fun _ _ _ ⟨K, hK, c, o, t⟩ k => ⟨K, PySem.W.Frag.In.keeps hK k, c, o, fun p hp => ⟨k _ _ (t p hp).1, (t p hp).2⟩⟩
theorem obsT_eq {n : Nat} {fa : List He.Fa} {fn pn : List He.DefD} {B : PySem.W.Frag → Bool} {ms : List Str} {g : Addr → Option Obj} {s : Shared} (h : ∀ a, g a = s.heap.get? a) : obsT n fa fn pn B ms g = (hookT n fa fn pn B ms).obs s := by
  have e : g = s.heap.get? := funext h
  rw [e] <;> rfl
theorem tabE_of {K : PySem.W.Frag} {base : Heap} {mg : Str → Option Value} {ms : List Str} (ok : okT K ms = true) (tb : ∀ p ∈ csK K ms, LamX.TabB base mg p.1 p.2) : @TabE ⟨tabT K ms⟩ K base mg ms := by
  unfold okT at ok
  rw [Bool.and_eq_true, List.all_eq_true, List.all_eq_true] at ok
  refine @TabE.mk ⟨tabT K ms⟩ K base mg ms rfl (fun x hx => Option.isSome_iff_exists.mp (ok.1 x hx)) (fun x hx y hy p r hp hr e => ?_) tb
  have := List.all_eq_true.mp (ok.2 x hx) y hy
  rw [hp, hr] at this
  simp [e] at this
  exact this
theorem law_endT [Tabl] {P : Program} {w : World} {K : PySem.W.Frag} {mg : Str → Option Value} {base : Heap} {k : Nat} {f : Addr} {fd : FuncData} {ps ms : List Str} {F : Sem1} (hTT : Tabl.T = tabT K ms) (G : FnOk P w K mg base (L2.CX P w) k f fd ps (spF K mg 1 F))
    (hF : ∀ ns : List Int, ns.length ≤ 63 → ∃ as, F [.val (.scr (ns.map .int))] = .ok (.val (.bl true)) as) :
    FnOk P w K mg base CX0 k f fd ps (fun vs H Q _ => ∃ (a : Addr) (ns : List Int), vs = [.ref a] ∧ (∀ p ∈ csK K ms, H p.2 = some (.tbl #[])) ∧ SqL K H a (ns.map V.int) ∧ ns.length ≤ 63 ∧ ∀ H', Q (.bl true) H') := by
  have key : ∀ (vs : List V) (H : Hp) (Q : VK), (∃ (a : Addr) (ns : List Int), vs = [.ref a] ∧ (∀ p ∈ csK K ms, H p.2 = some (.tbl #[])) ∧ SqL K H a (ns.map V.int) ∧ ns.length ≤ 63 ∧ ∀ H', Q (.bl true) H') → spF K mg 1 F vs H Q fun _ _ _ => False := by
    rintro vs H Q ⟨a, ns, rfl, ht, hS, hl, q⟩
    obtain ⟨as, e⟩ := hF ns hl
    have hS' : SqL K (nt H) a (ns.map V.int) := by
      rcases hS with (h | ⟨o, h⟩) | h
      · exact .inl (.inl (nt_of h fun ps z => by cases z))
      · exact .inl (.inr ⟨o, nt_of h fun ps z => by cases z⟩)
      · exact .inr h
    refine ⟨rfl, ⟨K, mg, nt H, nt H, fun _ => False, fun _ => none⟩, [.val (.scr (ns.map .int))], nt H, rfl, rfl, ?_, fun a h => h.elim, ?_⟩
    · refine ⟨rfl, fun b o h => ?_, fun i d h => ?_, fun i s d h o g => ?_, fun i j b hi => ?_, fun i d h => ?_, fun b h _ => ⟨(nt_eq h).symm, rfl⟩, Zle.refl _, fun b h => h, fun p hp => ?_, nt_NT, nt_NT⟩
      · exact ((nt_eq (fun z => by rw [z] at h; cases h)).symm).trans h
      · cases i with
        | zero =>
          simp at h
          subst h
          exact ⟨.ref a, rfl, .scr hS' dn_ints⟩
        | succ i => simp at h
      · cases i with
        | zero => simp at h; subst h; cases o
        | succ i => simp at h
      · obtain ⟨s, es, os⟩ := hi
        cases i with
        | zero => simp at es; subst es; cases os
        | succ i => simp at es
      · cases i with
        | zero => simp at h
        | succ i => simp at h
      · rw [hTT] at hp
        obtain ⟨x, hx, ex⟩ := List.mem_filterMap.mp hp
        obtain ⟨r, hr, er⟩ := Option.map_eq_some_iff.mp ex
        rw [← er]
        exact LamX.TabS.nil (ht r (List.mem_filterMap.mpr ⟨x, hx, hr⟩))
    · rw [e]
      intro v Z' H' R l dn
      have dn' : Dn K Z' v (.bl true) := dn
      rw [dn'.bl_inv]
      exact q H'
  refine ⟨fun vs H Q E h => G.len vs H Q (fun _ _ _ => False) (key vs H Q h), fun A outer s H args us vs Q E hr he hb hv hs => ?_⟩
  refine codeAny_mono (G.run A outer s H args us vs Q (fun _ _ _ => False) hr he hb hv (key vs H Q hs)) fun r s' hq => ?_
  cases r with
  | ok fl => cases fl <;> exact hq
  | error e =>
    obtain ⟨_, _, _, _, _, _, _, _, _, _, _, _, z⟩ := hq
    exact z.elim
end TT

set_option Elab.async false
set_option linter.all false
set_option maxRecDepth 100000
/-! {i: j} -/
namespace TT
open PySem PySem.Spec L2
theorem upd_two {H : Hp} {p : Addr} {a b : HO} : upd (upd H p a) p b = upd H p b := by
  funext x
  unfold upd
  by_cases h : x = p
  · simp [h]
  · simp [h]
def fDct1 (i j : Int) : Rho → Res RV := fun ρ => .ok (.val (.dct [.inl i] [.int j])) ρ
theorem se_dct1 [Tabl] {X : Cx} {W : WX} {i j : Int} {n m : Nat} {p q pos : Pos} : SE X W (.Dict [some (.Constant (.int i) n p)] [.Constant (.int j) m q] pos) (fDct1 i j) :=
  se_of (pe_disp (pps_cons pe_int pe_int pps_nil) (by rfl) (by rfl) (by simp) (by simp)) fun C ρ σ Z H Q hK hm R q => by
    intro d hd
    refine ⟨upd_same, [(.inl i, .int j)], rfl, by simp, ?_⟩
    rw [upd_two]
    obtain ⟨R', zl⟩ := R.newZ (o := .dK [(.inl i, .int j)]) hd
    exact q _ _ _ R' zl (.dct (ks := [.inl i]) (xs := [.int j]) upd_same rfl (.cons (.int j) .nil))
@[simp] theorem fDct1_ap {i j : Int} {ρ : Rho} : fDct1 i j ρ = .ok (.val (.dct [.inl i] [.int j])) ρ := rfl
@[simp] theorem fLam_ap {tb : Tb} {l : List (Str × PV)} {dflt : PV} {f : Rho → Res RV} {ρ : Rho} : fLam tb l dflt f ρ = match f (hide ρ) with
  | .ok _ _ => .ok (.val dflt) ρ
  | .er x _ => (match pickH tb x.c l with
    | some d => .ok (.val d) ρ
    | none => .no)
  | .no => .no := rfl
@[simp] theorem hide_cons {s : SV} {ρ : Rho} : hide (s :: ρ) = hideS s :: hide ρ := rfl
@[simp] theorem hide_nil : hide [] = [] := rfl
@[simp] theorem hideS_val {d : PV} : hideS (.val d) = .val d := rfl
@[simp] theorem hideS_own {d : PV} : hideS (.own d) = .un := rfl
@[simp] theorem hideS_bor {d : PV} : hideS (.bor d) = .un := rfl
@[simp] theorem hideS_un : hideS .un = .un := rfl
end TT

set_option Elab.async false
set_option linter.all false
set_option maxRecDepth 100000
/-! defs that make lambdas and show lists: repr of a list of truths; the law's call with tables, no display being under way -/
namespace TT
open PySem PySem.Spec PyProof.Rows L2
/-! ### repr of a list of truths -/
def shownB (bs : List Bool) : Str := (PyData.list (bs.map PyData.bool)).shown
theorem bls_leaves : ∀ bs : List Bool, PyData.leavesShortAll 13 (bs.map PyData.bool) = true ∧ PyData.showableAll (bs.map PyData.bool) = true ∧ PyData.bulkAll (bs.map PyData.bool) = bs.length
  | [] => ⟨rfl, rfl, rfl⟩
  | b :: bs => by
    obtain ⟨h1, h2, h3⟩ := bls_leaves bs
    refine ⟨?_, ?_, ?_⟩
    · simp only [List.map_cons, PyData.leavesShortAll, PyData.leavesShort, Bool.and_eq_true]
      exact ⟨by cases b <;> decide, h1⟩
    · simp only [List.map_cons, PyData.showableAll, PyData.showable, Bool.and_eq_true]
      exact ⟨trivial, h2⟩
    · simp only [List.map_cons, PyData.bulkAll, PyData.bulk, List.length_cons]
      omega
theorem reads_bls {h : Heap} : ∀ {bs : List Bool} {its : List Value}, Vals (bs.map V.bl) its → ReadsAll h its (bs.map PyData.bool) []
  | [], _, .nil => .nil
  | b :: bs, _, .cons r t => by
    obtain rfl := r
    exact ReadsAll.cons (as := []) (bs := []) (.bool b) (reads_bls t)
theorem depth_bls : ∀ bs : List Bool, PyData.depthAll (bs.map PyData.bool) ≤ 1
  | [] => by simp [PyData.depthAll]
  | b :: bs => by
    have := depth_bls bs
    simp only [List.map_cons, PyData.depthAll, PyData.depth]
    omega
theorem noDict_bls : ∀ bs : List Bool, (PyData.list (bs.map PyData.bool)).hasDict = true → False
  | [], h => by simp [PyData.hasDict, PyData.hasDictAll] at h
  | b :: bs, h => by
    refine noDict_bls bs ?_
    simpa [PyData.hasDict, PyData.hasDictAll] using h
def rReprL (K : PySem.W.Frag) : List V → Hp → VK → Prop := fun xs H Q => ∃ (a : Addr) (bs : List Bool), xs = [.ref a] ∧ SqL K H a (bs.map V.bl) ∧ bs.length ≤ 1000 ∧ Q (.str (shownB bs)) H
theorem cr_reprL {X : Cx} {k : Nat} (hr : RoomG k X.A) : CallR X (.builtin "repr") (rReprL X.K) := by
  intro pins s σ H xs us Q I r ⟨a, bs, ex, hs, hn, q⟩
  subst ex
  rw [Vals.ref1 r]
  obtain ⟨its, rv, pl, hz⟩ := I.list hs
  obtain ⟨o, n, ho, hc, hdn, hd⟩ := pl
  obtain ⟨l1, l2, l3⟩ := bls_leaves bs
  have rd : Reads s.heap (.ref a) (.list (bs.map PyData.bool)) [a] := .list ho hc hd (by simpa using reads_bls rv)
  have hu := hr.r.units
  have hdp := depth_bls bs
  refine repr_of_reads' (h₀ := s.heap) rd (by simpa only [PyData.showable] using l2) (fun h => (noDict_bls bs h).elim) hr.gd (by simp only [PyData.depth]; omega) (fun _ _ e => e) (fun h' u tk hk => ⟨.str (shownB bs), H, I.kept (t' := tk) hk, ⟨_, rfl⟩, q⟩)
    (PyData.shown_fits_bulk (B := 13) (by decide) (by decide) (by simpa only [PyData.leavesShort] using l1) (by simp only [PyData.bulk]; rw [l3]; omega))
def pReprL (ds : List PV) : Option OV := match ds with
  | [.lst es] => (asBls es).bind fun bs => guard (decide (bs.length ≤ 1000)) (some (.val (.str (shownB bs))))
  | _ => pRepr ds
theorem bls_of2 {K : PySem.W.Frag} {Z : Hp} : ∀ {xs : List V} {ds : List PV} {bs : List Bool}, DnAll K Z xs ds → asBls ds = some bs → xs = bs.map V.bl
  | _, [], bs, h, e => by cases e; exact h.nil_inv
  | _, d :: ds, bs, h, e => by
    obtain ⟨v, vs, rfl, h1, h2⟩ := DnAll.cons_inv h
    cases d with
    | bl b =>
      unfold asBls at e
      cases e1 : asBls ds with
      | none => rw [e1] at e; cases e
      | some r =>
        rw [e1] at e
        cases e
        rw [h1.bl_inv, bls_of2 h2 e1]
        rfl
    | _ => cases e
theorem p_reprL {K : PySem.W.Frag} : OpN K (fun vs H Q => rRepr vs H Q ∨ rReprL K vs H Q) pReprL := by
  intro Z H xs ds o Q l hx ho hw
  unfold pReprL at ho
  split at ho
  · rename_i es
    obtain ⟨v, rfl, h⟩ := pk1 hx
    obtain ⟨a, ys, rfl, hs, t⟩ := h
    cases e2 : asBls es with
    | none => rw [e2] at ho; cases ho
    | some bs =>
      rw [e2] at ho
      obtain ⟨hc, ho⟩ := guard_inv ho
      cases ho
      rw [bls_of2 t e2] at hs
      exact .inr ⟨a, bs, rfl, .inl (.inl hs), of_decide_eq_true hc, hw.1 _ (.str _)⟩
  · exact .inl (p_repr Z H xs ds o Q l hx ho hw)
theorem cr_reprLA {X : Cx} {k : Nat} (hr : RoomG k X.A) : CallR X (.builtin "repr") (fun vs H Q => rRepr vs H Q ∨ rReprL X.K vs H Q) := cr_repr.or (cr_reprL hr)
/-! ### defs -/
section
variable {P : Program} {w : World} {K : PySem.W.Frag} {mg : Str → Option Value} {base : Heap} {x qual : Str} {params : Arguments} {bd : List Stmt} {scope : Scope} {f : Addr} {fd : FuncData} {N ps : List Str} {k : Nat}
theorem fn_okGC [Tabl] {body : Rho → Res Fl} (F : FunD K x qual params bd scope [] [] f fd) (S : FnScope N ps scope)
    (hbody : ∀ (cdv : Value) (A : Around) (outer : List Env) (s : Shared) (H : Hp) (E : XK), fd.code = cdv → RoomG k (A.deeper (PyProof.Rows.envOfC qual scope s.heap.objs.size f cdv)) → Takes (cxOf (L2.CX P w) P w K mg base N qual scope f cdv A outer s H E) (fun cls d _ H => E cls d H) →
      PassesOwn (model P w) (A.deeper (PyProof.Rows.envOfC qual scope s.heap.objs.size f cdv)) (PyProof.Rows.envOfC qual scope s.heap.objs.size f cdv) (cxOf (L2.CX P w) P w K mg base N qual scope f cdv A outer s H E).xe →
      SSs (cxOf (L2.CX P w) P w K mg base N qual scope f cdv A outer s H E) (fun cls d _ H => E cls d H) bd body) : FnOkG P w K mg base (L2.CX P w) (k + 1) f fd ps (spF K mg ps.length (runF N.length ps.length body)) := by
  refine ⟨fun vs H Q E h => h.1, fun A outer s H args us vs Q E hr e0 hb r hsp => ?_⟩
  obtain ⟨oc, od, dV, kV, doc, pm, an, cdv, ct, osl, rfl, lk, hcd, _, _⟩ := F.ex
  have KX : K.In s.heap := e0.mod.kin.keeps fun b o e => (e0.bs b o e).1
  have lim : s.heap.NoLimit := e0.mod.nolimit.keeps fun b o e => (e0.bs b o e).1
  refine codeAny_call_function hr.r.depth (KX _ _ lk) rfl S.co S.gen rfl (PySem.W.codeRec_of KX hcd) (hb _ _ _ _ ?_)
  refine wpAny_newFunctionEnv_cells S.kind (fun ⟨n, v⟩ hy => (S.par n (List.of_mem_zip hy).1).imp id fun q => ⟨q, PySem.W.cellsFrom_some _ _ _ (.inl q)⟩) fun env he s1 y => ?_
  subst he
  refine ⟨lim.keeps y.toInCall.keep, codeAny_func ?_⟩
  have st := hbody cdv A outer s H E rfl (hr.deeper _) (takes_of rfl rfl rfl rfl) (passes_of rfl)
  have I := inv_start (CX := L2.CX P w) (E := E) S hr.r.hd e0 hsp.1 r y
  refine wpAny_mono (st.run [] s1 (start N vs) H _ I (body_begins hsp)) (fun fl s' hs => ?_) fun e s' hs => hs
  have := body_end hs
  cases fl with
  | ret u => exact this
  | next => exact this
  | brk => obtain ⟨_, _, _, q⟩ := hs; exact q.elim
  | cont => obtain ⟨_, _, _, q⟩ := hs; exact q.elim
theorem mk_calGT [Tabl] {h : Heap} {fa : List He.Fa} {fn : List He.DefD} {ms : List Str} {body : Rho → Res Fl} (te : TabE K base mg ms) (hx : x ∈ ms) (X : K.In h) (G : h.Ns mainGlobals mg) (c : He.SaysD fa fn K) (i j : Nat)
    (hd : fn[i]? = some ⟨(x, none), x, x, params, bd, scope, [], []⟩) (hf : fa[j]? = some (.glo x)) (S : FnScope N ps scope)
    (hb : ∀ {f : Addr} {fd : FuncData}, FunD K x x params bd scope [] [] f fd → Binds K fd ps [])
    (hbody : ∀ (f : Addr) (cdv : Value) (A : Around) (outer : List Env) (s : Shared) (H : Hp) (E : XK), LamE (cxOf (L2.CX P w) P w K mg base N x scope f cdv A outer s H E) → RoomG k (A.deeper (PyProof.Rows.envOfC x scope s.heap.objs.size f cdv)) → Takes (cxOf (L2.CX P w) P w K mg base N x scope f cdv A outer s H E) (fun cls d _ H => E cls d H) →
      PassesOwn (model P w) (A.deeper (PyProof.Rows.envOfC x scope s.heap.objs.size f cdv)) (PyProof.Rows.envOfC x scope s.heap.objs.size f cdv) (cxOf (L2.CX P w) P w K mg base N x scope f cdv A outer s H E).xe →
      SSs (cxOf (L2.CX P w) P w K mg base N x scope f cdv A outer s H E) (fun cls d _ H => E cls d H) bd body) : CalG P w K mg base x ps.length (runF N.length ps.length body) (k + 1) := by
  obtain ⟨fd, F⟩ := c.def_ i hd
  refine ⟨_, fd, ps, fn_okGC F S (fun cdv A outer s H E hcv => hbody _ cdv A outer s H E (te.lam hx rfl rfl rfl fun c0 P0 h0 => ?_)), He.glo_ok X G (c.fact j hf), F.kp, hb F⟩
  obtain ⟨oc, od, dV, kV, doc, pm, an, cdv', ct, osl, _, lk, _, _, _⟩ := F.ex
  show cdv = .ref c0
  rw [← hcv]
  exact codT_code h0 lk
end
end TT

set_option Elab.async false
set_option linter.all false
set_option maxRecDepth 100000
/-! the law's end and call, with tables, no display being under way -/
namespace TT
open PySem PySem.Spec PyProof.Rows L2
theorem law_endTG [Tabl] {P : Program} {w : World} {K : PySem.W.Frag} {mg : Str → Option Value} {base : Heap} {k : Nat} {f : Addr} {fd : FuncData} {ps ms : List Str} {F : Sem1} (hTT : Tabl.T = tabT K ms) (G : FnOkG P w K mg base (L2.CX P w) k f fd ps (spF K mg 1 F))
    (hF : ∀ ns : List Int, ns.length ≤ 63 → ∃ as, F [.val (.scr (ns.map .int))] = .ok (.val (.bl true)) as) :
    FnOkG P w K mg base CX0 k f fd ps (fun vs H Q _ => ∃ (a : Addr) (ns : List Int), vs = [.ref a] ∧ (∀ p ∈ csK K ms, H p.2 = some (.tbl #[])) ∧ SqL K H a (ns.map V.int) ∧ ns.length ≤ 63 ∧ ∀ H', Q (.bl true) H') := by
  have key : ∀ (vs : List V) (H : Hp) (Q : VK), (∃ (a : Addr) (ns : List Int), vs = [.ref a] ∧ (∀ p ∈ csK K ms, H p.2 = some (.tbl #[])) ∧ SqL K H a (ns.map V.int) ∧ ns.length ≤ 63 ∧ ∀ H', Q (.bl true) H') → spF K mg 1 F vs H Q fun _ _ _ => False := by
    rintro vs H Q ⟨a, ns, rfl, ht, hS, hl, q⟩
    obtain ⟨as, e⟩ := hF ns hl
    have hS' : SqL K (nt H) a (ns.map V.int) := by
      rcases hS with (h | ⟨o, h⟩) | h
      · exact .inl (.inl (nt_of h fun ps z => by cases z))
      · exact .inl (.inr ⟨o, nt_of h fun ps z => by cases z⟩)
      · exact .inr h
    refine ⟨rfl, ⟨K, mg, nt H, nt H, fun _ => False, fun _ => none⟩, [.val (.scr (ns.map .int))], nt H, rfl, rfl, ?_, fun a h => h.elim, ?_⟩
    · refine ⟨rfl, fun b o h => ?_, fun i d h => ?_, fun i s d h o g => ?_, fun i j b hi => ?_, fun i d h => ?_, fun b h _ => ⟨(nt_eq h).symm, rfl⟩, Zle.refl _, fun b h => h, fun p hp => ?_, nt_NT, nt_NT⟩
      · exact ((nt_eq (fun z => by rw [z] at h; cases h)).symm).trans h
      · cases i with
        | zero =>
          simp at h
          subst h
          exact ⟨.ref a, rfl, .scr hS' dn_ints⟩
        | succ i => simp at h
      · cases i with
        | zero => simp at h; subst h; cases o
        | succ i => simp at h
      · obtain ⟨s, es, os⟩ := hi
        cases i with
        | zero => simp at es; subst es; cases os
        | succ i => simp at es
      · cases i with
        | zero => simp at h
        | succ i => simp at h
      · rw [hTT] at hp
        obtain ⟨x, hx, ex⟩ := List.mem_filterMap.mp hp
        obtain ⟨r, hr, er⟩ := Option.map_eq_some_iff.mp ex
        rw [← er]
        exact LamX.TabS.nil (ht r (List.mem_filterMap.mpr ⟨x, hx, hr⟩))
    · rw [e]
      intro v Z' H' R l dn
      have dn' : Dn K Z' v (.bl true) := dn
      rw [dn'.bl_inv]
      exact q H'
  refine ⟨fun vs H Q E h => G.len vs H Q (fun _ _ _ => False) (key vs H Q h), fun A outer s H args us vs Q E hr he hb hv hs => ?_⟩
  refine codeAny_mono (G.run A outer s H args us vs Q (fun _ _ _ => False) hr he hb hv (key vs H Q hs)) fun r s' hq => ?_
  cases r with
  | ok fl => cases fl <;> exact hq
  | error e =>
    obtain ⟨_, _, _, _, _, _, _, _, _, _, _, _, z⟩ := hq
    exact z.elim
section
variable {P : Program} {w : World} {K : PySem.W.Frag} {mg mb : Str → Option Value} {fa a : Addr} {s₁ : Shared} {vs : List Value} {ns : List Int} {cs : List (Addr × Addr)}
/-- what is tracked at the law's call: the script (if it isn't the head's) and the tables -/
structure TrkAt (P : Program) (w : World) (K : PySem.W.Frag) (s₁ : Shared) (a : Addr) (o : Obj) (xs : List V) (tb : List Addr) (H : Hp) : Prop where
  only : ∀ b, H b = none ∨ (b ∈ tb ∧ H b = some (.tbl #[])) ∨ (b = a ∧ K.lookup a = none ∧ H b = some (.frz o (.lst xs)))
  tbl : ∀ b ∈ tb, H b = some (.tbl #[])
  sq : SqL K H a xs
  hok : HOk P w H s₁.heap
theorem trk_at {tb : List Addr} (KX : K.In s₁.heap) (ht : ∀ b ∈ tb, s₁.heap.get? b = some { cls := .none, data := .fields #[] }) (ha : s₁.heap.get? a = some { cls := .type "list", data := .seq vs.toArray }) (hi : IntsAre vs ns) (hl : ns.length ≤ sizeLine) : ∃ H, TrkAt P w K s₁ a { cls := .type "list", data := .seq vs.toArray } (ns.map V.int) tb H := by
  have rv := vals_ints hi
  have lenV := hi.length
  have na : a ∉ tb := fun z => by
    have q := ht a z
    rw [ha] at q
    have z' : Data.seq vs.toArray _ = Data.fields #[] := congrArg Obj.data (Option.some.inj q)
    cases z'
  by_cases hk : K.lookup a = none
  · refine ⟨fun b => if b ∈ tb then some (.tbl #[]) else if b = a then some (.frz { cls := .type "list", data := .seq vs.toArray } (.lst (ns.map V.int))) else none, fun b => ?_, fun b hb => if_pos hb, .inl (.inr ⟨_, (if_neg na).trans (if_pos rfl)⟩), fun b u z => ?_⟩
    · by_cases hb : b ∈ tb
      · exact .inr (.inl ⟨hb, if_pos hb⟩)
      · by_cases e : b = a
        · subst e; exact .inr (.inr ⟨rfl, hk, (if_neg hb).trans (if_pos rfl)⟩)
        · exact .inl ((if_neg hb).trans (if_neg e))
    · by_cases hb : b ∈ tb
      · cases (if_pos hb).symm.trans z
        exact ht b hb
      · by_cases e : b = a
        · subst e
          cases ((if_neg hb).trans (if_pos rfl)).symm.trans z
          exact ⟨ha, by rw [List.length_map]; exact hl, vs, _, rv, ha⟩
        · cases ((if_neg hb).trans (if_neg e)).symm.trans z
  · obtain ⟨o, ho⟩ := Option.ne_none_iff_exists'.mp hk
    have e := KX a o ho
    rw [ha] at e
    cases e
    refine ⟨fun b => if b ∈ tb then some (.tbl #[]) else none, fun b => ?_, fun b hb => if_pos hb, .inr ⟨_, vs.toArray, _, ho, rfl, rfl, rfl, by rw [List.size_toArray, lenV]; exact hl, by simpa using rv⟩, fun b u z => ?_⟩
    · by_cases hb : b ∈ tb
      · exact .inr (.inl ⟨hb, if_pos hb⟩)
      · exact .inl (if_neg hb)
    · by_cases hb : b ∈ tb
      · cases (if_pos hb).symm.trans z
        exact ht b hb
      · cases (if_neg hb).symm.trans z
theorem TrkAt.no {o : Obj} {xs : List V} {tb : List Addr} {H : Hp} (S : TrkAt P w K s₁ a o xs tb H) {b : Addr} (h : b = a → K.lookup a ≠ none) (ht : b ∉ tb) : H b = none := by
  rcases S.only b with q | ⟨q, _⟩ | ⟨e, q, _⟩
  · exact q
  · exact absurd q ht
  · exact absurd q (h e)
/-- an object that is neither a list nor an empty table stands in the base -/
theorem TrkAt.base {xs : List V} {tb : List Addr} {H : Hp} (S : TrkAt P w K s₁ a { cls := .type "list", data := .seq vs.toArray } xs tb H) (ht : ∀ b ∈ tb, s₁.heap.get? b = some { cls := .none, data := .fields #[] }) (ha : s₁.heap.get? a = some { cls := .type "list", data := .seq vs.toArray })
    {b : Addr} {u : Obj} (e : s₁.heap.get? b = some u) (h1 : ∀ us m, u.data ≠ .seq us m) (h2 : u.data ≠ .fields #[]) : (hidT s₁.heap H).get? b = some u := by
  refine hidT_get e ?_
  rcases S.only b with q | ⟨q, _⟩ | ⟨q, _⟩
  · exact q
  · rw [ht b q] at e
    cases e
    exact absurd rfl h2
  · rw [q, ha] at e
    cases e
    exact absurd rfl (h1 _ _)
theorem law_callTG {CX : CXT} {k : Nat} {fd : FuncData} {x : Str} {sp : Sp} (KX : K.In s₁.heap) (hns : s₁.heap.Ns mainGlobals mg) (hb : s₁.heap.Ns builtinsNs mb) (hbb : ∀ x : Str, x ≠ "__name__" → mb x = bootBuiltins x) (hlim : s₁.heap.NoLimit) (hg : s₁.gens = #[])
    (hT : ∀ p ∈ cs, s₁.heap.get? p.2 = some { cls := .none, data := .fields #[] }) (nT : ∀ p ∈ cs, K.lookup p.2 = none) (C : ∀ p ∈ cs, PySem.W.CodeHd s₁.heap p.1 p.2)
    (hbm : ∃ (bm : Addr) (ob : Obj), mg "__builtins__" = some (.ref bm) ∧ bm ≠ builtinsNs ∧ s₁.heap.get? bm = some ob ∧ ob.cls = .type "module" ∧ ob.dict = some builtinsNs ∧ ob.data = .plain)
    (ha : s₁.heap.get? a = some { cls := .type "list", data := .seq vs.toArray }) (hi : IntsAre vs ns) (hl : ns.length ≤ sizeLine) (hr : RoomG k callerA)
    (F : ∀ base : Heap, K.In base → base.Ns mainGlobals mg → (∀ p ∈ cs, LamX.TabB base mg p.1 p.2) → FnOkG P w K mg base CX k fa fd [x] sp) (hbind : ∀ (s : Shared) (u : Value), BindsTo s fd ⟨[u], []⟩ [(x, u)])
    (hsp : ∀ H : Hp, (∀ p ∈ cs, H p.2 = some (.tbl #[])) → SqL K H a (ns.map V.int) → sp [.ref a] H (fun v _ => v = .bl true) fun _ _ _ => False)
    (hCX : ∀ H e s', CX [] H s₁ (fun _ _ _ => False) e s' → False) :
    codeAny (model P w) callerA (.call (.ref fa) ⟨[.ref a], []⟩) (fun r s' => r = .ok (.ret (.bool true)) ∧ OldK s₁.heap s'.heap ∧ s'.os = s₁.os ∧ AllBare s'.gens) s₁ := by
  have ht : ∀ b ∈ cs.map (·.2), s₁.heap.get? b = some { cls := .none, data := .fields #[] } := fun b hb => by
    obtain ⟨p, hp, rfl⟩ := List.mem_map.mp hb
    exact hT p hp
  have inT : ∀ p ∈ cs, p.2 ∈ cs.map (·.2) := fun p hp => List.mem_map.mpr ⟨p, hp, rfl⟩
  obtain ⟨H, S⟩ := trk_at (P := P) (w := w) (tb := cs.map (·.2)) KX ht ha hi hl
  have there : ∀ {b : Addr} {u : Obj}, s₁.heap.get? b = some u → (∀ us m, u.data ≠ .seq us m) → u.data ≠ .fields #[] → (hidT s₁.heap H).get? b = some u := fun e h1 h2 => S.base ht ha e h1 h2
  have kin : K.In (hidT s₁.heap H) := fun b o e => hidT_get (KX b o e) (S.no (fun z => by rw [← z, e]; exact Option.some_ne_none _) fun z => by
    obtain ⟨p, hp, rfl⟩ := List.mem_map.mp z
    rw [nT p hp] at e
    cases e)
  have isD : ∀ {b : Addr} {m : Str → Option Value}, s₁.heap.Ns b m → (hidT s₁.heap H).Ns b m := fun {b m} ⟨o, es, ep, e, d, r⟩ =>
    ⟨o, es, ep, there e (fun us n z => by rw [d] at z; cases z) (fun z => by rw [d] at z; cases z), d, r⟩
  have md : Mod K mg (hidT s₁.heap H) := ⟨kin, isD hns, ⟨mb, isD hb, hbb⟩, hlim.imp fun m h => ⟨isD h.1, h.2⟩⟩
  have notT : ∀ {b : Addr} {u : Obj}, s₁.heap.get? b = some u → u.data ≠ .fields #[] → ∀ p ∈ cs, b ≠ p.2 := fun e h p hp z => by
    rw [z, hT p hp] at e
    cases e
    exact h rfl
  have TB : ∀ p ∈ cs, LamX.TabB (hidT s₁.heap H) mg p.1 p.2 := fun p hp => by
    obtain ⟨o, us, file, tf, flags, tg, inF, text, tt, e1, r1, r2, r3, rest⟩ := C p hp
    obtain ⟨bm, ob, b1, b2, b3, b4, b5, b6⟩ := hbm
    obtain ⟨og, es, ep, eg, dg, _⟩ := id hns
    have ngb : bm ≠ mainGlobals := fun q => by
      rw [q, eg] at b3
      cases b3
      rw [dg] at b6
      cases b6
    have hob : ob.data ≠ .fields #[] := fun z => by rw [b6] at z; cases z
    refine ⟨⟨o, us, file, tf, flags, tg, inF, text, tt, there e1 (fun ws n z => by rw [r2] at z; cases z) (fun z => ?_), r1, r2, r3, rest⟩, ⟨bm, ob, b1, b2, ngb, notT b3 hob p hp, there b3 (fun ws n z => by rw [b6] at z; cases z) hob, b4, b5, b6⟩, fun z => ?_⟩
    · rw [r2] at z
      cases z
      simp at r3
    · exact notT eg (fun q => by rw [dg] at q; cases q) p hp z
  have noF : ∀ b ∈ frs ([] : List Env), H b = none := fun b h => absurd (show b ∈ ([] : List Addr) from h) (by simp)
  have e0 : Env0 P w K mg (hidT s₁.heap H) callerA [] s₁ H := ⟨rfl, md, fun b o e => of_hidT e, Nat.le_of_eq (hidT_size _ _), trivial, noF, S.hok, .of_eq hg⟩
  have run := (F _ kin (isD hns) TB).run callerA [] s₁ H ⟨[.ref a], []⟩ [.ref a] [.ref a] _ _ hr e0 (hbind s₁ (.ref a)) (.cons rfl .nil) (hsp H (fun p hp => S.tbl _ (inT p hp)) S.sq)
  refine codeAny_mono run fun r s' h => ?_
  match r, h with
  | .error e, h => exact (hCX H e s' h).elim
  | .ok .next, h => exact False.elim h
  | .ok .brk, h => exact False.elim h
  | .ok .cont, h => exact False.elim h
  | .ok (.ret u), ⟨v, H', os, bare, un, hok', rv, q⟩ =>
    cases (show v = .bl true from q)
    cases (show u = Value.bool true from rv)
    have same : ∀ b o, b ∉ cs.map (·.2) → s₁.heap.get? b = some o → s'.heap.get? b = some o := fun b o nb e => by
      rcases S.only b with q | ⟨q, _⟩ | ⟨_, _, q⟩
      · exact un.keep b o e q (fun z => absurd (show b ∈ ([] : List Addr) from z) (by simp)) (by simp)
      · exact absurd q nb
      · have e1 := (S.hok b _ q).1
        have e2 := (hok' b _ (un.frzs b _ _ q)).1
        rw [e] at e1
        cases e1
        exact e2
    have grown : ∀ p ∈ cs, ∃ more : Array Value, s'.heap.get? p.2 = some { cls := .none, data := .fields more } := fun p hp => by
      obtain ⟨more, z⟩ := un.tbls p.2 #[] (S.tbl _ (inT p hp))
      exact ⟨_, hok' p.2 _ z⟩
    refine ⟨rfl, ⟨fun b o e => ?_, fun b o e => ?_⟩, os, bare⟩
    · by_cases hb : b ∈ cs.map (·.2)
      · obtain ⟨p, hp, rfl⟩ := List.mem_map.mp hb
        obtain ⟨more, hm⟩ := grown p hp
        rw [hT p hp] at e
        cases e
        exact .inr (.inl ⟨((C p hp).tab (hT p hp)).isCodeTable, rfl, #[], more, rfl, by rw [Array.empty_append]; exact hm⟩)
      · exact .inl (same b o hb e)
    · by_cases hb : b ∈ cs.map (·.2)
      · obtain ⟨p, hp, rfl⟩ := List.mem_map.mp hb
        obtain ⟨more, hm⟩ := grown p hp
        exact ⟨_, hm⟩
      · exact ⟨o, same b o hb e⟩
end
/-- the goal that the head leaves -/
theorem walk_ofTG {l : PySem.W.OpenLaw} {n k : Nat} {q : Program} {loose : List Str} {XP : (Str → Option Value) → Heap → Prop} {YP : World → Heap → Prop} {d : DefRec} {CX : CXT} {x : Str}
    (hn : l.most = some n) (hn2 : n ≤ sizeLine) (hdf : d.params.defaults = []) (hr : RoomG k callerA)
    (F : ∀ (w : World) (mg : Str → Option Value) (fa : Addr) (h : Heap), YP w h → h.Ns mainGlobals mg → mg d.name = some (.ref fa) →
      ∃ (K : PySem.W.Frag) (fd : FuncData) (sp : Sp) (cs : List (Addr × Addr)), K.In h ∧ (∀ (s : Shared) (u : Value), BindsTo s fd ⟨[u], []⟩ [(x, u)]) ∧ (∀ p ∈ cs, h.get? p.2 = some { cls := .none, data := .fields #[] } ∧ K.lookup p.2 = none ∧ PySem.W.CodeHd h p.1 p.2) ∧
        (∀ (H : Hp) (a : Addr) (ns : List Int), ns.length ≤ n → (∀ p ∈ cs, H p.2 = some (.tbl #[])) → SqL K H a (ns.map V.int) → sp [.ref a] H (fun v _ => v = .bl true) fun _ _ _ => False) ∧
        ∀ base : Heap, K.In base → base.Ns mainGlobals mg → (∀ p ∈ cs, LamX.TabB base mg p.1 p.2) → FnOkG l.prog w K mg base CX k fa fd [x] sp)
    (hCX : ∀ (H : Hp) (s : Shared) (e : Value) (s' : Shared), CX [] H s (fun _ _ _ => False) e s' → False) :
    PySem.W.WalkO q loose XP YP l.row.toRowW d [] (fun f vs => PySem.call f vs) := by
  refine Att.attach_call hn hdf fun w s₀ s₁ mg mb fa o pm cd doc a vs ns G Y ho hd hcd hmg hobj hints hlen hg => ?_
  obtain ⟨K, fd, sp, cs, KX, hb, hc, hsp, hF⟩ := F w mg fa _ Y G.T.g hmg
  exact law_callTG KX G.T.g G.T.b G.T.builtins G.T.nolimit hg (fun p hp => (hc p hp).1) (fun p hp => (hc p hp).2.1) (fun p hp => (hc p hp).2.2) G.T.bmain hobj hints (Nat.le_trans hlen hn2) hr hF hb (fun H ht hS => hsp H a ns hlen ht hS) fun H e s' => hCX H s₁ e s'
end TT

set_option Elab.async false
set_option linter.all false
set_option maxRecDepth 100000
/-! an object made, by a constructor that may raise -/
namespace TT
open PySem PySem.Spec L2
def outKE (r : Res RV) (ρ : Rho) : Res RV := match r with
  | .er x _ => .er x ρ
  | r => outK r ρ
def fMakeE (c : Str) (n : Nat) (F : Sem1) (fl : Rho → Res (List RV)) : Rho → Res RV := fun ρ => (fl ρ).bind fun rs ρ1 => match asVals rs with
  | some as => if as.length + 1 = n then outKE (F (.bor (.obj c []) :: as)) ρ1 else .no
  | none => .no
section
variable {X : Cx} {E : XK} {e : Expr} {es : List Expr} {g : Rho → Res RV} {fl : Rho → Res (List RV)} {c : Str} {p pos : Pos} {k n j : Nat} {F : Sem1}
theorem se_makeE [Tabl] (tk : Takes X (fun cls d _ H => E cls d H)) (m : MkC X.prog X.w X.K X.mg X.base c n F k) (hr : Room j X.A) (ha : SA X (fun cls d _ H => E cls d H) (e :: es) fl) (hg : Gl X c := by rfl) (hk : k + 1 ≤ j := by decide) (hdb : (c == ("__debug__" : Str)) = false := by decide)
    (he : starEach (e :: es) X.env = (false, eval e X.env) :: starEach es X.env := by rfl) (hpl : (backTo pos (starEach es X.env)).any (·.1) = false := by rfl) : SE X (fun cls d _ H => E cls d H) (.Call (.Name c p) (e :: es) [] pos) (fMakeE c n F fl) := by
  obtain ⟨ga, fd, ps, M, G, hb, hmg⟩ := m.ex
  refine se_of (pe_make M G (hr.mono hk) hg hmg hb .nil (passes_call (E := E) tk fun _ _ _ _ h => h) ha hdb he hpl) fun C ρ σ Z H Q hK hm R q => ?_
  show TAr X.K X.mg (fun cls d _ H => E cls d H) fl σ H fun vs H1 => ∀ (x dx : Addr), H1 x = none → H1 dx = none → dx ≠ x → spF X.K X.mg n F (.ref x :: (vs ++ [])) (upd (upd H1 dx (.own x)) x (.ins (He.ga X.K c) dx [])) (fun v H2 => v = .non ∧ Q (.ref x) H2) E
  rw [← hK, ← hm]
  refine ta_bind (P := fun r => Aft C (fun cls d _ H => E cls d H) σ Z r Q) R q (fun _ _ h => h) (fun h => h) fun rs ρ1 vs Z1 H1 R1 l1 d1 q => ?_
  rw [List.append_nil]
  intro x dx hx hdx hne
  cases e1 : asVals rs with
  | none => rw [e1] at q; exact q.elim
  | some as =>
    rw [e1] at q
    simp only at q
    by_cases hn : as.length + 1 = n
    · rw [if_pos hn] at q
      obtain ⟨hl, hv⟩ := asVals_dn d1 e1
      have hx1 : upd H1 dx (.own x) x = none := by rw [upd_ne (Ne.symm hne)]; exact hx
      have R2 := (R1.new (o := .own x) hdx).new (o := .ins (He.ga C.K c) dx []) hx1
      have hxo : ∀ i, isObj ρ1 i → σ[i]? ≠ some (some (.ref x)) := fun i hi ei => by
        obtain ⟨b, d', e', _, ob, _⟩ := R1.objA hi
        rw [ei] at e'; cases e'
        exact ob.there hx
      have hzx : Z1 x = none := (R1.fresh hx).1
      have h0x := (R1.fresh hx).2
      have ob : Ob C.K Z1 (upd (upd H1 dx (.own x)) x (.ins (He.ga C.K c) dx [])) x (.obj c []) := ⟨dx, [], [], [], upd_same, rfl, rfl, .nil⟩
      have Rc := R2.callB hzx ob hl hv
      refine ⟨by simp; omega, C.call Z1 _ (some x), .bor (.obj c []) :: as, Z1, rfl, rfl, Rc, (fun a h => ⟨0, _, rfl, h⟩), ?_⟩
      cases e2 : F (.bor (.obj c []) :: as) with
      | no => rw [e2] at q; exact q.elim
      | er y as' =>
        rw [e2] at q
        exact fun cls d Z' H' R' l hx' => q cls d Z' H' (R2.backN hxo h0x R') (l1.trans l) hx'
      | ok r as' =>
        rw [e2] at q
        intro v Z' H' R' l dn
        cases r with
        | ali i => exact q.elim
        | own d => exact q.elim
        | val d =>
          cases d with
          | non =>
            match as', q, R' with
            | .bor (.obj c' fs) :: as'', q, R' =>
              have dn' : Dn C.K Z' v .non := dn
              refine ⟨dn'.non_inv, ?_⟩
              obtain ⟨b, hb, hz', ob', _⟩ := R'.obj 0 (.bor (.obj c' fs)) (.obj c' fs) rfl rfl rfl
              cases hb
              obtain ⟨Z3, R3, l3, dn3⟩ := (R2.backN hxo h0x R').freeze hz' ob' (.inl h0x) hxo
              exact q (.ref x) Z3 H' R3 (l1.trans (l.trans l3)) dn3
            | [], q, _ => exact q.elim
            | .un :: _, q, _ => exact q.elim
            | .val _ :: _, q, _ => exact q.elim
            | .own _ :: _, q, _ => exact q.elim
            | .bor .non :: _, q, _ => exact q.elim
            | .bor (.bl _) :: _, q, _ => exact q.elim
            | .bor (.int _) :: _, q, _ => exact q.elim
            | .bor (.str _) :: _, q, _ => exact q.elim
            | .bor (.tup _) :: _, q, _ => exact q.elim
            | .bor (.lst _) :: _, q, _ => exact q.elim
            | .bor (.scr _) :: _, q, _ => exact q.elim
          | _ => exact q.elim
    · rw [if_neg hn] at q; exact q.elim

end
@[simp] theorem outX_some {as : List SV} {x : EX} : outX (some as) x = .er x as := rfl
@[simp] theorem outKE_er {as : List SV} {x : EX} {ρ : Rho} : outKE (.er x as) ρ = .er x ρ := rfl
@[simp] theorem outKE_ok {c : Str} {fs : List (Str × PV)} {as : List SV} {ρ : Rho} : outKE (.ok (.val .non) (.bor (.obj c fs) :: as)) ρ = .ok (.val (.obj c fs)) ρ := rfl
@[simp] theorem fMakeE_ap {c : Str} {n : Nat} {F : Sem1} {fl : Rho → Res (List RV)} {ρ : Rho} : fMakeE c n F fl ρ = (fl ρ).bind fun rs ρ1 => match asVals rs with
  | some as => if as.length + 1 = n then outKE (F (.bor (.obj c []) :: as)) ρ1 else .no
  | none => .no := rfl
end TT

set_option Elab.async false
set_option linter.all false
set_option maxRecDepth 100000
/-! texts: iteration, list(text), ''.join(xs) -/
namespace TT
open PySem PySem.Spec L2
def signs (x : Str) : List Str := x.cps.toList.map fun c => ⟨#[c]⟩
def fItS (f : Rho → Res RV) : Rho → Res (List PV) := fun ρ => (fV f ρ).bind fun r ρ1 => match r with
  | .val (.str x) => .ok ((signs x).map .str) ρ1
  | _ => .no
theorem walks_S {K : PySem.W.Frag} {Z : Hp} {x : Str} : Walks K Z (Its x) ((signs x).map .str) := fun Z' H' l1 l2 => by
  refine ⟨by show x.cps.size ≤ _; simp [signs], fun i d hd => ?_⟩
  rw [List.getElem?_map] at hd
  obtain ⟨y, hy, rfl⟩ := Option.map_eq_some_iff.mp hd
  unfold signs at hy
  rw [List.getElem?_map, Array.getElem?_toList] at hy
  obtain ⟨c, hc, rfl⟩ := Option.map_eq_some_iff.mp hy
  refine ⟨(Array.getElem?_eq_some_iff.mp hc).1, fun v H'' hy2 => ?_⟩
  obtain ⟨e1, c', hc', e2⟩ := hy2
  rw [hc] at hc'
  cases hc'
  exact .inl ⟨e1, by rw [e2]; exact .str _⟩
section
variable {X : Cx} {W : WX} {tg e : Expr} {f : Rho → Res RV}
theorem si_str [Tabl] (he : SE X W e f) : SI X W tg e (fItS f) :=
  si_of (pi_str (se_v he)) fun C ρ σ Z H Q hK hm R q => by
    show TF X.K X.mg W (fV f) σ H _
    rw [← hK, ← hm]
    refine tf_bind (P := fun r => AftI C W σ Z r Q) R q (fun _ _ h => h) (fun h => h) fun r ρ1 v Z1 H1 R1 l dn q => ?_
    cases r with
    | own d => exact q.elim
    | ali j => exact q.elim
    | val d =>
      have dn' : Dn C.K Z1 v d := dn
      cases d with
      | str x =>
        rw [dn'.str_inv]
        exact ⟨x, rfl, q _ Z1 H1 R1 l walks_S⟩
      | _ => exact q.elim
@[simp] theorem fItS_ap {ρ : Rho} : fItS f ρ = (fV f ρ).bind fun r ρ1 => match r with
  | .val (.str x) => .ok ((signs x).map .str) ρ1
  | _ => .no := rfl
end
/-! list(text) -/
def rListS : List V → Hp → VK → Prop := fun vs H Q => ∃ x : Str, vs = [.str x] ∧ x.cps.size ≤ 1000 ∧ ∀ l, H l = none → Q (.ref l) (upd H l (.lst ((signs x).map V.str)))
theorem cr_listS {X : Cx} (hc : X.calm = true) : CallR X (.type "list") rListS := by
  intro pins s σ H xs us Q I r h
  obtain ⟨x, rfl, hn, q⟩ := h
  obtain ⟨u, rfl, rx⟩ := vals1 r
  obtain ⟨t, rfl⟩ := rx
  have hz : x.cps.size ≤ sizeLine := by rw [sizeLine_eq]; omega
  refine call_list_str (I.ok.hd hc) x t (fun h' tk acc c' hk ha hit => ?_) hz
  have rv : Vals ((signs x).map V.str) acc.toList := by
    have hsz : acc.size = x.cps.size := hit.1
    have go : ∀ (n : Nat), n ≤ x.cps.size → Vals (((signs x).map V.str).take n) (acc.toList.take n) := by
      intro n
      induction n with
      | zero => intro _; simp; exact .nil
      | succ n ih =>
        intro hn'
        have hlt : n < x.cps.size := by omega
        obtain ⟨c, u, hcx, hv⟩ := hit.2 n acc[n] (by simp [hsz, hlt])
        have e1 : ((signs x).map V.str)[n]? = some (V.str ⟨#[c]⟩) := by
          unfold signs
          rw [List.getElem?_map, List.getElem?_map, Array.getElem?_toList, hcx]
          rfl
        have e2 : acc.toList[n]? = some (.str ⟨#[c]⟩ u) := by
          rw [Array.getElem?_toList, Array.getElem?_eq_getElem (by omega)]
          exact congrArg some hv
        rw [List.take_succ, List.take_succ, e1, e2]
        exact (ih (by omega)).append (.cons ⟨u, rfl⟩ .nil)
    have h := go x.cps.size (Nat.le_refl _)
    rw [List.take_of_length_le (by simp [signs]), List.take_of_length_le (by simp [hsz])] at h
    exact h
  exact ⟨.ref s.heap.objs.size, upd H s.heap.objs.size (.lst ((signs x).map V.str)), I.laid (t' := tk) hk (Nat.le_refl _) ⟨by simp [signs]; rw [sizeLine_eq]; omega, acc.toList, c', rv, by simpa using ha⟩, rfl, q _ (I.hok.fresh (Nat.le_refl _))⟩
end TT

set_option Elab.async false
set_option linter.all false
set_option maxRecDepth 100000
/-! list(text), ''.join(xs): on values -/
namespace TT
open PySem PySem.Spec L2
abbrev rListB (K : PySem.W.Frag) : List V → Hp → VK → Prop := fun vs H Q => rListA K vs H Q ∨ rListS vs H Q
theorem cr_listB {X : Cx} (hc : X.calm = true) : CallR X (.type "list") (rListB X.K) := call_list_of.or (cr_listS hc)
def pListB (ds : List PV) : Option OV := match ds with
  | [.str x] => guard (decide (x.cps.size ≤ 1000)) (some (.own (.lst ((signs x).map .str))))
  | _ => pList ds
theorem dn_strs {K : PySem.W.Frag} {Z : Hp} : ∀ {ys : List Str}, DnAll K Z (ys.map V.str) (ys.map PV.str)
  | [] => .nil
  | _ :: _ => .cons (.str _) dn_strs
theorem p_listB {K : PySem.W.Frag} : OpN K (rListB K) pListB := by
  intro Z H xs ds o Q l hx ho hw
  unfold pListB at ho
  split at ho
  · rename_i x
    obtain ⟨hc, ho⟩ := guard_inv ho
    cases ho
    obtain ⟨v, rfl, h⟩ := pk1 hx
    rw [h.str]
    exact .inr ⟨x, rfl, of_decide_eq_true hc, fun p hp => hw _ _ p rfl hp dn_strs⟩
  · exact .inl (p_list Z H xs ds o Q l hx ho hw)
def asStrs : List PV → Option (List Str)
  | [] => some []
  | .str x :: ds => (asStrs ds).bind fun r => some (x :: r)
  | _ => none
theorem asStrs_map : ∀ ys : List Str, asStrs (ys.map .str) = some ys
  | [] => rfl
  | y :: ys => by
    show (asStrs (ys.map .str)).bind (fun r => some (y :: r)) = _
    rw [asStrs_map ys]
    rfl
theorem strs_of2 {K : PySem.W.Frag} {Z : Hp} : ∀ {xs : List V} {ds : List PV} {ys : List Str}, DnAll K Z xs ds → asStrs ds = some ys → xs = ys.map V.str
  | _, [], ys, h, e => by cases e; exact h.nil_inv
  | _, d :: ds, ys, h, e => by
    obtain ⟨v, vs, rfl, h1, h2⟩ := DnAll.cons_inv h
    cases d with
    | str x =>
      unfold asStrs at e
      cases e1 : asStrs ds with
      | none => rw [e1] at e; cases e
      | some r =>
        rw [e1] at e
        cases e
        rw [h1.str_inv, strs_of2 h2 e1]
        rfl
    | _ => cases e
def fJoin (s : Str) (f : Rho → Res RV) : Rho → Res RV := fun ρ => (f ρ).bind fun r ρ1 => match peek r ρ1 with
  | some (.lst ds) => (match asStrs ds with
    | some ys => if (ys.map (·.length)).sum + ys.length * s.length ≤ 16777216 then .ok (.val (.str (Txt.join s ys))) ρ1 else .no
    | none => .no)
  | _ => .no
section
variable {X : Cx} {W : WX} {e : Expr} {f : Rho → Res RV} {s : Str} {j : Nat} {p apos pos : Pos}
theorem se_join [Tabl] (he : SE X W e f) (hs : starEach [e] X.env = [(false, eval e X.env)] := by rfl) (hbase : attributeBase (.Constant (.str s) j p) "join" X.env (eval (.Constant (.str s) j p) X.env) = eval (.Constant (.str s) j p) X.env := by rfl) (hline : (apos.endLine == pos.line) = true := by rfl) :
    SE X W (.Call (.Attribute (.Constant (.str s) j p) "join" apos) [e] [] pos) (fJoin s f) :=
  se_of (pe_join pe_str he hs hbase hline) fun C ρ σ Z H Q hK hm R q => by
    refine ⟨⟨s, rfl⟩, ?_⟩
    show TF X.K X.mg W f σ H _
    rw [← hK, ← hm]
    refine tf_bind (P := fun r => Aft C W σ Z r Q) R q (fun _ _ h => h) (fun h => h) fun r ρ1 v Z1 H1 R1 l dn q => ?_
    cases e1 : peek r ρ1 with
    | none => rw [e1] at q; exact q.elim
    | some d =>
      rw [e1] at q
      have pk := dn.pk R1 e1
      cases d with
      | lst ds =>
        simp only at q
        cases e2 : asStrs ds with
        | none => rw [e2] at q; exact q.elim
        | some ys =>
          rw [e2] at q
          simp only at q
          by_cases hb : (ys.map (·.length)).sum + ys.length * s.length ≤ 16777216
          · rw [if_pos hb] at q
            obtain ⟨a, xs, rfl, h, t⟩ := pk
            rw [strs_of2 t e2] at h
            exact ⟨s, a, ys, rfl, rfl, .inl (.inl (.inl h)), hb, q _ Z1 H1 R1 l (.str _)⟩
          · rw [if_neg hb] at q; exact q.elim
      | _ => exact q.elim
@[simp] theorem fJoin_ap {ρ : Rho} : fJoin s f ρ = (f ρ).bind fun r ρ1 => match peek r ρ1 with
  | some (.lst ds) => (match asStrs ds with
    | some ys => if (ys.map (·.length)).sum + ys.length * s.length ≤ 16777216 then .ok (.val (.str (Txt.join s ys))) ρ1 else .no
    | none => .no)
  | _ => .no := rfl
end
end TT

set_option Elab.async false
set_option linter.all false
set_option maxRecDepth 100000
/-! a dict is no text -/
namespace DStr
open PySem PySem.SeqAt PyProof.Rows
open PySem.AutoSeq1 (wpAny_loadPart')
open PySem.MeetsSeq PySem.MeetsSeq2 PySem.MeetsSeq3
theorem str_declines (b : Str) (u : Tok) (l : Addr) (c : Value) (es : Array DictEntry) (ep : Nat) (dd : Option Addr) (sl : Array (Option Value)) :
    Meets (Builtin.«str.__eq__» ⟨[.str b u, .ref l], []⟩) (fun _ R s => s.heap.get? l = some { cls := c, dict := dd, data := .dict es ep, slots := sl } ∧ R (.ok (.ret .notImplemented)) s) :=
  .of_wp fun prog w A R s h => by obtain ⟨hp, g, d, tk, os⟩ := s; obtain ⟨hl, h⟩ := h; wp_walk using wpAny_loadPart' hl, wpAny_load hl; exact ⟨_, rfl, h⟩
section
variable {prog : Program} {w : World} {A : Around} {E : Value → Shared → Prop} {s : Shared} {a : Addr} {o : Obj} {es : Array DictEntry} {ep : Nat}
theorem dict_declines {b : Str} {u : Tok} {Q : Value → Shared → Prop} (ht : s.TypeIs (.ref a) "dict") (h : Q .notImplemented s) : wpAny (model prog w) A (call (.builtin "dict.__eq__") [.ref a, .str b u]) Q E s := by
  refine wpAny_call_entry PySem.F.slot_dict_eq ht PySem.F.entry_dict_eq ?_ (PySem.F.args_dict_eq_2 _ _)
  show wpAny _ _ (Builtin.Dict.dictSlotArgs "__eq__" ⟨[.ref a, .str b u], []⟩ >>= _) _ _ s
  refine wpAny_bind ?_
  unfold Builtin.Dict.dictSlotArgs
  refine wpAny_bind (wpAny_notOrdered_dict ht ?_)
  show wpAny _ _ (pure (Value.ref a, Value.str b u)) _ _ s
  refine wpAny_pure ?_
  refine wpAny_bind (wpAny_isInstance (T := "str") (typeIs_str s b u) PySem.F.sub_str_dict ?_)
  simp only [Bool.not_false, if_true]
  exact wpAny_bind (wpAny_rule (wpAny_pure ⟨_, rfl, h⟩))
theorem rc_dict_str {b : Str} {u : Tok} {Q : Value → Shared → Prop} (ho : s.heap.get? a = some o) (ht : s.TypeIs (.ref a) "dict") (hd : o.data = .dict es ep) (hu : A.units < cLine) (h : Q (.bool false) s) : wpAny (model prog w) A (richCompare .Eq (.ref a) (.str b u)) Q E s := by
  obtain ⟨cls, dd, data, sl⟩ := o
  simp only at hd
  subst hd
  exact rc_eq_decline_or (k := false) ht (typeIs_str s b u) (by decide) PySem.F.sub_str_dict PySem.F.slot_dict_eq PySem.F.slot_str_eq_refl
    (fun _ hq => dict_declines ht hq)
    (fun _ hq => call_meets PySem.F.slot_str_eq_refl (typeIs_str s b u) PySem.F.entry_str_eq (PySem.F.args_str_eq_2 _ _) (str_declines b u a cls es ep dd sl) ⟨ho, hq⟩)
    (fun _ hq => wpAny_of_eq (rfl : isSame (.ref a) (.str b u) = pure false) hq) (.inr hu) h
end
end DStr
namespace TT
open PySem PySem.Spec L2
def rEqDS : R2 := fun x y H Q => ∃ (a : Addr) (b : Str) (kvs : List (L2.Key × V)), x = .ref a ∧ y = .str b ∧ Rd H a (.dK kvs) ∧ Q (.bl false) H
theorem op_eqDS {X : Cx} (hu : X.A.units < cLine) : OpR X (compareOp .Eq) rEqDS := by
  intro pins s σ H x y v u Q I rx ry h
  obtain ⟨a, b, kvs, rfl, rfl, hd, q⟩ := h
  cases rx
  obtain ⟨t, rfl⟩ := ry
  obtain ⟨_, hs, vs, _, dd⟩ := dk_rd I.hok hd
  have ht := dd.typeIs
  obtain ⟨ob, es, ep, h1, h2, h3, _⟩ := dd
  exact DStr.rc_dict_str h1 ht h3 hu ⟨.bl false, H, I, rfl, q⟩
abbrev rEqB (K : PySem.W.Frag) : R2 := fun x y H Q => rEqD K x y H Q ∨ rEqDS x y H Q
theorem op_eqB {X : Cx} (hu : X.A.units + 64 < cLine) : OpR X (compareOp .Eq) (rEqB X.K) := (op_eqD hu).or (op_eqDS (by omega))
def pEqB : PV → PV → Option OV
  | .dct _ _, .str _ => vB false
  | d, e => pEq d e
theorem p_eqB {K : PySem.W.Frag} : Op2 K (rEqB K) pEqB := by
  intro Z H x y d e o Q l hx hy ho hw
  unfold pEqB at ho
  split at ho
  · rename_i ks ds b
    cases ho
    obtain ⟨a, xs, rfl, h, _, _⟩ := hx
    rw [hy.str]
    exact .inr ⟨a, b, ks.zip xs, rfl, rfl, .inl h, hw.1 _ (.bl _)⟩
  · exact .inl (p_eq Z H x y d e o Q l hx hy ho hw)
theorem pEqB_dct {ks : List L2.Key} {ds : List PV} {b : Str} : pEqB (.dct ks ds) (.str b) = vB false := rfl
end TT

set_option Elab.async false
set_option linter.all false
set_option maxRecDepth 100000
/-! x in o, o an object whose class says __contains__ -/
namespace TT
open PySem PySem.Spec PyProof.Rows L2
theorem stdlib_ref {a : Addr} {x : Value} : stdlibNamesSay? (.ref a) x = none := rfl
section
variable {A : Around} {E : Value → Shared → Prop} {s : Shared} {K : PySem.W.Frag} {x C f : Addr} {ox : Obj} {od : Option Obj}
/-- the special method of an object, called with further arguments, where a none would be refused -/
theorem special_un {M : Model} {name : Str} {args : List Value} {refuse : Sem Value} {Q : Option Value → Shared → Prop}
    (X : K.In s.heap) (I : PySem.W.InstAt s.heap x ox C od) (hs : PySem.W.findIn K (.ref C) name = some (some (.ref f))) (hf : PySem.W.typeIn K (.ref f) = some (.type "function"))
    (h : wpAny M A (call (.ref f) (.ref x :: args)) (fun v => Q (some v)) E s) : wpAny M A (callSpecialUnlessNone? (.ref x) name args refuse) Q E s := by
  unfold callSpecialUnlessNone?
  refine wpAny_bind (wpAny_bind (I.type.here ((PySem.W.looks_findIn X hs).here (wpAny_holding (wpAny_bind ((PySem.W.bind_fn X _ hf).here ?_))))))
  show wpAny _ _ (if (Value.ref f == Value.none) = true then _ else _) _ _ _
  rw [if_neg (by simp)]
  exact wpAny_bind (wpAny_mono h (fun _ _ z => wpAny_pure z) fun _ _ z => z)
/-- x in o -/
theorem contains_own {M : Model} {y : Value} {Q : Bool → Shared → Prop}
    (X : K.In s.heap) (I : PySem.W.InstAt s.heap x ox C od) (hs : PySem.W.findIn K (.ref C) "__contains__" = some (some (.ref f))) (hf : PySem.W.typeIn K (.ref f) = some (.type "function"))
    (h : wpAny M A (call (.ref f) [.ref x, y]) (PySem.W.BoolBack Q) E s) : wpAny M A (contains (.ref x) y) Q E s := by
  unfold contains
  refine wpAny_holding ?_
  rw [stdlib_ref]
  refine wpAny_bind (wpAny_bind (I.type.here ((PySem.W.looks_findIn X hs).here ?_)))
  show wpAny _ _ (if (some (Value.ref f) == some Value.none) = true then _ else _) _ _ _
  rw [if_neg (by simp)]
  refine wpAny_bind (special_un X I hs hf (wpAny_mono h (fun r s' hr => ?_) fun _ _ z => z))
  cases r <;> first | exact hr.elim | skip
  exact wpAny_truthy_bool hr
end
/-! ### as an operation -/
section
variable {X : Cx} {CX : CXT} {C f : Addr} {n : Nat} {fd : FuncData} {ps : List Str} {sp : Sp} {E : XK}
def rInO (C : Addr) (sp : Sp) (E : XK) (neg : Bool) : R2 := fun y x H Q => ∃ (a dx : Addr) (fs : List (Str × V)), x = .ref a ∧ H a = some (.ins C dx fs) ∧ sp [.ref a, y] H (fun v H' => ∃ b : Bool, v = .bl b ∧ Q (.bl (b != neg)) H') E
theorem op_contains (F : FnOk X.prog X.w X.K X.mg X.base CX n f fd ps sp) (me : Meth X.K C "__contains__" f) (hb : Binds X.K fd ps []) (hx : Passes CX X E) (hr : Room n X.A) {neg : Bool}
    {pins : List (Addr × Obj)} {s : Shared} {σ : L2.St} {H : Hp} {x y : V} {v u : Value} {Q : VK} (I : Inv X pins σ H s) (rx : RelV x v) (ry : RelV y u) (h : rInO C sp E neg x y H Q) :
    wpAny (model X.prog X.w) X.A (contains u v) (fun b s' => EP X pins σ Q (.bool (b != neg)) s') X.xe s := by
  obtain ⟨a, dx, fs, rfl, ha, hsp⟩ := h
  obtain rfl := ry
  obtain ⟨mA, J, _⟩ := ins_get I.hok ha
  obtain ⟨od, J, _⟩ := J.look
  obtain ⟨m, hF⟩ := I.fr
  refine contains_own (I.ok.mod.kin.keeps hF.keep) J me.at_ (beq_iff_eq.mp me.fn) ?_
  have e0 : Env0 X.prog X.w X.K X.mg X.base X.A X.stack s H := I.env0
  have hl := F.len _ _ _ _ hsp
  have r2 : Vals [V.ref a, x] [Value.ref a, v] := .cons rfl (.cons rx .nil)
  have bd := hb s [.ref a, v] I.kIn (by simpa using hl)
  refine wpAny_call (codeAny_mono (F.run X.A X.stack s H ⟨[.ref a, v], []⟩ [.ref a, v] [.ref a, x] _ E hr e0 (by simpa using bd) r2 hsp) fun r s' hq => ?_)
  cases r with
  | error e => exact hx pins σ H s e s' I hq
  | ok fl =>
    cases fl with
    | ret w =>
      obtain ⟨z, H', I', rz, b, ez, q⟩ := I.after hq
      subst ez
      cases rz
      exact ⟨.bl (b != neg), H', I', rfl, q⟩
    | next => exact False.elim hq
    | brk => exact False.elim hq
    | cont => exact False.elim hq
theorem op_inO (F : FnOk X.prog X.w X.K X.mg X.base CX n f fd ps sp) (me : Meth X.K C "__contains__" f) (hb : Binds X.K fd ps []) (hx : Passes CX X E) (hr : Room n X.A) : OpR X (compareOp .In) (rInO C sp E false) := by
  intro pins s σ H x y v u Q I rx ry h
  show wpAny _ _ (do return Value.bool (← contains u v)) _ _ _
  exact wpAny_bind (wpAny_mono (op_contains F me hb hx hr I rx ry h) (fun b s' q => wpAny_pure (by simpa using q)) fun _ _ z => z)
theorem op_ninO (F : FnOk X.prog X.w X.K X.mg X.base CX n f fd ps sp) (me : Meth X.K C "__contains__" f) (hb : Binds X.K fd ps []) (hx : Passes CX X E) (hr : Room n X.A) : OpR X (compareOp .NotIn) (rInO C sp E true) := by
  intro pins s σ H x y v u Q I rx ry h
  show wpAny _ _ (do return Value.bool (!(← contains u v))) _ _ _
  exact wpAny_bind (wpAny_mono (op_contains F me hb hx hr I rx ry h) (fun b s' q => wpAny_pure (by simpa using q)) fun _ _ z => z)
end
def blBack (neg : Bool) (r : Res RV) (ρ : Rho) : Res RV := match r with
  | .ok (.val (.bl b)) _ => .ok (.val (.bl (b != neg))) ρ
  | _ => .no
def inOK (c : Str) (neg : Bool) (F : Sem1) (r q : RV) (ρ : Rho) : Res RV := match r, q with
  | .val d, .val e => (match isObjV c e with
    | some _ => blBack neg (F [.val e, .val d]) ρ
    | none => .no)
  | _, _ => .no
/-- a in b, b an object of the class c -/
def fInO (c : Str) (neg : Bool) (F : Sem1) (f g : Rho → Res RV) : Rho → Res RV := fun ρ => (fV f ρ).bind fun r ρ1 => (fV g ρ1).bind fun q ρ2 => inOK c neg F r q ρ2
theorem blBack_aft [Tabl] {C : Ct} {W : WX} {σ : Sg} {Z : Hp} {ρ : Rho} {r : Res RV} {Q : VK} {neg : Bool} (q : Aft C W σ Z (blBack neg r ρ) Q) : Aft C W σ Z (outM r ρ) (fun v H' => ∃ b : Bool, v = .bl b ∧ Q (.bl (b != neg)) H') := by
  cases r with
  | no => exact q
  | er x as => exact q
  | ok r as =>
    cases r with
    | own d => exact q.elim
    | ali i => exact q.elim
    | val d =>
      cases d with
      | bl b =>
        intro v Z' H' R' l dn
        cases dn
        exact ⟨b, rfl, q _ Z' H' R' l (.bl _)⟩
      | _ => exact q.elim
section
variable {X : Cx} {W : WX} {a b : Expr} {f g : Rho → Res RV} {c : Str} {pos : Pos} {k j : Nat} {F : Sem1}
theorem inO_fin [Tabl] {C : Ct} {ρ : Rho} {σ : Sg} {Z0 Z H : Hp} {Q : VK} {neg : Bool} {x y : V} {r s : RV} (hK : C.K = X.K) (hm0 : C.mg = X.mg) (R : Rel C ρ σ Z H) (l : Zle Z0 Z) (d1 : DnR C ρ σ Z H x r) (d2 : DnR C ρ σ Z H y s)
    (q : Aft C W σ Z0 (inOK c neg F r s ρ) Q) : rInO (He.ga X.K c) (spF X.K X.mg 2 F) (fun _ _ _ => False) neg x y H Q := by
  rw [← hK, ← hm0]
  cases r with
  | own d => exact q.elim
  | ali i => exact q.elim
  | val d =>
    cases s with
    | own d => exact q.elim
    | ali i => exact q.elim
    | val e =>
      unfold inOK at q
      simp only at q
      cases e2 : isObjV c e with
      | none => rw [e2] at q; exact q.elim
      | some fs =>
        rw [e2] at q
        simp only at q
        have := isObjV_eq e2
        subst this
        have dn' : Dn C.K Z y (.obj c fs) := d2
        have dx' : Dn C.K Z x d := d1
        obtain ⟨a, dx, ns, xs, ds, rfl, hx, rfl, hl, t⟩ := dn'.obj_inv
        refine ⟨a, dx, _, rfl, R.le _ _ hx, outM_ok rfl rfl R rfl rfl (fun i s h => ?_) (blBack_aft (Aft.mono q l))⟩
        match i with
        | 0 => simp at h; exact ⟨_, _, h.symm, rfl, dn'⟩
        | 1 => simp at h; exact ⟨_, _, h.symm, rfl, dx'⟩
        | i + 2 => simp at h
theorem tf_inO [Tabl] {neg : Bool} {C : Ct} {ρ : Rho} {σ : Sg} {Z H : Hp} {Q : VK} (hK : C.K = X.K) (hm : C.mg = X.mg) (R : Rel C ρ σ Z H) (q : Aft C W σ Z (fInO c neg F f g ρ) Q) :
    tOp (rInO (He.ga X.K c) (spF X.K X.mg 2 F) (fun _ _ _ => False) neg) (TF X.K X.mg W (fV f)) (TF X.K X.mg W (fV g)) σ H Q := by
  show TF X.K X.mg W (fV f) σ H fun x H1 => TF X.K X.mg W (fV g) σ H1 fun y H2 => rInO (He.ga X.K c) (spF X.K X.mg 2 F) (fun _ _ _ => False) neg x y H2 Q
  have e1 := hK; have e2 := hm
  rw [← hK, ← hm]
  refine tf_two (P := fun r => Aft C W σ Z r Q) R q (fun _ _ h => h) (fun h => h) fun a b ρ2 x y Z2 H2 R2 l d1 d2 h => ?_
  have z := inO_fin (X := X) e1 e2 R2 l d1 d2 h
  rw [← e1, ← e2] at z
  exact z
section
variable [Tabl] (p : MeC X.prog X.w X.K X.mg X.base c "__contains__" 2 F k) (hr : Room j X.A) (ha : SE X W a f) (hb : SE X W b g)
include p hr ha hb
theorem se_inO (hm : behindInMarks .In b = false) (hk : k ≤ j := by decide) : SE X W (.Compare a [.In] [b] pos) (fInO c false F f g) := by
  obtain ⟨ga, fd, ps, h1, h2, G, hbi⟩ := p.ex
  exact se_of (pe_cmpR (op_inO G h1 hbi passN (hr.mono hk)) (se_v ha) (se_v hb) hm) fun C ρ σ Z H Q hK hm0 R q => tf_inO hK hm0 R q
theorem se_ninO (hm : behindInMarks .NotIn b = false) (hk : k ≤ j := by decide) : SE X W (.Compare a [.NotIn] [b] pos) (fInO c true F f g) := by
  obtain ⟨ga, fd, ps, h1, h2, G, hbi⟩ := p.ex
  exact se_of (pe_cmpR (op_ninO G h1 hbi passN (hr.mono hk)) (se_v ha) (se_v hb) hm) fun C ρ σ Z H Q hK hm0 R q => tf_inO hK hm0 R q
theorem st_inO (hm : behindInMarks .In b = false) (hk : k ≤ j := by decide) : ST X W (.Compare a [.In] [b] pos) (fTB (fInO c false F f g)) := by
  obtain ⟨ga, fd, ps, h1, h2, G, hbi⟩ := p.ex
  exact st_of (pt_cmpR (op_inO G h1 hbi passN (hr.mono hk)) (se_v ha) (se_v hb) hm) fun C ρ σ Z H Q hK hm0 R q => tf_inO hK hm0 R (aft_tvB q)
theorem st_ninO (hm : behindInMarks .NotIn b = false) (hk : k ≤ j := by decide) : ST X W (.Compare a [.NotIn] [b] pos) (fTB (fInO c true F f g)) := by
  obtain ⟨ga, fd, ps, h1, h2, G, hbi⟩ := p.ex
  exact st_of (pt_cmpR (op_ninO G h1 hbi passN (hr.mono hk)) (se_v ha) (se_v hb) hm) fun C ρ σ Z H Q hK hm0 R q => tf_inO hK hm0 R (aft_tvB q)
end
@[simp] theorem fInO_ap {neg : Bool} {ρ : Rho} : fInO c neg F f g ρ = (fV f ρ).bind fun r ρ1 => (fV g ρ1).bind fun q ρ2 => inOK c neg F r q ρ2 := rfl
@[simp] theorem inOK_val {neg : Bool} {d e : PV} {ρ : Rho} : inOK c neg F (.val d) (.val e) ρ = match isObjV c e with
    | some _ => blBack neg (F [.val e, .val d]) ρ
    | none => .no := rfl
@[simp] theorem blBack_bl {neg b : Bool} {as : List SV} {ρ : Rho} : blBack neg (.ok (.val (.bl b)) as) ρ = .ok (.val (.bl (b != neg))) ρ := rfl
end
end TT

set_option Elab.async false
set_option linter.all false
set_option maxRecDepth 100000
/-! str(o), o an object whose class says __str__; f-strings of texts and whole numbers -/
namespace TT
open PySem PySem.Spec PyProof.Rows L2
section
variable {X : Cx} {CX : CXT} {C f : Addr} {n : Nat} {fd : FuncData} {ps : List Str} {sp : Sp} {E : XK}
def rStrO (C : Addr) (sp : Sp) (E : XK) : List V → Hp → VK → Prop := fun xs H Q => ∃ (a dx : Addr) (fs : List (Str × V)), xs = [.ref a] ∧ H a = some (.ins C dx fs) ∧ sp [.ref a] H (fun v H' => ∃ y : Str, v = .str y ∧ Q (.str y) H') E
theorem cr_strO (F : FnOk X.prog X.w X.K X.mg X.base CX n f fd ps sp) (me : Meth X.K C "__str__" f) (hb : Binds X.K fd ps []) (hx : Passes CX X E) (hr : Room (n + 2) X.A) : CallR X (.type "str") (rStrO C sp E) := by
  intro pins s σ H xs us Q I r ⟨a, dx, fs, ex, ha, hsp⟩
  subst ex
  obtain rfl := Vals.ref1 r
  obtain ⟨mA, J, _⟩ := ins_get I.hok ha
  obtain ⟨od, J, _⟩ := J.look
  obtain ⟨m, hF⟩ := I.fr
  have hr1 : Room (n + 1) X.A.in1 := hr.in1
  have hr2 : Room n X.A.in1.in1 := hr1.in1
  refine PySem.W.kso_call hr2.units0 (I.ok.mod.kin.keeps hF.keep) J me.at_ me.fn ?_
  have e0 : Env0 X.prog X.w X.K X.mg X.base X.A.in1.in1 X.stack s H := by
    have e := I.env0
    exact ⟨e.frames, e.mod, e.bs, e.bsz, e.funs, e.frf, e.hok, e.bare⟩
  have hl := F.len _ _ _ _ hsp
  have r2 : Vals [V.ref a] [Value.ref a] := .cons rfl .nil
  have bd := hb s [.ref a] I.kIn (by simpa using hl)
  refine wpAny_call (codeAny_mono (F.run X.A.in1.in1 X.stack s H ⟨[.ref a], []⟩ [.ref a] [.ref a] _ E hr2 e0 (by simpa using bd) r2 hsp) fun r s' hq => ?_)
  cases r with
  | error e => exact hx pins σ H s e s' I hq
  | ok fl =>
    cases fl with
    | ret w =>
      obtain ⟨z, H', I', rz, y, ez, q⟩ := I.after hq
      subst ez
      obtain ⟨t, rfl⟩ := rz
      exact ⟨.str y, H', I', ⟨_, rfl⟩, q⟩
    | next => exact False.elim hq
    | brk => exact False.elim hq
    | cont => exact False.elim hq
end
def strBack (r : Res RV) (ρ : Rho) : Res RV := match r with
  | .ok (.val (.str y)) _ => .ok (.val (.str y)) ρ
  | _ => .no
/-- str(e), e an object of the class c -/
def fStrO (c : Str) (F : Sem1) (g : Rho → Res RV) : Rho → Res RV := fun ρ => (fV g ρ).bind fun r ρ1 => match r with
  | .val d => (match isObjV c d with
    | some _ => strBack (F [.val d]) ρ1
    | none => .no)
  | _ => .no
theorem strBack_aft [Tabl] {C : Ct} {W : WX} {σ : Sg} {Z : Hp} {ρ : Rho} {r : Res RV} {Q : VK} (q : Aft C W σ Z (strBack r ρ) Q) : Aft C W σ Z (outM r ρ) (fun v H' => ∃ y : Str, v = .str y ∧ Q (.str y) H') := by
  cases r with
  | no => exact q
  | er x as => exact q
  | ok r as =>
    cases r with
    | own d => exact q.elim
    | ali i => exact q.elim
    | val d =>
      cases d with
      | str y =>
        intro v Z' H' R' l dn
        cases dn
        exact ⟨y, rfl, q _ Z' H' R' l (.str _)⟩
      | _ => exact q.elim
section
variable {X : Cx} {W : WX} {e : Expr} {f g : Rho → Res RV} {c : Str} {pos p' : Pos} {k j : Nat} {F : Sem1}
theorem se_strO [Tabl] (p : MeC X.prog X.w X.K X.mg X.base c "__str__" 1 F k) (hr : Room j X.A) (he : SE X W e g) (hg : Gl X "str") (hm : X.mg "str" = none) (hk : k + 2 ≤ j := by decide)
    (hs : starEach [e] X.env = (false, eval e X.env) :: starEach [] X.env := by rfl) : SE X W (.Call (.Name "str" p') [e] [] pos) (fStrO c F g) := by
  obtain ⟨ga, fd, ps, h1, h2, G, hbi⟩ := p.ex
  refine se_of (pe_callTy (cr_strO G h1 hbi passN (hr.mono hk)) hg hm boot_str (pa_cons (se_v he) pa_nil hs) (by decide) (by decide) hs (by rfl)) fun C ρ σ Z H Q hK hm R q => ?_
  show TF X.K X.mg W (fV g) σ H fun x H1 => rStrO (He.ga X.K c) (spF X.K X.mg 1 F) (fun _ _ _ => False) [x] H1 Q
  rw [← hK, ← hm]
  refine tf_bind (P := fun r => Aft C W σ Z r Q) R q (fun _ _ h => h) (fun h => h) fun r ρ1 v Z1 H1 R1 l dn q => ?_
  cases r with
  | own d => exact q.elim
  | ali i => exact q.elim
  | val d =>
    simp only at q
    cases e2 : isObjV c d with
    | none => rw [e2] at q; exact q.elim
    | some fs =>
      rw [e2] at q
      have := isObjV_eq e2
      subst this
      have dn' : Dn C.K Z1 v (.obj c fs) := dn
      obtain ⟨a, dx, ns, xs, ds, rfl, hx, rfl, hl, t⟩ := dn'.obj_inv
      refine ⟨a, dx, _, rfl, R1.le _ _ hx, outM_ok rfl rfl R1 rfl rfl (fun i s h => ?_) (strBack_aft (Aft.mono q l))⟩
      cases i with
      | zero => simp at h; exact ⟨_, _, h.symm, rfl, dn'⟩
      | succ i => simp at h
@[simp] theorem fStrO_ap {ρ : Rho} : fStrO c F g ρ = (fV g ρ).bind fun r ρ1 => match r with
  | .val d => (match isObjV c d with
    | some _ => strBack (F [.val d]) ρ1
    | none => .no)
  | _ => .no := rfl
@[simp] theorem strBack_str {y : Str} {as : List SV} {ρ : Rho} : strBack (.ok (.val (.str y)) as) ρ = .ok (.val (.str y)) ρ := rfl
/-! ### f-strings -/
def pFmt : PV → Option OV
  | .str y => if y.length ≤ sizeLine then some (.val (.str y)) else none
  | .int i => if i.natAbs.log2 < 1920 then some (.val (.str (toString i))) else none
  | _ => none
def rFmt : V → Hp → VK → Prop := fun x H Q => (∃ y : Str, x = .str y ∧ y.length ≤ sizeLine ∧ Q (.str y) H) ∨ ∃ i : Int, x = .int i ∧ i.natAbs.log2 < 1920 ∧ Q (.str (toString i)) H
theorem p_fmt {K : PySem.W.Frag} : Op1 K rFmt pFmt := by
  intro Z H x d o Q l hx ho hw
  cases d with
  | str y =>
    simp only [pFmt] at ho
    split at ho
    · rename_i hz
      cases ho
      rw [hx.str]
      exact .inl ⟨y, rfl, hz, hw.1 _ (.str _)⟩
    · cases ho
  | int i =>
    simp only [pFmt] at ho
    split at ho
    · rename_i hz
      cases ho
      rw [hx.int]
      exact .inr ⟨i, rfl, hz, hw.1 _ (.str _)⟩
    · cases ho
  | _ => cases ho
theorem se_fmt [Tabl] (ha : SE X W e f) : SE X W (.FormattedValue e (-1) none pos) (fUn pFmt f) :=
  se_of (pe_fmt ha) fun C ρ σ Z H Q hK hm R q => by
    show TF X.K X.mg W f σ H fun x H1 => rFmt x H1 Q
    rw [← hK, ← hm]
    refine tf_bind (P := fun r => Aft C W σ Z r Q) R q (fun _ _ h => h) (fun h => h) fun a ρ1 v Z1 H1 R1 l dn h => ?_
    cases e1 : peek a ρ1 with
    | none => rw [e1] at h; exact h.elim
    | some d =>
      rw [e1] at h
      simp only at h
      cases e3 : pFmt d with
      | none => rw [e3] at h; exact h.elim
      | some o =>
        rw [e3] at h
        exact p_fmt Z1 H1 v d o Q R1.le (by exact dn.pk R1 e1) e3 (want_of R1 h l)
def fJs : List (Rho → Res RV) → Str → Rho → Res RV
  | [], acc => fun ρ => .ok (.val (.str acc)) ρ
  | f :: fs, acc => fun ρ => (f ρ).bind fun r ρ1 => match r with
    | .val (.str y) => if (acc ++ y).length ≤ sizeLine then fJs fs (acc ++ y) ρ1 else .no
    | _ => .no
inductive SJ [Tabl] (X : Cx) (W : WX) : List Expr → List (Rho → Res RV) → Prop where
  | nil : SJ X W [] []
  | cons {e : Expr} {f : Rho → Res RV} {es : List Expr} {fs : List (Rho → Res RV)} (h : SE X W e f) (r : SJ X W es fs) : SJ X W (e :: es) (f :: fs)
theorem SJ.pj [Tabl] {es : List Expr} {fs : List (Rho → Res RV)} (h : SJ X W es fs) : PJ X es (fs.map (TF X.K X.mg W)) := by
  induction h with
  | nil => exact .nil
  | cons h r ih => exact .cons h ih
theorem fJs_ok [Tabl] {C : Ct} {σ : Sg} {Q : VK} : ∀ (fs : List (Rho → Res RV)) (acc : Str) (ρ : Rho) (Z H : Hp), Rel C ρ σ Z H → Aft C W σ Z (fJs fs acc ρ) Q → tJs (fs.map (TF C.K C.mg W)) acc σ H (fun out H1 => Q (.str out) H1)
  | [], acc, ρ, Z, H, R, q => q _ Z H R (Zle.refl _) (.str _)
  | f :: fs, acc, ρ, Z, H, R, q => by
    show TF C.K C.mg W f σ H fun x H1 => ∃ y : Str, x = .str y ∧ (acc ++ y).length ≤ sizeLine ∧ tJs (fs.map (TF C.K C.mg W)) (acc ++ y) σ H1 (fun out H1 => Q (.str out) H1)
    refine tf_bind (P := fun r => Aft C W σ Z r Q) R q (fun _ _ h => h) (fun h => h) fun r ρ1 v Z1 H1 R1 l dn q => ?_
    cases r with
    | own d => exact q.elim
    | ali i => exact q.elim
    | val d =>
      cases d with
      | str y =>
        simp only at q
        by_cases hz : (acc ++ y).length ≤ sizeLine
        · rw [if_pos hz] at q
          have dn' : Dn C.K Z1 v (.str y) := dn
          cases dn'
          exact ⟨y, rfl, hz, fJs_ok fs (acc ++ y) ρ1 Z1 H1 R1 (Aft.mono q l)⟩
        · rw [if_neg hz] at q; exact q.elim
      | _ => exact q.elim
theorem se_joined [Tabl] {v1 v2 : Expr} {rest : List Expr} {fs : List (Rho → Res RV)} (h : SJ X W (v1 :: v2 :: rest) fs) : SE X W (.JoinedStr (v1 :: v2 :: rest) pos) (fJs fs Str.empty) :=
  se_of (pe_joined h.pj) fun C ρ σ Z H Q hK hm R q => by
    rw [← hK, ← hm]
    exact fJs_ok fs Str.empty ρ Z H R q
@[simp] theorem fJs_nil {acc : Str} {ρ : Rho} : fJs [] acc ρ = .ok (.val (.str acc)) ρ := rfl
@[simp] theorem fJs_cons {fs : List (Rho → Res RV)} {acc : Str} {ρ : Rho} : fJs (f :: fs) acc ρ = (f ρ).bind fun r ρ1 => match r with
    | .val (.str y) => if (acc ++ y).length ≤ sizeLine then fJs fs (acc ++ y) ρ1 else .no
    | _ => .no := rfl
end
end TT

set_option Elab.async false
set_option linter.all false
set_option maxRecDepth 100000
/-! iter(t) of a tuple as a value; a list filled from it -/
namespace TT
open PySem PySem.Spec PyProof.Rows L2
/-- at it: the iterator of the tuple at l, not yet asked -/
def TuO (l it : Addr) : HO := .ext fun h => h.IsTupleIter it l 0
theorem tuO_ok {P : Program} {w : World} {H : Hp} {h : Heap} {l it : Addr} (e : h.IsTupleIter it l 0) : ObjOk P w H h it (TuO l it) :=
  ⟨e, (let ⟨o, ho, _⟩ := e; ⟨o, ho⟩), fun h1 h2 q k => let ⟨o, ho, r⟩ := q; ⟨o, k _ ho, r⟩⟩
section
variable {prog : Program} {w : World} {A : Around} {E : Value → Shared → Prop} {s : Shared} {l : Addr} {items : Array Value}
theorem call_iterTu {Q : Value → Shared → Prop} (hl : s.heap.IsTuple l items) (h : Q (.ref s.heap.objs.size) { s with heap := s.heap.push { cls := .type "tuple_iterator", data := .fields #[.ref l, .int 0 0] } }) :
    wpAny (model prog w) A (call (.builtin "iter") [.ref l]) Q E s := by
  refine Calls.call_function_entry (by decide +kernel) (by decide +kernel) PySem.W.kdk_entry_iter (PySem.W.kdk_args_iter _) ?_
  unfold Builtin.«iter»
  refine wpAny_bind (m := someArgs "iter" 1 2 _) (wpAny_of_eq (a := [Value.ref l]) (by first | rfl | kernel_rfl!) ?_)
  show wpAny _ _ (pyIter (.ref l) >>= _) _ _ _
  refine wpAny_bind (wpAny_pyIter_tuple hl ?_)
  exact wpAny_pure ⟨_, rfl, h⟩
end
def rIterT (K : PySem.W.Frag) : List V → Hp → VK → Prop := fun xs H Q => ∃ (l : Addr) (zs : List V), xs = [.ref l] ∧ SqT K H l zs ∧ ∀ it, H it = none → (∀ b, H b ≠ none → b < it) → Q (.ref it) (upd H it (TuO l it))
section
variable {X : Cx}
theorem cr_iterT : CallR X (.builtin "iter") (rIterT X.K) := by
  intro pins s σ H xs us Q I r h
  obtain ⟨l, zs, rfl, hq, q⟩ := h
  obtain rfl := Vals.ref1 r
  obtain ⟨its, rv, pl, hz⟩ := I.tuple hq
  obtain ⟨o, ho, hc, n, hd⟩ := pl
  refine call_iterTu ⟨o, ho, hc, n, hd⟩ ?_
  refine ⟨.ref s.heap.objs.size, _, I.laid (t' := s.toks) (fun b u e => Heap.get?_push_of_some _ e) (Nat.le_refl _) (tuO_ok ⟨_, Heap.get?_push_size _ rfl, rfl, rfl⟩), rfl, q _ (I.hok.fresh (Nat.le_refl _)) fun b hb => ?_⟩
  rcases Nat.lt_or_ge b s.heap.objs.size with h | h
  · exact h
  · exact absurd (I.hok.fresh h) hb
variable {pins : List (Addr × Obj)} {σ : L2.St} {H : Hp} {q it l : Addr} {zs : List V} {A1 : Around} {Rs : Result → Shared → Prop}
theorem tu_loop (hh : A1.handled = none) (hne : it ≠ q) (hH : H it = none) (fp : ∀ H' : Hp, H' it = none → FpOk X pins H' it) (hT : ∀ acc, SqT X.K (upd H q (.lst acc)) l zs)
    (hdone : ∀ s, Inv X pins σ (upd H q (.lst zs)) s → Rs (.ok (.ret .none)) s) :
    ∀ (k i : Nat) (s : Shared), zs.length - i = k → i ≤ zs.length → Inv X pins σ (upd H q (.lst (zs.take i))) s → s.heap.IsTupleIter it l i →
      codeAny (model X.prog X.w) A1 (.builtin "list.extend.loop" ⟨[.ref q, .ref it, .none], []⟩) Rs s := by
  intro k
  induction k with
  | zero =>
    intro i s hk hi I hit
    have hi' : i = zs.length := by omega
    subst hi'
    refine codeAny_builtin PySem.F.entry_extend_loop ?_
    rw [Around.under_plainId PySem.F.plain_extend_loop _]
    show wpAny _ A1.in1 (pyNext (.ref it) >>= _) _ _ s
    obtain ⟨its, rv, pl, _⟩ := I.tuple (hT _)
    obtain ⟨o, ho, hc, n, hd⟩ := pl
    refine wpAny_bind (wpAny_pyNext_tuple_end (A := A1.in1) hh hit ⟨o, ho, hc, n, hd⟩ (by rw [List.getElem?_toArray]; exact rv.none_of (by simp)) fun h' sb => ?_)
    have f := fp (upd H q (.lst (zs.take zs.length))) (by rw [upd_ne hne]; exact hH)
    have I' := I.turned (t' := s.toks) (h' := h') (it := it) (fun b o nb e => sb b o nb e) f.1 f.2.1 f.2.2.2.1 f.2.2.2.2.1 f.2.2.2.2.2
    rw [List.take_length] at I'
    exact wpAny_pure (hdone _ I')
  | succ k ih =>
    intro i s hk hi I hit
    have hlt : i < zs.length := by omega
    refine codeAny_builtin PySem.F.entry_extend_loop ?_
    rw [Around.under_plainId PySem.F.plain_extend_loop _]
    show wpAny _ A1.in1 (pyNext (.ref it) >>= _) _ _ s
    obtain ⟨its, rv, pl, hz⟩ := I.tuple (hT _)
    obtain ⟨o, ho, hc, n, hd⟩ := pl
    have hv : zs[i]? = some zs[i] := by simp [hlt]
    obtain ⟨u, hu, ru⟩ := rv.get hv
    refine wpAny_bind (wpAny_pyNext_tuple_item hit ⟨o, ho, hc, n, hd⟩ (by rw [List.getElem?_toArray]; exact hu) fun h' hit' sb => ?_)
    have f := fp (upd H q (.lst (zs.take i))) (by rw [upd_ne hne]; exact hH)
    have I' := I.turned (t' := s.toks) (h' := h') (it := it) (fun b o nb e => (sb.2 b nb).trans e) f.1 f.2.1 f.2.2.2.1 f.2.2.2.2.1 f.2.2.2.2.2
    obtain ⟨z, its2, n2, r2, hl, e⟩ := I'.lstM upd_same
    have hlen := r2.length
    rw [List.length_take] at hlen
    show wpAny _ A1.in1 (updateSeq q (·.push u) >>= _) _ _ _
    refine wpAny_bind (wpAny_updateSeq e rfl (wpAny_pure ⟨plainId_quiet PySem.F.plain_extend_loop _, ?_⟩) (by rw [List.size_toArray]; omega) (by show (its2.toArray.push u).size ≤ sizeLine + 1; rw [Array.size_push, List.size_toArray]; omega))
    have I2 := I'.lset (f := (·.push u)) (its' := its2 ++ [u]) (t' := s.toks) upd_same e (by simp) (r2.append (.cons ru .nil)) (by rw [List.length_append, List.length_singleton, List.length_take]; omega)
    rw [upd_upd] at I2
    have e2 : zs.take i ++ [zs[i]] = zs.take (i + 1) := by rw [List.take_succ]; simp [hlt]
    rw [e2] at I2
    refine ih (i + 1) _ (by omega) hlt I2 ?_
    obtain ⟨o', ho', r'⟩ := hit'
    exact ⟨o', (Heap.get?_update_other _ _ (Ne.symm hne)).trans ho', r'⟩
end
end TT

set_option Elab.async false
set_option linter.all false
set_option maxRecDepth 100000
/-! list(o), o an object whose __iter__ returns iter(t) of a tuple -/
namespace TT
open PySem PySem.Spec PyProof.Rows L2
section
variable {M : Model} {A : Around} {E : Value → Shared → Prop} {s : Shared} {K : PySem.W.Frag} {a C f : Addr} {ox : Obj} {od : Option Obj}
/-- the number of items is asked of the own __len__ -/
theorem hint_len {Q : Bool → Shared → Prop} (hK : K.In s.heap) (J : PySem.W.InstAt s.heap a ox C od) (hs : PySem.W.findIn K (.ref C) "__len__" = some (some (.ref f)))
    (h : wpAny M A (call (.builtin "len") [.ref a]) (fun v s' => ∃ k u, v = .int k u ∧ 0 ≤ k ∧ k.toNat ≤ sizeLine ∧ Q (k != 0) s') (fun _ _ => False) s) : wpAny M A (Builtin.List.listLengthHint (.ref a)) Q E s := by
  unfold Builtin.List.listLengthHint
  refine wpAny_bind (wpAny_bind (J.type.here ((PySem.W.looks_findIn hK hs).here ?_)))
  refine PySem.W.KFB.if_not rfl ?_
  refine wpAny_ite_split (fun _ => ?_) (fun z => absurd rfl z)
  refine wpAny_bind (wpAny_rule ?_)
  refine wpAny_bind (wpAny_attempt (wpAny_mono h (fun v s' z => ?_) fun _ _ z => z.elim))
  obtain ⟨k, u, rfl, k0, k1, q⟩ := z
  have e : Builtin.List.listTooLong k.toNat = false := by
    unfold Builtin.List.listTooLong
    exact decide_eq_false (by omega)
  refine wpAny_bind (wpAny_pure ?_)
  simp only [e]
  exact wpAny_pure q
end
section
variable {X : Cx} {C f fl : Addr} {n : Nat} {fd fdl : FuncData} {ps psl : List Str} {sp spl : Sp}
def rListIt (K : PySem.W.Frag) (C : Addr) (sp spl : Sp) : List V → Hp → VK → Prop := fun xs H Q => ∃ (a dx : Addr) (fs : List (Str × V)) (l : Addr) (zs : List V), xs = [.ref a] ∧ H a = some (.ins C dx fs) ∧ SqT K H l zs ∧
  ∀ q, H q = none → sp [.ref a] (upd H q (.lst [])) (fun v H' => ∃ it, v = .ref it ∧ H' = upd (upd H q (.lst [])) it (TuO l it) ∧ (upd H q (.lst [])) it = none ∧ q < it ∧ spl [.ref a] H' (fun v2 H2 => v2 = .int zs.length ∧ H2 = H' ∧ Q (.ref q) (upd H q (.lst zs))) fun _ _ _ => False) fun _ _ _ => False
theorem call_listIt (F : FnOk X.prog X.w X.K X.mg X.base (L2.CX X.prog X.w) n f fd ps sp) (me : Meth X.K C "__iter__" f) (hb : Binds X.K fd ps [])
    (FL : FnOk X.prog X.w X.K X.mg X.base (L2.CX X.prog X.w) n fl fdl psl spl) (mel : Meth X.K C "__len__" fl) (hbl : Binds X.K fdl psl []) (hr : Room (n + 3) X.A) : CallR X (.type "list") (rListIt X.K C sp spl) := by
  intro pins s σ H xs us Q I rv h
  obtain ⟨a, dx, fs, l, zs, rfl, ha, hT, hq⟩ := h
  obtain rfl := Vals.ref1 rv
  have hr1 : Room (n + 2) X.A.in1 := hr.in1
  have hr2 : Room (n + 1) X.A.in1.in1 := hr1.in1
  have hr3 : Room n X.A.in1.in1.in1 := hr2.in1
  refine callType_codes (Q₁ := fun obj s₁ => obj = .ref s.heap.objs.size ∧ s₁ = { s with heap := s.heap.push { cls := .type "list", data := .seq #[] } }) PySem.F.called_list (PySem.F.typeCall_list_1 _) PySem.F.entry_list_init
    (code_list_new _ ⟨rfl, rfl⟩) fun obj s₁ h₁ => ?_
  obtain ⟨rfl, rfl⟩ := h₁
  have hS : (s.heap.push { cls := .type "list", data := .seq #[] }).get? s.heap.objs.size = some { cls := .type "list", data := .seq #[] } := Heap.get?_push_size _ rfl
  refine ⟨⟨_, hS, rfl⟩, PySem.F.args_list_init_2 _ _, ?_⟩
  have fr : H s.heap.objs.size = none := I.hok.fresh (Nat.le_refl _)
  have hsp := hq _ fr
  have hyo : X.s_0.heap.objs.size ≤ s.heap.objs.size := I.sz
  have I1 : Inv X pins σ (upd H s.heap.objs.size (.lst [])) { s with heap := s.heap.push { cls := .type "list", data := .seq #[] } } := I.lnew (its := []) (t' := s.toks) .nil (Nat.zero_le _)
  show wpAny _ _ (do let old ← Builtin.List.listItems (.ref s.heap.objs.size); Builtin.List.listUpdate (.ref s.heap.objs.size) (fun _ => #[]); letGo old.toList.reverse; Builtin.List.listExtendWith (.ref s.heap.objs.size) (.ref a) .none) _ _ _
  refine wpAny_bind ?_
  unfold Builtin.List.listItems
  refine wpAny_bind (wpAny_seqItems hS rfl (wpAny_pure ?_))
  show wpAny _ _ (updateSeq s.heap.objs.size (fun _ => #[]) >>= fun _ => letGo (#[] : Array Value).toList.reverse >>= fun _ => Builtin.List.listExtendWith (.ref s.heap.objs.size) (.ref a) .none) _ _ _
  refine wpAny_bind (wpAny_updateSeq hS rfl ?_)
  have I2 := I1.lset (f := fun _ => #[]) (its := []) (its' := []) (ys := []) (t' := s.toks) upd_same hS rfl .nil (Nat.zero_le _)
  rw [upd_upd] at I2
  refine wpAny_bind (wpAny_letGo ?_)
  have nqa : s.heap.objs.size ≠ a := fun z => by rw [← z, fr] at ha; cases ha
  have ha2 : upd H s.heap.objs.size (.lst []) a = some (.ins C dx fs) := by rw [upd_ne (Ne.symm nqa)]; exact ha
  have hT2 : ∀ acc, SqT X.K (upd H s.heap.objs.size (.lst acc)) l zs := fun acc => hT.ext fun b u e => by
    have nb : b ≠ s.heap.objs.size := fun z => by rw [z, fr] at e; cases e
    rw [upd_ne nb]; exact e
  generalize hqq : s.heap.objs.size = q at *
  generalize { s with heap := (s.heap.push { cls := .type "list", data := .seq #[] }).update q (Obj.mapSeq fun _ => #[]), toks := s.toks } = s2 at *
  obtain ⟨mA, J, _⟩ := ins_get I2.hok ha2
  obtain ⟨od, J, _⟩ := J.look
  obtain ⟨m0, hF⟩ := I2.fr
  unfold Builtin.List.listExtendWith
  refine wpAny_bind (J.type.here ?_)
  have h1 : Builtin.List.listSameRef (.ref q) (.ref a) = false := by simp [Builtin.List.listSameRef, nqa]
  have h2 : (Value.ref C == Value.type "list") = false := rfl
  have h3 : (Value.ref C == Value.type "tuple") = false := rfl
  simp only [h1, h2, h3, Bool.or_false, Bool.false_eq_true, if_false]
  refine wpAny_bind (PySem.W.owit_iter hF I2.ok.mod.kin J me.at_ me.fn ?_)
  have e0 : Env0 X.prog X.w X.K X.mg X.base X.A.in1.in1 X.stack s2 (upd H q (.lst [])) := by
    have e := I2.env0
    exact ⟨e.frames, e.mod, e.bs, e.bsz, e.funs, e.frf, e.hok, e.bare⟩
  have hl := F.len _ _ _ _ hsp
  have r2 : Vals [V.ref a] [Value.ref a] := .cons rfl .nil
  have bd := hb s2 [.ref a] I2.kIn (by simpa using hl)
  refine wpAny_call (codeAny_mono (F.run X.A.in1.in1 X.stack s2 _ ⟨[.ref a], []⟩ [.ref a] [.ref a] _ _ (hr2.mono (Nat.le_succ n)) e0 (by simpa using bd) r2 hsp) fun r s' hq' => ?_)
  cases r with
  | error e =>
    obtain ⟨_, _, _, _, _, _, _, _, _, _, _, _, z⟩ := hq'
    exact z.elim
  | ok fl =>
    cases fl with
    | next => exact False.elim hq'
    | brk => exact False.elim hq'
    | cont => exact False.elim hq'
    | ret u =>
      obtain ⟨v, H', I', rv', it, ev, eH, hn, hlt, qq⟩ := I2.after hq'
      subst ev
      subst eH
      cases rv'
      have hit : s'.heap.IsTupleIter it l 0 := (I'.hok it _ upd_same).1
      have hTy : s'.TypeIs (.ref it) "tuple_iterator" := hit.typeIs
      unfold PySem.W.OwitIt
      refine wpAny_specialOf hTy PySem.F.slot_tuple_iterator_next.lookup ?_
      dsimp only
      have niq : it ≠ q := Nat.ne_of_gt hlt
      have nia : a ≠ it := fun z => by rw [← z, ha2] at hn; cases hn
      have ha3 : upd (upd H q (.lst [])) it (TuO l it) a = some (.ins C dx fs) := by rw [upd_ne nia]; exact ha2
      obtain ⟨mA', J', _⟩ := ins_get I'.hok ha3
      obtain ⟨od', J', _⟩ := J'.look
      obtain ⟨m1, hF'⟩ := I'.fr
      have e1 : Env0 X.prog X.w X.K X.mg X.base X.A.in1.in1.in1 X.stack s' (upd (upd H q (.lst [])) it (TuO l it)) := by
        have e := I'.env0
        exact ⟨e.frames, e.mod, e.bs, e.bsz, e.funs, e.frf, e.hok, e.bare⟩
      have hl1 := FL.len _ _ _ _ qq
      have bd1 := hbl s' [.ref a] I'.kIn (by simpa using hl1)
      have hzl : zs.length ≤ sizeLine := by
        obtain ⟨_, _, _, hz⟩ := I.tuple hT
        exact hz
      refine wpAny_bind (wpAny_holding (hint_len I'.kIn J' mel.at_ (PySem.W.len_K hF' I'.ok.mod.kin J' mel.at_ mel.fn (wpAny_call (codeAny_mono (FL.run X.A.in1.in1.in1 X.stack s' _ ⟨[.ref a], []⟩ [.ref a] [.ref a] _ _ hr3 e1 (by simpa using bd1) r2 qq) fun r s4 hq4 => ?_)))))
      cases r with
      | error e =>
        obtain ⟨_, _, _, _, _, _, _, _, _, _, _, _, z⟩ := hq4
        exact z.elim
      | ok fl2 =>
        cases fl2 with
        | next => exact False.elim hq4
        | brk => exact False.elim hq4
        | cont => exact False.elim hq4
        | ret u4 =>
          obtain ⟨v4, H4, I4, rv4, ev4, eH4, q4⟩ := I'.after hq4
          subst ev4
          subst eH4
          obtain ⟨t4, rfl⟩ := rv4
          rw [sizeLine_eq] at hzl
          refine ⟨⟨by omega, by omega⟩, (zs.length : Int), s4.toks, rfl, by omega, by rw [sizeLine_eq]; omega, ?_⟩
          have I4 := I4.kept (t' := s4.toks + 1) (fun _ _ e => e)
          have hit : s4.heap.IsTupleIter it l 0 := (I4.hok it _ upd_same).1
          have f := ItX.inv_fp I4 upd_same (Nat.le_trans hyo (Nat.le_of_lt hlt))
          have I3 := ItX.inv_drop I4 upd_same
          rw [ItX.dropH_upd hn] at I3 f
          have hH : H it = none := by rw [upd_ne niq] at hn; exact hn
          have fin : ∀ s5, Inv X pins σ (upd H q (.lst [])) s5 → s5.heap.IsTupleIter it l 0 → codeAny (model X.prog X.w) X.A.in1 (.builtin "list.extend.loop" ⟨[.ref q, .ref it, .none], []⟩) (wants (fun r s₂ => r = .none ∧ EP X pins σ Q (.ref q) s₂) X.xe) s5 := fun s5 I5 h5 =>
            tu_loop (A1 := X.A.in1) hr1.hd niq hH (fun H'' h => ⟨h, f.2⟩) hT2 (fun s'' I'' => ⟨rfl, .ref q, _, I'', rfl, q4⟩) zs.length 0 s5 (by omega) (Nat.zero_le _) (by rw [List.take_zero]; exact I5) h5
          refine wpAny_ite_split (fun _ => ?_) (fun _ => wpAny_pure ⟨plainId_quiet PySem.F.plain_extend_loop _, fin _ I3 hit⟩)
          obtain ⟨z, its, k, r3, hl3, e3⟩ := I3.lstM upd_same
          cases r3
          refine wpAny_bind (wpAny_rule (wpAny_bind ?_))
          show wpAny _ _ (updateSeq q (·.push .none) >>= fun _ => updateSeq q (·.pop)) _ _ _
          refine wpAny_bind (wpAny_updateSeq e3 rfl ?_)
          have I6 := I3.lset (f := (·.push Value.none)) (its' := [Value.none]) (ys := [.non]) (t' := s4.toks + 1) upd_same e3 (by simp) (.cons rfl .nil) (by rw [List.length_singleton, sizeLine_eq]; decide)
          rw [upd_upd] at I6
          obtain ⟨z4, its4, k4, r4, hl4, e4⟩ := I6.lstM upd_same
          obtain ⟨u5, rfl, ru5⟩ := r4.one
          refine wpAny_updateSeq e4 rfl ?_ (by show 1 ≤ sizeLine; rw [sizeLine_eq]; decide) (by show 0 ≤ sizeLine + 1; exact Nat.zero_le _)
          have I7 := I6.lset (f := (·.pop)) (its := [u5]) (its' := []) (ys := []) (t' := s4.toks + 1) upd_same e4 (by rfl) .nil (Nat.zero_le _)
          rw [upd_upd] at I7
          refine wpAny_pure ⟨plainId_quiet PySem.F.plain_extend_loop _, fin _ I7 ?_⟩
          obtain ⟨o5, ho5, r5⟩ := hit
          exact ⟨o5, (Heap.get?_update_other _ _ (Ne.symm niq)).trans ((Heap.get?_update_other _ _ (Ne.symm niq)).trans ho5), r5⟩
end
end TT

set_option Elab.async false
set_option linter.all false
set_option maxRecDepth 100000
/-! list(o), o an object whose class says __iter__ (iter of a field that holds a tuple) and __len__ (len of it) -/
namespace TT
open PySem PySem.Spec PyProof.Rows L2
def spIt (K : PySem.W.Frag) (C : Addr) (fld : Str) : Sp := fun vs H Q _ => ∃ (a dx : Addr) (fs : List (Str × V)) (l : Addr) (zs : List V), vs = [.ref a] ∧ H a = some (.ins C dx fs) ∧ fs.lookup fld = some (.ref l) ∧ SqT K H l zs ∧
  ∀ it, H it = none → (∀ b, H b ≠ none → b < it) → Q (.ref it) (upd H it (TuO l it))
def spLn (K : PySem.W.Frag) (C : Addr) (fld : Str) : Sp := fun vs H Q _ => ∃ (a dx : Addr) (fs : List (Str × V)) (l : Addr) (zs : List V), vs = [.ref a] ∧ H a = some (.ins C dx fs) ∧ fs.lookup fld = some (.ref l) ∧ SqT K H l zs ∧ Q (.int zs.length) H
section
variable {P : Program} {w : World} {K : PySem.W.Frag} {mg : Str → Option Value} {base : Heap} {x qual : Str} {params : Arguments} {scope : Scope} {f : Addr} {fd : FuncData} {k : Nat} {fld : Str} {C : Addr} {p1 p2 p3 p4 p5 : Pos}
theorem fn_iter (F : FunD K x qual params [.Return (some (.Call (.Name "iter" p1) [.Attribute (.Name "self" p2) fld p3] [] p4)) p5] scope [] [] f fd) (S : FnScope ["self"] ["self"] scope) (hg : scope.names.lookup ("iter" : Str) = some .globalImplicit) (hm : mg "iter" = none)
    (cl : Cls K C) (na : NoAttr K C fld) (hv : scope.names.lookup ("self" : Str) = some .local) (hb : bootBuiltins "iter" = some (.builtin "iter")) : FnOk P w K mg base (L2.CX P w) (k + 1) f fd ["self"] (spIt K C fld) := by
  refine F.ok S (fun vs H Q E h => by obtain ⟨a, dx, fs, l, zs, rfl, _⟩ := h; rfl) fun cdv A outer s H vs Q E hr h => ?_
  obtain ⟨a, dx, fs, l, zs, rfl, ha, hl, hT, q⟩ := h
  exact ⟨_, pss_one (ps_ret (pe_callB cr_iterT hg hm hb (pa_cons (pe_fld (pe_var (i := 0) rfl (.inl hv) (by decide) (by decide)) rfl) pa_nil rfl) (by decide) (by decide) rfl rfl)),
    .ref a, rfl, a, C, dx, fs, .ref l, rfl, ha, cl, na, hl, l, zs, rfl, hT, fun it h1 h2 => q it h1 h2⟩
theorem fn_lenF (F : FunD K x qual params [.Return (some (.Call (.Name "len" p1) [.Attribute (.Name "self" p2) fld p3] [] p4)) p5] scope [] [] f fd) (S : FnScope ["self"] ["self"] scope) (hg : scope.names.lookup ("len" : Str) = some .globalImplicit) (hm : mg "len" = none)
    (cl : Cls K C) (na : NoAttr K C fld) (hv : scope.names.lookup ("self" : Str) = some .local) : FnOk P w K mg base (L2.CX P w) (k + 1) f fd ["self"] (spLn K C fld) := by
  refine F.ok S (fun vs H Q E h => by obtain ⟨a, dx, fs, l, zs, rfl, _⟩ := h; rfl) fun cdv A outer s H vs Q E hr h => ?_
  obtain ⟨a, dx, fs, l, zs, rfl, ha, hl, hT, q⟩ := h
  exact ⟨_, pss_one (ps_ret (pe_callB call_len_seq hg hm boot_len (pa_cons (pe_fld (pe_var (i := 0) rfl (.inl hv) (by decide) (by decide)) rfl) pa_nil rfl) (by decide) (by decide) rfl rfl)),
    .ref a, rfl, a, C, dx, fs, .ref l, rfl, ha, cl, na, hl, l, zs, rfl, .inr hT, q⟩
end
/-- what list(o) needs of a class, for a caller -/
structure ItC2 (P : Program) (w : World) (K : PySem.W.Frag) (mg : Str → Option Value) (base : Heap) (c fld : Str) (k : Nat) : Prop where
  ex : ∃ f fd fl fdl, Meth K (He.ga K c) "__iter__" f ∧ FnOk P w K mg base (L2.CX P w) k f fd ["self"] (spIt K (He.ga K c) fld) ∧ Binds K fd ["self"] [] ∧
    Meth K (He.ga K c) "__len__" fl ∧ FnOk P w K mg base (L2.CX P w) k fl fdl ["self"] (spLn K (He.ga K c) fld) ∧ Binds K fdl ["self"] []
/-- list(e), e an object of the class c whose field fld holds a tuple -/
def fListO (c fld : Str) (g : Rho → Res RV) : Rho → Res RV := fun ρ => (fV g ρ).bind fun r ρ1 => match r with
  | .val d => (match isObjV c d with
    | some fs => (match fs.lookup fld with
      | some (.tup ds) => .ok (.own (.lst ds)) ρ1
      | _ => .no)
    | none => .no)
  | _ => .no
section
variable {X : Cx} {W : WX} {e : Expr} {g : Rho → Res RV} {c fld : Str} {pos p' : Pos} {k j : Nat}
theorem se_listO [Tabl] (p : ItC2 X.prog X.w X.K X.mg X.base c fld k) (hr : Room j X.A) (he : SE X W e g) (hg : Gl X "list") (hm : X.mg "list" = none) (hk : k + 3 ≤ j := by decide) (hbt : bootBuiltins "list" = some (.type "list") := by decide +kernel)
    (hs : starEach [e] X.env = (false, eval e X.env) :: starEach [] X.env := by rfl) : SE X W (.Call (.Name "list" p') [e] [] pos) (fListO c fld g) := by
  obtain ⟨f, fd, fl, fdl, m1, G1, b1, m2, G2, b2⟩ := p.ex
  refine se_of (pe_callTy (call_listIt G1 m1 b1 G2 m2 b2 (hr.mono hk)) hg hm hbt (pa_cons (se_v he) pa_nil hs) (by decide) (by decide) hs (by rfl)) fun C ρ σ Z H Q hK hm0 R q => ?_
  show TF X.K X.mg W (fV g) σ H fun x H1 => rListIt X.K (He.ga X.K c) (spIt X.K (He.ga X.K c) fld) (spLn X.K (He.ga X.K c) fld) [x] H1 Q
  rw [← hK, ← hm0]
  refine tf_bind (P := fun r => Aft C W σ Z r Q) R q (fun _ _ h => h) (fun h => h) fun r ρ1 v Z1 H1 R1 l dn q => ?_
  cases r with
  | own d => exact q.elim
  | ali i => exact q.elim
  | val d =>
    simp only at q
    cases e2 : isObjV c d with
    | none => rw [e2] at q; exact q.elim
    | some fs =>
      rw [e2] at q
      simp only at q
      have := isObjV_eq e2
      subst this
      cases e3 : List.lookup fld fs with
      | none => rw [e3] at q; exact q.elim
      | some d2 =>
        rw [e3] at q
        cases d2 with
        | tup es =>
          simp only at q
          have dn' : Dn C.K Z1 v (.obj c fs) := dn
          obtain ⟨a, dx, ns, xs, ds, rfl, hx, rfl, hl, t⟩ := dn'.obj_inv
          obtain ⟨v2, h1, h2⟩ := zip_look t e3
          obtain ⟨la, zs, rfl, hT, tz⟩ := h2.tup_inv
          have hT1 : SqT C.K H1 la zs := hT.ext fun b u z => R1.le b u z
          have ha := R1.le _ _ hx
          have wn := want_of (o := .own (.lst es)) R1 q l
          refine ⟨a, dx, _, la, zs, rfl, ha, hT1, fun qa hq => ?_⟩
          have ex : ∀ b u, H1 b = some u → upd H1 qa (.lst []) b = some u := fun b u z => by
            have nb : b ≠ qa := fun y => by rw [y, hq] at z; cases z
            rw [upd_ne nb]; exact z
          refine ⟨a, dx, _, la, zs, rfl, ex _ _ ha, h1, hT1.ext ex, fun it hi hlt => ?_⟩
          have ex2 : ∀ b u, upd H1 qa (.lst []) b = some u → upd (upd H1 qa (.lst [])) it (TuO la it) b = some u := fun b u z => by
            have nb : b ≠ it := fun y => by rw [y, hi] at z; cases z
            rw [upd_ne nb]; exact z
          exact ⟨it, rfl, rfl, hi, hlt qa (by rw [upd_same]; exact fun z => nomatch z), a, dx, _, la, zs, rfl, ex2 _ _ (ex _ _ ha), h1, (hT1.ext ex).ext ex2, rfl, rfl, wn _ _ _ rfl hq tz⟩
        | _ => exact q.elim
@[simp] theorem fListO_ap {ρ : Rho} : fListO c fld g ρ = (fV g ρ).bind fun r ρ1 => match r with
  | .val d => (match isObjV c d with
    | some fs => (match fs.lookup fld with
      | some (.tup ds) => .ok (.own (.lst ds)) ρ1
      | _ => .no)
    | none => .no)
  | _ => .no := rfl
end
end TT

set_option Elab.async false
set_option linter.all false
set_option maxRecDepth 100000
/-! the head's run cut into parts; the objects looked at are named one by one -/
namespace TT
open PySem PySem.Spec L2
abbrev KA (as : List Addr) (g : Addr → Option Obj) : PySem.W.Frag := He.frG g as
def obsA (as : List Addr) (fa : List He.Fa) (fn pn : List He.DefD) (B : PySem.W.Frag → Bool) (ms : List Str) (g : Addr → Option Obj) : AlY :=
  (B (KA as g) && (pn.all (fun d => prB (KA as g) d) && (okT (KA as g) ms && hdT g (KA as g) ms)), He.obsD fa fn (KA as g), pn.map fun d => prW (KA as g) d)
def hookA (as : List Addr) (fa : List He.Fa) (fn pn : List He.DefD) (B : PySem.W.Frag → Bool) (ms : List Str) : PySem.W.Hook where
  α := AlY
  obs := fun s => obsA as fa fn pn B ms s.heap.get?
  val := fun _ => (true, He.valD fn, pn.map He.DefD.val)
  says := fun _ h => ∃ K : PySem.W.Frag, K.In h ∧ SaysT fa fn pn B ms K h
  of := fun w s e => by
    have b1 := He.ba (congrArg (fun z : AlY => z.1) e)
    have b2 := He.ba b1.2
    have b3 := He.ba b2.2
    refine ⟨_, He.frG_in, ⟨congrArg (fun z : AlY => z.2.1) e, b1.1, b2.1, congrArg (fun z : AlY => z.2.2) e⟩, b3.1, fun p hp => ?_⟩
    have z := List.all_eq_true.mp b3.2 p hp
    have z1 := He.ba z
    have z2 := He.ba z1.2
    exact ⟨tblB_ok z1.1, by simpa using z2.1, z2.2⟩
  keeps := fun _ _ _ ⟨K, hK, c, o, t⟩ k => ⟨K, PySem.W.Frag.In.keeps hK k, c, o, fun p hp => ⟨k _ _ (t p hp).1, (t p hp).2⟩⟩
theorem obsA_eq {as : List Addr} {fa : List He.Fa} {fn pn : List He.DefD} {B : PySem.W.Frag → Bool} {ms : List Str} {g : Addr → Option Obj} {s : Shared} (h : ∀ a, g a = s.heap.get? a) : obsA as fa fn pn B ms g = (hookA as fa fn pn B ms).obs s := by
  have e : g = s.heap.get? := funext h
  rw [e] <;> rfl
section
variable {σ α : Type} {o : Option σ} {G : σ → Addr → Option Obj} {as : List Addr} {fa : List He.Fa} {fn pn : List He.DefD} {B : PySem.W.Frag → Bool} {ms : List Str}
theorem obsA_of (h1 : o.map (fun s => ((B (KA as (G s)), okT (KA as (G s)) ms && hdT (G s) (KA as (G s)) ms), (pn.all fun d => prB (KA as (G s)) d), pn.map fun d => prW (KA as (G s)) d)) = some ((true, true), true, pn.map He.DefD.val))
    (h2 : o.map (fun s => fa.all fun f => f.ok (KA as (G s))) = some true)
    (h3 : o.map (fun s => (fn.all fun d => d.ok (KA as (G s)), fn.map fun d => He.fnW (KA as (G s)) d.at_)) = some (true, fn.map He.DefD.val)) :
    o.map (fun s => obsA as fa fn pn B ms (G s)) = some (true, He.valD fn, pn.map He.DefD.val) := by
  cases o with
  | none => cases h2
  | some s =>
    simp only [Option.map_some, Option.some.injEq, Prod.mk.injEq] at h1 h2 h3
    obtain ⟨⟨a1, a2⟩, a3, a4⟩ := h1
    obtain ⟨c1, c2⟩ := h3
    show some (obsA as fa fn pn B ms (G s)) = _
    unfold obsA He.obsD He.valD
    rw [a1, a2, a3, a4, h2, c1, c2]
    rfl
theorem all_cut {p : σ → α → Bool} (n : Nat) (l : List α) (h1 : o.map (fun s => (l.take n).all (p s)) = some true) (h2 : o.map (fun s => (l.drop n).all (p s)) = some true) : o.map (fun s => l.all (p s)) = some true := by
  cases o with
  | none => cases h2
  | some s =>
    simp only [Option.map_some, Option.some.injEq] at h1 h2 ⊢
    rw [← List.take_append_drop n l, List.all_append, h1, h2]
    rfl
theorem fn_cut {β : Type} {p : σ → α → Bool} {q : σ → α → β} {v : α → β} (n : Nat) (l : List α) (h1 : o.map (fun s => ((l.take n).all (p s), (l.take n).map (q s))) = some (true, (l.take n).map v))
    (h2 : o.map (fun s => ((l.drop n).all (p s), (l.drop n).map (q s))) = some (true, (l.drop n).map v)) : o.map (fun s => (l.all (p s), l.map (q s))) = some (true, l.map v) := by
  cases o with
  | none => cases h2
  | some s =>
    simp only [Option.map_some, Option.some.injEq, Prod.mk.injEq] at h1 h2 ⊢
    obtain ⟨a1, a2⟩ := h1
    obtain ⟨b1, b2⟩ := h2
    have e := List.take_append_drop n l
    refine ⟨?_, ?_⟩
    · rw [← e, List.all_append, a1, b1]
      rfl
    · calc l.map (q s) = (l.take n ++ l.drop n).map (q s) := by rw [e]
        _ = (l.take n ++ l.drop n).map v := by rw [List.map_append, List.map_append, a2, b2]
        _ = l.map v := by rw [e]
theorem trip_of {β γ δ : Type} {f : σ → β} {g : σ → γ} {h : σ → δ} {a : β} {b : γ} {c : δ} (h1 : o.map f = some a) (h2 : o.map g = some b) (h3 : o.map h = some c) : o.map (fun s => (f s, g s, h s)) = some (a, b, c) := by
  cases o with
  | none => cases h1
  | some s =>
    simp only [Option.map_some, Option.some.injEq] at h1 h2 h3 ⊢
    rw [h1, h2, h3]
end
end TT

set_option Elab.async false
set_option linter.all false
set_option maxRecDepth 100000
/-! raise X(e) of a class over a built-in one whose __init__ keeps what it got under one name -/
namespace TT
open PySem PySem.Spec L2
/-- a built-in class that such classes stand over -/
inductive Bas where
  | value | index | overflow
def Bas.mro : Bas → List Value
  | .value => [.type "ValueError", .type "Exception", .type "BaseException", .type "object"]
  | .index => [.type "IndexError", .type "LookupError", .type "Exception", .type "BaseException", .type "object"]
  | .overflow => [.type "OverflowError", .type "ArithmeticError", .type "Exception", .type "BaseException", .type "object"]
def Bas.nm : Bas → String
  | .value => "ValueError"
  | .index => "IndexError"
  | .overflow => "OverflowError"
def Bas.nw : Bas → String
  | .value => "ValueError.__new__"
  | .index => "IndexError.__new__"
  | .overflow => "OverflowError.__new__"
def Bas.it : Bas → String
  | .value => "ValueError.__init__"
  | .index => "IndexError.__init__"
  | .overflow => "OverflowError.__init__"
theorem Bas.ex (b : Bas) : ExcBaseFacts b.nm b.nw b.it b.mro := by
  cases b
  · exact PySem.F.excBase_ValueError
  · exact PySem.F.excBase_IndexError
  · exact PySem.F.excBase_OverflowError
theorem Bas.st (b : Bas) : StoreFacts b.nm b.mro "object.__setattr__" "object" := by
  cases b
  · exact PySem.F.store_ValueError
  · exact PySem.F.store_IndexError
  · exact PySem.F.store_OverflowError
abbrev iniA (K : PySem.W.Frag) (c : Str) : Addr := He.ma K (He.ga K c) "__init__"
/-- what the head says of such a class -/
def xoB (K : PySem.W.Frag) (b : Bas) (c f : Str) : Bool := PySem.W.excInitIn K (He.ga K c) b.mro b.nw && (PySem.W.excOver K (He.ga K c) b.mro && (He.eqO (PySem.W.findIn K (.ref (He.ga K c)) "__setattr__") (some (some (.builtin "object.__setattr__"))) &&
  (He.eqO (PySem.W.findIn K (.ref (He.ga K c)) f) (some none) && (PySem.W.hasDictIn K (He.ga K c) && (PySem.W.keepIn K (.ref (He.ga K c)) && (decide (PySem.W.subIn K (.ref (He.ga K c)) (.type "BaseException") = some true) &&
  (decide (PySem.W.typeIn K (.ref (He.ga K c)) = some (.type "type")) && (He.eqO (PySem.W.findIn K (.ref (He.ga K c)) "__init__") (some (some (.ref (iniA K c)))) && (decide (PySem.W.typeIn K (.ref (iniA K c)) = some (.type "function")) &&
  (xfB K (He.ga K c) && true))))))))))
structure XoC (K : PySem.W.Frag) (b : Bas) (c f : Str) : Prop where
  ini : PySem.W.excInitIn K (He.ga K c) b.mro b.nw = true
  ovr : PySem.W.excOver K (He.ga K c) b.mro = true
  sa : PySem.W.findIn K (.ref (He.ga K c)) "__setattr__" = some (some (.builtin "object.__setattr__"))
  no : PySem.W.findIn K (.ref (He.ga K c)) f = some none
  hd : PySem.W.hasDictIn K (He.ga K c) = true
  kp : PySem.W.keepIn K (.ref (He.ga K c)) = true
  be : PySem.W.subIn K (.ref (He.ga K c)) (.type "BaseException") = some true
  ty : PySem.W.typeIn K (.ref (He.ga K c)) = some (.type "type")
  fi : PySem.W.findIn K (.ref (He.ga K c)) "__init__" = some (some (.ref (iniA K c)))
  tf : PySem.W.typeIn K (.ref (iniA K c)) = some (.type "function")
  xf : XfC K (He.ga K c)
theorem xoB_ok {K : PySem.W.Frag} {b : Bas} {c f : Str} (h : xoB K b c f = true) : XoC K b c f := by
  have a1 := He.ba h
  have a2 := He.ba a1.2
  have a3 := He.ba a2.2
  have a4 := He.ba a3.2
  have a5 := He.ba a4.2
  have a6 := He.ba a5.2
  have a7 := He.ba a6.2
  have a8 := He.ba a7.2
  have a9 := He.ba a8.2
  have a10 := He.ba a9.2
  have a11 := He.ba a10.2
  exact ⟨a1.1, a2.1, He.eqO_ok a3.1, He.eqO_ok a4.1, a5.1, a6.1, of_decide_eq_true a7.1, of_decide_eq_true a8.1, He.eqO_ok a9.1, of_decide_eq_true a10.1, xfB_ok a11.1⟩
section
variable {X : Cx} {pins : List (Addr × Obj)} {σ : Sg} {H : Hp} {s : Shared} {a C dx : Addr} {f c : Str} {b : Bas} {y : V} {u : Value} {Q : Unit → Shared → Prop} {E : Value → Shared → Prop} {A : Around}
/-- the first field of an exception that is being made -/
theorem xo_store (T : XoC X.K b c f) (I : Inv X pins σ H s) (ea : H a = some (exo a (He.ga X.K c) none)) (ry : RelV y u)
    (h : ∀ dx s', H dx = none → dx ≠ a → Inv X pins σ (upd (upd H dx (exd dx [(f, y)])) a (exo a (He.ga X.K c) (some dx))) s' → Q () s') : wpAny (model X.prog X.w) A (setAttr (.ref a) f u) Q E s := by
  obtain ⟨t1, ho⟩ := exo_at I.hok ea
  obtain ⟨hp, g, d, t, os⟩ := s
  have at1 : PySem.W.InstAt hp a (PySem.W.excObj (He.ga X.K c) t1 none .none) (He.ga X.K c) none := ⟨ho, rfl, rfl, trivial⟩
  refine PySem.W.set_plain I.kIn (od := none) at1 T.sa ?_
  have tk0 : PySem.W.takerIn X.K (He.ga X.K c) f = some none := by unfold PySem.W.takerIn; rw [T.no]; rfl
  refine PySem.W.osa_openX (s := ⟨hp, g, d, t + 1, os⟩) (od := none) b.st I.kIn at1 T.ovr tk0 fun _ => ?_
  obtain ⟨cd, hcd, hdct⟩ := PySem.W.any_some T.hd
  refine wpAny_bind (wpAny_pure (wpAny_bind (PySem.W.instanceDict_exc ho (PySem.W.looks_clsIn I.kIn hcd) hdct ?_)))
  have as : a < hp.objs.size := Heap.lt_size ho
  refine PySem.HandSPX.store_in_new ⟨PySem.W.dictOf [] 0, #[], 0, (Heap.get?_update_ne _ _ _ _ (Nat.ne_of_gt as)).trans (Heap.get?_push_at rfl rfl), rfl, fun e he => absurd he (by simp), fun _ => rfl⟩ fun h' tk' hn' hs => ?_
  have pa : (hp.push (PySem.W.dictOf [] 0)).get? a = some (PySem.W.excObj (He.ga X.K c) t1 none .none) := Heap.get?_push_of_some _ ho
  have old : ∀ q o, q ≠ a → hp.get? q = some o → h'.get? q = some o := fun q o hq e => (hs.2 q (Nat.ne_of_lt (Heap.lt_size e))).trans ((Heap.get?_update_ne _ _ _ _ hq).trans (Heap.get?_push_of_some _ e))
  have now : h'.get? a = some (PySem.W.excObj (He.ga X.K c) t1 (some hp.objs.size) .none) := (hs.2 a (Nat.ne_of_lt as)).trans (Heap.get?_update_self _ pa rfl)
  have n0 : H hp.objs.size = none := I.hok.fresh (Nat.le_refl _)
  have ne : ∀ {q : Addr}, H q = none → q ≠ a := fun {q} n z => by rw [z, ea] at n; cases n
  have ltn : ∀ {q : Addr} {o : Obj}, hp.get? q = some o → q ≠ hp.objs.size := fun {q o} z => Nat.ne_of_lt (Heap.lt_size z)
  have stay : ∀ {q : Addr} {o : HO}, H q = some o → q ≠ a → (upd (upd H hp.objs.size (exd hp.objs.size [(f, y)])) a (exo a (He.ga X.K c) (some hp.objs.size))) q = some o := fun {q o} z hq => by
    rw [upd_ne hq, upd_ne (ne_of_none z n0)]; exact z
  refine h hp.objs.size _ n0 (Nat.ne_of_gt as) (I.un (t' := tk') (⟨fun q o e n _ _ => old q o (ne n) e, fun q o e n _ _ => ⟨o.slots, old q o (ne n) e⟩, fun q o e n _ => ?_, fun q o e _ => ?_, fun q xs e => stay e (at_ne ea e exo_tup), fun q o v e => stay e (at_ne ea e exo_frz), fun q ps e => ⟨#[], by rw [stay e (at_ne ea e exo_tbl)]; simp⟩⟩ : Un X.fs [] H _ hp h') fun q o e => ?_)
  · rw [upd_ne (ne n), upd_ne (ltn e)]; exact n
  · by_cases hq : q = a
    · exact ⟨_, by rw [hq]; exact now⟩
    · exact ⟨o, old q o hq e⟩
  · by_cases hq : q = a
    · subst hq
      rw [upd_same] at e
      cases e
      exact exo_ok now
    · rw [upd_ne hq] at e
      by_cases hd : q = hp.objs.size
      · subst hd
        rw [upd_same] at e
        cases e
        exact exd_ok hn' (relO_put (fs := []) ry fun _ => True.intro)
      · rw [upd_ne hd] at e
        refine (I.hok q o e).stay (fun z v hz k => old z v ?_ k) (fun z hz => stay hz (at_ne ea hz exo_own)) fun z xs hz => stay hz (at_ne ea hz exo_tup)
        rcases hz with hz | hz
        · rw [hz]; exact hq
        · exact at_ne ea hz exo_own
end
end TT

set_option Elab.async false
set_option linter.all false
set_option maxRecDepth 100000
/-! try with several clauses, some of them with a name -/
namespace TT
open PySem PySem.Spec L2 PyProof.Rows
abbrev Sui : Type := Addr → Value → Option Addr → TS
/-- the ends of a suite whose name in slot i goes -/
def endN (D : Ends) (i : Nat) : Ends := { nx := fun τ G => D.nx (τ.set i none) G, rt := D.rt, bk := fun τ G => D.bk (τ.set i none) G, ct := fun τ G => D.ct (τ.set i none) G }
/-- one clause's wish -/
def clsW (D : Ends) (o : Option Nat) (ts : Sui) (a : Addr) (cl : Value) (d : Option Addr) (τ : Sg) (G : Hp) : Prop := match o with
  | none => ts a cl d D τ G
  | some i => i < τ.length → ts a cl d (endN D i) (τ.set i (some (.ref a))) G
def wMx (K : PySem.W.Frag) (Wo : WX) (D : Ends) : List (Value × Option Nat × Sui) → WX
  | [] => Wo
  | z :: r => fun cl d τ G => ∃ k, PySem.W.exmOne K cl z.1 = some k ∧ (k = true → ∀ a, G a = none → clsW D z.2.1 z.2.2 a cl d τ G) ∧ (k = false → wMx K Wo D r cl d τ G)
inductive HdsMx (X : Cx) : List ExceptHandler → List (Value × Option Nat × Sui) → Prop
  | nil : HdsMx X [] []
  | pl {y : Str} {c : Value} {ts : Sui} {st : Stmt} {sts : List Stmt} {p1 p2 : Pos} {r : List ExceptHandler} {l : List (Value × Option Nat × Sui)} (hc : Names X y c)
      (su : ∀ (a : Addr) (oe : Obj) (cl : Value) (d : Option Addr) (pn : List (Addr × Obj)), Zc cl d oe → (∃ vs, oe.data = .fields vs) → PSs (X.suite a ((a, oe) :: pn)) (st :: sts) (ts a cl d)) (h : HdsMx X r l) :
      HdsMx X (.ExceptHandler (some (.Name y p1)) none (st :: sts) p2 :: r) ((c, none, ts) :: l)
  | nm {y n : Str} {i : Nat} {c : Value} {ts : Sui} {st : Stmt} {sts : List Stmt} {p1 p2 : Pos} {r : List ExceptHandler} {l : List (Value × Option Nat × Sui)} (hN : X.N.Nodup) (hi : X.N[i]? = some n) (hl : X.env.kindOf n = some .local) (hc : Names X y c)
      (su : ∀ (a : Addr) (oe : Obj) (cl : Value) (d : Option Addr) (pn : List (Addr × Obj)), Zc cl d oe → (∃ vs, oe.data = .fields vs) → PSs (X.suite a ((a, oe) :: pn)) (st :: sts) (ts a cl d)) (h : HdsMx X r l) :
      HdsMx X (.ExceptHandler (some (.Name y p1)) (some n) (st :: sts) p2 :: r) ((c, some i, ts) :: l)
section
variable {X : Cx} {body : List Stmt} {h0 : ExceptHandler} {hds : List ExceptHandler} {l : List (Value × Option Nat × Sui)} {pos : Pos} {tb : WX → TS} {Wo : WX}
theorem ps_try_mx (hs : X.stack = X.env :: X.outer) (hf : X.env.frame = some X.env.locals) (tk : Takes X Wo) (hh : HdsMx X (h0 :: hds) l)
    (hb : ∀ (W : WX) (pn : List (Addr × Obj)) (xe : Value → Shared → Prop), Takes (X.tr pn xe) W → PassesOwn (model X.prog X.w) X.A X.env xe → PSs (X.tr pn xe) body (tb W)) :
    PS X (.Try body (h0 :: hds) [] [] pos) (fun D τ G => tb (wMx X.K Wo D l) D τ G) := by
  refine ⟨fun pins s τ G D I q0 => wpAny_Try_except ?_⟩
  have k0 := I.ok
  have fr0 : X.A.frames = some (X.env :: X.outer) := k0.frames.trans (congrArg some hs)
  refine wpAny_mono ((hb (wMx X.K Wo D l) (X.pn ++ pins) (fun e s1 => wpAny (model X.prog X.w) X.A (noteFrame e X.env) (fun _ s2 => wpAny (model X.prog X.w) X.A (setFlight e none) (fun _ s3 => wpAny (model X.prog X.w) X.A (handleBy e X.env (h0 :: hds)) (SP X pins D) X.xe s3) X.xe s2) X.xe s1) (fun u s1 xx => ?_) PassesOwn.looking).run [] s τ G D (I.toTry _) q0) (fun fl s1 q1 => ?_) fun _ _ z => z
  · obtain ⟨a, B, s4, ps4, τ4, G4, cl, d, rfl, J4, nb, up, sky, na, os, ag, wi⟩ := xx
    have J : Inv X pins τ4 G4 s4 := J4.ofTry k0
    rw [hs] at sky
    refine Sky.land Zc.steady fr0 hf sky fun h3 fl3 up3 => ?_
    have J3 : Inv X pins τ4 G4 { s1 with heap := h3 } := J.landed nb fl3.1 (up.trans up3) os ag
    obtain ⟨ob, vb, eb, zb, db⟩ := fl3.there
    have off : ∀ {hq : Heap} {o : Obj} {vs : Array Value}, hq.FunFrames B (X.env :: X.outer) → hq.get? a = some o → o.data = .fields vs → a ∉ frs (X.env :: X.outer) := fun {hq o vs} ff e dd hm => by
      obtain ⟨_, o2, e2, no⟩ := ff.mem hm
      rw [e] at e2
      cases e2
      exact no _ dd
    have off3 := off fl3.2.2.1 eb db
    have nL : a ≠ X.env.locals := fun z => off3 (List.mem_filterMap.mpr ⟨X.env, List.mem_cons_self, hf.trans (congrArg some z.symm)⟩)
    have nF : a ∉ X.fs := fun hm => by
      obtain ⟨e, he, z⟩ := List.mem_filterMap.mp hm
      exact off3 (List.mem_filterMap.mpr ⟨e, .tail _ he, z⟩)
    have S3 := J3.suite eb db na nL nF
    have tst : ∀ {y : Str} {c : Value} {np : Pos} {Q E : Value → Shared → Prop}, Names X y c → Q c { s1 with heap := h3 } → wpAny (model X.prog X.w) (X.A.mark (some (.ref a))) (eval (.Name y np) X.env) Q E { s1 with heap := h3 } := fun {y c np Q E} hc q => by
      rcases hc with ⟨g1, g2, g3 | ⟨g3, g4, g5⟩⟩
      · exact ld_glob (X := X.suite a ((a, ob) :: (X.pn ++ pins))) S3 g1 g3 q g2
      · exact ld_blt (X := X.suite a ((a, ob) :: (X.pn ++ pins))) S3 g1 g3 g4 q g5 g2
    have LT : PySem.W.Looks (model X.prog X.w) h3 (typeOf (.ref a)) cl := fun _ _ _ _ k q => wpAny_typeOf_ref (k _ _ eb) (by rw [zb.1]; exact q)
    have all : ∀ {r : List ExceptHandler} {m : List (Value × Option Nat × Sui)}, HdsMx X r m → wMx X.K Wo D m cl d τ4 G4 → wpAny (model X.prog X.w) X.A (handleBy (.ref a) X.env r) (SP X pins D) X.xe { s1 with heap := h3 } := by
      intro r m hk
      induction hk with
      | nil =>
        intro wz
        refine wpAny_handleBy_nil ?_
        obtain ⟨_, _, _, oe, vs, T, _, _, he, _, hd, hv, _⟩ := id fl3
        have last : wpAny (model X.prog X.w) X.A (setFlight (.ref a) X.env.frame) (fun _ s5 => wpAny (model X.prog X.w) X.A (throw (.ref a) : Sem Flow) (SP X pins D) X.xe s5) X.xe { s1 with heap := h3 } := by
          rw [hf]
          exact HandSPX.setFlight_upZ fl3 fun h5 g5 up5 => wpAny_throw (tk _ _ ⟨a, B, s4, pins, τ4, G4, cl, d, rfl, J, nb, (up.trans up3).trans up5, .inr (.inr (by rw [hs]; exact g5)), na, os, ag, wz⟩)
        unfold PySem.passOn
        refine wpAny_bind (wpAny_field he hd hv ?_)
        rw [if_neg (by simp : ¬ ((Value.ref T == Value.none) = true))]
        first | exact wpAny_bind (wpAny_pure (wpAny_bind last)) | exact wpAny_bind last
      | @pl y c ts st sts p1 p2 r l hc su h ih =>
        rintro ⟨k, ek, yes, no⟩
        refine wpAny_handleBy_cons (codeAny_handlers_test ?_) (fun z => nomatch z)
        refine tst hc ((PySem.W.exm_one (M := model X.prog X.w) J3.kIn LT ek).here ?_)
        cases k with
        | false => exact ih (no rfl)
        | true =>
          refine codeAny_handlers_suite (HandSPX.lands_againZ fl3 fun h5 fl5 up5 => ?_)
          have J5 : Inv X pins τ4 G4 { s1 with heap := h5 } := J.landed nb fl5.1 ((up.trans up3).trans up5) os ag
          obtain ⟨o5, v5, e5, z5, d5⟩ := fl5.there
          refine wpAny_mono ((su a o5 cl d (X.pn ++ pins) z5 ⟨_, d5⟩).run [] _ _ G4 _ (J5.suite e5 d5 na nL nF) (yes rfl a na)) (fun f6 s6 q6 => ?_) fun _ _ z => z.elim
          cases f6 with
          | next => obtain ⟨τ6, G6, S6, q6⟩ := q6; exact ⟨τ6, G6, S6.unsuite k0, q6⟩
          | brk => obtain ⟨τ6, G6, S6, q6⟩ := q6; exact ⟨τ6, G6, S6.unsuite k0, q6⟩
          | cont => obtain ⟨τ6, G6, S6, q6⟩ := q6; exact ⟨τ6, G6, S6.unsuite k0, q6⟩
          | ret u => obtain ⟨v6, τ6, G6, S6, r6, q6⟩ := q6; exact ⟨v6, τ6, G6, S6.unsuite k0, r6, q6⟩
      | @nm y n i c ts st sts p1 p2 r l hN hi hl hc su h ih =>
        rintro ⟨k, ek, yes, no⟩
        refine wpAny_handleBy_cons (codeAny_handlers_test ?_) (fun z => nomatch z)
        refine tst hc ((PySem.W.exm_one (M := model X.prog X.w) J3.kIn LT ek).here ?_)
        cases k with
        | false => exact ih (no rfl)
        | true =>
          refine codeAny_handlers_suite_as (HandSPX.lands_againZ fl3 fun h5 fl5 up5 => ?_)
          have J5 : Inv X pins τ4 G4 { s1 with heap := h5 } := J.landed nb fl5.1 ((up.trans up3).trans up5) os ag
          obtain ⟨o5, v5, e5, z5, d5⟩ := fl5.there
          refine store_ok (X := X.suite a ((a, o5) :: (X.pn ++ pins))) (v := .ref a) (J5.suite e5 d5 na nL nF) hN hi (.inl hl) rfl (fun s7 S7 => ?_) (.inr hl)
          refine wpAny_mono ((su a o5 cl d (X.pn ++ pins) z5 ⟨_, d5⟩).run [] s7 _ G4 _ S7 (yes rfl a na (by rw [J.len]; exact (List.getElem?_eq_some_iff.mp hi).1))) (fun f6 s6 q6 => ?_) fun _ _ z => z.elim
          have off6 : ∀ {τ6 : Sg} {G6 : Hp} {Q : Shared → Prop}, Inv (X.suite a ((a, o5) :: (X.pn ++ pins))) [] τ6 G6 s6 → (∀ s8, Inv X pins (τ6.set i none) G6 s8 → Q s8) → wpAny (model X.prog X.w) X.A (do bindName X.env n .none; unbindBehindTheSuite X.env n p2) (fun _ s8 => Q s8) X.xe s6 :=
            fun {τ6 G6 Q} S6 q => gone_ok (S6.unsuite k0) hN hi hl q
          cases f6 with
          | next => obtain ⟨τ6, G6, S6, q6⟩ := q6; exact off6 S6 fun s8 J8 => ⟨_, _, J8, q6⟩
          | brk => obtain ⟨τ6, G6, S6, q6⟩ := q6; exact off6 S6 fun s8 J8 => ⟨_, _, J8, q6⟩
          | cont => obtain ⟨τ6, G6, S6, q6⟩ := q6; exact off6 S6 fun s8 J8 => ⟨_, _, J8, q6⟩
          | ret u => obtain ⟨v6, τ6, G6, S6, r6, q6⟩ := q6; exact off6 S6 fun s8 J8 => ⟨_, _, _, J8, r6, q6⟩
    exact all hh wi
  · cases fl with
    | next => obtain ⟨τ6, G6, S6, q6⟩ := q1; exact wpAny_execs_nil ⟨τ6, G6, S6.ofTry k0, q6⟩
    | brk => obtain ⟨τ6, G6, S6, q6⟩ := q1; exact ⟨τ6, G6, S6.ofTry k0, q6⟩
    | cont => obtain ⟨τ6, G6, S6, q6⟩ := q1; exact ⟨τ6, G6, S6.ofTry k0, q6⟩
    | ret u => obtain ⟨v6, τ6, G6, S6, r6, q6⟩ := q1; exact ⟨v6, τ6, G6, S6.ofTry k0, r6, q6⟩
end
end TT

set_option Elab.async false
set_option linter.all false
set_option maxRecDepth 100000
/-! repr of what the program holds, at any depth -/
namespace TT
open PySem PySem.Spec L2 PyProof.Rows
mutual
def pyD : PV → Option PyData
  | .non => some .none
  | .bl b => some (.bool b)
  | .int i => some (.int i)
  | .str x => some (.str x)
  | .tup xs => (pyDs xs).bind fun ys => some (.tuple ys)
  | .lst xs => (pyDs xs).bind fun ys => some (.list ys)
  | .scr _ => none
  | .obj _ _ => none
  | .rng _ _ => none
  | .dct ks ds => if ks.isEmpty && ds.isEmpty then some (.dict []) else none
  | .dcT _ _ => none
def pyDs : List PV → Option (List PyData)
  | [] => some []
  | d :: ds => (pyD d).bind fun y => (pyDs ds).bind fun ys => some (y :: ys)
end
/-- the addresses' look: none of them is the table of modules -/
def noSys (as : List Addr) : Prop := ∀ a ∈ as, (a == sysModules) = false
mutual
theorem reads_dn {X : Cx} {pins : List (Addr × Obj)} {σ : Sg} {H Z : Hp} {s : Shared} (I : Inv X pins σ H s) (l : Zle Z H) : ∀ {v : V} {d : PV} {y : PyData} {u : Value}, Dn X.K Z v d → pyD d = some y → RelV v u → ∃ as, Reads s.heap u y as
  | _, _, y, u, .non, e, r => by cases e; have r' : u = .none := r; subst r'; exact ⟨[], .none⟩
  | _, _, y, u, .bl b, e, r => by cases e; have r' : u = .bool b := r; subst r'; exact ⟨[], .bool b⟩
  | _, _, y, u, .int i, e, r => by cases e; obtain ⟨t, rfl⟩ := r; exact ⟨[], .int i t⟩
  | _, _, y, u, .str x, e, r => by cases e; obtain ⟨t, rfl⟩ := r; exact ⟨[], .str x t⟩
  | _, _, y, u, .tup (ds := ds) hs t, e, r => by
    unfold pyD at e
    obtain ⟨ys, e1, e2⟩ := Option.bind_eq_some_iff.mp e
    cases e2
    obtain ⟨its, rv, ⟨o, ho, hc, n, hd⟩, hz⟩ := I.tuple (l.sqT hs)
    obtain ⟨as, ra⟩ := reads_dns I l t e1 rv
    rw [show u = .ref _ from r]
    exact ⟨as, .tuple ho hc hd (by simpa using ra)⟩
  | _, _, y, u, .lst (ds := ds) hs t, e, r => by
    unfold pyD at e
    obtain ⟨ys, e1, e2⟩ := Option.bind_eq_some_iff.mp e
    cases e2
    obtain ⟨its, rv, ⟨o, n, ho, hc, hd, hw⟩, hz⟩ := I.list (show SqL X.K H _ _ from .inl (.inl (l _ _ hs)))
    obtain ⟨as, ra⟩ := reads_dns I l t e1 rv
    rw [show u = .ref _ from r]
    exact ⟨_, .list ho hc hw (by simpa using ra)⟩
  | _, _, y, u, .scr _ _, e, r => by cases e
  | _, _, y, u, .obj _ _ _, e, r => by unfold pyD at e; cases e
  | _, _, y, u, .rng _, e, r => by cases e
  | _, _, y, u, .dct (ks := ks) (xs := xs) (ds := ds) hs hl t, e, r => by
    unfold pyD at e
    split at e
    · rename_i c
      rw [Bool.and_eq_true, List.isEmpty_iff, List.isEmpty_iff] at c
      obtain ⟨rfl, rfl⟩ := c
      cases e
      obtain ⟨z, hsm, vs, kv, o, es, ep, h1, h2, h3, h4, h5, h6⟩ := dk_of I.hok (l _ _ hs)
      have ev : vs = [] := by cases kv; rfl
      subst ev
      have ee : es.toList = [] := by cases h : es.toList with
        | nil => rfl
        | cons a b => rw [h] at h5; cases h5
      rw [show u = .ref _ from r]
      exact ⟨_, .dict (as := []) (bs := []) h1 h2.1 h3 (by rw [ee]; exact .nil) (by rw [ee]; exact .nil)⟩
    · cases e
  | _, _, y, u, .dcT _ _ _, e, r => by cases e
theorem reads_dns {X : Cx} {pins : List (Addr × Obj)} {σ : Sg} {H Z : Hp} {s : Shared} (I : Inv X pins σ H s) (l : Zle Z H) : ∀ {vs : List V} {ds : List PV} {ys : List PyData} {us : List Value}, DnAll X.K Z vs ds → pyDs ds = some ys → Vals vs us → ∃ as, ReadsAll s.heap us ys as
  | _, _, ys, us, .nil, e, r => by cases e; cases r; exact ⟨[], .nil⟩
  | _, _, ys, us, .cons h t, e, r => by
    unfold pyDs at e
    obtain ⟨y, e1, e2⟩ := Option.bind_eq_some_iff.mp e
    obtain ⟨zs, e3, e4⟩ := Option.bind_eq_some_iff.mp e2
    cases e4
    cases r with
    | cons r1 r2 =>
      obtain ⟨as, ra⟩ := reads_dn I l h e1 r1
      obtain ⟨bs, rb⟩ := reads_dns I l t e3 r2
      exact ⟨as ++ bs, .cons ra rb⟩
end
theorem readsAll_nil {h : Heap} {vs : List Value} {as : List Addr} (r : ReadsAll h vs [] as) : as = [] := by
  cases r; rfl
theorem pk_dn {K : PySem.W.Frag} {Z H : Hp} {v : V} {d : PV} (l : Zle Z H) (h : Pk K Z H v d) : Dn K H v d := by
  cases d with
  | lst ds => obtain ⟨a, xs, rfl, h1, h2⟩ := h; exact .lst h1 (h2.mono l)
  | obj c fs => obtain ⟨a, dx, ns, xs, ds, rfl, h1, rfl, h2, h3⟩ := h; exact .obj h1 h2 (h3.mono l)
  | dct ks ds => obtain ⟨a, xs, rfl, h1, h2, h3⟩ := h; exact .dct h1 h2 (h3.mono l)
  | dcT ks ds => obtain ⟨a, xs, rfl, h1, h2, h3⟩ := h; exact .dcT h1 h2 (h3.mono l)
  | non => exact Dn.mono l h
  | bl _ => exact Dn.mono l h
  | int _ => exact Dn.mono l h
  | str _ => exact Dn.mono l h
  | tup _ => exact Dn.mono l h
  | scr _ => exact Dn.mono l h
  | rng _ _ => exact Dn.mono l h
def goodD (y : PyData) : Bool := y.showable && (y.leavesShort 13 && (decide (y.bulk ≤ 2 ^ 20) && decide (y.depth ≤ 20)))
def isMt : PV → Bool
  | .dct [] [] => true
  | _ => false
def rReprD (K : PySem.W.Frag) : List V → Hp → VK → Prop := fun xs H Q => rRepr xs H Q ∨ ((∃ x : Str, xs = [.str x] ∧ (reprText x).length ≤ sizeLine ∧ Q (.str (reprText x)) H) ∨
  ∃ (a : Addr) (d : PV) (y : PyData) (Z : Hp), xs = [.ref a] ∧ Zle Z H ∧ Dn K Z (.ref a) d ∧ pyD d = some y ∧ goodD y = true ∧ (y.hasDict = false ∨ isMt d = true) ∧ Q (.str y.shown) H)
theorem cr_reprD {X : Cx} (hg : X.A.guards = some []) (hu : X.A.units + 200 < cLine) : CallR X (.builtin "repr") (rReprD X.K) := by
  intro pins s σ H xs us Q I r h
  rcases h with h | ⟨x, rfl, hz, q⟩ | ⟨a, d, y, Z, rfl, l, dn, e, g, hd, q⟩
  · exact cr_repr pins s σ H xs us Q I r h
  · obtain ⟨u, rfl, t, rfl⟩ := vals1 r
    exact PySem.P.repr_of_str ⟨.str _, H, I.tok _, ⟨_, rfl⟩, q⟩ hz
  · rw [Vals.ref1 r]
    obtain ⟨as, rd⟩ := reads_dn I l dn e (show RelV (.ref a) (.ref a) from rfl)
    unfold goodD at g
    obtain ⟨g1, g2⟩ := He.ba g
    obtain ⟨g2, g3⟩ := He.ba g2
    obtain ⟨g3, g4⟩ := He.ba g3
    have g3 := of_decide_eq_true g3
    have g4 := of_decide_eq_true g4
    have hs : y.hasDict = true → sysModules ∉ as := fun hh => by
      rcases hd with hd | hd
      · rw [hd] at hh; cases hh
      · unfold isMt at hd
        split at hd
        · cases e
          cases rd with
          | dict h1 h2 h3 h4 h5 =>
            obtain rfl := readsAll_nil h4
            obtain rfl := readsAll_nil h5
            obtain ⟨xs, hz, _⟩ : ∃ xs, Z a = some (.dK (([] : List L2.Key).zip xs)) ∧ True := by
              cases dn with | dct hz _ _ => exact ⟨_, hz, trivial⟩
            have := (dk_of I.hok (l _ _ hz)).2.1
            simp at this
            simp
            exact fun z => this z.symm
        · cases hd
    refine repr_of_reads' (h₀ := s.heap) rd g1 hs hg (by omega) (fun _ _ e => e) (fun h' u tk hk => ⟨.str y.shown, H, I.kept (t' := tk) hk, ⟨_, rfl⟩, q⟩) ?_
    exact PyData.shown_fits_bulk (B := 13) (by decide) (by decide) g2 g3
def textD (d : PV) : Option Str := match d with
  | .int i => if decide (i.natAbs.log2 < 1920) = true then some (toString i) else none
  | .bl b => some (if b then "True" else "False")
  | .non => some "None"
  | .str x => if decide ((reprText x).length ≤ bigN) = true then some (reprText x) else none
  | d => (pyD d).bind fun y => if (goodD y && (!y.hasDict || isMt d)) = true then some y.shown else none
def pReprD : List PV → Option OV
  | [d] => (textD d).bind fun t => some (.val (.str t))
  | _ => none
theorem textD_ok {K : PySem.W.Frag} {Z H : Hp} {v : V} {d : PV} {t : Str} {Q : VK} (l : Zle Z H) (dn : Dn K Z v d) (e : textD d = some t) (q : Q (.str t) H) : rReprD K [v] H Q := by
  have gen : ∀ {d : PV}, Dn K Z v d → ((pyD d).bind fun y => if (goodD y && (!y.hasDict || isMt d)) = true then some y.shown else none) = some t → (∃ a, v = .ref a) → rReprD K [v] H Q := fun {d} dn e hv => by
    obtain ⟨a, rfl⟩ := hv
    obtain ⟨y, e1, e2⟩ := Option.bind_eq_some_iff.mp e
    split at e2
    · rename_i c
      cases e2
      obtain ⟨c1, c2⟩ := He.ba c
      refine .inr (.inr ⟨a, d, y, Z, rfl, l, dn, e1, c1, ?_, q⟩)
      rw [Bool.or_eq_true] at c2
      exact c2.imp (fun z => by simpa using z) id
    · cases e2
  unfold textD at e
  split at e
  · split at e
    · rename_i c
      cases e
      rw [dn.int_inv]
      exact .inl (.inl ⟨_, rfl, of_decide_eq_true c, q⟩)
    · cases e
  · cases e
    rw [dn.bl_inv]
    exact .inl (.inr (.inl ⟨_, rfl, q⟩))
  · cases e
    rw [dn.non_inv]
    exact .inl (.inr (.inr ⟨rfl, q⟩))
  · split at e
    · rename_i c
      cases e
      rw [dn.str_inv]
      have := of_decide_eq_true c
      have := bigN_line
      exact .inr (.inl ⟨_, rfl, by omega, q⟩)
    · cases e
  · rename_i n1 n2 n3 n4
    refine gen dn e ?_
    cases dn with
    | non => exact (n3 rfl).elim
    | bl b => exact (n2 b rfl).elim
    | int i => exact (n1 i rfl).elim
    | str x => exact (n4 x rfl).elim
    | lst _ _ => exact ⟨_, rfl⟩
    | scr _ _ => exact ⟨_, rfl⟩
    | tup _ _ => exact ⟨_, rfl⟩
    | obj _ _ _ => exact ⟨_, rfl⟩
    | rng _ => exact ⟨_, rfl⟩
    | dct _ _ _ => exact ⟨_, rfl⟩
    | dcT _ _ _ => exact ⟨_, rfl⟩
theorem p_reprD {K : PySem.W.Frag} : OpN K (rReprD K) pReprD := by
  intro Z H xs ds o Q l hx ho hw
  unfold pReprD at ho
  split at ho
  · obtain ⟨v, rfl, h⟩ := pk1 hx
    obtain ⟨t, e1, e2⟩ := Option.bind_eq_some_iff.mp ho
    cases e2
    exact textD_ok (Zle.refl H) (pk_dn l h) e1 (hw.1 _ (.str _))
  · cases ho
end TT

set_option Elab.async false
set_option linter.all false
set_option maxRecDepth 100000
/-! raise X(e): the exception is made by an __init__ that keeps its argument -/
namespace TT
open PySem PySem.Spec L2 PyProof.Rows
def spXo (K : PySem.W.Frag) (c f : Str) : Sp := fun vs H Q _ => ∃ (a : Addr) (u : V), vs = [.ref a, u] ∧ H a = some (exo a (He.ga K c) none) ∧
  ∀ dx, H dx = none → dx ≠ a → Q .non (upd (upd H dx (exd dx [(f, u)])) a (exo a (He.ga K c) (some dx)))
section
variable {X : Cx} {b : Bas} {c f sn n : Str} {p1 p2 p3 p4 : Pos}
theorem ps_xo (T : XoC X.K b c f) (h0 : X.N[0]? = some sn) (h1 : X.N[1]? = some n) (v0 : Vis X.env.scope sn) (v1 : Vis X.env.scope n) (d0 : (sn == ("__debug__" : Str)) = false) (d1 : (n == ("__debug__" : Str)) = false) (c0 : (sn == ("__classdict__" : Str)) = false) (c1 : (n == ("__classdict__" : Str)) = false)
    (hsw : swapsWith (.Name n p3) (some (.Attribute (.Name sn p1) f p2)) p4.line X.env = pure false) :
    PS X (.Assign [.Attribute (.Name sn p1) f p2] (.Name n p3) p4) (fun D σ H => ∃ (a : Addr) (u : V), σ[0]? = some (some (.ref a)) ∧ σ[1]? = some (some u) ∧ H a = some (exo a (He.ga X.K c) none) ∧
      ∀ dx, H dx = none → dx ≠ a → D.nx σ (upd (upd H dx (exd dx [(f, u)])) a (exo a (He.ga X.K c) (some dx)))) := by
  refine ⟨fun pins s σ H D I ⟨a, u, e0, e1, ea, q⟩ => plainObj_wpAny_Assign_Attribute ?_ hsw⟩
  refine thn ((pe_var (i := 1) h1 v1 d1 c1).run pins s σ H (fun y G => y = u ∧ G = H) I ⟨u, e1, rfl, rfl⟩) fun z1 s1 ⟨y, H1, I1, r1, ey, eH⟩ => ?_
  subst ey eH
  refine thn ((pe_var (i := 0) h0 v0 d0 c0).run pins s1 σ H1 (fun y G => y = .ref a ∧ G = H1) I1 ⟨_, e0, rfl, rfl⟩) fun z2 s2 ⟨y2, H2, I2, r2, ey, eH⟩ => ?_
  subst ey eH
  obtain rfl : z2 = Value.ref a := r2
  exact xo_store T I2 ea r1 fun dx s' n0 ne J => ⟨σ, _, J, q dx n0 ne⟩
end
section
variable {P : Program} {w : World} {K : PySem.W.Frag} {mg : Str → Option Value} {base : Heap}
theorem fn_xo {CX : CXT} {b : Bas} {c f sn n qual : Str} {params : Arguments} {scope : Scope} {fI : Addr} {fd : FuncData} {k : Nat} {p1 p2 p3 p4 : Pos} (T : XoC K b c f)
    (F : FunD K "__init__" qual params [.Assign [.Attribute (.Name sn p1) f p2] (.Name n p3) p4] scope [] [] fI fd) (S : FnScope [sn, n] [sn, n] scope) (v0 : Vis scope sn) (v1 : Vis scope n)
    (d0 : (sn == ("__debug__" : Str)) = false := by decide) (d1 : (n == ("__debug__" : Str)) = false := by decide) (c0 : (sn == ("__classdict__" : Str)) = false := by decide) (c1 : (n == ("__classdict__" : Str)) = false := by decide)
    (hsw : ∀ env : Env, swapsWith (.Name n p3) (some (.Attribute (.Name sn p1) f p2)) p4.line env = pure false := by intro env; rfl) : FnOk P w K mg base CX (k + 1) fI fd [sn, n] (spXo K c f) := by
  refine FunD.okC F S (fun vs H Q E ⟨a, u, e, _⟩ => by rw [e]; rfl) fun cdv A outer s H vs Q E _ _ ⟨a, u, ev, ea, q⟩ => ?_
  subst ev
  exact ⟨_, pss_one (ps_xo T rfl rfl v0 v1 d0 d1 c0 c1 (hsw _)), a, u, rfl, rfl, ea, fun dx n0 ne => q dx n0 ne⟩
/-- what the raising wants -/
structure XoF (P : Program) (w : World) (K : PySem.W.Frag) (mg : Str → Option Value) (base : Heap) (b : Bas) (c f : Str) (k : Nat) : Prop where
  T : XoC K b c f
  ex : ∃ (fd : FuncData) (ps : List Str), FnOk P w K mg base (L2.CX P w) k (iniA K c) fd ps (spXo K c f) ∧ L2.Binds K fd ps []
  gl : mg c = some (.ref (He.ga K c))
end
section
variable {X : Cx} {b : Bas} {c f : Str} {e : Expr} {ta : TA} {p pos : Pos} {k j : Nat}
theorem pmk_xo (G : XoF X.prog X.w X.K X.mg X.base b c f k) (hr : Room j X.A) (hg : Gl X c) (ha : PA X [e] ta) (hk : k + 1 ≤ j) (hdb : (c == ("__debug__" : Str)) = false := by decide)
    (hst : starEach [e] X.env = (false, eval e X.env) :: starEach [] X.env := by rfl) :
    PMk X (.Call (.Name c p) [e] [] pos) (fun σ H Q => ta σ H fun vs H1 => ∃ u, vs = [u] ∧ ∀ d, H1 d = none → Q (.ref (He.ga X.K c)) (some d) (upd H1 d (.xd [(f, u)]))) := by
  intro pins s σ H Q I h
  obtain ⟨fd, ps, FO, hb⟩ := G.ex
  refine wpAny_Call_Name_kw (ld_glob I hg G.gl ?_ hdb)
  refine PySem.W.callWith_K (h₀ := X.base) I.ok.mod.kin G.T.kp (thn (ha.run pos pins s σ H _ I h) fun us s1 ⟨vs, H1, I1, r1, u, ev, q⟩ => ⟨I1.kIn, ?_⟩) hst (by rfl)
  subst ev
  cases r1 with
  | @cons _ z _ zs ra rb =>
    cases rb
    obtain ⟨hp, g, dr, tk, os⟩ := s1
    obtain ⟨nm, N0, qn, bs, bm, hdct, sn, sub, ab, col, dd, k0, k1, k2, k3, k5, hC, hT⟩ := PySem.W.excInit_of I1.kIn G.T.ini
    have a0 : H1 (hp.objs.size + 1) = none := I1.hok.fresh (Nat.le_succ _)
    have up : ∀ q o, hp.get? q = some o → ((hp.push (PySem.W.kdv_tup [z])).push (PySem.HandSPX.excO (He.ga X.K c) hp.objs.size)).get? q = some o := fun q o e => Heap.get?_push_of_some _ (Heap.get?_push_of_some _ e)
    have at0 : ((hp.push (PySem.W.kdv_tup [z])).push (PySem.HandSPX.excO (He.ga X.K c) hp.objs.size)).get? (hp.objs.size + 1) = some (PySem.HandSPX.excO (He.ga X.K c) hp.objs.size) := by heap_get
    have J : Inv X pins σ (upd H1 (hp.objs.size + 1) (exo (hp.objs.size + 1) (He.ga X.K c) none)) ⟨(hp.push (PySem.W.kdv_tup [z])).push (PySem.HandSPX.excO (He.ga X.K c) hp.objs.size), g, dr, tk, os⟩ := I1.laid (t' := tk) up (Nat.le_succ _) (exo_ok at0)
    have sp0 : spXo X.K c f [.ref (hp.objs.size + 1), u] (upd H1 (hp.objs.size + 1) (exo (hp.objs.size + 1) (He.ga X.K c) none)) (fun v G2 => v = .non ∧ ∃ d, H1 d = none ∧ d ≠ hp.objs.size + 1 ∧ G2 = upd (upd (upd H1 (hp.objs.size + 1) (exo (hp.objs.size + 1) (He.ga X.K c) none)) d (exd d [(f, u)])) (hp.objs.size + 1) (exo (hp.objs.size + 1) (He.ga X.K c) (some d))) (fun _ _ _ => False) :=
      ⟨_, _, rfl, upd_same, fun dx n0 ne => ⟨rfl, dx, by rw [upd_ne ne] at n0; exact n0, ne, rfl⟩⟩
    have ln := FO.len _ _ _ _ sp0
    show wpAny _ _ (call (.ref (He.ga X.K c)) [z]) _ _ _
    have ep : ([Value.ref (hp.objs.size + 1), z] : List Value).length = ps.length := ln
    refine wpAny_call (PySem.HandSPX.call_own b.ex hT hC (PySem.W.looks_findIn I1.kIn G.T.fi) (fun self => PySem.W.bind_fn I1.kIn self G.T.tf) (by show 1 ≤ sizeLine; rw [sizeLine_eq]; omega) ?_)
    refine codeAny_mono (FO.run _ X.stack _ _ ⟨[Value.ref (hp.objs.size + 1), z], []⟩ [Value.ref (hp.objs.size + 1), z] _ _ (fun _ _ _ => False) ((hr.mono hk).make (He.ga X.K c) [z] []) (J.env0.make (He.ga X.K c) [z] []) (by simpa using hb _ [Value.ref (hp.objs.size + 1), z] J.kIn (by simpa using ep)) (.cons (show RelV (V.ref (hp.objs.size + 1)) (Value.ref (hp.objs.size + 1)) from rfl) (.cons ra .nil)) sp0) fun r s2 hq => ?_
    cases r with
    | error er => exact passN pins σ _ _ er s2 J hq
    | ok fl =>
      cases fl with
      | next => exact hq.elim
      | brk => exact hq.elim
      | cont => exact hq.elim
      | ret rv =>
        obtain ⟨v, H2, os2, bare2, un2, hok2, rv2, ev2, d, hd0, hd1, rfl⟩ := hq
        subst ev2
        obtain ⟨h2, g2, d2, t2, os3⟩ := s2
        refine ⟨rv2, mk_end (raises_own G.T.be G.T.ty) I1 (Nat.le_succ _) up un2 hok2 os2 bare2 upd_same (by rw [upd_ne hd1, upd_same]) hd0 ?_⟩
        have e2 : upd (del (upd (upd (upd H1 (hp.objs.size + 1) (exo (hp.objs.size + 1) (He.ga X.K c) none)) d (exd d [(f, u)])) (hp.objs.size + 1) (exo (hp.objs.size + 1) (He.ga X.K c) (some d))) (hp.objs.size + 1)) d (.xd [(f, u)]) = upd H1 d (.xd [(f, u)]) := by
          funext q
          by_cases h1 : q = d
          · rw [h1, upd_same, upd_same]
          · rw [upd_ne h1, upd_ne h1]
            by_cases h2 : q = hp.objs.size + 1
            · rw [h2, del_same, a0]
            · rw [del_ne h2, upd_ne h2, upd_ne h1, upd_ne h2]
        rw [e2]
        exact q d hd0
def fRaiseV (c f : Str) (g : Rho → Res RV) : Rho → Res Fl := fun ρ => (fV g ρ).bind fun r ρ1 => match r with
  | .val d => .er ⟨c, [(f, d)]⟩ ρ1
  | _ => .no
theorem ss_raiseV [Tabl] {W : WX} {g : Rho → Res RV} {pos2 : Pos} (tk : Takes X W) (G : XoF X.prog X.w X.K X.mg X.base b c f k) (hr : Room j X.A) (he : SE X W e g) (hk : k + 1 ≤ j := by decide) (hc : X.calm = true := by rfl) (hg : Gl X c := by rfl)
    (hdb : (c == ("__debug__" : Str)) = false := by decide) (hst : starEach [e] X.env = (false, eval e X.env) :: starEach [] X.env := by rfl) : SS X W (.Raise (some (.Call (.Name c p) [e] [] pos)) none pos2) (fRaiseV c f g) := by
  refine ss_of (ps_raise hc tk (pmk_xo G hr hg (pa_cons (se_v he) pa_nil hst) hk hdb hst)) fun C ρ σ Z H D hK hm R q => ?_
  show TF X.K X.mg W (fV g) σ H fun x H1 => ∃ u, [x] = [u] ∧ ∀ d, H1 d = none → W (.ref (He.ga X.K c)) (some d) σ (upd H1 d (.xd [(f, u)]))
  rw [← hK, ← hm]
  refine tf_bind (P := fun r => AftS C W Z r D) R q (fun _ _ h => h σ) (fun h => h) fun a ρ1 v Z1 H1 R1 l dn h => ?_
  cases a with
  | own d => exact h.elim
  | ali i => exact h.elim
  | val d => exact ⟨v, rfl, fun dx n0 => h σ _ _ Z1 _ (R1.new n0) l ⟨by rw [hm, hK]; exact G.gl, .inr ⟨dx, [(f, v)], rfl, upd_same, rfl, .cons dn .nil⟩⟩⟩
end
end TT

set_option Elab.async false
set_option linter.all false
set_option maxRecDepth 100000
/-! what an except suite gives back: constants, a field of the error, its text, tuples and lists of these -/
namespace TT
open PySem PySem.Spec L2 PyProof.Rows
inductive HS where
  | cs (x : Str) | cb (b : Bool) | ci (i : Int) | cn
  | fl (f : Str) | rp (f : Str) | st (f : Str) | ad (x : Str) (s : HS)
inductive HX where
  | one (s : HS) | tup (l : List HS) | lst (l : List HS)
abbrev XT : Type := List (Str × Str)
def fldX (xt : XT) (x : EX) (f : Str) : Option PV := if (xt.any fun e => decide (e.1 = x.c) && decide (e.2 = f)) = true then List.lookup f x.fs else none
def hsv (xt : XT) (x : EX) : HS → Option PV
  | .cs x => some (.str x)
  | .cb b => some (.bl b)
  | .ci i => some (.int i)
  | .cn => some .non
  | .fl f => fldX xt x f
  | .rp f => (fldX xt x f).bind fun d => (textD d).bind fun t => some (.str t)
  | .st f => (fldX xt x f).bind fun d => match d with
    | .int i => if decide (i.natAbs.log2 < 1920) = true then some (.str (toString i)) else none
    | _ => none
  | .ad z s => (hsv xt x s).bind fun d => match d with
    | .str t => if decide (z.length + t.length ≤ bigN) = true then some (.str (z ++ t)) else none
    | _ => none
def hsvs (xt : XT) (x : EX) : List HS → Option (List PV)
  | [] => some []
  | s :: l => (hsv xt x s).bind fun d => (hsvs xt x l).bind fun ds => some (d :: ds)
def hxv (xt : XT) (x : EX) : HX → Option RV
  | .one s => (hsv xt x s).bind fun d => some (.val d)
  | .tup l => (hsvs xt x l).bind fun ds => if ds.length ≤ 1000 then some (.val (.tup ds)) else none
  | .lst l => (hsvs xt x l).bind fun ds => if ds.length ≤ 1000 then some (.own (.lst ds)) else none
/-! the same in the heap -/
def XfV (K : PySem.W.Frag) (cl : Value) (d : Option Addr) (H : Hp) (f : Str) (v : V) : Prop := ∃ (C dd : Addr) (fs : List (Str × V)), cl = .ref C ∧ XfC K C ∧ PySem.W.findIn K (.ref C) f = some none ∧ d = some dd ∧ H dd = some (.xd fs) ∧ List.lookup f fs = some v
def HsV (K : PySem.W.Frag) (cl : Value) (d : Option Addr) (H : Hp) : HS → V → Prop
  | .cs x, v => v = .str x
  | .cb b, v => v = .bl b
  | .ci i, v => v = .int i
  | .cn, v => v = .non
  | .fl f, v => XfV K cl d H f v
  | .rp f, v => ∃ u t, XfV K cl d H f u ∧ (∀ Q : VK, Q (.str t) H → rReprD K [u] H Q) ∧ v = .str t
  | .st f, v => ∃ i, XfV K cl d H f (.int i) ∧ i.natAbs.log2 < 1920 ∧ v = .str (toString i)
  | .ad z s, v => ∃ t, HsV K cl d H s (.str t) ∧ z.length + t.length ≤ sizeLine ∧ v = .str (z ++ t)
def HsVs (K : PySem.W.Frag) (cl : Value) (d : Option Addr) (H : Hp) : List HS → List V → Prop
  | [], vs => vs = []
  | s :: l, vs => ∃ v ws, HsV K cl d H s v ∧ HsVs K cl d H l ws ∧ vs = v :: ws
def HxV (K : PySem.W.Frag) (cl : Value) (d : Option Addr) (H : Hp) (h : HX) (Q : VK) : Prop := match h with
  | .one s => ∃ v, HsV K cl d H s v ∧ Q v H
  | .tup l => ∃ vs, HsVs K cl d H l vs ∧ vs.length ≤ 1000 ∧ ∀ p, H p = none → Q (.ref p) (upd H p (.tup vs))
  | .lst l => ∃ vs, HsVs K cl d H l vs ∧ vs.length ≤ 1000 ∧ ∀ p, H p = none → Q (.ref p) (upd H p (.lst vs))
/-! the texts of the program -/
inductive HsE (u : Bool × Bool) (o : Option (Nat × Str)) : Expr → HS → Prop
  | cs {x : Str} {j : Nat} {p : Pos} : HsE u o (.Constant (.str x) j p) (.cs x)
  | cb {b : Bool} {j : Nat} {p : Pos} : HsE u o (.Constant (.bool b) j p) (.cb b)
  | ci {i : Int} {j : Nat} {p : Pos} : HsE u o (.Constant (.int i) j p) (.ci i)
  | cn {j : Nat} {p : Pos} : HsE u o (.Constant .none j p) .cn
  | fl {i : Nat} {n f : Str} {p p2 : Pos} (h : o = some (i, n)) : HsE u o (.Attribute (.Name n p) f p2) (.fl f)
  | rp {i : Nat} {n f : Str} {p p2 p3 p4 : Pos} (hu : u.1 = true) (h : o = some (i, n)) : HsE u o (.Call (.Name "repr" p3) [.Attribute (.Name n p) f p2] [] p4) (.rp f)
  | st {i : Nat} {n f : Str} {p p2 p3 p4 : Pos} (hu : u.2 = true) (h : o = some (i, n)) : HsE u o (.Call (.Name "str" p3) [.Attribute (.Name n p) f p2] [] p4) (.st f)
  | ad {x : Str} {j : Nat} {p p2 : Pos} {e : Expr} {s : HS} (h : HsE u o e s) : HsE u o (.BinOp (.Constant (.str x) j p) .Add e p2) (.ad x s)
inductive HsEs (u : Bool × Bool) (o : Option (Nat × Str)) : List Expr → List HS → Prop
  | nil : HsEs u o [] []
  | cons {e : Expr} {s : HS} {es : List Expr} {l : List HS} : HsE u o e s → HsEs u o es l → HsEs u o (e :: es) (s :: l)
inductive HxE (u : Bool × Bool) (o : Option (Nat × Str)) : Expr → HX → Prop
  | one {e : Expr} {s : HS} : HsE u o e s → HxE u o e (.one s)
  | tup {es : List Expr} {l : List HS} {x1} {p : Pos} : HsEs u o es l → HxE u o (.Tuple es x1 p) (.tup l)
  | lst {es : List Expr} {l : List HS} {p : Pos} : HsEs u o es l → HxE u o (.List es p) (.lst l)
/-- where such a suite stands -/
structure SuX (X : Cx) (u : Bool × Bool) (o : Option (Nat × Str)) : Prop where
  gd : X.A.guards = some []
  un : X.A.units + 200 < cLine
  nm : ∀ i n, o = some (i, n) → X.N[i]? = some n ∧ Vis X.env.scope n ∧ (n == ("__debug__" : Str)) = false ∧ (n == ("__classdict__" : Str)) = false
  rg : u.1 = true → Gl X "repr" ∧ X.mg "repr" = none
  sg : u.2 = true → Gl X "str" ∧ X.mg "str" = none
def slotIs (o : Option (Nat × Str)) (a : Addr) (σ : Sg) : Prop := ∀ i n, o = some (i, n) → σ[i]? = some (some (.ref a))
section
variable {X : Cx} {u : Bool × Bool} {o : Option (Nat × Str)} {a : Addr} {oe : Obj} {cl : Value} {d : Option Addr} {pn : List (Addr × Obj)}
theorem fl_pe (S : SuX X u o) (hz : Zc cl d oe) (hf : ∃ vs, oe.data = .fields vs) {i : Nat} {n f : Str} {p p2 : Pos} (ho : o = some (i, n)) :
    PE (X.suite a ((a, oe) :: pn)) (.Attribute (.Name n p) f p2) (fun σ H Q => slotIs o a σ ∧ ∃ v, XfV X.K cl d H f v ∧ Q v H) := by
  refine ⟨fun pins s σ H Q I ⟨h1, v, ⟨C, dd, fs, e1, T, e2, e3, e4, e5⟩, q⟩ => ?_⟩
  obtain ⟨k1, k2, k3, k4⟩ := S.nm i n ho
  exact (pe_xf (C := C) T e2 hz hf (pe_var (X := X.suite a ((a, oe) :: pn)) (i := i) (pos := p) k1 k2 k3 k4)).run pins s σ H Q I ⟨_, h1 i n ho, rfl, e1, dd, fs, v, e3, e4, e5, q⟩
theorem hs_pe (S : SuX X u o) (hz : Zc cl d oe) (hf : ∃ vs, oe.data = .fields vs) : ∀ {e : Expr} {s : HS}, HsE u o e s → PE (X.suite a ((a, oe) :: pn)) e (fun σ H Q => slotIs o a σ ∧ ∃ v, HsV X.K cl d H s v ∧ Q v H) := by
  intro e s h
  induction h with
  | cs => exact ⟨fun pins s σ H Q I ⟨_, v, e, q⟩ => pe_str.run pins s σ H Q I (show Q _ H from e ▸ q)⟩
  | cb => exact ⟨fun pins s σ H Q I ⟨_, v, e, q⟩ => pe_bl.run pins s σ H Q I (show Q _ H from e ▸ q)⟩
  | ci => exact ⟨fun pins s σ H Q I ⟨_, v, e, q⟩ => pe_int.run pins s σ H Q I (show Q _ H from e ▸ q)⟩
  | cn => exact ⟨fun pins s σ H Q I ⟨_, v, e, q⟩ => pe_non.run pins s σ H Q I (show Q _ H from e ▸ q)⟩
  | fl h => exact fl_pe S hz hf h
  | @rp i n f p p2 p3 p4 hu h =>
    have fe := fl_pe (f := f) (a := a) (pn := pn) (p := p) (p2 := p2) S hz hf h
    refine ⟨fun pins s σ H Q I ⟨h1, v, ⟨z, t, h2, h3, h4⟩, q⟩ => ?_⟩
    subst h4
    refine (pe_callB (X := X.suite a ((a, oe) :: pn)) (cr_reprD (X := X.suite a ((a, oe) :: pn)) S.gd S.un) (S.rg hu).1 (S.rg hu).2 (by decide +kernel) (pa_cons fe pa_nil (by rfl)) (by decide) (by decide) (by rfl) (by rfl)).run pins s σ H Q I ?_
    exact ⟨h1, z, h2, h3 Q q⟩
  | @st i n f p p2 p3 p4 hu h =>
    have fe := fl_pe (f := f) (a := a) (pn := pn) (p := p) (p2 := p2) S hz hf h
    refine ⟨fun pins s σ H Q I ⟨h1, v, ⟨i, h2, h3, h4⟩, q⟩ => ?_⟩
    subst h4
    refine (pe_callTy (X := X.suite a ((a, oe) :: pn)) call_str_int (S.sg hu).1 (S.sg hu).2 (by decide +kernel) (pa_cons fe pa_nil (by rfl)) (by decide) (by decide) (by rfl) (by rfl)).run pins s σ H Q I ?_
    exact ⟨h1, .int i, h2, i, rfl, h3, q⟩
  | ad h ih =>
    refine ⟨fun pins s σ H Q I ⟨h1, v, ⟨t, h2, h3, h4⟩, q⟩ => ?_⟩
    subst h4
    exact (pe_op (X := X.suite a ((a, oe) :: pn)) op_add_str pe_str ih).run pins s σ H Q I ⟨h1, .str t, h2, _, _, rfl, rfl, h3, q⟩
theorem hss_pa (S : SuX X u o) (hz : Zc cl d oe) (hf : ∃ vs, oe.data = .fields vs) : ∀ {es : List Expr} {l : List HS}, HsEs u o es l → PA (X.suite a ((a, oe) :: pn)) es (fun σ H Q => slotIs o a σ ∧ ∃ vs, HsVs X.K cl d H l vs ∧ Q vs H) := by
  intro es l h
  induction h with
  | nil => exact ⟨fun pos pins s σ H Q I ⟨_, vs, e, q⟩ => pa_nil.run pos pins s σ H Q I (show Q [] H from e ▸ q)⟩
  | @cons e s es l h1 h2 ih =>
    have hst : starEach (e :: es) X.env = (false, eval e X.env) :: starEach es X.env := by cases h1 <;> rfl
    refine ⟨fun pos pins s' σ H Q I ⟨h3, vs, ⟨v, ws, h4, h5, h6⟩, q⟩ => ?_⟩
    subst h6
    exact (pa_cons (hs_pe S hz hf h1) ih hst).run pos pins s' σ H Q I ⟨h3, v, h4, h3, ws, h5, q⟩
theorem hx_pe (S : SuX X u o) (hz : Zc cl d oe) (hf : ∃ vs, oe.data = .fields vs) {e : Expr} {h : HX} (he : HxE u o e h) : PE (X.suite a ((a, oe) :: pn)) e (fun σ H Q => slotIs o a σ ∧ HxV X.K cl d H h Q) := by
  cases he with
  | one h => exact hs_pe S hz hf h
  | tup h =>
    refine ⟨fun pins s σ H Q I ⟨h1, vs, h2, h3, q⟩ => (pe_tup (hss_pa S hz hf h)).run pins s σ H Q I ⟨h1, vs, h2, ?_, fun p hp => q p hp⟩⟩
    rw [sizeLine_eq]
    omega
  | lst h =>
    refine ⟨fun pins s σ H Q I ⟨h1, vs, h2, h3, q⟩ => (pe_lst (hss_pa S hz hf h)).run pins s σ H Q I ⟨h1, vs, h2, ?_, fun p hp => q p hp⟩⟩
    rw [sizeLine_eq]
    omega
/-- the suite's reading -/
def suiX (K : PySem.W.Frag) (o : Option (Nat × Str)) (h : HX) : Sui := fun a cl d D σ H => slotIs o a σ ∧ HxV K cl d H h D.rt
theorem sui_ok (S : SuX X u o) {e : Expr} {h : HX} {p : Pos} (he : HxE u o e h) (hz : Zc cl d oe) (hf : ∃ vs, oe.data = .fields vs) : PSs (X.suite a ((a, oe) :: pn)) [.Return (some e) p] (suiX X.K o h a cl d) :=
  pss_one (ps_ret (hx_pe S hz hf he))
end
/-! from the pure values -/
structure XtOk (K : PySem.W.Frag) (xt : XT) : Prop where
  ok : ∀ e ∈ xt, XfC K (He.ga K e.1) ∧ PySem.W.findIn K (.ref (He.ga K e.1)) e.2 = some none
section
variable {K : PySem.W.Frag} {mg : Str → Option Value} {Z H : Hp} {x : EX} {cl : Value} {d : Option Addr} {xt : XT}
theorem xd_look {f : Str} : ∀ {vs : List (Str × V)} {fs : List (Str × PV)} {y : PV}, vs.map (·.1) = fs.map (·.1) → DnAll K Z (vs.map (·.2)) (fs.map (·.2)) → List.lookup f fs = some y → ∃ v, List.lookup f vs = some v ∧ Dn K Z v y
  | [], [], _, _, _, h => by cases h
  | (a, v) :: vs, (b, e) :: fs, y, h1, h2, h3 => by
    simp only [List.map_cons, List.cons.injEq] at h1 h2
    obtain ⟨rfl, h1⟩ := h1
    cases h2 with
    | cons h4 h5 =>
      simp only [List.lookup] at h3 ⊢
      cases q : (f == a) with
      | true => rw [q] at h3; cases h3; exact ⟨v, rfl, h4⟩
      | false => rw [q] at h3; exact xd_look h1 h5 h3
  | [], _ :: _, _, h, _, _ => by cases h
  | _ :: _, [], _, h, _, _ => by cases h
theorem fldX_ok (T : XtOk K xt) (hx : Xc mg K Z H x cl d) (hg : mg x.c = some (.ref (He.ga K x.c))) {f : Str} {y : PV} (e : fldX xt x f = some y) : ∃ v, XfV K cl d H f v ∧ Dn K Z v y := by
  unfold fldX at e
  split at e
  · rename_i c
    obtain ⟨q, hq, hc⟩ := List.any_eq_true.mp c
    obtain ⟨c1, c2⟩ := He.ba hc
    have c1 := of_decide_eq_true c1
    have c2 := of_decide_eq_true c2
    obtain ⟨t1, t2⟩ := T.ok q hq
    rw [c1] at t1 t2
    rw [c2] at t2
    obtain ⟨h1, h2⟩ := hx
    rw [hg] at h1
    cases h1
    rcases h2 with ⟨h2, _⟩ | ⟨dd, vs, h2, h3, h4, h5⟩
    · rw [h2] at e; cases e
    · obtain ⟨v, h6, h7⟩ := xd_look h4 h5 e
      exact ⟨v, ⟨_, dd, vs, rfl, t1, t2, h2, h3, h6⟩, h7⟩
  · cases e
theorem hsv_ok (l : Zle Z H) (T : XtOk K xt) (hx : Xc mg K Z H x cl d) (hg : mg x.c = some (.ref (He.ga K x.c))) : ∀ {s : HS} {y : PV}, hsv xt x s = some y → ∃ v, HsV K cl d H s v ∧ Dn K Z v y := by
  intro s
  induction s with
  | cs t => intro y e; cases e; exact ⟨_, rfl, .str t⟩
  | cb b => intro y e; cases e; exact ⟨_, rfl, .bl b⟩
  | ci i => intro y e; cases e; exact ⟨_, rfl, .int i⟩
  | cn => intro y e; cases e; exact ⟨_, rfl, .non⟩
  | fl f => intro y e; exact fldX_ok T hx hg e
  | rp f =>
    intro y e
    obtain ⟨z, e1, e2⟩ := Option.bind_eq_some_iff.mp e
    obtain ⟨t, e3, e4⟩ := Option.bind_eq_some_iff.mp e2
    cases e4
    obtain ⟨v, h1, h2⟩ := fldX_ok T hx hg e1
    exact ⟨_, ⟨v, t, h1, fun Q q => textD_ok l h2 e3 q, rfl⟩, .str t⟩
  | st f =>
    intro y e
    obtain ⟨z, e1, e2⟩ := Option.bind_eq_some_iff.mp e
    split at e2
    · rename_i i
      split at e2
      · rename_i c
        cases e2
        obtain ⟨v, h1, h2⟩ := fldX_ok T hx hg e1
        rw [h2.int_inv] at h1
        exact ⟨_, ⟨i, h1, of_decide_eq_true c, rfl⟩, .str _⟩
      · cases e2
    · cases e2
  | ad z s ih =>
    intro y e
    obtain ⟨t, e1, e2⟩ := Option.bind_eq_some_iff.mp e
    split at e2
    · rename_i t
      split at e2
      · rename_i c
        cases e2
        obtain ⟨v, h1, h2⟩ := ih e1
        rw [h2.str_inv] at h1
        have := of_decide_eq_true c
        have := bigN_line
        exact ⟨_, ⟨t, h1, by omega, rfl⟩, .str _⟩
      · cases e2
    · cases e2
theorem hsvs_ok (l : Zle Z H) (T : XtOk K xt) (hx : Xc mg K Z H x cl d) (hg : mg x.c = some (.ref (He.ga K x.c))) : ∀ {s : List HS} {y : List PV}, hsvs xt x s = some y → ∃ v, HsVs K cl d H s v ∧ DnAll K Z v y
  | [], y, e => by cases e; exact ⟨[], rfl, .nil⟩
  | s :: ss, y, e => by
    obtain ⟨z, e1, e2⟩ := Option.bind_eq_some_iff.mp e
    obtain ⟨zs, e3, e4⟩ := Option.bind_eq_some_iff.mp e2
    cases e4
    obtain ⟨v, h1, h2⟩ := hsv_ok l T hx hg e1
    obtain ⟨vs, h3, h4⟩ := hsvs_ok l T hx hg e3
    exact ⟨v :: vs, ⟨v, vs, h1, h3, rfl⟩, .cons h2 h4⟩
/-- a suite's value, told to whom it concerns -/
theorem hxv_ok [Tabl] {C : Ct} {W : WX} {ρ : Rho} {σ : Sg} {Z0 : Hp} {Q : VK} {h : HX} {rv : RV} (hK : C.K = K) (R : Rel C ρ σ Z H) (T : XtOk K xt) (hx : Xc mg K Z H x cl d) (hg : mg x.c = some (.ref (He.ga K x.c))) (e : hxv xt x h = some rv) (l : Zle Z0 Z) (q : Aft C W σ Z0 (.ok rv ρ) Q) : HxV K cl d H h Q := by
  subst hK
  cases h with
  | one s =>
    obtain ⟨z, e1, e2⟩ := Option.bind_eq_some_iff.mp e
    cases e2
    obtain ⟨v, h1, h2⟩ := hsv_ok R.le T hx hg e1
    exact ⟨v, h1, q v Z H R l h2⟩
  | tup s =>
    obtain ⟨z, e1, e2⟩ := Option.bind_eq_some_iff.mp e
    split at e2
    · rename_i c
      cases e2
      obtain ⟨vs, h1, h2⟩ := hsvs_ok R.le T hx hg e1
      exact ⟨vs, h1, by rw [h2.length]; exact c, fun p hp => (want_of (o := .val (.tup z)) R q l).2 vs z p rfl hp h2⟩
    · cases e2
  | lst s =>
    obtain ⟨z, e1, e2⟩ := Option.bind_eq_some_iff.mp e
    split at e2
    · rename_i c
      cases e2
      obtain ⟨vs, h1, h2⟩ := hsvs_ok R.le T hx hg e1
      exact ⟨vs, h1, by rw [h2.length]; exact c, fun p hp => want_of (o := .own (.lst z)) R q l vs z p rfl hp h2⟩
    · cases e2
end
end TT

set_option Elab.async false
set_option linter.all false
set_option maxRecDepth 100000
/-! try .. except X: return .. except Y as e: return ..; the def that calls what it got in such a try -/
namespace TT
open PySem PySem.Spec L2 PyProof.Rows
abbrev HL : Type := List (Str × Option (Nat × Str) × HX)
def pickT (tb : Tb) (c : Str) : HL → Option (Option (Nat × Str) × HX)
  | [] => none
  | e :: r => match lookTb tb c e.1 with
    | some true => some e.2
    | some false => pickT tb c r
    | none => none
def mxL (K : PySem.W.Frag) (l : HL) : List (Value × Option Nat × Sui) := l.map fun e => (.ref (He.ga K e.1), e.2.1.map (·.1), suiX K e.2.1 e.2.2)
theorem pick_mx {K : PySem.W.Frag} {mg : Str → Option Value} {tb : Tb} (T : TbOk K mg tb) {Wo : WX} {D : Ends} {cl : Value} {d : Option Addr} {τ : Sg} {G : Hp} {c : Str} (hc : mg c = some cl) : ∀ {l : HL} {z : Option (Nat × Str) × HX}, pickT tb c l = some z → HxV K cl d G z.2 D.rt → wMx K Wo D (mxL K l) cl d τ G
  | [], z, h, _ => by cases h
  | e :: r, z, h, q => by
    unfold pickT at h
    cases hl : lookTb tb c e.1 with
    | none => rw [hl] at h; cases h
    | some b =>
      rw [hl] at h
      obtain ⟨h1, h2⟩ := lookTb_ok T.ex T.gl hl
      rw [hc] at h2
      cases h2
      cases b with
      | true =>
        cases h
        refine ⟨true, h1, fun _ a na => ?_, fun z => by cases z⟩
        obtain ⟨y, o, h⟩ := e
        cases o with
        | none => exact (show slotIs none a τ ∧ HxV K _ d G h D.rt from ⟨fun i n z => by (cases z), q⟩)
        | some w =>
          obtain ⟨i, n⟩ := w
          refine fun hi => (show slotIs (some (i, n)) a (τ.set i (some (.ref a))) ∧ HxV K _ d G h D.rt from ⟨fun j m z => ?_, q⟩)
          cases z
          exact List.getElem?_set_self hi
      | false => exact ⟨false, h1, (fun z => by cases z), fun _ => pick_mx T hc h q⟩
theorem wMx_ends {K : PySem.W.Frag} {Wo : WX} {D D' : Ends} {cl : Value} {d : Option Addr} {τ : Sg} {G : Hp} (hD : D.rt = D'.rt) : ∀ {l : HL}, wMx K Wo D (mxL K l) cl d τ G → wMx K Wo D' (mxL K l) cl d τ G
  | [], h => h
  | e :: r, ⟨b, h1, h2, h3⟩ => by
    refine ⟨b, h1, fun hb a na => ?_, fun hb => wMx_ends hD (h3 hb)⟩
    have h4 := h2 hb a na
    obtain ⟨y, o, h⟩ := e
    cases o with
    | none =>
      have h5 : slotIs none a τ ∧ HxV K cl d G h D.rt := h4
      rw [hD] at h5
      exact h5
    | some w =>
      intro hi
      have h5 : slotIs (some w) a (τ.set w.1 (some (.ref a))) ∧ HxV K cl d G h D.rt := h4 hi
      rw [hD] at h5
      exact h5
/-- the clauses as they stand -/
inductive HdsX (u : Bool × Bool) (X : Cx) : List ExceptHandler → HL → Prop
  | nil : HdsX u X [] []
  | pl {y : Str} {e : Expr} {h : HX} {p p1 p2 : Pos} {r : List ExceptHandler} {l : HL} (hg : Gl X y) (hd : (y == ("__debug__" : Str)) = false) (hm : X.mg y = some (.ref (He.ga X.K y))) (he : HxE u none e h) (t : HdsX u X r l) : HdsX u X (.ExceptHandler (some (.Name y p1)) none [.Return (some e) p] p2 :: r) ((y, none, h) :: l)
  | nm {y n : Str} {i : Nat} {e : Expr} {h : HX} {p p1 p2 : Pos} {r : List ExceptHandler} {l : HL} (hN : X.N.Nodup) (hi : X.N[i]? = some n) (hl : X.env.kindOf n = some .local) (hdn : (n == ("__debug__" : Str)) = false) (hcn : (n == ("__classdict__" : Str)) = false)
      (hg : Gl X y) (hd : (y == ("__debug__" : Str)) = false) (hm : X.mg y = some (.ref (He.ga X.K y))) (he : HxE u (some (i, n)) e h) (t : HdsX u X r l) : HdsX u X (.ExceptHandler (some (.Name y p1)) (some n) [.Return (some e) p] p2 :: r) ((y, some (i, n), h) :: l)
/-- where such clauses stand -/
structure SuB (u : Bool × Bool) (X : Cx) : Prop where
  gd : X.A.guards = some []
  un : X.A.units + 200 < cLine
  rg : u.1 = true → Gl X "repr" ∧ X.mg "repr" = none
  sg : u.2 = true → Gl X "str" ∧ X.mg "str" = none
theorem hdsX_ok {u : Bool × Bool} {X : Cx} (S : SuB u X) : ∀ {hds : List ExceptHandler} {l : HL}, HdsX u X hds l → HdsMx X hds (mxL X.K l) := by
  intro hds l h
  induction h with
  | nil => exact .nil
  | pl hg hd hm he t ih => exact .pl ⟨hg, hd, .inl hm⟩ (fun a oe cl d pn hz hf => sui_ok ⟨S.gd, S.un, (fun i n z => by cases z), S.rg, S.sg⟩ he hz hf) ih
  | nm hN hi hl hdn hcn hg hd hm he t ih =>
    refine .nm hN hi hl ⟨hg, hd, .inl hm⟩ (fun a oe cl d pn hz hf => sui_ok ⟨S.gd, S.un, (fun i n z => ?_), S.rg, S.sg⟩ he hz hf) ih
    cases z
    exact ⟨hi, .inl hl, hdn, hcn⟩
def fTry (tb : Tb) (xt : XT) (hs : HL) (body : Rho → Res Fl) : Rho → Res Fl := fun ρ => match body ρ with
  | .er x ρ1 => (match pickT tb x.c hs with
    | some z => (match hxv xt x z.2 with
      | some rv => .ok (.rt rv) ρ1
      | none => .no)
    | none => .no)
  | .ok a ρ1 => .ok a ρ1
  | .no => .no
theorem xc_cls {mg : Str → Option Value} {K : PySem.W.Frag} {Z H : Hp} {x : EX} {cl : Value} {d : Option Addr} (h : Xc mg K Z H x cl d) : mg x.c = some cl := h.1
theorem lookTb_gl {K : PySem.W.Frag} {mg : Str → Option Value} {tb : Tb} (T : TbOk K mg tb) {c : Str} : ∀ {l : HL} {z : Option (Nat × Str) × HX}, pickT tb c l = some z → mg c = some (.ref (He.ga K c))
  | [], z, h => by cases h
  | e :: r, z, h => by
    unfold pickT at h
    cases hl : lookTb tb c e.1 with
    | none => rw [hl] at h; cases h
    | some b => exact (lookTb_ok T.ex T.gl hl).2
section
variable {u : Bool × Bool} {X : Cx} {W : WX} {tb : Tb} {xt : XT} {h0 : ExceptHandler} {hds : List ExceptHandler} {l : HL} {body : List Stmt} {fb : Rho → Res Fl} {pos : Pos}
theorem ss_try [Tabl] (tk : Takes X W) (S : SuB u X) (TBk : TbOk X.K X.mg tb) (T : XtOk X.K xt) (hh : HdsX u X (h0 :: hds) l)
    (hb : ∀ (W' : WX) (pn : List (Addr × Obj)) (xe : Value → Shared → Prop), Takes (X.tr pn xe) W' → PassesOwn (model X.prog X.w) X.A X.env xe → SSs (X.tr pn xe) W' body fb)
    (hs : X.stack = X.env :: X.outer := by rfl) (hf : X.env.frame = some X.env.locals := by rfl) : SS X W (.Try body (h0 :: hds) [] [] pos) (fTry tb xt l fb) := by
  refine ss_of (ps_try_mx (Wo := W) (tb := fun W' => TSF X.K X.mg W' fb) hs hf tk (hdsX_ok S hh) hb) fun C ρ σ Z H D hK hm R q => ⟨C, ρ, Z, hK, hm, R, ?_⟩
  unfold fTry at q
  cases e : fb ρ with
  | no => rw [e] at q; exact q.elim
  | ok a ρ1 =>
    rw [e] at q
    cases a with
    | nx => exact q
    | rt r => exact q
    | bk => exact q
    | ct => exact q
  | er x ρ1 =>
    rw [e] at q
    simp only at q
    cases e2 : pickT tb x.c l with
    | none => rw [e2] at q; exact q.elim
    | some z =>
      rw [e2] at q
      simp only at q
      cases e3 : hxv xt x z.2 with
      | none => rw [e3] at q; exact q.elim
      | some rv =>
        rw [e3] at q
        intro σ1 cl d Z1 H1 R1 l1 hx
        rw [hm, hK] at hx
        refine pick_mx TBk (xc_cls hx) e2 (hxv_ok (Q := D.rt) (W := W) (Z0 := Z) hK R1 T hx (lookTb_gl TBk e2) e3 l1 ?_)
        exact fun v Z2 H2 R2 l2 dn => q v σ1 Z2 H2 R2 l2 dn
end
/-! the def that calls what it got -/
def TTx (K : PySem.W.Frag) (l : HL) (dflt : PV) : (XK → Hp → VK → Prop) → Hp → VK → Prop := fun tl H Q => tl (fun cl d H' => ∀ σ, wMx K (fun _ _ _ _ => False) { nx := fun _ H' => Q .non H', rt := Q } (mxL K l) cl d σ H') H fun _ H' => Q (vC dflt) H'
theorem word_givesX {u : Bool × Bool} {X : Cx} {Ng : List Str} {x a q : Str} {sg : Scope} {g : Addr} {cdg : Value} {p1 p2 p3 p8 p9 : Pos} {h0 : ExceptHandler} {hds : List ExceptHandler} {l : HL} {rc : Expr} {dflt : PV}
    (hh : ∀ (s : Shared) (H : Hp), HdsX u (cxOf C8.CX0 X.prog X.w X.K X.mg X.base Ng x sg g cdg X.A X.stack s H C8.E0).nox (h0 :: hds) l) (hr : ∀ X : Cx, PE X rc (tC (vC dflt)))
    (hgl : ∀ (s : Shared) (H : Hp), SuB u (cxOf C8.CX0 X.prog X.w X.K X.mg X.base Ng x sg g cdg X.A X.stack s H C8.E0).nox) (h00 : ∀ f : Addr, (L2.start Ng [V.ref f])[0]? = some (some (V.ref f))) :
    LamX.GivesTo X Ng x sg g cdg [.Try [.Expr (.Call (.Name a p1) [] [] p2) p3] (h0 :: hds) [] [] p8, .Return (some rc) p9] a q (TTx X.K l dflt) := by
  intro f c' s H Q tl act hc h
  have hd := hdsX_ok (hgl s H) (hh s H)
  refine ⟨_, pss_cons (ps_try_mx (X := (cxOf C8.CX0 X.prog X.w X.K X.mg X.base Ng x sg g cdg X.A X.stack s H C8.E0).nox) (Wo := fun _ _ _ _ => False)
      (tb := fun W D τ G => ∃ Ech : XK, (∀ cl d τ' G', Ech cl d G' → W cl d τ' G') ∧ τ[0]? = some (some (.ref f)) ∧ G c' = some (LamX.CodeO c' q) ∧ tl Ech G (fun _ G' => ∃ τ', τ' = τ ∧ D.nx τ' G'))
      rfl rfl takes_none5 hd fun W pn xe tk _ => ?_) (pss_one (ps_ret (hr _))), ?_⟩
  · refine ⟨fun pins s' τ G D I ⟨Ech, hW, h1, h2, h3⟩ => ?_⟩
    have hq := pss_one (ps_expr (pos := p3) (act W pn xe Ech p1 p2 tk hW))
    refine hq.run pins s' τ G D I ⟨h1, h2, ?_⟩
    have e : (fun (_ : V) (G' : Hp) => ∃ τ', τ' = τ ∧ D.nx τ' G') = fun (_ : V) (G' : Hp) => D.nx τ G' := by
      funext _ G'
      exact propext ⟨fun ⟨_, e, z⟩ => e ▸ z, fun z => ⟨_, rfl, z⟩⟩
    rw [e] at h3
    exact h3
  · refine ⟨fun cl d G' => ∀ τ, wMx X.K (fun _ _ _ _ => False) { nx := fun _ H' => Q .non H', rt := Q } (mxL X.K l) cl d τ G', fun cl d τ' G' z => ?_, h00 f, hc, ?_⟩
    · exact wMx_ends (D := { nx := fun _ H' => Q .non H', rt := Q }) (D' := { nx := tRet (tC (vC dflt)) { nx := fun _ H' => Q .non H', rt := Q }, rt := Q }) rfl (z τ')
    · have e : (fun (_ : V) (G' : Hp) => ∃ τ', τ' = L2.start Ng [V.ref f] ∧ (tRet (tC (vC dflt)) { nx := fun _ H' => Q .non H', rt := Q } τ' G')) = fun (_ : V) (G' : Hp) => Q (vC dflt) G' := by
        funext _ G'
        exact propext ⟨fun ⟨_, _, z⟩ => z, fun z => ⟨_, rfl, z⟩⟩
      show tl _ H (fun (_ : V) (G' : Hp) => ∃ τ', τ' = L2.start Ng [V.ref f] ∧ (tRet (tC (vC dflt)) { nx := fun _ H' => Q .non H', rt := Q } τ' G'))
      rw [e]
      exact h
/-- such a def, from the head's facts -/
structure WrdX (P : Program) (w : World) (K : PySem.W.Frag) (mg : Str → Option Value) (base : Heap) (x : Str) (l : HL) (dflt : PV) : Prop where
  ex : ∃ (a : Str) (g : Addr) (pg : Arguments) (bg : List Stmt) (sg : Scope) (dV kV doc pm cdv ct oc : Value) (an od : Option Addr) (osl : Array (Option Value)) (Ng : List Str), mg x = some (.ref g) ∧ PySem.W.keepIn K (.ref g) = true ∧
    K.lookup g = some ⟨oc, od, .func (PySem.W.fnOf x x pg bg sg dV kV doc pm an cdv ct), osl⟩ ∧ PySem.W.codeIn K cdv x = true ∧ L2.Binds K (PySem.W.fnOf x x pg bg sg dV kV doc pm an cdv ct) [a] [] ∧ FnScope Ng [a] sg ∧ Ng[0]? = some a ∧ Vis sg a ∧
    (a == ("__debug__" : Str)) = false ∧ (a == ("__classdict__" : Str)) = false ∧ ∀ (X : Cx), X.K = K → X.mg = mg → X.A.guards = some [] → X.A.units + 203 < cLine → ∀ q, LamX.GivesTo X Ng x sg g cdv bg a q (TTx K l dflt)
theorem mk_wrdX {u : Bool × Bool} {P : Program} {w : World} {K : PySem.W.Frag} {mg : Str → Option Value} {base h : Heap} {fa : List He.Fa} {fn : List He.DefD} {x a : Str} {params : Arguments} {scope : Scope} {N : List Str} {p1 p2 p3 p8 p9 : Pos} {h0 : ExceptHandler} {hds : List ExceptHandler} {l : HL} {rc : Expr} {dflt : PV}
    (X : K.In h) (G : h.Ns mainGlobals mg) (c : He.SaysD fa fn K) (i j : Nat)
    (hd : fn[i]? = some ⟨(x, none), x, x, params, [.Try [.Expr (.Call (.Name a p1) [] [] p2) p3] (h0 :: hds) [] [] p8, .Return (some rc) p9], scope, [], []⟩) (hf : fa[j]? = some (.glo x)) (S : FnScope N [a] scope)
    (hb : ∀ {f : Addr} {fd : FuncData}, FunD K x x params [.Try [.Expr (.Call (.Name a p1) [] [] p2) p3] (h0 :: hds) [] [] p8, .Return (some rc) p9] scope [] [] f fd → Binds K fd [a] [])
    (hh : ∀ Y : Cx, Y.K = K → Y.mg = mg → Y.N = N → Y.env.scope = scope → HdsX u Y (h0 :: hds) l) (hrg : u.1 = true → scope.names.lookup ("repr" : Str) = some .globalImplicit ∧ mg "repr" = none) (hsg : u.2 = true → scope.names.lookup ("str" : Str) = some .globalImplicit ∧ mg "str" = none)
    (hr : ∀ X : Cx, PE X rc (tC (vC dflt)))
    (hN0 : N[0]? = some a := by rfl) (hva : Vis scope a := by first | exact Or.inl rfl | exact Or.inr (Or.inl rfl)) (h00 : ∀ f : Addr, (L2.start N [V.ref f])[0]? = some (some (V.ref f)) := by intro f; rfl)
    (hdb : (a == ("__debug__" : Str)) = false := by decide) (hcd : (a == ("__classdict__" : Str)) = false := by decide) : WrdX P w K mg base x l dflt := by
  obtain ⟨fd, F⟩ := c.def_ i hd
  obtain ⟨oc, od, dV, kV, doc, pm, an, cdv, ct, osl, efd, lk, hcg, _, _⟩ := F.ex
  have hbn := hb F
  have lk2 := lk
  rw [efd] at hbn lk2
  exact ⟨a, _, params, _, scope, dV, kV, doc, pm, cdv, ct, oc, an, od, osl, N, He.glo_ok X G (c.fact j hf), F.kp, lk2, hcg, hbn, S, hN0, hva, hdb, hcd, fun Y hK hm hg hu q => by
    have := word_givesX (u := u) (X := Y) (Ng := N) (x := x) (a := a) (q := q) (sg := scope) (g := He.fAd K (x, none)) (cdg := cdv) (p1 := p1) (p2 := p2) (p3 := p3) (p8 := p8) (p9 := p9) (rc := rc) (dflt := dflt) (fun s H => hh _ hK hm rfl rfl) hr
      (fun s H => ⟨hg, (show Y.A.units + 3 + 200 < cLine by omega), fun h => ⟨(hrg h).1, by show Y.mg "repr" = none; rw [hm]; exact (hrg h).2⟩, fun h => ⟨(hsg h).1, by show Y.mg "str" = none; rw [hm]; exact (hsg h).2⟩⟩) h00
    rw [hK] at this
    exact this⟩
def fLamX (tb : Tb) (xt : XT) (l : HL) (dflt : PV) (f : Rho → Res RV) : Rho → Res RV := fun ρ => match f (hide ρ) with
  | .ok _ _ => .ok (.val dflt) ρ
  | .er x _ => (match pickT tb x.c l with
    | some z => (match hxv xt x z.2 with
      | some rv => .ok rv ρ
      | none => .no)
    | none => .no)
  | .no => .no
theorem se_lamX [Tabl] {X : Cx} {W : WX} {tb : Tb} {xt : XT} {l : HL} {dflt : PV} {x : Str} {k j : Nat} {params : Arguments} {body : Expr} {scope : Scope} {f : Rho → Res RV} {p lpos pos : Pos} (le : LamE X) (Wd : WrdX X.prog X.w X.K X.mg X.base x l dflt) (TBk : TbOk X.K X.mg tb) (T : XtOk X.K xt) (hrg : RoomG j X.A)
    (hbody : ∀ (A : Around) (outer : List Env) (s : Shared) (H : Hp) (E : XK) (f' c' : Addr), Room k (A.deeper (LamX.lamEnv X scope s.heap.objs.size f' c')) → SE (LamX.lamCx X A outer s H E scope f' c') (fun cls d _ H => E cls d H) body f)
    (L : LamX.LamS X.env.scope scope) (hg : Gl X x := by rfl) (hk : k + 2 ≤ j := by decide) (hd1 : isCn dflt = true := by rfl) (hdef : defaultsOf params X.env = ([], []) := by rfl)
    (hbind : ∀ (q : Str) (cl : List (Str × Addr)) (pm cv ctv : Value), bindArgs (PySem.W.kla_fn "<lambda>" q params body scope cl pm cv ctv) ⟨[], []⟩ = pure [] := by intros; rfl) (hdb : (x == ("__debug__" : Str)) = false := by decide) :
    SE X W (.Call (.Name x p) [.Lambda params body scope lpos] [] pos) (fLamX tb xt l dflt f) := by
  obtain ⟨c, P, TB, hcode, hmT, hu, hT⟩ := le.ex
  obtain ⟨a, g, pg, bg, sg, dV, kV, doc, pm, cdv, ct, oc, an, od, osl, Ng, hm, hkp, lk, hcg, hb, Sg, hNg, hva, hd, hcd, hG⟩ := Wd.ex
  refine pe_imp (LamX.pe_lamcall (T := Tabl.T) (TT := TTx X.K l dflt) (t := fun E => TF X.K X.mg (fun cls d _ H => E cls d H) f) hg hm hkp lk hcg hb Sg hNg hva (hG X rfl rfl hrg.gd (by have := hrg.r.un; omega) _) TB hcode hmT hu (hrg.r.mono hk) L hdef hbind (fun A outer s H E f' c' hr' => hbody A outer s H E f' c' hr') hdb hd hcd) ?_
  rintro σ H Q ⟨C, ρ, Z, hK, hm', R, q⟩
  refine ⟨R.tab, fun H1 e1 t1 => ?_⟩
  have R1 := R.extN hT e1 t1
  refine ⟨C.call Z H1 none, hide ρ, Z, hK, hm', R1.inner, ?_⟩
  unfold fLamX at q
  cases ef : f (hide ρ) with
  | no => rw [ef] at q; exact q.elim
  | ok r ρ1 =>
    rw [ef] at q
    exact fun v Z' H' R' l' dn => q (vC dflt) Z' H' (R1.outer R') l' (dn_vC hd1)
  | er ex ρ1 =>
    rw [ef] at q
    simp only at q
    cases ep : pickT tb ex.c l with
    | none => rw [ep] at q; exact q.elim
    | some z =>
      rw [ep] at q
      simp only at q
      cases e3 : hxv xt ex z.2 with
      | none => rw [e3] at q; exact q.elim
      | some rv =>
        rw [e3] at q
        intro cls d Z' H' R' l' hx σ'
        rw [show (C.call Z H1 none).mg = X.mg from hm', show (C.call Z H1 none).K = X.K from hK] at hx
        exact pick_mx TBk (xc_cls hx) ep (hxv_ok (W := W) (Z0 := Z) hK (R1.outer R') T hx (lookTb_gl TBk ep) e3 l' q)
theorem un200 {k : Nat} {A : Around} (h : RoomG k A) : A.units + 200 < cLine := by have := h.r.un; omega
end TT

set_option Elab.async false
set_option linter.all false
set_option maxRecDepth 100000
/-! for laws about errors: texts, lists of texts, what a lambda's call ends in -/
namespace TT
open PySem PySem.Spec L2
theorem fLamX_ap {tb : Tb} {xt : XT} {l : HL} {dflt : PV} {f : Rho → Res RV} {ρ : Rho} : fLamX tb xt l dflt f ρ = match f (hide ρ) with
  | .ok _ _ => .ok (.val dflt) ρ
  | .er x _ => (match pickT tb x.c l with
    | some z => (match hxv xt x z.2 with
      | some rv => .ok rv ρ
      | none => .no)
    | none => .no)
  | .no => .no := rfl
theorem fTry_ap {tb : Tb} {xt : XT} {l : HL} {f : Rho → Res Fl} {ρ : Rho} : fTry tb xt l f ρ = match f ρ with
  | .er x ρ1 => (match pickT tb x.c l with
    | some z => (match hxv xt x z.2 with
      | some rv => .ok (.rt rv) ρ1
      | none => .no)
    | none => .no)
  | .ok a ρ1 => .ok a ρ1
  | .no => .no := rfl
@[simp] theorem fRaiseV_ap {c f : Str} {g : Rho → Res RV} {ρ : Rho} : fRaiseV c f g ρ = (fV g ρ).bind fun r ρ1 => match r with
  | .val d => .er ⟨c, [(f, d)]⟩ ρ1
  | _ => .no := rfl
theorem lamX_ok {tb : Tb} {xt : XT} {l : HL} {dflt : PV} {f : Rho → Res RV} {ρ as : Rho} {r : RV} (h : f (hide ρ) = .ok r as) : fLamX tb xt l dflt f ρ = .ok (.val dflt) ρ := by
  rw [fLamX_ap, h]
theorem lamX_er {tb : Tb} {xt : XT} {l : HL} {dflt : PV} {f : Rho → Res RV} {ρ as : Rho} {x : EX} {z : Option (Nat × Str) × HX} {rv : RV} (h : f (hide ρ) = .er x as) (h1 : pickT tb x.c l = some z) (h2 : hxv xt x z.2 = some rv) : fLamX tb xt l dflt f ρ = .ok rv ρ := by
  rw [fLamX_ap, h]
  simp only [h1, h2]
/-- a text of moderate length, of signs that there are -/
def txOk (t : Str) : Bool := decide (t.length ≤ 100000) && PyData.strOk t
theorem txOk_ok {t : Str} (h : txOk t = true) : PyData.strOk t = true := (He.ba h).2
theorem txOk_len {t : Str} (h : txOk t = true) : t.length ≤ 100000 := of_decide_eq_true (He.ba h).1
theorem strOk_app {x y : Str} (h : PyData.strOk x = true) (k : PyData.strOk y = true) : PyData.strOk (x ++ y) = true := by
  unfold PyData.strOk at *
  have e : (x ++ y).cps = x.cps ++ y.cps := rfl
  rw [e, Array.all_append, h, k]
  rfl
theorem strOk_of (s : String) : PyData.strOk (Str.ofString s) = true := by
  unfold PyData.strOk
  simp only [Str.ofString_eq_toList]
  rw [← Array.all_toList, List.all_eq_true]
  intro c hc
  simp only [List.mem_map] at hc
  obtain ⟨ch, _, rfl⟩ := hc
  refine decide_eq_true ?_
  have := ch.valid
  unfold UInt32.isValidChar Nat.isValidChar at this
  show ch.val.toNat < 0x110000
  omega
theorem app_len {x y : Str} : (x ++ y).length = x.length + y.length := by
  show (x.cps ++ y.cps).size = _
  rw [Array.size_append]
  rfl
theorem dd_txt {s : Str} (h : PyData.strOk s = true) : DD 0 (.str s) := ⟨rfl, by simp [toD, PyData.canLay0, h], by simp [toD, PyData.depth]⟩
theorem eqP_txt {s t : Str} : eqP (.str s) (.str t) = decide (s = t) := by simp [eqP, toD, PyData.eqv]; rfl
theorem eqPs_txts : ∀ ss : List Str, eqPs (ss.map .str) (ss.map .str) = true
  | [] => rfl
  | s :: ss => by
    have := eqPs_txts ss
    simp only [List.map_cons, eqPs, this, Bool.and_true]
    rw [eqP_txt]
    simp
theorem dd_txts {ss : List Str} (h : ss.all PyData.strOk = true) : DD 1 (.lst (ss.map .str)) := DD.lst fun d hd => by
  obtain ⟨s, hs, rfl⟩ := List.mem_map.mp hd
  exact dd_txt (List.all_eq_true.mp h s hs)
theorem pEq_txts {ss : List Str} (h : ss.all PyData.strOk = true) : pEq (.lst (ss.map .str)) (.lst (ss.map .str)) = vB true := by
  have ok := (dd_txts h).ok (by decide)
  rw [pEq_of ok ok, eqP_lst, eqPs_txts]
theorem pNe_txts {ss : List Str} (h : ss.all PyData.strOk = true) : pNe (.lst (ss.map .str)) (.lst (ss.map .str)) = vB false := by
  have ok := (dd_txts h).ok (by decide)
  unfold pNe
  rw [ok]
  simp only [Bool.and_self, ↓reduceIte]
  rw [eqP_lst, eqPs_txts]
  rfl
theorem pReprD_of {d : PV} {t : Str} (h : textD d = some t) : pReprD [d] = some (.val (.str t)) := by
  show (textD d).bind _ = _
  rw [h]
  rfl
theorem pAdd_txt {x t : Str} (h : x.length + t.length ≤ bigN) : pAdd (.str x) (.str t) = some (.val (.str (x ++ t))) := by
  show guard (decide (x.length + t.length ≤ bigN)) _ = _
  unfold TT.guard
  rw [if_pos (decide_eq_true h)]
theorem hxv_ad {xt : XT} {x : EX} {f : Str} {d : PV} {z t : Str} (h1 : fldX xt x f = some d) (h2 : textD d = some t) (h3 : z.length + t.length ≤ bigN) : hxv xt x (.one (.ad z (.rp f))) = some (.val (.str (z ++ t))) := by
  simp only [hxv, hsv, h1, h2, Option.bind_some, decide_eq_true h3, ↓reduceIte]
def txD (d : PV) : Bool := match textD d with
  | some t => txOk t
  | none => false
theorem txD_ok {d : PV} (h : txD d = true) : ∃ t, textD d = some t ∧ txOk t = true := by
  unfold txD at h
  split at h
  · rename_i t e
    exact ⟨t, e, h⟩
  · cases h
theorem txD_all {l : List PV} (h : l.all txD = true) {d : PV} (hd : d ∈ l) : ∃ t, textD d = some t ∧ txOk t = true := txD_ok (List.all_eq_true.mp h d hd)
theorem cons_v {f : Rho → Res RV} {fl : Rho → Res (List RV)} {ρ ρ1 ρ2 : Rho} {d : PV} {rs : List RV} (h : f ρ = .ok (.val d) ρ1) (k : fl ρ1 = .ok rs ρ2) : fCons (fV f) fl ρ = .ok (.val d :: rs) ρ2 := by
  simp [h, k]
theorem cons_w {f : Rho → Res RV} {fl : Rho → Res (List RV)} {ρ ρ1 ρ2 : Rho} {d : PV} {rs : List RV} (h : f ρ = .ok (.val d) ρ1) (k : fl ρ1 = .ok rs ρ2) : fCons f fl ρ = .ok (.val d :: rs) ρ2 := by
  simp [h, k]
theorem nil_v {ρ : Rho} : fNil ρ = .ok (([] : List PV).map .val) ρ := rfl
theorem vals_map : ∀ ds : List PV, vals (ds.map .val) = some ds
  | [] => rfl
  | d :: ds => by simp [vals, vals_map ds]
theorem lst_of {fl : Rho → Res (List RV)} {ρ ρ1 : Rho} {ds : List PV} (h : fl ρ = .ok (ds.map .val) ρ1) (k : ds.length ≤ 1000) : fLst fl ρ = .ok (.own (.lst ds)) ρ1 := by
  rw [fLst_ap, h]
  show (match vals (ds.map .val) with
    | some ds => if ds.length ≤ 1000 then Res.ok (RV.own (.lst ds)) ρ1 else .no
    | none => .no) = _
  rw [vals_map]
  exact if_pos k
end TT

set_option Elab.async false
set_option linter.all false
open PySem PySem.Spec L2 TT
namespace KK
set_option maxRecDepth 100000

def top (i : Nat) : Stmt := PySem.Challenge.pw_touchtowers_k02_whole_residues_and_divis.main.body.getD i (.Pass ⟨0, 0, 0, 0⟩)
def clsB : Stmt → List Stmt
  | .ClassDef _ _ _ b _ _ _ _ _ _ _ => b
  | _ => []
def mth (i j : Nat) : Stmt := (clsB (top i)).getD j (.Pass ⟨0, 0, 0, 0⟩)
def tbl : Tb := [("InvalidPrime", "InvalidPrime", true), ("InvalidPrime", "InvalidCount", false), ("InvalidPrime", "InvalidOperation", false), ("InvalidOperation", "InvalidPrime", false), ("InvalidOperation", "InvalidCount", false), ("InvalidOperation", "InvalidOperation", true), ("InvalidCount", "InvalidPrime", false), ("InvalidCount", "InvalidCount", true), ("InvalidCount", "InvalidOperation", false)]
def xtb : XT := [("InvalidCount", "value")]
abbrev s_InvalidCount___init__ : Stmt := mth 5 0
abbrev N_InvalidCount___init__ : List Str := ["self", "value"]
theorem sc_InvalidCount___init__ : FnScope N_InvalidCount___init__ N_InvalidCount___init__ (defScope s_InvalidCount___init__) := ⟨rfl, rfl, rfl, by decide +kernel, rfl, by decide +kernel, by decide +kernel⟩
abbrev ms : List Str := ["_law_errors_right"]
abbrev s_law_word : Stmt := top 21
abbrev N_law_word : List Str := ["_law_call", "e"]
theorem sc_law_word : FnScope N_law_word ["_law_call"] (defScope s_law_word) := ⟨rfl, rfl, rfl, by decide +kernel, rfl, by decide +kernel, by decide +kernel⟩
abbrev l_law_word : HL := [("InvalidPrime", none, (.one (.cs "prime"))), ("InvalidCount", some (1, "e"), (.one (.ad "count " (.rp "value")))), ("InvalidOperation", none, (.one (.cs "operation")))]
abbrev s_law_roll : Stmt := top 19
abbrev N_law_roll : List Str := ["_law_dice_here", "_law_total", "_law_one", "_law_two", "_law_found"]
theorem sc_law_roll : FnScope N_law_roll ["_law_dice_here", "_law_total"] (defScope s_law_roll) := ⟨rfl, rfl, rfl, by decide +kernel, rfl, by decide +kernel, by decide +kernel⟩
def b_law_roll_1 : Rho → Res Fl :=
  (fIfS (fTB (fBin pGt (fBin pIx (fName 0) (fVal (.int 0))) (fVal (.int 0)))) (fSeq (fSet 4 (fBin pMod (fApp pInt (fCons (fBin pIx (fName 0) (fVal (.int 0))) fNil)) (fName 1)))
    (fSeq (fStore 0 (fVal (.int 0)) (fBin pDiv (fBin pIx (fName 0) (fVal (.int 0))) (fName 1)))
    (fRet (fName 4)))) fSkip)
def b_law_roll_2 : Rho → Res Fl :=
  (fStore 0 (fVal (.int 2)) (fBin pAdd (fBin pIx (fName 0) (fVal (.int 2))) (fVal (.int 1))))
def b_law_roll_3 : Rho → Res Fl :=
  (fSet 2 (fBin pMod (fApp pInt (fCons (fBin pAdd (fBin pIx (fName 0) (fVal (.int 1))) (fBin pMulA (fVal (.int 32452867)) (fBin pIx (fName 0) (fVal (.int 2))))) fNil)) (fVal (.int 2305843009213693907))))
def b_law_roll_4 : Rho → Res Fl :=
  (fSet 3 (fBin pAdd (fBin pMulA (fBin pMod (fApp pInt (fCons (fBin pAdd (fBin pMulA (fName 2) (fName 2)) (fBin pMulA (fVal (.int 97)) (fBin pIx (fName 0) (fVal (.int 2))))) fNil)) (fVal (.int 2305843009213693921))) (fVal (.int 6700417))) (fName 2)))
def b_law_roll_5 : Rho → Res Fl :=
  (fRet (fBin pMod (fApp pInt (fCons (fBin pDiv (fName 3) (fVal (.int 65536))) fNil)) (fName 1)))
def b_law_roll : Rho → Res Fl := (fSeq b_law_roll_1 (fSeq b_law_roll_2 (fSeq b_law_roll_3 (fSeq b_law_roll_4 b_law_roll_5))))
def F_law_roll : Sem1 := runF 5 2 b_law_roll
abbrev s_law_pick : Stmt := top 20
abbrev N_law_pick : List Str := ["_law_dice_here", "_law_items"]
theorem sc_law_pick : FnScope N_law_pick ["_law_dice_here", "_law_items"] (defScope s_law_pick) := ⟨rfl, rfl, rfl, by decide +kernel, rfl, by decide +kernel, by decide +kernel⟩
def b_law_pick_1 : Rho → Res Fl :=
  (fRet (fBin pIx (fName 1) (fCallD 2 F_law_roll 0 (fCons (fV (fApp pLen (fCons (fName 1) fNil))) fNil))))
def b_law_pick : Rho → Res Fl := b_law_pick_1
def F_law_pick : Sem1 := runF 2 2 b_law_pick
abbrev s_is_whole : Stmt := top 9
abbrev N_is_whole : List Str := ["value"]
theorem sc_is_whole : FnScope N_is_whole ["value"] (defScope s_is_whole) := ⟨rfl, rfl, rfl, by decide +kernel, rfl, by decide +kernel, by decide +kernel⟩
def b_is_whole_1 : Rho → Res Fl :=
  (fRet (fAndV (fUn (pIsi .int) (fName 0)) (fNotV (fUn (pIsi .bool) (fName 0)))))
def b_is_whole : Rho → Res Fl := b_is_whole_1
def F_is_whole : Sem1 := runF 1 1 b_is_whole
abbrev s_is_integer : Stmt := top 8
abbrev N_is_integer : List Str := ["value"]
theorem sc_is_integer : FnScope N_is_integer ["value"] (defScope s_is_integer) := ⟨rfl, rfl, rfl, by decide +kernel, rfl, by decide +kernel, by decide +kernel⟩
def b_is_integer_1 : Rho → Res Fl :=
  (fRet (fAndV (fCall 1 F_is_whole (fCons (fV (fName 0)) fNil)) (fBin pLt (fApp pAbs (fCons (fName 0) fNil)) (fBin pPow (fVal (.int 10)) (fVal (.int 60))))))
def b_is_integer : Rho → Res Fl := b_is_integer_1
def F_is_integer : Sem1 := runF 1 1 b_is_integer
abbrev s_common_divisor : Stmt := top 15
abbrev N_common_divisor : List Str := ["numbers", "divisor", "number"]
theorem sc_common_divisor : FnScope N_common_divisor ["numbers"] (defScope s_common_divisor) := ⟨rfl, rfl, rfl, by decide +kernel, rfl, by decide +kernel, by decide +kernel⟩
def b_common_divisor_1 : Rho → Res Fl :=
  (fIfS (fOr (fNot (fTru (fUn (pIsi .tuple) (fName 0)))) (fNot (fTru (fApp pAll (fCons (fLc [2] (fIt (fName 0)) (gN 2) fYes (fCall 1 F_is_integer (fCons (fV (fName 2)) fNil))) fNil))))) (fRaise "InvalidOperation") fSkip)
def b_common_divisor_2 : Rho → Res Fl :=
  (fSet 1 (fVal (.int 0)))
def l_common_divisor_1 : Rho → Res Fl :=
  (fSet 1 (fApp pGcd (fCons (fV (fName 1)) (fCons (fV (fName 2)) fNil))))
def b_common_divisor_3 : Rho → Res Fl :=
  (fFor (fIt (fName 0)) (gN 2) l_common_divisor_1)
def b_common_divisor_4 : Rho → Res Fl :=
  (fRet (fName 1))
def b_common_divisor : Rho → Res Fl := (fSeq b_common_divisor_1 (fSeq b_common_divisor_2 (fSeq b_common_divisor_3 b_common_divisor_4)))
def F_common_divisor : Sem1 := runF 3 1 b_common_divisor
abbrev s_is_prime : Stmt := top 12
abbrev N_is_prime : List Str := ["value"]
theorem sc_is_prime : FnScope N_is_prime ["value"] (defScope s_is_prime) := ⟨rfl, rfl, rfl, by decide +kernel, rfl, by decide +kernel, by decide +kernel⟩
def b_is_prime_1 : Rho → Res Fl :=
  (fRet (fAndV (fCall 1 F_is_integer (fCons (fV (fName 0)) fNil)) (fBin pIn (fName 0) (fVal (.tup ([2, 3, 5, 7, 11, 13, 17, 19, 23, 29, 31].map .int))))))
def b_is_prime : Rho → Res Fl := b_is_prime_1
def F_is_prime : Sem1 := runF 1 1 b_is_prime
abbrev s_check_prime : Stmt := top 13
abbrev N_check_prime : List Str := ["prime"]
theorem sc_check_prime : FnScope N_check_prime ["prime"] (defScope s_check_prime) := ⟨rfl, rfl, rfl, by decide +kernel, rfl, by decide +kernel, by decide +kernel⟩
def b_check_prime_1 : Rho → Res Fl :=
  (fIfS (fNot (fTru (fCall 1 F_is_prime (fCons (fV (fName 0)) fNil)))) (fRaise "InvalidPrime") fSkip)
def b_check_prime : Rho → Res Fl := b_check_prime_1
def F_check_prime : Sem1 := runF 1 1 b_check_prime
abbrev s_residue_of : Stmt := top 16
abbrev N_residue_of : List Str := ["prime", "number"]
theorem sc_residue_of : FnScope N_residue_of ["prime", "number"] (defScope s_residue_of) := ⟨rfl, rfl, rfl, by decide +kernel, rfl, by decide +kernel, by decide +kernel⟩
def b_residue_of_1 : Rho → Res Fl :=
  (fDrop (fCall 1 F_check_prime (fCons (fV (fName 0)) fNil)))
def b_residue_of_2 : Rho → Res Fl :=
  (fIfS (fNot (fTru (fCall 1 F_is_integer (fCons (fV (fName 1)) fNil)))) (fRaiseV "InvalidCount" "value" (fName 1)) fSkip)
def b_residue_of_3 : Rho → Res Fl :=
  (fRet (fBin pMod (fName 1) (fName 0)))
def b_residue_of : Rho → Res Fl := (fSeq b_residue_of_1 (fSeq b_residue_of_2 b_residue_of_3))
def F_residue_of : Sem1 := runF 2 2 b_residue_of
abbrev s_is_between : Stmt := top 10
abbrev N_is_between : List Str := ["value", "least", "most"]
theorem sc_is_between : FnScope N_is_between ["value", "least", "most"] (defScope s_is_between) := ⟨rfl, rfl, rfl, by decide +kernel, rfl, by decide +kernel, by decide +kernel⟩
def b_is_between_1 : Rho → Res Fl :=
  (fRet (fAndV (fCall 1 F_is_integer (fCons (fV (fName 0)) fNil)) (fChain pLe pLe (fName 1) (fName 0) (fName 2))))
def b_is_between : Rho → Res Fl := b_is_between_1
def F_is_between : Sem1 := runF 3 3 b_is_between
abbrev s_check_between : Stmt := top 11
abbrev N_check_between : List Str := ["value", "least", "most"]
theorem sc_check_between : FnScope N_check_between ["value", "least", "most"] (defScope s_check_between) := ⟨rfl, rfl, rfl, by decide +kernel, rfl, by decide +kernel, by decide +kernel⟩
def b_check_between_1 : Rho → Res Fl :=
  (fIfS (fNot (fTru (fCall 3 F_is_between (fCons (fV (fName 0)) (fCons (fV (fName 1)) (fCons (fV (fName 2)) fNil)))))) (fRaiseV "InvalidCount" "value" (fName 0)) fSkip)
def b_check_between : Rho → Res Fl := b_check_between_1
def F_check_between : Sem1 := runF 3 3 b_check_between
abbrev s_residue_inverse : Stmt := top 14
abbrev N_residue_inverse : List Str := ["prime", "number", "found"]
theorem sc_residue_inverse : FnScope N_residue_inverse ["prime", "number"] (defScope s_residue_inverse) := ⟨rfl, rfl, rfl, by decide +kernel, rfl, by decide +kernel, by decide +kernel⟩
def b_residue_inverse_1 : Rho → Res Fl :=
  (fDrop (fCall 1 F_check_prime (fCons (fV (fName 0)) fNil)))
def b_residue_inverse_2 : Rho → Res Fl :=
  (fDrop (fCall 3 F_check_between (fCons (fV (fName 1)) (fCons (fVal (.int 1)) (fCons (fBin pSub (fName 0) (fVal (.int 1))) fNil)))))
def b_residue_inverse_3 : Rho → Res Fl :=
  (fSet 2 (fVal (.int 1)))
def l_residue_inverse_1 : Rho → Res Fl :=
  (fSet 2 (fBin pAdd (fName 2) (fVal (.int 1))))
def l_residue_inverse_2 : Rho → Res Bool :=
  (fTB (fBin pNe (fBin pMod (fBin pMulA (fName 1) (fName 2)) (fName 0)) (fVal (.int 1))))
def b_residue_inverse_4 : Rho → Res Fl :=
  (fWhile l_residue_inverse_2 l_residue_inverse_1)
def b_residue_inverse_5 : Rho → Res Fl :=
  (fRet (fName 2))
def b_residue_inverse : Rho → Res Fl := (fSeq b_residue_inverse_1 (fSeq b_residue_inverse_2 (fSeq b_residue_inverse_3 (fSeq b_residue_inverse_4 b_residue_inverse_5))))
def F_residue_inverse : Sem1 := runF 3 2 b_residue_inverse
abbrev s_law_errors_right : Stmt := top 25
abbrev N_law_errors_right : List Str := ["_law_dice_here", "_law_odd", "_law_none", "_law_rows", "_law_told", "_law_bad", "_law_prime"]
theorem sc_law_errors_right : FnScope N_law_errors_right ["_law_dice_here"] (defScope s_law_errors_right) := ⟨rfl, rfl, rfl, by decide +kernel, rfl, by decide +kernel, by decide +kernel⟩
def b_law_errors_right_1 : Rho → Res Fl :=
  (fAsg (gTp 2 (gCs (gN 5) (gCs (gN 6) gNl))) (fTup (fCons (fV (fCallD 2 F_law_pick 0 (fCons (fV (fLst (fCons (fVal .non) (fCons (fVal (.int 0)) (fCons (fVal (.int 1)) (fCons (fVal (.int 9)) (fCons (fVal (.int 33)) (fCons (fUn pNeg (fVal (.int 3))) (fCons (fVal (.bl true)) (fCons (fVal (.str "3")) (fCons (fTup (fCons (fVal (.int 3)) fNil)) (fCons (fV (fLst fNil)) fNil)))))))))))) fNil))) (fCons (fV (fCallD 2 F_law_pick 0 (fCons (fV (fApp pList (fCons (fVal (.tup ([2, 3, 5, 7, 11, 13, 17, 19, 23, 29, 31].map .int))) fNil))) fNil))) fNil))))
def b_law_errors_right_2 : Rho → Res Fl :=
  (fSet 1 (fCallD 2 F_law_pick 0 (fCons (fV (fLst (fCons (fVal .non) (fCons (fUn pNeg (fVal (.int 1))) (fCons (fV (fName 6)) (fCons (fVal (.int 0)) (fCons (fBin pPow (fVal (.int 10)) (fVal (.int 50))) (fCons (fVal (.bl true)) (fCons (fVal (.str "1")) (fCons (fTup (fCons (fVal (.int 1)) fNil)) (fCons (fV (fDct0)) fNil))))))))))) fNil)))
def b_law_errors_right_3 : Rho → Res Fl :=
  (fSet 2 (fCallD 2 F_law_pick 0 (fCons (fV (fLst (fCons (fVal .non) (fCons (fVal (.bl true)) (fCons (fVal (.str "1")) (fCons (fTup (fCons (fVal (.int 1)) fNil)) (fCons (fBin pPow (fVal (.int 10)) (fVal (.int 60))) (fCons (fUn pNeg (fBin pPow (fVal (.int 10)) (fVal (.int 60)))) (fCons (fV (fDct0)) (fCons (fV (fLst fNil)) fNil)))))))))) fNil)))
def b_law_errors_right_4 : Rho → Res Fl :=
  (fSet 3 (fCallD 2 F_law_pick 0 (fCons (fV (fLst (fCons (fVal .non) (fCons (fVal (.int 3)) (fCons (fV (fLst (fCons (fVal (.int 1)) (fCons (fVal (.int 2)) fNil)))) (fCons (fTup (fCons (fVal (.int 1)) (fCons (fVal .non) fNil))) (fCons (fTup (fCons (fVal (.int 1)) (fCons (fVal (.bl true)) fNil))) (fCons (fTup (fCons (fVal (.str "1")) fNil)) (fCons (fTup (fCons (fBin pPow (fVal (.int 10)) (fVal (.int 60))) (fCons (fVal (.int 1)) fNil))) (fCons (fV (fDct1 1 2)) (fCons (fVal (.str "12")) (fCons (fTup (fCons (fTup (fCons (fVal (.int 1)) (fCons (fVal (.int 2)) fNil))) fNil)) fNil)))))))))))) fNil)))
def b_law_errors_right_5 : Rho → Res Fl :=
  (fSet 4 (fLst (fCons (fV (fLamX tbl xtb l_law_word (.str "none") (fCall 2 F_residue_inverse (fCons (fV (fName 5)) (fCons (fV (fName 1)) fNil))))) (fCons (fV (fLamX tbl xtb l_law_word (.str "none") (fCall 2 F_residue_inverse (fCons (fV (fName 6)) (fCons (fV (fName 1)) fNil))))) (fCons (fV (fLamX tbl xtb l_law_word (.str "none") (fCall 2 F_residue_of (fCons (fV (fName 5)) (fCons (fV (fName 2)) fNil))))) (fCons (fV (fLamX tbl xtb l_law_word (.str "none") (fCall 2 F_residue_of (fCons (fV (fName 6)) (fCons (fV (fName 2)) fNil))))) (fCons (fV (fLamX tbl xtb l_law_word (.str "none") (fCall 1 F_common_divisor (fCons (fV (fName 3)) fNil)))) (fCons (fV (fLamX tbl xtb l_law_word (.str "none") (fCall 1 F_common_divisor (fCons (fTup (fCons (fBin pSub (fBin pPow (fVal (.int 10)) (fVal (.int 60))) (fVal (.int 1))) (fCons (fVal (.int 0)) fNil))) fNil)))) fNil))))))))
def b_law_errors_right_6 : Rho → Res Fl :=
  (fRet (fBin pEq (fName 4) (fLst (fCons (fVal (.str "prime")) (fCons (fV (fBin pAdd (fVal (.str "count ")) (fApp pReprD (fCons (fName 1) fNil)))) (fCons (fVal (.str "prime")) (fCons (fV (fBin pAdd (fVal (.str "count ")) (fApp pReprD (fCons (fName 2) fNil)))) (fCons (fVal (.str "operation")) (fCons (fVal (.str "none")) fNil)))))))))
def b_law_errors_right : Rho → Res Fl := (fSeq b_law_errors_right_1 (fSeq b_law_errors_right_2 (fSeq b_law_errors_right_3 (fSeq b_law_errors_right_4 (fSeq b_law_errors_right_5 b_law_errors_right_6)))))
def F_law_errors_right : Sem1 := runF 7 1 b_law_errors_right
abbrev s_law_shared : Stmt := top 22
abbrev N_law_shared : List Str := ["_law_one", "_law_other", "_law_turn"]
theorem sc_law_shared : FnScope N_law_shared ["_law_one", "_law_other"] (defScope s_law_shared) := ⟨rfl, rfl, rfl, by decide +kernel, rfl, by decide +kernel, by decide +kernel⟩
def l_law_shared_1 : Rho → Res Fl :=
  (fSeq (fIfS (fTB (fBin pEq (fName 1) (fVal (.int 0)))) fBrk fSkip)
    (fPar 0 1 (fCons (fV (fName 1)) (fCons (fBin pMod (fApp pInt (fCons (fName 0) fNil)) (fName 1)) fNil))))
def b_law_shared_1 : Rho → Res Fl :=
  (fFor (fRng1 (fCons (fVal (.int 400)) fNil)) (gN 2) l_law_shared_1)
def b_law_shared_2 : Rho → Res Fl :=
  (fRet (fName 0))
def b_law_shared : Rho → Res Fl := (fSeq b_law_shared_1 b_law_shared_2)
def F_law_shared : Sem1 := runF 3 2 b_law_shared
abbrev s_law_divisors_right : Stmt := top 24
abbrev N_law_divisors_right : List Str := ["_law_dice_here", "_law_factor", "_law_turn", "_law_told", "_law_row", "_law_due", "_law_one"]
theorem sc_law_divisors_right : FnScope N_law_divisors_right ["_law_dice_here"] (defScope s_law_divisors_right) := ⟨rfl, rfl, rfl, by decide +kernel, rfl, by decide +kernel, by decide +kernel⟩
def b_law_divisors_right_1 : Rho → Res Fl :=
  (fSet 1 (fBin pAdd (fVal (.int 1)) (fCallD 2 F_law_roll 0 (fCons (fV (fCallD 2 F_law_pick 0 (fCons (fV (fLst (fCons (fVal (.int 1)) (fCons (fVal (.int 12)) (fCons (fBin pPow (fVal (.int 10)) (fVal (.int 6))) (fCons (fBin pPow (fVal (.int 10)) (fVal (.int 25))) fNil)))))) fNil))) fNil))))
def b_law_divisors_right_2 : Rho → Res Fl :=
  (fPar 4 5 (fCons (fLst fNil) (fCons (fVal (.int 0)) fNil)))
def l_law_divisors_right_1 : Rho → Res Fl :=
  (fSeq (fSet 6 (fBin pMulA (fName 1) (fCallD 2 F_law_pick 0 (fCons (fV (fLst (fCons (fVal (.int 0)) (fCons (fVal (.int 1)) (fCons (fV (fCallD 2 F_law_roll 0 (fCons (fVal (.int 60)) fNil))) (fCons (fV (fCallD 2 F_law_roll 0 (fCons (fBin pPow (fVal (.int 10)) (fVal (.int 30))) fNil))) fNil)))))) fNil))))
    (fSeq (fDrop (fAppend 4 (fIfE (fTB (fBin pEq (fCallD 2 F_law_roll 0 (fCons (fVal (.int 2)) fNil)) (fVal (.int 0)))) (fName 6) (fUn pNeg (fName 6)))))
    (fSet 5 (fCall 2 F_law_shared (fCons (fV (fName 6)) (fCons (fV (fName 5)) fNil))))))
def b_law_divisors_right_3 : Rho → Res Fl :=
  (fFor (fRng1 (fCons (fCallD 2 F_law_roll 0 (fCons (fVal (.int 5)) fNil)) fNil)) (gN 2) l_law_divisors_right_1)
def b_law_divisors_right_4 : Rho → Res Fl :=
  (fSet 3 (fCall 1 F_common_divisor (fCons (fV (fApp pTuple (fCons (fName 4) fNil))) fNil)))
def b_law_divisors_right_5 : Rho → Res Fl :=
  (fIfS (fOr (fTB (fBin pNe (fName 3) (fName 5))) (fOr (fTB (fBin pNe (fCall 1 F_common_divisor (fCons (fV (fApp pTuple (fCons (fUn pRevA (fName 4)) fNil))) fNil)) (fName 3))) (fTB (fBin pNe (fCall 1 F_common_divisor (fCons (fV (fBin pAdd (fApp pTuple (fCons (fName 4) fNil)) (fTup (fCons (fVal (.int 0)) fNil)))) fNil)) (fName 3))))) (fRet (fVal (.bl false))) fSkip)
def b_law_divisors_right_6 : Rho → Res Fl :=
  (fRet (fBin pEq (fLc [6] (fIt (fName 4)) (gN 6) (fOr (fAnd (fTB (fBin pEq (fName 3) (fVal (.int 0)))) (fTB (fBin pNe (fName 6) (fVal (.int 0))))) (fAnd (fTB (fBin pGt (fName 3) (fVal (.int 0)))) (fTB (fBin pNe (fBin pMod (fApp pInt (fCons (fName 6) fNil)) (fName 3)) (fVal (.int 0)))))) (fName 6)) (fLst fNil)))
def b_law_divisors_right : Rho → Res Fl := (fSeq b_law_divisors_right_1 (fSeq b_law_divisors_right_2 (fSeq b_law_divisors_right_3 (fSeq b_law_divisors_right_4 (fSeq b_law_divisors_right_5 b_law_divisors_right_6)))))
def F_law_divisors_right : Sem1 := runF 7 1 b_law_divisors_right
abbrev s_law_residues_right : Stmt := top 23
abbrev N_law_residues_right : List Str := ["_law_dice_here", "_law_prime", "_law_one", "_law_number", "_law_told", "_law_other"]
theorem sc_law_residues_right : FnScope N_law_residues_right ["_law_dice_here"] (defScope s_law_residues_right) := ⟨rfl, rfl, rfl, by decide +kernel, rfl, by decide +kernel, by decide +kernel⟩
def b_law_residues_right_1 : Rho → Res Fl :=
  (fSet 1 (fCallD 2 F_law_pick 0 (fCons (fV (fApp pList (fCons (fVal (.tup ([2, 3, 5, 7, 11, 13, 17, 19, 23, 29, 31].map .int))) fNil))) fNil)))
def l_law_residues_right_1 : Rho → Res Fl :=
  (fSeq (fSet 5 (fCall 2 F_residue_inverse (fCons (fV (fName 1)) (fCons (fV (fName 2)) fNil))))
    (fIfS (fOr (fNot (fTB (fChain pLt pLt (fVal (.int 0)) (fName 5) (fName 1)))) (fTB (fBin pNe (fBin pMod (fApp pInt (fCons (fBin pMulA (fName 2) (fName 5)) fNil)) (fName 1)) (fVal (.int 1))))) (fRet (fVal (.bl false))) fSkip))
def b_law_residues_right_2 : Rho → Res Fl :=
  (fFor (fRng2 (fCons (fVal (.int 1)) (fCons (fName 1) fNil))) (gN 2) l_law_residues_right_1)
def b_law_residues_right_3 : Rho → Res Fl :=
  (fSet 3 (fBin pSub (fCallD 2 F_law_roll 0 (fCons (fBin pPow (fVal (.int 10)) (fVal (.int 59))) fNil)) (fBin pMulA (fCallD 2 F_law_roll 0 (fCons (fBin pPow (fVal (.int 10)) (fVal (.int 30))) fNil)) (fBin pPow (fVal (.int 10)) (fVal (.int 29))))))
def b_law_residues_right_4 : Rho → Res Fl :=
  (fSet 4 (fCall 2 F_residue_of (fCons (fV (fName 1)) (fCons (fV (fName 3)) fNil))))
def b_law_residues_right_5 : Rho → Res Fl :=
  (fRet (fAndV (fChain pLe pLt (fVal (.int 0)) (fName 4) (fName 1)) (fAndV (fBin pEq (fBin pMod (fApp pInt (fCons (fBin pSub (fName 3) (fName 4)) fNil)) (fName 1)) (fVal (.int 0))) (fBin pEq (fCall 2 F_residue_of (fCons (fV (fName 1)) (fCons (fBin pSub (fName 4) (fName 1)) fNil))) (fName 4)))))
def b_law_residues_right : Rho → Res Fl := (fSeq b_law_residues_right_1 (fSeq b_law_residues_right_2 (fSeq b_law_residues_right_3 (fSeq b_law_residues_right_4 b_law_residues_right_5))))
def F_law_residues_right : Sem1 := runF 6 1 b_law_residues_right
abbrev s_law_dice : Stmt := top 18
abbrev N_law_dice : List Str := ["_law_script", "_law_spot", "_law_cell", "_law_left"]
theorem sc_law_dice : FnScope N_law_dice ["_law_script", "_law_spot"] (defScope s_law_dice) := ⟨rfl, rfl, rfl, by decide +kernel, rfl, by decide +kernel, by decide +kernel⟩
def b_law_dice_1 : Rho → Res Fl :=
  (fSet 2 (fIfE (fTB (fBin pLt (fName 1) (fApp pLen (fCons (fName 0) fNil)))) (fApp pInt (fCons (fBin pIx (fName 0) (fName 1)) fNil)) (fBin pAdd (fBin pMulA (fVal (.int 83)) (fName 1)) (fVal (.int 29)))))
def b_law_dice_2 : Rho → Res Fl :=
  (fSet 3 (fBin pMod (fApp pMax (fCons (fVal (.int 0)) (fCons (fBin pSub (fApp pAbs (fCons (fName 2) fNil)) (fBin pPow (fVal (.int 10)) (fVal (.int 16)))) fNil))) (fBin pMulA (fBin pPow (fVal (.int 10)) (fVal (.int 60))) (fBin pPow (fVal (.int 10)) (fVal (.int 60))))))
def b_law_dice_3 : Rho → Res Fl :=
  (fRet (fLst (fCons (fV (fName 3)) (fCons (fV (fBin pAdd (fBin pAdd (fBin pAdd (fBin pMulA (fBin pMod (fApp pAbs (fCons (fName 2) fNil)) (fVal (.int 1152921504606846899))) (fVal (.int 47))) (fBin pMulA (fVal (.int 839)) (fName 1))) (fBin pMulA (fVal (.int 41)) (fApp pInt (fCons (fBin pLt (fName 2) (fVal (.int 0))) fNil)))) (fVal (.int 7)))) (fCons (fVal (.int 0)) fNil)))))
def b_law_dice : Rho → Res Fl := (fSeq b_law_dice_1 (fSeq b_law_dice_2 b_law_dice_3))
def F_law_dice : Sem1 := runF 4 2 b_law_dice
abbrev s_law : Stmt := top 26
abbrev N_law : List Str := ["_law_script", "_law_spot", "_law_told", "_law_dice_here"]
theorem sc_law : FnScope N_law ["_law_script"] (defScope s_law) := ⟨rfl, rfl, rfl, by decide +kernel, rfl, by decide +kernel, by decide +kernel⟩
def l_law_1 : Rho → Res Fl :=
  (fSeq (fSet 3 (fCall 2 F_law_dice (fCons (fV (fName 0)) (fCons (fV (fName 1)) fNil))))
    (fIfS (fOr (fNot (fTru (fCallD 1 F_law_residues_right 3 fNil))) (fOr (fNot (fTru (fCallD 1 F_law_divisors_right 3 fNil))) (fNot (fTru (fCallD 1 F_law_errors_right 3 fNil))))) (fRet (fVal (.bl false))) fSkip))
def b_law_1 : Rho → Res Fl :=
  (fFor (fRng1 (fCons (fApp pMax (fCons (fVal (.int 1)) (fCons (fApp pMin (fCons (fVal (.int 3)) (fCons (fApp pLen (fCons (fName 0) fNil)) fNil))) fNil))) fNil)) (gN 1) l_law_1)
def b_law_2 : Rho → Res Fl :=
  (fSet 2 (fLst (fCons (fV (fCall 2 F_residue_inverse (fCons (fVal (.int 7)) (fCons (fVal (.int 3)) fNil)))) (fCons (fV (fCall 2 F_residue_inverse (fCons (fVal (.int 2)) (fCons (fVal (.int 1)) fNil)))) (fCons (fV (fCall 1 F_common_divisor (fCons (fTup (fCons (fVal (.int 6)) (fCons (fVal (.int 8)) (fCons (fVal (.int 27)) fNil)))) fNil))) (fCons (fV (fCall 1 F_common_divisor (fCons (fTup (fCons (fVal (.int 12)) (fCons (fUn pNeg (fVal (.int 18))) (fCons (fVal (.int 0)) fNil)))) fNil))) fNil))))))
def b_law_3 : Rho → Res Fl :=
  (fRet (fAndV (fBin pEq (fName 2) (fLst (fCons (fVal (.int 5)) (fCons (fVal (.int 1)) (fCons (fVal (.int 1)) (fCons (fVal (.int 6)) fNil)))))) (fAndV (fBin pEq (fCall 1 F_common_divisor (fCons (fTup fNil) fNil)) (fVal (.int 0))) (fAndV (fBin pEq (fCall 2 F_residue_of (fCons (fVal (.int 5)) (fCons (fUn pNeg (fVal (.int 7))) fNil))) (fVal (.int 3))) (fBin pEq (fCall 1 F_common_divisor (fCons (fTup (fCons (fVal (.int 0)) (fCons (fVal (.int 0)) fNil))) fNil)) (fVal (.int 0)))))))
def b_law : Rho → Res Fl := (fSeq b_law_1 (fSeq b_law_2 b_law_3))
def F_law : Sem1 := runF 4 1 b_law
def fn : List He.DefD := [⟨("_law_roll", none), "_law_roll", "_law_roll", defArgs s_law_roll, defBody s_law_roll, defScope s_law_roll, [], []⟩,
  ⟨("_law_pick", none), "_law_pick", "_law_pick", defArgs s_law_pick, defBody s_law_pick, defScope s_law_pick, [], []⟩,
  ⟨("is_whole", none), "is_whole", "is_whole", defArgs s_is_whole, defBody s_is_whole, defScope s_is_whole, [], []⟩,
  ⟨("is_integer", none), "is_integer", "is_integer", defArgs s_is_integer, defBody s_is_integer, defScope s_is_integer, [], []⟩,
  ⟨("common_divisor", none), "common_divisor", "common_divisor", defArgs s_common_divisor, defBody s_common_divisor, defScope s_common_divisor, [], []⟩,
  ⟨("is_prime", none), "is_prime", "is_prime", defArgs s_is_prime, defBody s_is_prime, defScope s_is_prime, [], []⟩,
  ⟨("check_prime", none), "check_prime", "check_prime", defArgs s_check_prime, defBody s_check_prime, defScope s_check_prime, [], []⟩,
  ⟨("residue_of", none), "residue_of", "residue_of", defArgs s_residue_of, defBody s_residue_of, defScope s_residue_of, [], []⟩,
  ⟨("is_between", none), "is_between", "is_between", defArgs s_is_between, defBody s_is_between, defScope s_is_between, [], []⟩,
  ⟨("check_between", none), "check_between", "check_between", defArgs s_check_between, defBody s_check_between, defScope s_check_between, [], []⟩,
  ⟨("residue_inverse", none), "residue_inverse", "residue_inverse", defArgs s_residue_inverse, defBody s_residue_inverse, defScope s_residue_inverse, [], []⟩,
  ⟨("_law_errors_right", none), "_law_errors_right", "_law_errors_right", defArgs s_law_errors_right, defBody s_law_errors_right, defScope s_law_errors_right, [], []⟩,
  ⟨("_law_shared", none), "_law_shared", "_law_shared", defArgs s_law_shared, defBody s_law_shared, defScope s_law_shared, [], []⟩,
  ⟨("_law_divisors_right", none), "_law_divisors_right", "_law_divisors_right", defArgs s_law_divisors_right, defBody s_law_divisors_right, defScope s_law_divisors_right, [], []⟩,
  ⟨("_law_residues_right", none), "_law_residues_right", "_law_residues_right", defArgs s_law_residues_right, defBody s_law_residues_right, defScope s_law_residues_right, [], []⟩,
  ⟨("_law_dice", none), "_law_dice", "_law_dice", defArgs s_law_dice, defBody s_law_dice, defScope s_law_dice, [], []⟩,
  ⟨("InvalidCount", some "__init__"), "__init__", "InvalidCount.__init__", defArgs s_InvalidCount___init__, defBody s_InvalidCount___init__, defScope s_InvalidCount___init__, [], []⟩,
  ⟨("_law_word", none), "_law_word", "_law_word", defArgs s_law_word, defBody s_law_word, defScope s_law_word, [], []⟩,
  ⟨("law", none), "law", "law", defArgs s_law, defBody s_law, defScope s_law, [], []⟩]
def pn : List He.DefD := []
def fa : List He.Fa := [.glo "_law_roll", .glo "_law_pick", .glo "is_whole", .glo "is_integer", .glo "common_divisor", .glo "is_prime", .glo "check_prime", .glo "residue_of", .glo "is_between", .glo "check_between", .glo "residue_inverse", .glo "_law_errors_right", .glo "_law_shared", .glo "_law_divisors_right", .glo "_law_residues_right", .glo "_law_dice", .glo "InvalidCount", .glo "_law_word", .glo "law", .free "len", .free "min", .free "max", .free "range", .free "abs", .free "isinstance", .free "bool", .free "int", .free "all", .free "tuple", .free "list", .free "repr", .glo "InvalidPrime", .glo "InvalidOperation", .glo "PRIMES"]
def bx (K : PySem.W.Frag) : Bool := He.eqO (PySem.W.nsIn K mainGlobals "gcd") (some (some (.builtin "math.gcd"))) && He.tupB K "PRIMES" [.int 2, .int 3, .int 5, .int 7, .int 11, .int 13, .int 17, .int 19, .int 23, .int 29, .int 31] && excB K "InvalidPrime" && excB K "InvalidOperation" && xoB K .index "InvalidCount" "value" && tbB K tbl
section
variable [Tabl] {P : Program} {w : World} {K : PySem.W.Frag} {mg : Str → Option Value} {base h : Heap}
theorem tb_ok (X : K.In h) (G : h.Ns mainGlobals mg) (c : SaysY fa fn pn bx K) : TbOk K mg tbl := by
  have gx_InvalidPrime := He.glo_ok X G (c.1.fact 31 (f := .glo "InvalidPrime") rfl)
  have gx_InvalidOperation := He.glo_ok X G (c.1.fact 32 (f := .glo "InvalidOperation") rfl)
  have gx_InvalidCount := He.glo_ok X G (c.1.fact 16 (f := .glo "InvalidCount") rfl)
  refine ⟨(He.ba c.2.1).2, fun e he => ?_⟩
  simp only [tbl, List.mem_cons, List.not_mem_nil, or_false] at he
  rcases he with rfl | rfl | rfl | rfl | rfl | rfl | rfl | rfl | rfl
  all_goals first | exact gx_InvalidPrime | exact gx_InvalidOperation | exact gx_InvalidCount
theorem xk_ok (c : SaysY fa fn pn bx K) : XtOk K xtb := by
  refine ⟨fun e he => ?_⟩
  simp only [xtb, List.mem_cons, List.not_mem_nil, or_false] at he
  rcases he with rfl
  · exact ⟨(xoB_ok (b := .index) (He.ba (He.ba c.2.1).1).2).xf, (xoB_ok (b := .index) (He.ba (He.ba c.2.1).1).2).no⟩
theorem ok_xo_InvalidCount (X : K.In h) (G : h.Ns mainGlobals mg) (c : SaysY fa fn pn bx K) : XoF P w K mg base .index "InvalidCount" "value" 1 := by
  have T := xoB_ok (b := .index) (He.ba (He.ba c.2.1).1).2
  obtain ⟨fd, F⟩ := c.1.def_ 16 (d := ⟨("InvalidCount", some "__init__"), "__init__", "InvalidCount.__init__", defArgs s_InvalidCount___init__, defBody s_InvalidCount___init__, defScope s_InvalidCount___init__, [], []⟩) rfl
  exact ⟨T, ⟨fd, _, fn_xo T F sc_InvalidCount___init__ (Or.inl rfl) (Or.inl rfl), FunD.bindsN F fun _ _ _ _ _ _ us hl => match us, hl with | [_, _], _ => rfl⟩, He.glo_ok X G (c.1.fact 16 (f := .glo "InvalidCount") rfl)⟩
theorem ok_law_word (X : K.In h) (G : h.Ns mainGlobals mg) (c : SaysY fa fn pn bx K) : WrdX P w K mg base "_law_word" l_law_word (.str "none") := by
  have gx_InvalidPrime := He.glo_ok X G (c.1.fact 31 (f := .glo "InvalidPrime") rfl)
  have gx_InvalidCount := He.glo_ok X G (c.1.fact 16 (f := .glo "InvalidCount") rfl)
  have gx_InvalidOperation := He.glo_ok X G (c.1.fact 32 (f := .glo "InvalidOperation") rfl)
  have m_repr := He.free_ok X G (c.1.fact 30 (f := .free "repr") rfl)
  exact mk_wrdX (u := (true, false)) (N := N_law_word) X G c.1 17 17 rfl rfl sc_law_word (fun F => FunD.bindsN F fun _ _ _ _ _ _ us hl => match us, hl with | [_], _ => rfl) (fun Y hK hM hN hS => (.pl (show (_ : Option _) = _ by show Y.env.scope.names.lookup _ = _; rw [hS]; rfl) (by decide) (by rw [hM, hK]; exact gx_InvalidPrime) (.one .cs) (.nm (by rw [hN]; exact sc_law_word.nd) (i := 1) (by rw [hN]; rfl) (show (_ : Option _) = _ by show Y.env.scope.names.lookup _ = _; rw [hS]; rfl) (by decide) (by decide) (show (_ : Option _) = _ by show Y.env.scope.names.lookup _ = _; rw [hS]; rfl) (by decide) (by rw [hM, hK]; exact gx_InvalidCount) (.one (.ad (.rp rfl rfl))) (.pl (show (_ : Option _) = _ by show Y.env.scope.names.lookup _ = _; rw [hS]; rfl) (by decide) (by rw [hM, hK]; exact gx_InvalidOperation) (.one .cs) .nil)))) (fun h => ⟨rfl, m_repr⟩) (fun h => (by cases h)) (fun _ => pe_str)
theorem ok_law_roll (X : K.In h) (G : h.Ns mainGlobals mg) (c : SaysY fa fn pn bx K) (te : TabE K base mg ms) : Cal P w K mg base "_law_roll" 2 F_law_roll 1 := by
  have m_int := He.free_ok X G (c.1.fact 26 (f := .free "int") rfl)
  exact mk_cal (N := N_law_roll) (ps := ["_law_dice_here", "_law_total"]) (k := 0) (body := b_law_roll) X G c.1 0 0 rfl rfl sc_law_roll (fun F => FunD.bindsN F fun _ _ _ _ _ _ us hl => match us, hl with | [_, _], _ => rfl) (fun f cdv A outer s H E hr tk hp =>
    (sss_cons (ss_if (st_cmp op_gt p_gt (se_ix (se_name 0) se_int) se_int (nomark _)) (sss_cons (ss_set (i := 4) sc_law_roll.nd rfl (Or.inl rfl) (se_bin op_mod p_mod (se_callTy call_int1 p_int rfl m_int (by decide +kernel) (sa_cons (se_ix (se_name 0) se_int) sa_nil)) (se_name 1)))
    (sss_cons (ss_store (i := 0) rfl (by first | exact Or.inl rfl | exact Or.inr (Or.inl rfl)) (by decide) (by decide) se_int (se_bin op_fdivW p_div (se_ix (se_name 0) se_int) (se_name 1)))
    (sss_one (ss_ret (se_name 4))))) sss_nil)
    (sss_cons (ss_store (i := 0) rfl (by first | exact Or.inl rfl | exact Or.inr (Or.inl rfl)) (by decide) (by decide) se_int (se_bin or_addA p_add (se_ix (se_name 0) se_int) se_int))
    (sss_cons (ss_set (i := 2) sc_law_roll.nd rfl (Or.inl rfl) (se_bin op_mod p_mod (se_callTy call_int1 p_int rfl m_int (by decide +kernel) (sa_cons (se_bin or_addA p_add (se_ix (se_name 0) se_int) (se_bin or_mulB p_mul se_int (se_ix (se_name 0) se_int))) sa_nil)) se_int))
    (sss_cons (ss_set (i := 3) sc_law_roll.nd rfl (Or.inl rfl) (se_bin or_addA p_add (se_bin or_mulB p_mul (se_bin op_mod p_mod (se_callTy call_int1 p_int rfl m_int (by decide +kernel) (sa_cons (se_bin or_addA p_add (se_bin or_mulB p_mul (se_name 2) (se_name 2)) (se_bin or_mulB p_mul se_int (se_ix (se_name 0) se_int))) sa_nil)) se_int) se_int) (se_name 2)))
    (sss_one (ss_ret (se_bin op_mod p_mod (se_callTy call_int1 p_int rfl m_int (by decide +kernel) (sa_cons (se_bin op_fdivW p_div (se_name 3) se_int) sa_nil)) (se_name 1)))))))))
theorem ok_law_pick (X : K.In h) (G : h.Ns mainGlobals mg) (c : SaysY fa fn pn bx K) (te : TabE K base mg ms) : Cal P w K mg base "_law_pick" 2 F_law_pick 2 := by
  have c_law_roll := ok_law_roll (P := P) (w := w) (base := base) X G c te
  have m_len := He.free_ok X G (c.1.fact 19 (f := .free "len") rfl)
  exact mk_cal (N := N_law_pick) (ps := ["_law_dice_here", "_law_items"]) (k := 1) (body := b_law_pick) X G c.1 1 1 rfl rfl sc_law_pick (fun F => FunD.bindsN F fun _ _ _ _ _ _ us hl => match us, hl with | [_, _], _ => rfl) (fun f cdv A outer s H E hr tk hp =>
    (sss_one (ss_ret (se_ix (se_name 1) (se_callCD tk c_law_roll hr 0 (sa_cons (se_v (se_callB cr_len p_len rfl m_len PySem.boot_len (sa_cons (se_name 1) sa_nil))) sa_nil))))))
theorem ok_is_whole (X : K.In h) (G : h.Ns mainGlobals mg) (c : SaysY fa fn pn bx K) (te : TabE K base mg ms) : Cal P w K mg base "is_whole" 1 F_is_whole 1 := by
  have m_isinstance := He.free_ok X G (c.1.fact 24 (f := .free "isinstance") rfl)
  have m_bool := He.free_ok X G (c.1.fact 25 (f := .free "bool") rfl)
  have m_int := He.free_ok X G (c.1.fact 26 (f := .free "int") rfl)
  exact mk_cal (N := N_is_whole) (ps := ["value"]) (k := 0) (body := b_is_whole) X G c.1 2 2 rfl rfl sc_is_whole (fun F => FunD.bindsN F fun _ _ _ _ _ _ us hl => match us, hl with | [_], _ => rfl) (fun f cdv A outer s H E hr tk hp =>
    (sss_one (ss_ret (se_and (se_isi .int (se_name 0) rfl m_isinstance (by decide +kernel) rfl m_int (by decide +kernel)) (se_one (se_not (se_isi .bool (se_name 0) rfl m_isinstance (by decide +kernel) rfl m_bool (by decide +kernel))))))))
theorem ok_is_integer (X : K.In h) (G : h.Ns mainGlobals mg) (c : SaysY fa fn pn bx K) (te : TabE K base mg ms) : Cal P w K mg base "is_integer" 1 F_is_integer 2 := by
  have c_is_whole := ok_is_whole (P := P) (w := w) (base := base) X G c te
  have m_abs := He.free_ok X G (c.1.fact 23 (f := .free "abs") rfl)
  exact mk_cal (N := N_is_integer) (ps := ["value"]) (k := 1) (body := b_is_integer) X G c.1 3 3 rfl rfl sc_is_integer (fun F => FunD.bindsN F fun _ _ _ _ _ _ us hl => match us, hl with | [_], _ => rfl) (fun f cdv A outer s H E hr tk hp =>
    (sss_one (ss_ret (se_and (se_callC tk c_is_whole hr (sa_cons (se_v (se_name 0)) sa_nil)) (se_one (se_cmp op_lt p_lt (se_callB call_abs p_abs rfl m_abs (by decide +kernel) (sa_cons (se_name 0) sa_nil)) (se_bin op_pow p_pow se_int se_int) (nomark _)))))))
theorem ok_common_divisor (X : K.In h) (G : h.Ns mainGlobals mg) (c : SaysY fa fn pn bx K) (te : TabE K base mg ms) : Cal P w K mg base "common_divisor" 1 F_common_divisor 3 := by
  have c_is_integer := ok_is_integer (P := P) (w := w) (base := base) X G c te
  have m_isinstance := He.free_ok X G (c.1.fact 24 (f := .free "isinstance") rfl)
  have m_all := He.free_ok X G (c.1.fact 27 (f := .free "all") rfl)
  have m_tuple := He.free_ok X G (c.1.fact 28 (f := .free "tuple") rfl)
  have mg_gcd := PySem.W.mg_of X G (He.eqO_ok ((He.ba (He.ba (He.ba (He.ba (He.ba c.2.1).1).1).1).1).1))
  have ex_InvalidOperation : excB K "InvalidOperation" = true := (He.ba (He.ba (He.ba c.2.1).1).1).2
  have gx_InvalidOperation := He.glo_ok X G (c.1.fact 32 (f := .glo "InvalidOperation") rfl)
  exact mk_cal (N := N_common_divisor) (ps := ["numbers"]) (k := 2) (body := b_common_divisor) X G c.1 4 4 rfl rfl sc_common_divisor (fun F => FunD.bindsN F fun _ _ _ _ _ _ us hl => match us, hl with | [_], _ => rfl) (fun f cdv A outer s H E hr tk hp =>
    (sss_cons (ss_if (st_w (sw_or (st_not (st_tru (se_isi .tuple (se_name 0) rfl m_isinstance (by decide +kernel) rfl m_tuple (by decide +kernel)))) (sw_or1 (st_not (st_tru (se_callB (cr_all rfl) p_all rfl m_all (by decide +kernel) (sa_cons (se_lc (own := [("number", 2)]) rfl sc_common_divisor.nd (si_seq (se_name 0)) (blkOk_by (N := N_common_divisor) (sc := defScope s_common_divisor) (by first | decide +kernel | exact Eq.refl true)) (fun _ _ _ _ _ => (sg_name (i := 2) sc_common_divisor.nd rfl (by first | exact Or.inl rfl | exact Or.inr rfl))) (fun _ _ _ _ _ => spt_nil) (fun _ _ _ _ _ => (se_callC takes0 c_is_integer hr (sa_cons (se_v (se_name 2)) sa_nil)))) sa_nil))))))) (sss_one (ss_raise tk ex_InvalidOperation gx_InvalidOperation)) sss_nil)
    (sss_cons (ss_set (i := 1) sc_common_divisor.nd rfl (Or.inl rfl) se_int)
    (sss_cons (ss_for (vs := [2]) hp rfl (si_seq (se_name 0)) (sg_name (i := 2) sc_common_divisor.nd rfl (by first | exact Or.inl rfl | exact Or.inr rfl)) (sss_one (ss_set (i := 1) sc_common_divisor.nd rfl (Or.inl rfl) (se_gcd mg_gcd rfl (sa_cons (se_v (se_name 1)) (sa_cons (se_v (se_name 2)) sa_nil))))))
    (sss_one (ss_ret (se_name 1)))))))
theorem ok_is_prime (X : K.In h) (G : h.Ns mainGlobals mg) (c : SaysY fa fn pn bx K) (te : TabE K base mg ms) : Cal P w K mg base "is_prime" 1 F_is_prime 3 := by
  have c_is_integer := ok_is_integer (P := P) (w := w) (base := base) X G c te
  have g_PRIMES : mg "PRIMES" = some (.ref (He.ga K "PRIMES")) ∧ ∀ H, SqT K H (He.ga K "PRIMES") ([2, 3, 5, 7, 11, 13, 17, 19, 23, 29, 31].map V.int) := ⟨He.glo_ok X G (c.1.fact 33 (f := .glo "PRIMES") rfl), fun H => He.tupB_ok (vs := [.int 2, .int 3, .int 5, .int 7, .int 11, .int 13, .int 17, .int 19, .int 23, .int 29, .int 31]) ((He.ba (He.ba (He.ba (He.ba (He.ba c.2.1).1).1).1).1).2) H⟩
  exact mk_cal (N := N_is_prime) (ps := ["value"]) (k := 2) (body := b_is_prime) X G c.1 5 5 rfl rfl sc_is_prime (fun F => FunD.bindsN F fun _ _ _ _ _ _ us hl => match us, hl with | [_], _ => rfl) (fun f cdv A outer s H E hr tk hp =>
    (sss_one (ss_ret (se_and (se_callC tk c_is_integer hr (sa_cons (se_v (se_name 0)) sa_nil)) (se_one (se_cmp (or_inA (hu65 hr)) p_in (se_name 0) (se_globN g_PRIMES.1 g_PRIMES.2) (by rfl)))))))
theorem ok_check_prime (X : K.In h) (G : h.Ns mainGlobals mg) (c : SaysY fa fn pn bx K) (te : TabE K base mg ms) : Cal P w K mg base "check_prime" 1 F_check_prime 4 := by
  have c_is_prime := ok_is_prime (P := P) (w := w) (base := base) X G c te
  have ex_InvalidPrime : excB K "InvalidPrime" = true := (He.ba (He.ba (He.ba (He.ba c.2.1).1).1).1).2
  have gx_InvalidPrime := He.glo_ok X G (c.1.fact 31 (f := .glo "InvalidPrime") rfl)
  exact mk_cal (N := N_check_prime) (ps := ["prime"]) (k := 3) (body := b_check_prime) X G c.1 6 6 rfl rfl sc_check_prime (fun F => FunD.bindsN F fun _ _ _ _ _ _ us hl => match us, hl with | [_], _ => rfl) (fun f cdv A outer s H E hr tk hp =>
    (sss_one (ss_if (st_not (st_tru (se_callC tk c_is_prime hr (sa_cons (se_v (se_name 0)) sa_nil)))) (sss_one (ss_raise tk ex_InvalidPrime gx_InvalidPrime)) sss_nil)))
theorem ok_residue_of (X : K.In h) (G : h.Ns mainGlobals mg) (c : SaysY fa fn pn bx K) (te : TabE K base mg ms) : Cal P w K mg base "residue_of" 2 F_residue_of 5 := by
  have c_check_prime := ok_check_prime (P := P) (w := w) (base := base) X G c te
  have c_is_integer := ok_is_integer (P := P) (w := w) (base := base) X G c te
  have xo_InvalidCount := ok_xo_InvalidCount (P := P) (w := w) (base := base) X G c
  exact mk_cal (N := N_residue_of) (ps := ["prime", "number"]) (k := 4) (body := b_residue_of) X G c.1 7 7 rfl rfl sc_residue_of (fun F => FunD.bindsN F fun _ _ _ _ _ _ us hl => match us, hl with | [_, _], _ => rfl) (fun f cdv A outer s H E hr tk hp =>
    (sss_cons (ss_expr (se_callC tk c_check_prime hr (sa_cons (se_v (se_name 0)) sa_nil)))
    (sss_cons (ss_if (st_not (st_tru (se_callC tk c_is_integer hr (sa_cons (se_v (se_name 1)) sa_nil)))) (sss_one (ss_raiseV tk xo_InvalidCount hr (se_name 1))) sss_nil)
    (sss_one (ss_ret (se_bin op_mod p_mod (se_name 1) (se_name 0)))))))
theorem ok_is_between (X : K.In h) (G : h.Ns mainGlobals mg) (c : SaysY fa fn pn bx K) (te : TabE K base mg ms) : Cal P w K mg base "is_between" 3 F_is_between 3 := by
  have c_is_integer := ok_is_integer (P := P) (w := w) (base := base) X G c te
  exact mk_cal (N := N_is_between) (ps := ["value", "least", "most"]) (k := 2) (body := b_is_between) X G c.1 8 8 rfl rfl sc_is_between (fun F => FunD.bindsN F fun _ _ _ _ _ _ us hl => match us, hl with | [_, _, _], _ => rfl) (fun f cdv A outer s H E hr tk hp =>
    (sss_one (ss_ret (se_and (se_callC tk c_is_integer hr (sa_cons (se_v (se_name 0)) sa_nil)) (se_one (se_chain op_le op_le p_le p_le (se_name 1) (se_name 0) (se_name 2)))))))
theorem ok_check_between (X : K.In h) (G : h.Ns mainGlobals mg) (c : SaysY fa fn pn bx K) (te : TabE K base mg ms) : Cal P w K mg base "check_between" 3 F_check_between 4 := by
  have c_is_between := ok_is_between (P := P) (w := w) (base := base) X G c te
  have xo_InvalidCount := ok_xo_InvalidCount (P := P) (w := w) (base := base) X G c
  exact mk_cal (N := N_check_between) (ps := ["value", "least", "most"]) (k := 3) (body := b_check_between) X G c.1 9 9 rfl rfl sc_check_between (fun F => FunD.bindsN F fun _ _ _ _ _ _ us hl => match us, hl with | [_, _, _], _ => rfl) (fun f cdv A outer s H E hr tk hp =>
    (sss_one (ss_if (st_not (st_tru (se_callC tk c_is_between hr (sa_cons (se_v (se_name 0)) (sa_cons (se_v (se_name 1)) (sa_cons (se_v (se_name 2)) sa_nil)))))) (sss_one (ss_raiseV tk xo_InvalidCount hr (se_name 0))) sss_nil)))
theorem ok_residue_inverse (X : K.In h) (G : h.Ns mainGlobals mg) (c : SaysY fa fn pn bx K) (te : TabE K base mg ms) : Cal P w K mg base "residue_inverse" 2 F_residue_inverse 5 := by
  have c_check_prime := ok_check_prime (P := P) (w := w) (base := base) X G c te
  have c_check_between := ok_check_between (P := P) (w := w) (base := base) X G c te
  exact mk_cal (N := N_residue_inverse) (ps := ["prime", "number"]) (k := 4) (body := b_residue_inverse) X G c.1 10 10 rfl rfl sc_residue_inverse (fun F => FunD.bindsN F fun _ _ _ _ _ _ us hl => match us, hl with | [_, _], _ => rfl) (fun f cdv A outer s H E hr tk hp =>
    (sss_cons (ss_expr (se_callC tk c_check_prime hr (sa_cons (se_v (se_name 0)) sa_nil)))
    (sss_cons (ss_expr (se_callC tk c_check_between hr (sa_cons (se_v (se_name 1)) (sa_cons se_int (sa_cons (se_bin op_sub p_sub (se_name 0) se_int) sa_nil)))))
    (sss_cons (ss_set (i := 2) sc_residue_inverse.nd rfl (Or.inl rfl) se_int)
    (sss_cons (ss_while hp (st_cmp (op_neD (hu64 hr)) p_ne (se_bin op_mod p_mod (se_bin or_mulB p_mul (se_name 1) (se_name 2)) (se_name 0)) se_int (nomark _)) (sss_one (ss_set (i := 2) sc_residue_inverse.nd rfl (Or.inl rfl) (se_bin or_addA p_add (se_name 2) se_int))))
    (sss_one (ss_ret (se_name 2))))))))
theorem ok_law_errors_right (X : K.In h) (G : h.Ns mainGlobals mg) (c : SaysY fa fn pn bx K) (te : TabE K base mg ms) : CalG P w K mg base "_law_errors_right" 1 F_law_errors_right 8 := by
  have c_law_pick := ok_law_pick (P := P) (w := w) (base := base) X G c te
  have c_common_divisor := ok_common_divisor (P := P) (w := w) (base := base) X G c te
  have c_residue_of := ok_residue_of (P := P) (w := w) (base := base) X G c te
  have c_residue_inverse := ok_residue_inverse (P := P) (w := w) (base := base) X G c te
  have m_list := He.free_ok X G (c.1.fact 29 (f := .free "list") rfl)
  have m_repr := He.free_ok X G (c.1.fact 30 (f := .free "repr") rfl)
  have tb := tb_ok X G c
  have xk := xk_ok c
  have w_law_word := ok_law_word (P := P) (w := w) (base := base) X G c
  have g_PRIMES : mg "PRIMES" = some (.ref (He.ga K "PRIMES")) ∧ ∀ H, SqT K H (He.ga K "PRIMES") ([2, 3, 5, 7, 11, 13, 17, 19, 23, 29, 31].map V.int) := ⟨He.glo_ok X G (c.1.fact 33 (f := .glo "PRIMES") rfl), fun H => He.tupB_ok (vs := [.int 2, .int 3, .int 5, .int 7, .int 11, .int 13, .int 17, .int 19, .int 23, .int 29, .int 31]) ((He.ba (He.ba (He.ba (He.ba (He.ba c.2.1).1).1).1).1).2) H⟩
  exact mk_calGT (N := N_law_errors_right) (ps := ["_law_dice_here"]) (k := 7) (body := b_law_errors_right) te List.mem_cons_self X G c.1 11 11 rfl rfl sc_law_errors_right (fun F => FunD.bindsN F fun _ _ _ _ _ _ us hl => match us, hl with | [_], _ => rfl) (fun f cdv A outer s H E le hr tk hp =>
    (sss_cons (ss_asg (vs := [5, 6]) (se_tup (sa_cons (se_v (se_callCD tk c_law_pick hr.r 0 (sa_cons (se_v (se_lst (sa_cons se_non (sa_cons se_int (sa_cons se_int (sa_cons se_int (sa_cons se_int (sa_cons (se_un un_neg p_neg se_int) (sa_cons se_bl (sa_cons se_str (sa_cons (se_tup (sa_cons se_int sa_nil)) (sa_cons (se_v (se_lst sa_nil)) sa_nil)))))))))))) sa_nil))) (sa_cons (se_v (se_callCD tk c_law_pick hr.r 0 (sa_cons (se_v (se_callTy call_list_of p_list rfl m_list (by decide +kernel) (sa_cons (se_globN g_PRIMES.1 g_PRIMES.2) sa_nil))) sa_nil))) sa_nil))) (sg_tup rfl (sgs_cons (sg_name (i := 5) sc_law_errors_right.nd rfl (by first | exact Or.inl rfl | exact Or.inr rfl)) (sgs_cons (sg_name (i := 6) sc_law_errors_right.nd rfl (by first | exact Or.inl rfl | exact Or.inr rfl)) sgs_nil))))
    (sss_cons (ss_set (i := 1) sc_law_errors_right.nd rfl (Or.inr rfl) (se_callCD tk c_law_pick hr.r 0 (sa_cons (se_v (se_lst (sa_cons se_non (sa_cons (se_un un_neg p_neg se_int) (sa_cons (se_v (se_name 6)) (sa_cons se_int (sa_cons (se_bin op_pow p_pow se_int se_int) (sa_cons se_bl (sa_cons se_str (sa_cons (se_tup (sa_cons se_int sa_nil)) (sa_cons (se_v se_dct0) sa_nil))))))))))) sa_nil)))
    (sss_cons (ss_set (i := 2) sc_law_errors_right.nd rfl (Or.inr rfl) (se_callCD tk c_law_pick hr.r 0 (sa_cons (se_v (se_lst (sa_cons se_non (sa_cons se_bl (sa_cons se_str (sa_cons (se_tup (sa_cons se_int sa_nil)) (sa_cons (se_bin op_pow p_pow se_int se_int) (sa_cons (se_un un_neg p_neg (se_bin op_pow p_pow se_int se_int)) (sa_cons (se_v se_dct0) (sa_cons (se_v (se_lst sa_nil)) sa_nil)))))))))) sa_nil)))
    (sss_cons (ss_set (i := 3) sc_law_errors_right.nd rfl (Or.inr rfl) (se_callCD tk c_law_pick hr.r 0 (sa_cons (se_v (se_lst (sa_cons se_non (sa_cons se_int (sa_cons (se_v (se_lst (sa_cons se_int (sa_cons se_int sa_nil)))) (sa_cons (se_tup (sa_cons se_int (sa_cons se_non sa_nil))) (sa_cons (se_tup (sa_cons se_int (sa_cons se_bl sa_nil))) (sa_cons (se_tup (sa_cons se_str sa_nil)) (sa_cons (se_tup (sa_cons (se_bin op_pow p_pow se_int se_int) (sa_cons se_int sa_nil))) (sa_cons (se_v se_dct1) (sa_cons se_str (sa_cons (se_tup (sa_cons (se_tup (sa_cons se_int (sa_cons se_int sa_nil))) sa_nil)) sa_nil)))))))))))) sa_nil)))
    (sss_cons (ss_set (i := 4) sc_law_errors_right.nd rfl (Or.inl rfl) (se_lst (sa_cons (se_v (se_lamX (k := 5) le w_law_word tb xk hr (fun _ _ _ _ _ _ _ hL => (se_callC (takes_of rfl rfl rfl rfl) c_residue_inverse hL (sa_cons (se_v (se_name 5)) (sa_cons (se_v (se_name 1)) sa_nil)))) (show LamX.LamS (defScope s_law_errors_right) _ from LamX.lamS_by (by decide +kernel)))) (sa_cons (se_v (se_lamX (k := 5) le w_law_word tb xk hr (fun _ _ _ _ _ _ _ hL => (se_callC (takes_of rfl rfl rfl rfl) c_residue_inverse hL (sa_cons (se_v (se_name 6)) (sa_cons (se_v (se_name 1)) sa_nil)))) (show LamX.LamS (defScope s_law_errors_right) _ from LamX.lamS_by (by decide +kernel)))) (sa_cons (se_v (se_lamX (k := 5) le w_law_word tb xk hr (fun _ _ _ _ _ _ _ hL => (se_callC (takes_of rfl rfl rfl rfl) c_residue_of hL (sa_cons (se_v (se_name 5)) (sa_cons (se_v (se_name 2)) sa_nil)))) (show LamX.LamS (defScope s_law_errors_right) _ from LamX.lamS_by (by decide +kernel)))) (sa_cons (se_v (se_lamX (k := 5) le w_law_word tb xk hr (fun _ _ _ _ _ _ _ hL => (se_callC (takes_of rfl rfl rfl rfl) c_residue_of hL (sa_cons (se_v (se_name 6)) (sa_cons (se_v (se_name 2)) sa_nil)))) (show LamX.LamS (defScope s_law_errors_right) _ from LamX.lamS_by (by decide +kernel)))) (sa_cons (se_v (se_lamX (k := 3) le w_law_word tb xk hr (fun _ _ _ _ _ _ _ hL => (se_callC (takes_of rfl rfl rfl rfl) c_common_divisor hL (sa_cons (se_v (se_name 3)) sa_nil))) (show LamX.LamS (defScope s_law_errors_right) _ from LamX.lamS_by (by decide +kernel)))) (sa_cons (se_v (se_lamX (k := 3) le w_law_word tb xk hr (fun _ _ _ _ _ _ _ hL => (se_callC (takes_of rfl rfl rfl rfl) c_common_divisor hL (sa_cons (se_tup (sa_cons (se_bin op_sub p_sub (se_bin op_pow p_pow se_int se_int) se_int) (sa_cons se_int sa_nil))) sa_nil))) (show LamX.LamS (defScope s_law_errors_right) _ from LamX.lamS_by (by decide +kernel)))) sa_nil))))))))
    (sss_one (ss_ret (se_cmp (op_eqD (hu64 hr.r)) p_eq (se_name 4) (se_lst (sa_cons se_str (sa_cons (se_v (se_bin or_addA p_add se_str (se_callB (cr_reprD hr.gd (un200 hr)) p_reprD rfl m_repr (by decide +kernel) (sa_cons (se_name 1) sa_nil)))) (sa_cons se_str (sa_cons (se_v (se_bin or_addA p_add se_str (se_callB (cr_reprD hr.gd (un200 hr)) p_reprD rfl m_repr (by decide +kernel) (sa_cons (se_name 2) sa_nil)))) (sa_cons se_str (sa_cons se_str sa_nil))))))) (nomark _))))))))))
theorem ok_law_shared (X : K.In h) (G : h.Ns mainGlobals mg) (c : SaysY fa fn pn bx K) (te : TabE K base mg ms) : Cal P w K mg base "_law_shared" 2 F_law_shared 1 := by
  have m_range := He.free_ok X G (c.1.fact 22 (f := .free "range") rfl)
  have m_int := He.free_ok X G (c.1.fact 26 (f := .free "int") rfl)
  exact mk_cal (N := N_law_shared) (ps := ["_law_one", "_law_other"]) (k := 0) (body := b_law_shared) X G c.1 12 12 rfl rfl sc_law_shared (fun F => FunD.bindsN F fun _ _ _ _ _ _ us hl => match us, hl with | [_, _], _ => rfl) (fun f cdv A outer s H E hr tk hp =>
    (sss_cons (ss_for (vs := [2]) hp rfl (si_rng1 rfl m_range (sa_cons se_int sa_nil)) (sg_name (i := 2) sc_law_shared.nd rfl (by first | exact Or.inl rfl | exact Or.inr rfl)) (sss_cons (ss_if (st_cmp (op_eqD (hu64 hr)) p_eq (se_name 1) se_int (nomark _)) (sss_one ss_break) sss_nil)
    (sss_one (ss_par (i := 0) (j := 1) rfl sc_law_shared.nd rfl rfl (by decide) rfl rfl (sa_cons (se_v (se_name 1)) (sa_cons (se_bin op_mod p_mod (se_callTy call_int1 p_int rfl m_int (by decide +kernel) (sa_cons (se_name 0) sa_nil)) (se_name 1)) sa_nil))))))
    (sss_one (ss_ret (se_name 0)))))
theorem ok_law_divisors_right (X : K.In h) (G : h.Ns mainGlobals mg) (c : SaysY fa fn pn bx K) (te : TabE K base mg ms) : Cal P w K mg base "_law_divisors_right" 1 F_law_divisors_right 4 := by
  have c_law_roll := ok_law_roll (P := P) (w := w) (base := base) X G c te
  have c_law_pick := ok_law_pick (P := P) (w := w) (base := base) X G c te
  have c_law_shared := ok_law_shared (P := P) (w := w) (base := base) X G c te
  have c_common_divisor := ok_common_divisor (P := P) (w := w) (base := base) X G c te
  have m_range := He.free_ok X G (c.1.fact 22 (f := .free "range") rfl)
  have m_int := He.free_ok X G (c.1.fact 26 (f := .free "int") rfl)
  have m_tuple := He.free_ok X G (c.1.fact 28 (f := .free "tuple") rfl)
  exact mk_cal (N := N_law_divisors_right) (ps := ["_law_dice_here"]) (k := 3) (body := b_law_divisors_right) X G c.1 13 13 rfl rfl sc_law_divisors_right (fun F => FunD.bindsN F fun _ _ _ _ _ _ us hl => match us, hl with | [_], _ => rfl) (fun f cdv A outer s H E hr tk hp =>
    (sss_cons (ss_set (i := 1) sc_law_divisors_right.nd rfl (Or.inl rfl) (se_bin or_addA p_add se_int (se_callCD tk c_law_roll hr 0 (sa_cons (se_v (se_callCD tk c_law_pick hr 0 (sa_cons (se_v (se_lst (sa_cons se_int (sa_cons se_int (sa_cons (se_bin op_pow p_pow se_int se_int) (sa_cons (se_bin op_pow p_pow se_int se_int) sa_nil)))))) sa_nil))) sa_nil))))
    (sss_cons (ss_par (i := 4) (j := 5) rfl sc_law_divisors_right.nd rfl rfl (by decide) rfl rfl (sa_cons (se_lst sa_nil) (sa_cons se_int sa_nil)))
    (sss_cons (ss_for (vs := [2]) hp rfl (si_rng1 rfl m_range (sa_cons (se_callCD tk c_law_roll hr 0 (sa_cons se_int sa_nil)) sa_nil)) (sg_name (i := 2) sc_law_divisors_right.nd rfl (by first | exact Or.inl rfl | exact Or.inr rfl)) (sss_cons (ss_set (i := 6) sc_law_divisors_right.nd rfl (Or.inl rfl) (se_bin or_mulB p_mul (se_name 1) (se_callCD tk c_law_pick hr 0 (sa_cons (se_v (se_lst (sa_cons se_int (sa_cons se_int (sa_cons (se_v (se_callCD tk c_law_roll hr 0 (sa_cons se_int sa_nil))) (sa_cons (se_v (se_callCD tk c_law_roll hr 0 (sa_cons (se_bin op_pow p_pow se_int se_int) sa_nil))) sa_nil)))))) sa_nil))))
    (sss_cons (ss_expr (se_app 4 (se_if (st_cmp (op_eqD (hu64 hr)) p_eq (se_callCD tk c_law_roll hr 0 (sa_cons se_int sa_nil)) se_int (nomark _)) (se_name 6) (se_un un_neg p_neg (se_name 6)))))
    (sss_one (ss_set (i := 5) sc_law_divisors_right.nd rfl (Or.inl rfl) (se_callC tk c_law_shared hr (sa_cons (se_v (se_name 6)) (sa_cons (se_v (se_name 5)) sa_nil))))))))
    (sss_cons (ss_set (i := 3) sc_law_divisors_right.nd rfl (Or.inr rfl) (se_callC tk c_common_divisor hr (sa_cons (se_v (se_callTy call_tuple_of p_tuple rfl m_tuple (by decide +kernel) (sa_cons (se_name 4) sa_nil))) sa_nil)))
    (sss_cons (ss_if (st_w (sw_or (st_cmp (op_neD (hu64 hr)) p_ne (se_name 3) (se_name 5) (nomark _)) (sw_or (st_cmp (op_neD (hu64 hr)) p_ne (se_callC tk c_common_divisor hr (sa_cons (se_v (se_callTy call_tuple_of p_tuple rfl m_tuple (by decide +kernel) (sa_cons (se_revA (se_name 4)) sa_nil))) sa_nil)) (se_name 3) (nomark _)) (sw_or1 (st_cmp (op_neD (hu64 hr)) p_ne (se_callC tk c_common_divisor hr (sa_cons (se_v (se_bin or_addA p_add (se_callTy call_tuple_of p_tuple rfl m_tuple (by decide +kernel) (sa_cons (se_name 4) sa_nil)) (se_tup (sa_cons se_int sa_nil)))) sa_nil)) (se_name 3) (nomark _)))))) (sss_one (ss_ret se_bl)) sss_nil)
    (sss_one (ss_ret (se_cmp (op_eqD (hu64 hr)) p_eq (se_lc (own := [("_law_one", 6)]) rfl sc_law_divisors_right.nd (si_seq (se_name 4)) (blkOk_by (N := N_law_divisors_right) (sc := defScope s_law_divisors_right) (by first | decide +kernel | exact Eq.refl true)) (fun _ _ _ _ _ => (sg_name (i := 6) sc_law_divisors_right.nd rfl (by first | exact Or.inl rfl | exact Or.inr rfl))) (fun _ _ _ _ _ => (spt_one (st_w (sw_or (st_w (sw_and (st_cmp (op_eqD (hu64 hr)) p_eq (se_name 3) se_int (nomark _)) (sw_and1 (st_cmp (op_neD (hu64 hr)) p_ne (se_name 6) se_int (nomark _))))) (sw_or1 (st_w (sw_and (st_cmp op_gt p_gt (se_name 3) se_int (nomark _)) (sw_and1 (st_cmp (op_neD (hu64 hr)) p_ne (se_bin op_mod p_mod (se_callTy call_int1 p_int rfl m_int (by decide +kernel) (sa_cons (se_name 6) sa_nil)) (se_name 3)) se_int (nomark _)))))))))) (fun _ _ _ _ _ => (se_name 6))) (se_lst sa_nil) (nomark _))))))))))
theorem ok_law_residues_right (X : K.In h) (G : h.Ns mainGlobals mg) (c : SaysY fa fn pn bx K) (te : TabE K base mg ms) : Cal P w K mg base "_law_residues_right" 1 F_law_residues_right 6 := by
  have c_law_pick := ok_law_pick (P := P) (w := w) (base := base) X G c te
  have c_residue_inverse := ok_residue_inverse (P := P) (w := w) (base := base) X G c te
  have c_law_roll := ok_law_roll (P := P) (w := w) (base := base) X G c te
  have c_residue_of := ok_residue_of (P := P) (w := w) (base := base) X G c te
  have m_range := He.free_ok X G (c.1.fact 22 (f := .free "range") rfl)
  have m_int := He.free_ok X G (c.1.fact 26 (f := .free "int") rfl)
  have m_list := He.free_ok X G (c.1.fact 29 (f := .free "list") rfl)
  have g_PRIMES : mg "PRIMES" = some (.ref (He.ga K "PRIMES")) ∧ ∀ H, SqT K H (He.ga K "PRIMES") ([2, 3, 5, 7, 11, 13, 17, 19, 23, 29, 31].map V.int) := ⟨He.glo_ok X G (c.1.fact 33 (f := .glo "PRIMES") rfl), fun H => He.tupB_ok (vs := [.int 2, .int 3, .int 5, .int 7, .int 11, .int 13, .int 17, .int 19, .int 23, .int 29, .int 31]) ((He.ba (He.ba (He.ba (He.ba (He.ba c.2.1).1).1).1).1).2) H⟩
  exact mk_cal (N := N_law_residues_right) (ps := ["_law_dice_here"]) (k := 5) (body := b_law_residues_right) X G c.1 14 14 rfl rfl sc_law_residues_right (fun F => FunD.bindsN F fun _ _ _ _ _ _ us hl => match us, hl with | [_], _ => rfl) (fun f cdv A outer s H E hr tk hp =>
    (sss_cons (ss_set (i := 1) sc_law_residues_right.nd rfl (Or.inl rfl) (se_callCD tk c_law_pick hr 0 (sa_cons (se_v (se_callTy call_list_of p_list rfl m_list (by decide +kernel) (sa_cons (se_globN g_PRIMES.1 g_PRIMES.2) sa_nil))) sa_nil)))
    (sss_cons (ss_for (vs := [2]) hp rfl (si_rng2 rfl m_range (sa_cons se_int (sa_cons (se_name 1) sa_nil))) (sg_name (i := 2) sc_law_residues_right.nd rfl (by first | exact Or.inl rfl | exact Or.inr rfl)) (sss_cons (ss_set (i := 5) sc_law_residues_right.nd rfl (Or.inl rfl) (se_callC tk c_residue_inverse hr (sa_cons (se_v (se_name 1)) (sa_cons (se_v (se_name 2)) sa_nil))))
    (sss_one (ss_if (st_w (sw_or (st_not (st_chain op_lt op_lt p_lt p_lt se_int (se_name 5) (se_name 1))) (sw_or1 (st_cmp (op_neD (hu64 hr)) p_ne (se_bin op_mod p_mod (se_callTy call_int1 p_int rfl m_int (by decide +kernel) (sa_cons (se_bin or_mulB p_mul (se_name 2) (se_name 5)) sa_nil)) (se_name 1)) se_int (nomark _))))) (sss_one (ss_ret se_bl)) sss_nil))))
    (sss_cons (ss_set (i := 3) sc_law_residues_right.nd rfl (Or.inl rfl) (se_bin op_sub p_sub (se_callCD tk c_law_roll hr 0 (sa_cons (se_bin op_pow p_pow se_int se_int) sa_nil)) (se_bin or_mulB p_mul (se_callCD tk c_law_roll hr 0 (sa_cons (se_bin op_pow p_pow se_int se_int) sa_nil)) (se_bin op_pow p_pow se_int se_int))))
    (sss_cons (ss_set (i := 4) sc_law_residues_right.nd rfl (Or.inl rfl) (se_callC tk c_residue_of hr (sa_cons (se_v (se_name 1)) (sa_cons (se_v (se_name 3)) sa_nil))))
    (sss_one (ss_ret (se_and (se_chain op_le op_lt p_le p_lt se_int (se_name 4) (se_name 1)) (se_and (se_cmp (op_eqD (hu64 hr)) p_eq (se_bin op_mod p_mod (se_callTy call_int1 p_int rfl m_int (by decide +kernel) (sa_cons (se_bin op_sub p_sub (se_name 3) (se_name 4)) sa_nil)) (se_name 1)) se_int (nomark _)) (se_one (se_cmp (op_eqD (hu64 hr)) p_eq (se_callC tk c_residue_of hr (sa_cons (se_v (se_name 1)) (sa_cons (se_bin op_sub p_sub (se_name 4) (se_name 1)) sa_nil))) (se_name 4) (nomark _))))))))))))
theorem ok_law_dice (X : K.In h) (G : h.Ns mainGlobals mg) (c : SaysY fa fn pn bx K) (te : TabE K base mg ms) : Cal P w K mg base "_law_dice" 2 F_law_dice 1 := by
  have m_len := He.free_ok X G (c.1.fact 19 (f := .free "len") rfl)
  have m_max := He.free_ok X G (c.1.fact 21 (f := .free "max") rfl)
  have m_abs := He.free_ok X G (c.1.fact 23 (f := .free "abs") rfl)
  have m_int := He.free_ok X G (c.1.fact 26 (f := .free "int") rfl)
  exact mk_cal (N := N_law_dice) (ps := ["_law_script", "_law_spot"]) (k := 0) (body := b_law_dice) X G c.1 15 15 rfl rfl sc_law_dice (fun F => FunD.bindsN F fun _ _ _ _ _ _ us hl => match us, hl with | [_, _], _ => rfl) (fun f cdv A outer s H E hr tk hp =>
    (sss_cons (ss_set (i := 2) sc_law_dice.nd rfl (Or.inl rfl) (se_if (st_cmp op_lt p_lt (se_name 1) (se_callB cr_len p_len rfl m_len PySem.boot_len (sa_cons (se_name 0) sa_nil)) (nomark _)) (se_callTy call_int1 p_int rfl m_int (by decide +kernel) (sa_cons (se_ix (se_name 0) (se_name 1)) sa_nil)) (se_bin or_addA p_add (se_bin or_mulB p_mul se_int (se_name 1)) se_int)))
    (sss_cons (ss_set (i := 3) sc_law_dice.nd rfl (Or.inl rfl) (se_bin op_mod p_mod (se_callB (cr_maxA rfl) p_max rfl m_max (by decide +kernel) (sa_cons se_int (sa_cons (se_bin op_sub p_sub (se_callB call_abs p_abs rfl m_abs (by decide +kernel) (sa_cons (se_name 2) sa_nil)) (se_bin op_pow p_pow se_int se_int)) sa_nil))) (se_bin or_mulB p_mul (se_bin op_pow p_pow se_int se_int) (se_bin op_pow p_pow se_int se_int))))
    (sss_one (ss_ret (se_lst (sa_cons (se_v (se_name 3)) (sa_cons (se_v (se_bin or_addA p_add (se_bin or_addA p_add (se_bin or_addA p_add (se_bin or_mulB p_mul (se_bin op_mod p_mod (se_callB call_abs p_abs rfl m_abs (by decide +kernel) (sa_cons (se_name 2) sa_nil)) se_int) se_int) (se_bin or_mulB p_mul se_int (se_name 1))) (se_bin or_mulB p_mul se_int (se_callTy call_int1 p_int rfl m_int (by decide +kernel) (sa_cons (se_cmp op_lt p_lt (se_name 2) se_int (nomark _)) sa_nil)))) se_int)) (sa_cons se_int sa_nil)))))))))
theorem law_fn {f : Addr} {fd : FuncData} (F : FunD K "law" "law" (defArgs s_law) (defBody s_law) (defScope s_law) [] [] f fd) (X : K.In h) (G : h.Ns mainGlobals mg) (c : SaysY fa fn pn bx K) (te : TabE K base mg ms) : FnOkG P w K mg base (L2.CX P w) 9 f fd ["_law_script"] (spF K mg 1 F_law) := by
  have c_law_errors_right := ok_law_errors_right (P := P) (w := w) (base := base) X G c te
  have c_law_divisors_right := ok_law_divisors_right (P := P) (w := w) (base := base) X G c te
  have c_law_residues_right := ok_law_residues_right (P := P) (w := w) (base := base) X G c te
  have c_law_dice := ok_law_dice (P := P) (w := w) (base := base) X G c te
  have c_common_divisor := ok_common_divisor (P := P) (w := w) (base := base) X G c te
  have c_residue_inverse := ok_residue_inverse (P := P) (w := w) (base := base) X G c te
  have c_residue_of := ok_residue_of (P := P) (w := w) (base := base) X G c te
  have m_len := He.free_ok X G (c.1.fact 19 (f := .free "len") rfl)
  have m_min := He.free_ok X G (c.1.fact 20 (f := .free "min") rfl)
  have m_max := He.free_ok X G (c.1.fact 21 (f := .free "max") rfl)
  have m_range := He.free_ok X G (c.1.fact 22 (f := .free "range") rfl)
  exact fn_okDG (N := N_law) (ps := ["_law_script"]) (k := 8) (body := b_law) F sc_law (fun cdv A outer s H E hr tk hp =>
    (sss_cons (ss_for (vs := [1]) hp rfl (si_rng1 rfl m_range (sa_cons (se_callB (cr_maxA rfl) p_max rfl m_max (by decide +kernel) (sa_cons se_int (sa_cons (se_callB (cr_minA rfl) p_min rfl m_min (by decide +kernel) (sa_cons se_int (sa_cons (se_callB cr_len p_len rfl m_len PySem.boot_len (sa_cons (se_name 0) sa_nil)) sa_nil))) sa_nil))) sa_nil)) (sg_name (i := 1) sc_law.nd rfl (by first | exact Or.inl rfl | exact Or.inr rfl)) (sss_cons (ss_set (i := 3) sc_law.nd rfl (Or.inl rfl) (se_callC tk c_law_dice hr.r (sa_cons (se_v (se_name 0)) (sa_cons (se_v (se_name 1)) sa_nil))))
    (sss_one (ss_if (st_w (sw_or (st_not (st_tru (se_callCD tk c_law_residues_right hr.r 3 sa_nil))) (sw_or (st_not (st_tru (se_callCD tk c_law_divisors_right hr.r 3 sa_nil))) (sw_or1 (st_not (st_tru (se_callCDG tk c_law_errors_right hr 3 sa_nil))))))) (sss_one (ss_ret se_bl)) sss_nil))))
    (sss_cons (ss_set (i := 2) sc_law.nd rfl (Or.inl rfl) (se_lst (sa_cons (se_v (se_callC tk c_residue_inverse hr.r (sa_cons se_int (sa_cons se_int sa_nil)))) (sa_cons (se_v (se_callC tk c_residue_inverse hr.r (sa_cons se_int (sa_cons se_int sa_nil)))) (sa_cons (se_v (se_callC tk c_common_divisor hr.r (sa_cons (se_tup (sa_cons se_int (sa_cons se_int (sa_cons se_int sa_nil)))) sa_nil))) (sa_cons (se_v (se_callC tk c_common_divisor hr.r (sa_cons (se_tup (sa_cons se_int (sa_cons (se_un un_neg p_neg se_int) (sa_cons se_int sa_nil)))) sa_nil))) sa_nil))))))
    (sss_one (ss_ret (se_and (se_cmp (op_eqD (hu64 hr.r)) p_eq (se_name 2) (se_lst (sa_cons se_int (sa_cons se_int (sa_cons se_int (sa_cons se_int sa_nil))))) (nomark _)) (se_and (se_cmp (op_eqD (hu64 hr.r)) p_eq (se_callC tk c_common_divisor hr.r (sa_cons (se_tup sa_nil) sa_nil)) se_int (nomark _)) (se_and (se_cmp (op_eqD (hu64 hr.r)) p_eq (se_callC tk c_residue_of hr.r (sa_cons se_int (sa_cons (se_un un_neg p_neg se_int) sa_nil))) se_int (nomark _)) (se_one (se_cmp (op_eqD (hu64 hr.r)) p_eq (se_callC tk c_common_divisor hr.r (sa_cons (se_tup (sa_cons se_int (sa_cons se_int sa_nil))) sa_nil)) se_int (nomark _)))))))))))
end
end KK

set_option Elab.async false
set_option linter.all false
set_option maxRecDepth 100000
namespace KK
/-! Euclid, with so many turns -/
def lcF : Nat → Int → Int → Int
  | 0, a, _ => a
  | n + 1, a, b => if b = 0 then a else lcF n b (a.fmod b)
theorem lcF_zero : ∀ (n : Nat) (a : Int), lcF n a 0 = a
  | 0, _ => rfl
  | n + 1, a => by unfold lcF; rw [if_pos rfl]
theorem lcF_step (n : Nat) (a b : Nat) (h : b ≠ 0) : lcF (n + 1) a b = lcF n b ((a % b : Nat) : Int) := by
  show (if (b : Int) = 0 then _ else _) = _
  rw [if_neg (by omega), Int.fmod_eq_emod_of_nonneg _ (by omega)]
  rfl
theorem lcF_gcd : ∀ (k n a b : Nat), b < 2 ^ k → 2 * k ≤ n → lcF n a b = (Nat.gcd a b : Nat)
  | 0, n, a, b, hb, _ => by
    have : b = 0 := by simpa using hb
    subst this
    rw [Nat.gcd_zero_right]
    exact lcF_zero n a
  | k + 1, n, a, b, hb, hn => by
    by_cases h0 : b = 0
    · subst h0
      rw [Nat.gcd_zero_right]
      exact lcF_zero n a
    · obtain ⟨m, rfl⟩ : ∃ m, n = m + 2 := ⟨n - 2, by omega⟩
      rw [lcF_step (m + 1) a b h0]
      have hr : a % b < b := Nat.mod_lt _ (by omega)
      have hg : Nat.gcd a b = Nat.gcd b (a % b) := by rw [Nat.gcd_comm a b, Nat.gcd_rec b a, Nat.gcd_comm]
      rw [hg]
      generalize a % b = r at hr
      by_cases h1 : r = 0
      · subst h1
        rw [Nat.gcd_zero_right]
        exact lcF_zero _ _
      · rw [lcF_step m b r h1]
        have hg2 : Nat.gcd b r = Nat.gcd r (b % r) := by rw [Nat.gcd_comm b r, Nat.gcd_rec r b, Nat.gcd_comm]
        rw [hg2]
        refine lcF_gcd k m r (b % r) ?_ (by omega)
        have h2 : b % r < r := Nat.mod_lt _ (by omega)
        have h3 : 2 * (b % r) < b := by
          by_cases q : 2 * r ≤ b
          · omega
          · have h4 : b / r = 1 := by
              have := Nat.div_add_mod b r
              have h5 : b / r < 2 := Nat.div_lt_of_lt_mul (by omega)
              have h6 : 0 < b / r := Nat.div_pos (by omega) (by omega)
              omega
            have := Nat.div_add_mod b r
            rw [h4] at this
            omega
        rw [Nat.pow_succ] at hb
        omega
def gcdI (a b : Int) : Int := (Nat.gcd a.natAbs b.natAbs : Nat)
def lc (a b : Int) : Int := lcF 400 a b
theorem lc_gcd {a b : Int} (ha : 0 ≤ a) (hb : 0 ≤ b) (h : b < 2 ^ 100) : lc a b = gcdI a b := by
  obtain ⟨m, rfl⟩ : ∃ m : Nat, a = m := ⟨a.toNat, by omega⟩
  obtain ⟨n, rfl⟩ : ∃ n : Nat, b = n := ⟨b.toNat, by omega⟩
  have hn : n < 2 ^ 100 := by
    have : ((n : Nat) : Int) < ((2 ^ 100 : Nat) : Int) := by rw [Int.natCast_pow]; exact h
    omega
  unfold lc gcdI
  rw [lcF_gcd 100 400 m n hn (by decide)]
  rfl
theorem gcdI_pos {a b : Int} (h : 0 < a) : 0 < gcdI a b := by
  unfold gcdI
  have := Nat.gcd_pos_of_pos_left b.natAbs (show 0 < a.natAbs by omega)
  omega
theorem gcdI_le {a b : Int} (h : 0 < a) : gcdI a b ≤ a := by
  unfold gcdI
  have := Nat.gcd_le_left b.natAbs (show 0 < a.natAbs by omega)
  omega
theorem gcdI_dvd (a b : Int) : gcdI a b ∣ a := by
  unfold gcdI
  exact Int.dvd_natAbs.mp (Int.ofNat_dvd.mpr (Nat.gcd_dvd_left _ _))
/-! judging -/
/-- the program's way: the divisor so far, the next number, the others -/
def pj (d x : Int) : List Int → Bool
  | [] => decide (gcdI d x < d) && decide (gcdI d x = 1)
  | y :: r => decide (gcdI d x < d) && (decide (d / gcdI d x * x < y) && pj (gcdI d x) y r)
/-- the law's way -/
def lj (d x : Int) : List Int → Bool
  | [] => if lc d x ≥ d then false else decide (lc d x = 1)
  | y :: r => if lc d x ≥ d then false else if y ≤ x * d / lc d x then false else lj (lc d x) y r
theorem quot_pos {d e x : Int} (he : 0 < e) (hed : e ≤ d) (h : e ∣ d) (hx : 0 < x) : x ≤ d / e * x := by
  have h1 : 1 ≤ d / e := by
    have := Int.ediv_mul_cancel h
    by_cases q : 1 ≤ d / e
    · exact q
    · have : d / e ≤ 0 := by omega
      have := Int.mul_le_mul_of_nonneg_right this (show 0 ≤ e by omega)
      omega
  have := Int.mul_le_mul_of_nonneg_right h1 (show 0 ≤ x by omega)
  omega
theorem lj_pj : ∀ (r : List Int) (d x : Int), 0 < d → 0 < x → d < 2 ^ 100 → (∀ y ∈ x :: r, y < 2 ^ 100) → lj d x r = pj d x r
  | [], d, x, hd, hx, hb, hr => by
    have hxb := hr x List.mem_cons_self
    unfold lj pj
    rw [lc_gcd (by omega) (by omega) hxb]
    by_cases q : gcdI d x < d
    · rw [if_neg (by omega), decide_eq_true q, Bool.true_and]
    · rw [if_pos (by omega), decide_eq_false q, Bool.false_and]
  | y :: r, d, x, hd, hx, hb, hr => by
    have hxb := hr x List.mem_cons_self
    have he := gcdI_pos (b := x) hd
    have hle := gcdI_le (b := x) hd
    have hdv := gcdI_dvd d x
    unfold lj pj
    rw [lc_gcd (by omega) (by omega) hxb]
    by_cases q : gcdI d x < d
    · rw [if_neg (by omega), decide_eq_true q, Bool.true_and]
      have e1 : x * d / gcdI d x = d / gcdI d x * x := by rw [Int.mul_ediv_assoc _ hdv, Int.mul_comm]
      rw [e1]
      have hq := quot_pos he hle hdv hx
      by_cases z : d / gcdI d x * x < y
      · rw [if_neg (by omega), decide_eq_true z, Bool.true_and]
        exact lj_pj r (gcdI d x) y he (by omega) (by omega) fun u hu => hr u (List.mem_cons_of_mem _ hu)
      · rw [if_pos (by omega), decide_eq_false z, Bool.false_and]
    · rw [if_pos (by omega), decide_eq_false q, Bool.false_and]
/-! generators drawn: how a row of numbers stands, its last divisor, and the bound for the next number -/
def rn (d x : Int) : List Int → Bool × Int × Int
  | [] => (decide (gcdI d x < d), gcdI d x, d / gcdI d x * x)
  | y :: r => (decide (gcdI d x < d) && (decide (d / gcdI d x * x < y) && (rn (gcdI d x) y r).1), (rn (gcdI d x) y r).2)
theorem rn_snoc : ∀ (r : List Int) (d x y : Int), rn d x (r ++ [y]) = ((rn d x r).1 && (decide (gcdI (rn d x r).2.1 y < (rn d x r).2.1) && decide ((rn d x r).2.2 < y)), gcdI (rn d x r).2.1 y, (rn d x r).2.1 / gcdI (rn d x r).2.1 y * y)
  | [], d, x, y => by
    simp only [List.nil_append, rn]
    congr 1
    apply Bool.eq_iff_iff.mpr
    simp only [Bool.and_eq_true, decide_eq_true_eq]
    exact ⟨fun h => ⟨h.1, decide_eq_true h.2.2, decide_eq_true h.2.1⟩, fun h => ⟨h.1, of_decide_eq_true h.2.2, of_decide_eq_true h.2.1⟩⟩
  | z :: r, d, x, y => by
    have ih := rn_snoc r (gcdI d x) z y
    show (decide (gcdI d x < d) && (decide (d / gcdI d x * x < z) && (rn (gcdI d x) z (r ++ [y])).1), (rn (gcdI d x) z (r ++ [y])).2) = _
    rw [ih]
    show _ = ((decide (gcdI d x < d) && (decide (d / gcdI d x * x < z) && (rn (gcdI d x) z r).1)) && _, _)
    simp only [Bool.and_assoc]
    rfl
theorem rn_pj : ∀ (r : List Int) (d x : Int), (rn d x r).1 = true → (rn d x r).2.1 = 1 → pj d x r = true
  | [], d, x, h1, h2 => by
    have h1 : decide (gcdI d x < d) = true := h1
    have h2 : gcdI d x = 1 := h2
    unfold pj
    rw [h1, h2]
    rfl
  | y :: r, d, x, h1, h2 => by
    have h1 : (decide (gcdI d x < d) && (decide (d / gcdI d x * x < y) && (rn (gcdI d x) y r).1)) = true := h1
    have h2 : (rn (gcdI d x) y r).2.1 = 1 := h2
    rw [Bool.and_eq_true, Bool.and_eq_true] at h1
    unfold pj
    rw [h1.1, h1.2.1, rn_pj r _ _ h1.2.2 h2]
    rfl
/-- the numbers drawn so far: the first one alone, or more of them -/
def Ok (g : List Int) (shared least : Int) : Prop := (g = [shared] ∧ least = shared ∧ 2 ≤ shared) ∨ ∃ d x r, g = d :: x :: r ∧ 2 ≤ d ∧ d < x ∧ rn d x r = (true, shared, least)
theorem gcd_mul_left' (s m t : Nat) (h : Nat.gcd m s = 1) : Nat.gcd (s * t) (m * t) = t := by
  rw [Nat.gcd_mul_right, Nat.gcd_comm, h, Nat.one_mul]
theorem ok_step {g : List Int} {sh s t least m : Int} (h : Ok g sh least) (hs : 2 ≤ s) (ht : 0 < t) (e : sh = s * t) (hm : least / t < m) (hc : gcdI m s = 1) (hl : 0 < least) : Ok (g ++ [m * t]) t (m * t * s) := by
  have hm0 : 0 < m := by
    have := Int.ediv_nonneg (Int.le_of_lt hl) (Int.le_of_lt ht)
    omega
  have hgt : least < m * t := by
    have h1 := Int.lt_ediv_add_one_mul_self least ht
    have h2 := Int.mul_le_mul_of_nonneg_right (show least / t + 1 ≤ m by omega) (Int.le_of_lt ht)
    omega
  have hg : gcdI sh (m * t) = t := by
    obtain ⟨m', rfl⟩ : ∃ m' : Nat, m = m' := ⟨m.toNat, by omega⟩
    obtain ⟨s', rfl⟩ : ∃ s' : Nat, s = s' := ⟨s.toNat, by omega⟩
    obtain ⟨t', rfl⟩ : ∃ t' : Nat, t = t' := ⟨t.toNat, by omega⟩
    subst e
    unfold gcdI at hc ⊢
    rw [Int.natAbs_mul, Int.natAbs_mul]
    simp only [Int.natAbs_natCast] at hc ⊢
    rw [gcd_mul_left' s' m' t' (by omega)]
  have hlt : t < sh := by
    have := Int.mul_le_mul_of_nonneg_right hs (Int.le_of_lt ht)
    omega
  have hq : sh / t * (m * t) = m * t * s := by
    rw [e, Int.mul_ediv_cancel _ (by omega), Int.mul_comm]
  refine .inr ?_
  rcases h with ⟨rfl, rfl, h2⟩ | ⟨d, x, r, rfl, hd, hx, hr⟩
  · refine ⟨least, m * t, [], rfl, h2, hgt, ?_⟩
    unfold rn
    rw [hg, decide_eq_true hlt, hq]
  · refine ⟨d, x, r ++ [m * t], rfl, hd, hx, ?_⟩
    rw [rn_snoc, hr]
    simp only
    rw [hg, decide_eq_true hlt, decide_eq_true hgt, hq]
    rfl
/-- a number without a common divisor stands among so many -/
theorem find_cop {s : Nat} (hs : s = 2 ∨ s = 3 ∨ s = 4 ∨ s = 5) (n : Nat) : ∃ j, j < s ∧ Nat.gcd (n + j) s = 1 ∧ ∀ i, i < j → Nat.gcd (n + i) s ≠ 1 := by
  have red : ∀ j, Nat.gcd (n + j) s = Nat.gcd ((n % s + j) % s) s := by
    intro j
    rw [Nat.gcd_comm, Nat.gcd_rec s (n + j), Nat.mod_add_mod]
  have key : ∀ s ∈ [2, 3, 4, 5], ∀ t, t < s → ∃ j, j < s ∧ Nat.gcd ((t + j) % s) s = 1 ∧ ∀ i, i < j → Nat.gcd ((t + i) % s) s ≠ 1 := by decide
  have ht : n % s < s := Nat.mod_lt _ (by omega)
  obtain ⟨j, h1, h2, h3⟩ := key s (by rcases hs with rfl | rfl | rfl | rfl <;> decide) (n % s) ht
  exact ⟨j, h1, by rw [red]; exact h2, fun i hi => by rw [red]; exact h3 i hi⟩
end KK

set_option Elab.async false
set_option linter.all false
set_option maxRecDepth 100000
namespace KK
open PySem PySem.Spec L2 TT

/-! dice -/
def DL (n : Nat) (ds : List PV) : Prop := ∃ a b c : Int, ds = [.int a, .int b, .int c] ∧ 0 ≤ a ∧ a < 10 ^ 120 ∧ 0 ≤ b ∧ b < 10 ^ 30 ∧ 0 ≤ c ∧ c ≤ n
theorem DL.mono {n m : Nat} {ds : List PV} (h : DL n ds) (l : n ≤ m) : DL m ds := by
  obtain ⟨a, b, c, e, h1, h2, h3, h4, h5, h6⟩ := h
  exact ⟨a, b, c, e, h1, h2, h3, h4, h5, by omega⟩
theorem roll_ok {n : Nat} {ds : List PV} {t : Int} (h : DL n ds) (hn : n ≤ 1000000000) (h0 : 0 < t) (ht : t < 10 ^ 100) :
    ∃ r ds', F_law_roll [.bor (.lst ds), .val (.int t)] = .ok (.val (.int r)) [.bor (.lst ds'), .val (.int t)] ∧ 0 ≤ r ∧ r < t ∧ DL (n + 1) ds' := by
  obtain ⟨a, b, c, rfl, h1, h2, h3, h4, h5, h6⟩ := h
  have ht' : t.natAbs < 2 ^ 2000 := abs_lt_of (Int.le_of_lt h0) ht (by decide)
  have hd : ∀ i, divOk i t = true := fun i => divOk_of h0 ht'
  by_cases hp : 0 < a
  · refine ⟨a % t, [.int (a / t), .int b, .int c], ?_, Int.emod_nonneg _ (by omega), Int.emod_lt_of_pos _ h0, a / t, b, c, rfl, Int.ediv_nonneg h1 (by omega), ?_, h3, h4, h5, by omega⟩
    · simp [F_law_roll, runF, b_law_roll, b_law_roll_1, b_law_roll_2, b_law_roll_3, b_law_roll_4, b_law_roll_5, hp, h0, hd]
    · exact Int.lt_of_le_of_lt (Int.ediv_le_self _ h1) h2
  · have hc1 : (c + 1).natAbs < 2 ^ 2000 := abs_lt_of (b := 10 ^ 10) (by omega) (by omega) (by decide)
    have hm1 : mulOk 32452867 (c + 1) = true := mulOk_of (by decide) hc1
    have hm2 : mulOk 97 (c + 1) = true := mulOk_of (by decide) hc1
    have g1 : 0 ≤ (b + 32452867 * (c + 1)) % 2305843009213693907 := Int.emod_nonneg _ (by decide)
    have g2 : (b + 32452867 * (c + 1)) % 2305843009213693907 < 2305843009213693907 := Int.emod_lt_of_pos _ (by decide)
    generalize hone : (b + 32452867 * (c + 1)) % 2305843009213693907 = one at g1 g2
    have ho : one.natAbs < 2 ^ 2000 := abs_lt_of g1 g2 (by decide)
    have hm3 : mulOk one one = true := mulOk_of ho ho
    have k1 : 0 ≤ (one * one + 97 * (c + 1)) % 2305843009213693921 := Int.emod_nonneg _ (by decide)
    have k2 : (one * one + 97 * (c + 1)) % 2305843009213693921 < 2305843009213693921 := Int.emod_lt_of_pos _ (by decide)
    generalize htwo : (one * one + 97 * (c + 1)) % 2305843009213693921 = two at k1 k2
    have htw : two.natAbs < 2 ^ 2000 := abs_lt_of k1 k2 (by decide)
    have hm4 : mulOk two 6700417 = true := mulOk_of htw (by decide)
    have hd2 : divOk (two * 6700417 + one) 65536 = true := divOk_of (by decide) (by decide)
    refine ⟨((two * 6700417 + one) / 65536) % t, [.int a, .int b, .int (c + 1)], ?_, Int.emod_nonneg _ (by omega), Int.emod_lt_of_pos _ h0, a, b, c + 1, rfl, h1, h2, h3, h4, by omega, by omega⟩
    simp [F_law_roll, runF, b_law_roll, b_law_roll_1, b_law_roll_2, b_law_roll_3, b_law_roll_4, b_law_roll_5, hp, h0, hm1, hm2, hone, hm3, htwo, hm4, hd2]

/-! judging numbers and points -/
theorem whole_int (i : Int) : F_is_whole [.val (.int i)] = .ok (.val (.bl true)) [.val (.int i)] := by
  simp [F_is_whole, runF, b_is_whole, b_is_whole_1, pIsi, isi]
theorem integer_int (i : Int) : F_is_integer [.val (.int i)] = .ok (.val (.bl (decide ((if i < 0 then -i else i) < 10 ^ 60)))) [.val (.int i)] := by
  simp [F_is_integer, runF, b_is_integer, b_is_integer_1, whole_int]
def small (v : Int) : Prop := -1000 ≤ v ∧ v ≤ 1000
theorem small_abs {v : Int} (h : small v) : (if v < 0 then -v else v) < 10 ^ 60 := by
  unfold small at h
  have : (1000 : Int) < 10 ^ 60 := by decide
  split <;> omega
theorem between_int {v lo hi : Int} (h : small v) : F_is_between [.val (.int v), .val (.int lo), .val (.int hi)] = .ok (.val (.bl (decide (lo ≤ v) && decide (v ≤ hi)))) [.val (.int v), .val (.int lo), .val (.int hi)] := by
  have h' := small_abs h
  simp only [F_is_between, runF, b_is_between, b_is_between_1]
  simp [integer_int, -Int.reducePow, h']
  split <;> simp_all <;> omega
def primes : List Int := [2, 3, 5, 7, 11, 13, 17, 19, 23, 29, 31]
theorem prime_small {p : Int} (h : p ∈ primes) : 2 ≤ p ∧ p ≤ 31 := by
  simp only [primes, List.mem_cons, List.not_mem_nil, or_false] at h
  omega
theorem check_prime_ok {p : Int} (h : p ∈ primes) : F_check_prime [.val (.int p)] = .ok (.val .non) [.val (.int p)] := by
  have h1 := prime_small h
  have h' : small p := by unfold small; omega
  have h2 := small_abs h'
  have h3 : F_is_prime [.val (.int p)] = .ok (.val (.bl true)) [.val (.int p)] := by
    have e1 : dOk (.tup (primes.map .int)) = true := ok_tupI (xs := primes)
    have e2 : anyP (.int p) (primes.map .int) = true := by rw [anyP_int]; exact decide_eq_true h
    simp only [F_is_prime, runF, b_is_prime, b_is_prime_1]
    show (if _ then _ else _) = _
    simp only [show ([2, 3, 5, 7, 11, 13, 17, 19, 23, 29, 31] : List Int) = primes from rfl]
    simp [-Int.reducePow, integer_int, h2, e1, e2, -List.map_cons]
  simp [F_check_prime, runF, b_check_prime, b_check_prime_1, h3]
def okP (prime : Int) (p : List Int) : Prop := p.length ≤ 60 ∧ ∀ x ∈ p, -1 ≤ x ∧ x ≤ prime - 1
theorem small_t {t : Int} (h : t ≤ 1000000000) : t < 10 ^ 100 := by
  have : (1000000000 : Int) < 10 ^ 100 := by decide
  omega
theorem seqIx_mem {ds : List PV} {r : Int} (h0 : 0 ≤ r) (h1 : r < ds.length) : ∃ d ∈ ds, seqIx ds r = some (.val d) := by
  obtain ⟨k, rfl⟩ : ∃ k : Nat, r = k := ⟨r.toNat, by omega⟩
  have hk : k < ds.length := by omega
  refine ⟨ds[k], List.getElem_mem hk, ?_⟩
  have := seqIx_map (f := id) ds k
  rw [List.map_id] at this
  rw [this, List.getElem?_eq_getElem hk]
  rfl
theorem pick_ok {n : Nat} {ds items : List PV} (h : DL n ds) (hn : n ≤ 1000000000) (h0 : items ≠ []) (hl : items.length ≤ 1000000) :
    ∃ d ∈ items, ∃ ds', F_law_pick [.bor (.lst ds), .val (.lst items)] = .ok (.val d) [.bor (.lst ds'), .val (.lst items)] ∧ DL (n + 1) ds' := by
  have hp : 0 < items.length := by
    cases items with
    | nil => exact absurd rfl h0
    | cons _ _ => simp
  obtain ⟨r, ds', e, h1, h2, h3⟩ := roll_ok (t := (items.length : Int)) h hn (by omega) (small_t (by omega))
  obtain ⟨d, hd, ed⟩ := seqIx_mem h1 h2
  refine ⟨d, hd, ds', ?_, h3⟩
  simp [F_law_pick, runF, b_law_pick, b_law_pick_1, e, ed]
theorem ints_of_all {R : Int → Prop} : ∀ {ds : List PV}, (∀ d ∈ ds, ∃ l, d = .int l ∧ R l) → ∃ p : List Int, ds = p.map .int ∧ ∀ x ∈ p, R x
  | [], _ => ⟨[], rfl, fun x h => absurd h (by simp)⟩
  | d :: ds, h => by
    obtain ⟨l, rfl, hl⟩ := h d List.mem_cons_self
    obtain ⟨p, rfl, hp⟩ := ints_of_all fun e he => h e (List.mem_cons_of_mem _ he)
    exact ⟨l :: p, rfl, fun x hx => by
      rcases List.mem_cons.mp hx with rfl | hx
      · exact hl
      · exact hp x hx⟩
theorem dice_ok {ns : List Int} {spot : Nat} (hs : spot ≤ 63) (hn : ns.length ≤ 63) :
    ∃ ds, F_law_dice [.val (.scr (ns.map .int)), .val (.int spot)] = .ok (.own (.lst ds)) [.val (.scr (ns.map .int)), .val (.int spot)] ∧ DL 0 ds := by
  have hsp : ((spot : Int)).natAbs < 2 ^ 2000 := abs_lt_of (b := 100) (by omega) (by omega) (by decide)
  have m1 : mulOk 83 (spot : Int) = true := mulOk_of (by decide) hsp
  have m2 : mulOk 839 (spot : Int) = true := mulOk_of (by decide) hsp
  obtain ⟨cell, hc⟩ : ∃ cell : Int, (if spot < ns.length then ns[spot]?.getD 0 else 83 * (spot : Int) + 29) = cell := ⟨_, rfl⟩
  have e1 : b_law_dice_1 [.val (.scr (ns.map .int)), .val (.int spot), .un, .un] = .ok .nx [.val (.scr (ns.map .int)), .val (.int spot), .val (.int cell), .un] := by
    unfold b_law_dice_1
    by_cases h : spot < ns.length
    · have hI : (spot : Int) < ns.length := by omega
      rw [if_pos h] at hc
      have := seqIx_map (f := PV.int) ns spot
      rw [List.getElem?_eq_getElem h] at hc this
      simp at hc
      simp [hI, h, this, hc]
    · have hI : ¬ (spot : Int) < ns.length := by omega
      rw [if_neg h] at hc
      simp [hI, h, m1, hc]
  generalize ha : (if cell < 0 then -cell else cell) = ab
  have hM : mulOk 1000000000000000000000000000000000000000000000000000000000000 1000000000000000000000000000000000000000000000000000000000000 = true := by decide
  have hd2 : ∀ i : Int, divOk i 1152921504606846899 = true := fun i => divOk_of (by decide) (by decide)
  have g1 : 0 ≤ ab % 1152921504606846899 := Int.emod_nonneg _ (by decide)
  have g2 : ab % 1152921504606846899 < 1152921504606846899 := Int.emod_lt_of_pos _ (by decide)
  generalize hr : ab % 1152921504606846899 = r at g1 g2
  have hr' : r.natAbs < 2 ^ 2000 := abs_lt_of g1 g2 (by decide)
  have m3 : mulOk r 47 = true := mulOk_of hr' (by decide)
  obtain ⟨lt, hlt⟩ : ∃ lt : Int, (if cell < 0 then (1 : Int) else 0) = lt := ⟨_, rfl⟩
  have hlt2 : 0 ≤ lt ∧ lt ≤ 1 := by rw [← hlt]; split <;> omega
  have m4 : mulOk 41 lt = true := mulOk_of (by decide) (abs_lt_of (b := 10) (by omega) (by omega) (by decide))
  obtain ⟨top, ht⟩ : ∃ top : Int, (if 10000000000000000 < ab then ab - 10000000000000000 else 0) = top := ⟨_, rfl⟩
  refine ⟨[.int (top % 1000000000000000000000000000000000000000000000000000000000000000000000000000000000000000000000000000000000000000000000000), .int (r * 47 + 839 * spot + 41 * lt + 7), .int 0], ?_, ⟨_, _, _, rfl, Int.emod_nonneg _ (by decide), ?_, by omega, ?_, by omega, by omega⟩⟩
  · have e2 : b_law_dice_2 [.val (.scr (ns.map .int)), .val (.int spot), .val (.int cell), .un] = .ok .nx [.val (.scr (ns.map .int)), .val (.int spot), .val (.int cell), .val (.int (top % 1000000000000000000000000000000000000000000000000000000000000000000000000000000000000000000000000000000000000000000000000))] := by
      unfold b_law_dice_2
      simp [ha, hM, ht]
    have e3 : b_law_dice_3 [.val (.scr (ns.map .int)), .val (.int spot), .val (.int cell), .val (.int (top % 1000000000000000000000000000000000000000000000000000000000000000000000000000000000000000000000000000000000000000000000000))] = .ok (.rt (.own (.lst [.int (top % 1000000000000000000000000000000000000000000000000000000000000000000000000000000000000000000000000000000000000000000000000), .int (r * 47 + 839 * spot + 41 * lt + 7), .int 0]))) [.val (.scr (ns.map .int)), .val (.int spot), .val (.int cell), .val (.int (top % 1000000000000000000000000000000000000000000000000000000000000000000000000000000000000000000000000000000000000000000000000))] := by
      unfold b_law_dice_3
      simp [ha, hd2, hr, m2, m3, m4, hlt]
    simp only [F_law_dice, runF, b_law_dice]
    rw [if_pos ⟨rfl, rfl⟩]
    simp only [List.cons_append, List.nil_append, show List.replicate (4 - 2) SV.un = [.un, .un] from rfl]
    simp only [fSeq_ap, e1, e2, e3, seqF_nx]
    simp
  · have := Int.emod_lt_of_pos top (by decide : (0 : Int) < 1000000000000000000000000000000000000000000000000000000000000000000000000000000000000000000000000000000000000000000000000)
    have e : (10 : Int) ^ 120 = 1000000000000000000000000000000000000000000000000000000000000000000000000000000000000000000000000000000000000000000000000 := by decide
    rw [e]
    exact this
  · have : (10 : Int) ^ 30 = 1000000000000000000000000000000 := by decide
    rw [this]
    omega
end KK

set_option Elab.async false
set_option linter.all false
set_option maxRecDepth 100000
namespace KK
open PySem PySem.Spec L2 TT
@[simp] theorem outX_some0 {as : List SV} {x : EX} : outX (some as) x = .er x as := rfl
def badL : List PV := [.non, .int 0, .int 1, .int 9, .int 33, .int (-3), .bl true, .str "3", .tup [.int 3], .lst []]
def oddL (p : Int) : List PV := [.non, .int (-1), .int p, .int 0, .int (10 ^ 50), .bl true, .str "1", .tup [.int 1], .dct [] []]
def noneL : List PV := [.non, .bl true, .str "1", .tup [.int 1], .int (10 ^ 60), .int (-10 ^ 60), .dct [] [], .lst []]
def rowsL : List PV := [.non, .int 3, .lst [.int 1, .int 2], .tup [.int 1, .non], .tup [.int 1, .bl true], .tup [.str "1"], .tup [.int (10 ^ 60), .int 1], .dct [.inl 1] [.int 2], .str "12", .tup [.tup [.int 1, .int 2]]]
theorem bad_check {q : PV} (h : q ∈ badL) : F_check_prime [.val q] = .er ⟨"InvalidPrime", []⟩ [.val q] := by
  simp only [badL, List.mem_cons, List.not_mem_nil, or_false] at h
  rcases h with rfl | rfl | rfl | rfl | rfl | rfl | rfl | rfl | rfl | rfl <;> rfl
theorem odd_check {p : Int} (hp : p ∈ primes) {q : PV} (h : q ∈ oddL p) : F_check_between [.val q, .val (.int 1), .val (.int (p - 1))] = .er ⟨"InvalidCount", [("value", q)]⟩ [.val q, .val (.int 1), .val (.int (p - 1))] := by
  simp only [oddL, List.mem_cons, List.not_mem_nil, or_false] at h
  simp only [primes, List.mem_cons, List.not_mem_nil, or_false] at hp
  rcases hp with rfl | rfl | rfl | rfl | rfl | rfl | rfl | rfl | rfl | rfl | rfl <;> rcases h with rfl | rfl | rfl | rfl | rfl | rfl | rfl | rfl | rfl <;> rfl
theorem none_int {q : PV} (h : q ∈ noneL) : F_is_integer [.val q] = .ok (.val (.bl false)) [.val q] := by
  simp only [noneL, List.mem_cons, List.not_mem_nil, or_false] at h
  rcases h with rfl | rfl | rfl | rfl | rfl | rfl | rfl | rfl <;> rfl
theorem rows_no {q : PV} (h : q ∈ rowsL) : F_common_divisor [.val q] = .er ⟨"InvalidOperation", []⟩ [.val q] := by
  simp only [rowsL, List.mem_cons, List.not_mem_nil, or_false] at h
  rcases h with rfl | rfl | rfl | rfl | rfl | rfl | rfl | rfl | rfl | rfl <;> rfl
theorem top_ok : F_common_divisor [.val (.tup [.int (10 ^ 60 - 1), .int 0])] = .ok (.val (.int (10 ^ 60 - 1))) [.val (.tup [.int (10 ^ 60 - 1), .int 0])] := by rfl
end KK

set_option Elab.async false
set_option linter.all false
set_option maxRecDepth 100000
namespace KK
open PySem PySem.Spec L2 TT
/-! ### texts of the odd values -/
theorem odd_text {p : Int} (hp : p ∈ primes) {q : PV} (h : q ∈ oddL p) : ∃ t, textD q = some t ∧ txOk t = true := by
  have e : (primes.all fun p => (oddL p).all txD) = true := by decide +kernel
  exact txD_all (List.all_eq_true.mp e p hp) h
theorem none_text {q : PV} (h : q ∈ noneL) : ∃ t, textD q = some t ∧ txOk t = true := txD_all (by decide +kernel) h
def ct : Str := Str.ofString "count "
theorem ct_len : ct.length = 6 := by decide +kernel
theorem ct_add {t : Str} (h : txOk t = true) : pAdd (.str ct) (.str t) = some (.val (.str (ct ++ t))) := pAdd_txt (by have := txOk_len h; rw [ct_len]; unfold bigN; omega)
theorem hx_count {q : PV} {t : Str} (h : textD q = some t) (k : txOk t = true) : hxv xtb ⟨"InvalidCount", [("value", q)]⟩ (.one (.ad "count " (.rp "value"))) = some (.val (.str (ct ++ t))) :=
  hxv_ad (z := ct) (by rfl) h (by have := txOk_len k; rw [ct_len]; unfold bigN; omega)
section
variable {f : Rho → Res RV} {ρ as : Rho} {q : PV} {t : Str}
theorem w_count (h : f (hide ρ) = .er ⟨"InvalidCount", [("value", q)]⟩ as) (h1 : textD q = some t) (h2 : txOk t = true) : fLamX tbl xtb l_law_word (.str "none") f ρ = .ok (.val (.str (ct ++ t))) ρ := lamX_er h rfl (hx_count h1 h2)
theorem w_prime (h : f (hide ρ) = .er ⟨"InvalidPrime", []⟩ as) : fLamX tbl xtb l_law_word (.str "none") f ρ = .ok (.val (.str "prime")) ρ := lamX_er h rfl rfl
theorem w_oper (h : f (hide ρ) = .er ⟨"InvalidOperation", []⟩ as) : fLamX tbl xtb l_law_word (.str "none") f ρ = .ok (.val (.str "operation")) ρ := lamX_er h rfl rfl
theorem w_none {r : RV} (h : f (hide ρ) = .ok r as) : fLamX tbl xtb l_law_word (.str "none") f ρ = .ok (.val (.str "none")) ρ := lamX_ok h
end
/-! ### the calls -/
theorem inv_bad {q v : PV} (h : q ∈ badL) : F_residue_inverse [.val q, .val v] = .er ⟨"InvalidPrime", []⟩ [.val q, .val v] := by
  simp [F_residue_inverse, runF, b_residue_inverse, b_residue_inverse_1, bad_check h]
theorem inv_odd {p : Int} (hp : p ∈ primes) {q : PV} (h : q ∈ oddL p) : F_residue_inverse [.val (.int p), .val q] = .er ⟨"InvalidCount", [("value", q)]⟩ [.val (.int p), .val q] := by
  simp [F_residue_inverse, runF, b_residue_inverse, b_residue_inverse_1, b_residue_inverse_2, check_prime_ok hp, odd_check hp h]
theorem res_bad {q v : PV} (h : q ∈ badL) : F_residue_of [.val q, .val v] = .er ⟨"InvalidPrime", []⟩ [.val q, .val v] := by
  simp [F_residue_of, runF, b_residue_of, b_residue_of_1, bad_check h]
theorem res_none {p : Int} (hp : p ∈ primes) {q : PV} (h : q ∈ noneL) : F_residue_of [.val (.int p), .val q] = .er ⟨"InvalidCount", [("value", q)]⟩ [.val (.int p), .val q] := by
  simp [F_residue_of, runF, b_residue_of, b_residue_of_1, b_residue_of_2, check_prime_ok hp, none_int h]
section
variable {D : List PV} {p : Int} {B O N R : PV} {t u : Str}
theorem e_5 (hp : p ∈ primes) (hB : B ∈ badL) (hO : O ∈ oddL p) (hN : N ∈ noneL) (hR : R ∈ rowsL) (h1 : textD O = some t) (k1 : txOk t = true) (h2 : textD N = some u) (k2 : txOk u = true) :
    b_law_errors_right_5 [.bor (.lst D), .val O, .val N, .val R, .un, .val B, .val (.int p)] = .ok .nx [.bor (.lst D), .val O, .val N, .val R, .own (.lst [.str "prime", .str (ct ++ t), .str "prime", .str (ct ++ u), .str "operation", .str "none"]), .val B, .val (.int p)] := by
  have a1 := w_prime (f := fCall 2 F_residue_inverse (fCons (fV (fName 5)) (fCons (fV (fName 1)) fNil))) (ρ := [.bor (.lst D), .val O, .val N, .val R, .un, .val B, .val (.int p)]) (as := [.un, .val O, .val N, .val R, .un, .val B, .val (.int p)]) (by simp [inv_bad hB])
  have a2 := w_count (f := fCall 2 F_residue_inverse (fCons (fV (fName 6)) (fCons (fV (fName 1)) fNil))) (ρ := [.bor (.lst D), .val O, .val N, .val R, .un, .val B, .val (.int p)]) (as := [.un, .val O, .val N, .val R, .un, .val B, .val (.int p)]) (by simp [inv_odd hp hO]) h1 k1
  have a3 := w_prime (f := fCall 2 F_residue_of (fCons (fV (fName 5)) (fCons (fV (fName 2)) fNil))) (ρ := [.bor (.lst D), .val O, .val N, .val R, .un, .val B, .val (.int p)]) (as := [.un, .val O, .val N, .val R, .un, .val B, .val (.int p)]) (by simp [res_bad hB])
  have a4 := w_count (f := fCall 2 F_residue_of (fCons (fV (fName 6)) (fCons (fV (fName 2)) fNil))) (ρ := [.bor (.lst D), .val O, .val N, .val R, .un, .val B, .val (.int p)]) (as := [.un, .val O, .val N, .val R, .un, .val B, .val (.int p)]) (by simp [res_none hp hN]) h2 k2
  have a5 := w_oper (f := fCall 1 F_common_divisor (fCons (fV (fName 3)) fNil)) (ρ := [.bor (.lst D), .val O, .val N, .val R, .un, .val B, .val (.int p)]) (as := [.un, .val O, .val N, .val R, .un, .val B, .val (.int p)]) (by simp [rows_no hR])
  have a6 := w_none (f := fCall 1 F_common_divisor (fCons (fTup (fCons (fBin pSub (fBin pPow (fVal (.int 10)) (fVal (.int 60))) (fVal (.int 1))) (fCons (fVal (.int 0)) fNil))) fNil)) (ρ := [.bor (.lst D), .val O, .val N, .val R, .un, .val B, .val (.int p)]) (r := .val (.int (10 ^ 60 - 1))) (as := [.un, .val O, .val N, .val R, .un, .val B, .val (.int p)]) (by rfl)
  unfold b_law_errors_right_5
  have a7 := lst_of (ds := [.str "prime", .str (ct ++ t), .str "prime", .str (ct ++ u), .str "operation", .str "none"]) (cons_v a1 (cons_v a2 (cons_v a3 (cons_v a4 (cons_v a5 (cons_v a6 nil_v)))))) (by simp)
  rw [fSet_ap, a7]
  rfl
end
end KK

set_option Elab.async false
set_option linter.all false
set_option maxRecDepth 100000
namespace KK
open PySem PySem.Spec L2 TT
def slotV (s : SV) : Prop := s = .un ∨ ∃ d, s = .val d
/-! ### Euclid of the law -/
theorem sh_stop {a : Int} {n : PV} {s2 : SV} (h2 : slotV s2) : turnF (gN 2) l_law_shared_1 n [.val (.int a), .val (.int 0), s2] = .ok .bk [.val (.int a), .val (.int 0), .val n] := by
  have e1 : gN 2 n [.val (.int a), .val (.int 0), s2] = some [.val (.int a), .val (.int 0), .val n] := by rcases h2 with rfl | ⟨z, rfl⟩ <;> simp
  rw [turnF_eq, e1]
  show l_law_shared_1 _ = _
  unfold l_law_shared_1
  simp
theorem sh_turn {a b : Int} {n : PV} {s2 : SV} (h2 : slotV s2) (hb : 0 < b) : turnF (gN 2) l_law_shared_1 n [.val (.int a), .val (.int b), s2] = .ok .nx [.val (.int b), .val (.int (a.fmod b)), .val n] := by
  have e1 : gN 2 n [.val (.int a), .val (.int b), s2] = some [.val (.int a), .val (.int b), .val n] := by rcases h2 with rfl | ⟨z, rfl⟩ <;> simp
  have e2 : a.fmod b = a % b := Int.fmod_eq_emod_of_nonneg _ (by omega)
  have e3 : b ≠ 0 := by omega
  rw [turnF_eq, e1, e2]
  show l_law_shared_1 _ = _
  unfold l_law_shared_1
  simp [e3, hb, plainR]
theorem sh_loop : ∀ (items : List PV) (a b : Int) (s2 : SV), slotV s2 → 0 ≤ b →
    ∃ b' s2', forL items (turnF (gN 2) l_law_shared_1) [.val (.int a), .val (.int b), s2] = .ok .nx [.val (.int (lcF items.length a b)), .val (.int b'), s2']
  | [], a, b, s2, _, _ => ⟨b, s2, rfl⟩
  | n :: items, a, b, s2, h2, h0 => by
    by_cases hb : b = 0
    · subst hb
      refine ⟨0, .val n, ?_⟩
      unfold forL
      rw [sh_stop h2, lcF_zero]
    · have hf : a.fmod b = a % b := Int.fmod_eq_emod_of_nonneg _ (by omega)
      obtain ⟨b', s2', ih⟩ := sh_loop items b (a.fmod b) (.val n) (.inr ⟨_, rfl⟩) (by rw [hf]; exact Int.emod_nonneg _ hb)
      refine ⟨b', s2', ?_⟩
      unfold forL
      rw [sh_turn h2 (by omega)]
      simp only
      rw [ih]
      have e : lcF (n :: items).length a b = lcF items.length b (a.fmod b) := by
        show (if b = 0 then a else _) = _
        rw [if_neg hb]
      rw [e]
theorem rngL_len (lo : Int) (n : Nat) : (rngL lo n).length = n := by unfold rngL; rw [List.length_map, List.length_range]
theorem shared_ok {a b : Int} (ha : 0 ≤ a) (hb : 0 ≤ b) (h : b < 2 ^ 190) : F_law_shared [.val (.int a), .val (.int b)] = .ok (.val (.int (gcdI a b))) [.val (.int a), .val (.int b)] := by
  obtain ⟨b', s2', e⟩ := sh_loop (rngL 0 400) a b .un (.inl rfl) hb
  rw [rngL_len] at e
  have eg : lcF 400 a b = gcdI a b := by
    obtain ⟨m, rfl⟩ : ∃ m : Nat, a = m := ⟨a.toNat, by omega⟩
    obtain ⟨n, rfl⟩ : ∃ n : Nat, b = n := ⟨b.toNat, by omega⟩
    have hn : n < 2 ^ 190 := by
      have : ((n : Nat) : Int) < ((2 ^ 190 : Nat) : Int) := by rw [Int.natCast_pow]; exact h
      omega
    rw [lcF_gcd 190 400 m n hn (by decide)]
    rfl
  rw [eg] at e
  have e1 : b_law_shared_1 [.val (.int a), .val (.int b), .un] = .ok .nx [.val (.int (gcdI a b)), .val (.int b'), s2'] := by
    unfold b_law_shared_1
    have hit : fRng1 (fCons (fVal (.int 400)) fNil) [.val (.int a), .val (.int b), .un] = .ok (rngL 0 400) [.val (.int a), .val (.int b), .un] := by
      simp [show okR 400 = true from rfl]
    rw [fFor_ap, hit, bind_ok]
    exact e
  have e2 : b_law_shared_2 [.val (.int (gcdI a b)), .val (.int b'), s2'] = .ok (.rt (.val (.int (gcdI a b)))) [.val (.int (gcdI a b)), .val (.int b'), s2'] := by
    unfold b_law_shared_2
    simp
  simp only [F_law_shared, runF, b_law_shared]
  rw [if_pos ⟨rfl, rfl⟩]
  simp only [List.cons_append, List.nil_append, show List.replicate (3 - 2) SV.un = [.un] from rfl]
  simp only [fSeq_ap, e1, e2, seqF_nx]
  simp
/-! ### the program's divisor -/
def gF : Int → List Int → Int
  | d, [] => d
  | d, x :: r => gF (gcdI d x) r
theorem gF_nn : ∀ (l : List Int) (d : Int), 0 ≤ d → 0 ≤ gF d l
  | [], d, h => h
  | x :: r, d, _ => gF_nn r _ (by unfold gcdI; omega)
theorem cd_loop {S : SV} (T : PV) : ∀ (l : List Int) (d : Int) (s2 : SV), slotV s2 → ∃ s2', forL (l.map .int) (turnF (gN 2) l_common_divisor_1) [.val T, .val (.int d), s2] = .ok .nx [.val T, .val (.int (gF d l)), s2']
  | [], d, s2, _ => ⟨s2, rfl⟩
  | x :: r, d, s2, h2 => by
    obtain ⟨s2', ih⟩ := cd_loop (S := S) T r (gcdI d x) (.val (.int x)) (.inr ⟨_, rfl⟩)
    refine ⟨s2', ?_⟩
    have e1 : gN 2 (.int x) [.val T, .val (.int d), s2] = some [.val T, .val (.int d), .val (.int x)] := by rcases h2 with rfl | ⟨z, rfl⟩ <;> simp
    rw [List.map_cons]
    unfold forL
    rw [turnF_eq, e1]
    have e2 : l_common_divisor_1 [.val T, .val (.int d), .val (.int x)] = .ok .nx [.val T, .val (.int (gcdI d x)), .val (.int x)] := by
      unfold l_common_divisor_1
      simp [gcdI]
    simp only [e2]
    exact ih
def big (v : Int) : Prop := -(10 ^ 60) < v ∧ v < 10 ^ 60
theorem big_abs {v : Int} (h : big v) : (if v < 0 then -v else v) < 10 ^ 60 := by
  obtain ⟨h1, h2⟩ := h
  split <;> omega
theorem integer_big {v : Int} (h : big v) : F_is_integer [.val (.int v)] = .ok (.val (.bl true)) [.val (.int v)] := by
  have := integer_int v
  rwa [decide_eq_true (big_abs h)] at this
theorem cd_ok {l : List Int} (h : ∀ x ∈ l, big x) (hl : l.length ≤ 1000) : F_common_divisor [.val (.tup (l.map .int))] = .ok (.val (.int (gF 0 l))) [.val (.tup (l.map .int))] := by
  have hc := lc_map (vs := [2]) (fg := gN 2) (fe := fCall 1 F_is_integer (fCons (fV (fName 2)) fNil)) (ρ := [.val (.tup (l.map .int)), .un, .un]) PV.int PV.bl (fun _ => true) l (fun x hx => ⟨[.val (.tup (l.map .int)), .un, .val (.int x)], [.val (.tup (l.map .int)), .un, .val (.int x)], by simp, by simp [integer_big (h x hx)], by simp⟩) (by unfold bigN; omega)
  obtain ⟨s2', e3⟩ := cd_loop (S := .un) (.tup (l.map .int)) l 0 .un (.inl rfl)
  generalize hT : l.map PV.int = T at hc e3
  have hall : (l.map fun _ => true).all id = true := by simp
  have e1 : b_common_divisor_1 [.val (.tup T), .un, .un] = .ok .nx [.val (.tup T), .un, .un] := by
    unfold b_common_divisor_1
    simp [pIsi, isi, hc, hall, -List.map_map, -List.map_const_fun, -List.map_const]
  simp only [F_common_divisor, runF, b_common_divisor]
  rw [if_pos ⟨rfl, rfl⟩]
  simp only [List.cons_append, List.nil_append, show List.replicate (3 - 1) SV.un = [.un, .un] from rfl]
  have e2 : b_common_divisor_2 [.val (.tup T), .un, .un] = .ok .nx [.val (.tup T), .val (.int 0), .un] := by
    unfold b_common_divisor_2
    simp
  have e4 : b_common_divisor_3 [.val (.tup T), .val (.int 0), .un] = .ok .nx [.val (.tup T), .val (.int (gF 0 l)), s2'] := by
    unfold b_common_divisor_3
    have hit : fIt (fName 0) [.val (.tup T), .val (.int 0), .un] = .ok T [.val (.tup T), .val (.int 0), .un] := by simp
    rw [fFor_ap, hit, bind_ok]
    exact e3
  have e5 : b_common_divisor_4 [.val (.tup T), .val (.int (gF 0 l)), s2'] = .ok (.rt (.val (.int (gF 0 l)))) [.val (.tup T), .val (.int (gF 0 l)), s2'] := by
    unfold b_common_divisor_4
    simp
  simp only [fSeq_ap, e1, e2, e4, e5, seqF_nx]
  simp
end KK

set_option Elab.async false
set_option linter.all false
set_option maxRecDepth 100000
namespace KK
open PySem PySem.Spec L2 TT
/-! ### residues -/
def invC (p n : Int) : Bool := match F_residue_inverse [.val (.int p), .val (.int n)] with
  | .ok (.val (.int m)) [.val (.int p'), .val (.int n')] => decide (p' = p) && (decide (n' = n) && (decide (0 < m) && (decide (m < p) && decide (n * m % p = 1))))
  | _ => false
theorem inv_all : (primes.all fun p => (List.range (p.toNat - 1)).all fun k => invC p ((k : Int) + 1)) = true := by decide +kernel
theorem inv_ok {p n : Int} (hp : p ∈ primes) (h1 : 1 ≤ n) (h2 : n < p) : ∃ m, F_residue_inverse [.val (.int p), .val (.int n)] = .ok (.val (.int m)) [.val (.int p), .val (.int n)] ∧ 0 < m ∧ m < p ∧ n * m % p = 1 := by
  have h := List.all_eq_true.mp (List.all_eq_true.mp inv_all p hp) (n.toNat - 1) (List.mem_range.mpr (by omega))
  rw [show (((n.toNat - 1 : Nat) : Int)) + 1 = n by omega] at h
  unfold invC at h
  split at h
  · rename_i m p' n' e
    simp only [Bool.and_eq_true, decide_eq_true_eq] at h
    obtain ⟨rfl, rfl, h3, h4, h5⟩ := h
    exact ⟨m, e, h3, h4, h5⟩
  · cases h
theorem res_ok {p v : Int} (hp : p ∈ primes) (h : big v) : F_residue_of [.val (.int p), .val (.int v)] = .ok (.val (.int (v % p))) [.val (.int p), .val (.int v)] := by
  have h2 : 0 < p := by have := prime_small hp; omega
  simp [F_residue_of, runF, b_residue_of, b_residue_of_1, b_residue_of_2, b_residue_of_3, check_prime_ok hp, integer_big h, h2]
section
variable {D : List PV} {p : Int}
theorem rr_turn (hp : p ∈ primes) {n : Int} (h1 : 1 ≤ n) (h2 : n < p) {s2 s5 : SV} (k2 : slotV s2) (k5 : slotV s5) : ∃ m, turnF (gN 2) l_law_residues_right_1 (.int n) [.bor (.lst D), .val (.int p), s2, .un, .un, s5] = .ok .nx [.bor (.lst D), .val (.int p), .val (.int n), .un, .un, .val (.int m)] := by
  obtain ⟨m, e, a1, a2, a3⟩ := inv_ok hp h1 h2
  have ps := prime_small hp
  have hm : mulOk n m = true := mulOk_of (abs_lt_of (b := 100) (by omega) (by omega) (by decide)) (abs_lt_of (b := 100) (by omega) (by omega) (by decide))
  refine ⟨m, ?_⟩
  have e1 : gN 2 (.int n) [.bor (.lst D), .val (.int p), s2, .un, .un, s5] = some [.bor (.lst D), .val (.int p), .val (.int n), .un, .un, s5] := by rcases k2 with rfl | ⟨z, rfl⟩ <;> simp
  rw [turnF_eq, e1]
  show l_law_residues_right_1 _ = _
  unfold l_law_residues_right_1
  have hp0 : 0 < p := by omega
  rcases k5 with rfl | ⟨z, rfl⟩ <;> simp [e, a1, a2, a3, hm, hp0]
theorem rr_loop (hp : p ∈ primes) : ∀ (k : Nat) (n : Int) (s2 s5 : SV), slotV s2 → slotV s5 → 1 ≤ n → n + k ≤ p → ∃ s2' s5', forL (rngL n k) (turnF (gN 2) l_law_residues_right_1) [.bor (.lst D), .val (.int p), s2, .un, .un, s5] = .ok .nx [.bor (.lst D), .val (.int p), s2', .un, .un, s5'] ∧ slotV s2' ∧ slotV s5'
  | 0, n, s2, s5, k2, k5, _, _ => ⟨s2, s5, rfl, k2, k5⟩
  | k + 1, n, s2, s5, k2, k5, h1, h2 => by
    obtain ⟨m, e⟩ := rr_turn (D := D) hp h1 (by omega) k2 k5
    obtain ⟨a, b, e2, k3, k4⟩ := rr_loop hp k (n + 1) (.val (.int n)) (.val (.int m)) (.inr ⟨_, rfl⟩) (.inr ⟨_, rfl⟩) (by omega) (by omega)
    refine ⟨a, b, ?_, k3, k4⟩
    have er : rngL n (k + 1) = .int n :: rngL (n + 1) k := by
      unfold rngL
      rw [List.range_succ_eq_map, List.map_cons, List.map_map]
      simp only [List.cons.injEq]
      refine ⟨by simp, List.map_congr_left fun i _ => ?_⟩
      simp
      omega
    rw [er]
    unfold forL
    rw [e]
    exact e2
theorem residues_ok {n : Nat} (h : DL n D) (hn : n ≤ 600000000) : ∃ D', F_law_residues_right [.bor (.lst D)] = .ok (.val (.bl true)) [.bor (.lst D')] ∧ DL (n + 5) D' := by
  obtain ⟨d, hd, D1, e1, h1⟩ := pick_ok (items := primes.map .int) h (by omega) (by simp [primes]) (by simp [primes])
  obtain ⟨p, hp, rfl⟩ := List.mem_map.mp hd
  have ps := prime_small hp
  have hp0 : 0 < p := by omega
  obtain ⟨s2, s5, e2, k2, k5⟩ := rr_loop (D := D1) hp (p - 1).toNat 1 .un .un (.inl rfl) (.inl rfl) (by omega) (by omega)
  obtain ⟨r1, D2, e3, a1, a2, h2⟩ := roll_ok (t := 10 ^ 59) h1 (by omega) (by decide) (by decide)
  obtain ⟨r2, D3, e4, a3, a4, h3⟩ := roll_ok (t := 10 ^ 30) h2 (by omega) (by decide) (by decide)
  have hv : big (r1 - r2 * 10 ^ 29) := by
    unfold big
    have : r2 * 10 ^ 29 < 10 ^ 30 * 10 ^ 29 := Int.mul_lt_mul_of_pos_right a4 (by decide)
    have : 0 ≤ r2 * 10 ^ 29 := Int.mul_nonneg a3 (by decide)
    have k : (10 : Int) ^ 30 * 10 ^ 29 = 10 ^ 59 := by decide
    have k2 : (10 : Int) ^ 59 < 10 ^ 60 := by decide
    omega
  have s1 : b_law_residues_right_1 [.bor (.lst D), .un, .un, .un, .un, .un] = .ok .nx [.bor (.lst D1), .val (.int p), .un, .un, .un, .un] := by
    unfold b_law_residues_right_1
    show fSet 1 (fCallD 2 F_law_pick 0 (fCons (fV (fApp pList (fCons (fVal (.tup (primes.map .int))) fNil))) fNil)) _ = _
    generalize primes.map PV.int = L at e1 ⊢
    simp [e1]
  have okp : okR p = true ∧ okR 1 = true := ⟨by unfold okR; exact decide_eq_true (by omega), rfl⟩
  have s2' : b_law_residues_right_2 [.bor (.lst D1), .val (.int p), .un, .un, .un, .un] = .ok .nx [.bor (.lst D1), .val (.int p), s2, .un, .un, s5] := by
    unfold b_law_residues_right_2
    have hit : fRng2 (fCons (fVal (.int 1)) (fCons (fName 1) fNil)) [.bor (.lst D1), .val (.int p), .un, .un, .un, .un] = .ok (rngL 1 (p - 1).toNat) [.bor (.lst D1), .val (.int p), .un, .un, .un, .un] := by
      simp [okp]
    rw [fFor_ap, hit, bind_ok]
    exact e2
  generalize hvv : r1 - r2 * 10 ^ 29 = v at hv
  have hm : mulOk r2 (10 ^ 29) = true := mulOk_of (abs_lt_of a3 a4 (by decide)) (by decide)
  have e3' : F_law_roll [.bor (.lst D1), .val (.int 100000000000000000000000000000000000000000000000000000000000)] = .ok (.val (.int r1)) [.bor (.lst D2), .val (.int 100000000000000000000000000000000000000000000000000000000000)] := e3
  have e4' : F_law_roll [.bor (.lst D2), .val (.int 1000000000000000000000000000000)] = .ok (.val (.int r2)) [.bor (.lst D3), .val (.int 1000000000000000000000000000000)] := e4
  have hvv' : r1 - r2 * 100000000000000000000000000000 = v := hvv
  have hm' : mulOk r2 100000000000000000000000000000 = true := hm
  have s3 : b_law_residues_right_3 [.bor (.lst D1), .val (.int p), s2, .un, .un, s5] = .ok .nx [.bor (.lst D3), .val (.int p), s2, .val (.int v), .un, s5] := by
    unfold b_law_residues_right_3
    simp [e3', e4', hm', hvv']
  have t1 : 0 ≤ v % p := Int.emod_nonneg _ (by omega)
  have t2 : v % p < p := Int.emod_lt_of_pos _ hp0
  have t3 : (v - v % p) % p = 0 := by
    rw [Int.sub_emod, Int.emod_emod, Int.sub_self]; rfl
  have bg2 : big (v % p - p) := by
    unfold big
    have : (1000 : Int) < 10 ^ 60 := by decide
    omega
  have t4 : (v % p - p) % p = v % p := by
    rw [Int.sub_emod, Int.emod_emod, Int.emod_self, Int.sub_zero, Int.emod_emod]
  have r4 := res_ok hp hv
  have r5 := res_ok hp bg2
  rw [t4] at r5
  have s4 : b_law_residues_right_4 [.bor (.lst D3), .val (.int p), s2, .val (.int v), .un, s5] = .ok .nx [.bor (.lst D3), .val (.int p), s2, .val (.int v), .val (.int (v % p)), s5] := by
    unfold b_law_residues_right_4
    simp [r4]
  generalize v % p = w at *
  have s5' : b_law_residues_right_5 [.bor (.lst D3), .val (.int p), s2, .val (.int v), .val (.int w), s5] = .ok (.rt (.val (.bl true))) [.bor (.lst D3), .val (.int p), s2, .val (.int v), .val (.int w), s5] := by
    unfold b_law_residues_right_5
    simp [r5, t1, t2, t3, hp0]
  refine ⟨D3, ?_, h3.mono (by omega)⟩
  simp only [F_law_residues_right, runF]
  rw [if_pos ⟨rfl, rfl⟩]
  simp only [List.cons_append, List.nil_append, show List.replicate (6 - 1) SV.un = [.un, .un, .un, .un, .un] from rfl]
  unfold b_law_residues_right
  simp only [fSeq_ap, s1, s2', s3, s4, s5', seqF_nx]
  simp
end
end KK

set_option Elab.async false
set_option linter.all false
set_option maxRecDepth 100000
namespace KK
open PySem PySem.Spec L2 TT
/-! ### the common divisor, by what divides it -/
theorem gF_dvd (k : Nat) : ∀ (l : List Int) (d : Int), (k ∣ (gF d l).natAbs ↔ k ∣ d.natAbs ∧ ∀ x ∈ l, k ∣ x.natAbs)
  | [], d => by simp [gF]
  | x :: r, d => by
    have h := gF_dvd k r (gcdI d x)
    have e : (gcdI d x).natAbs = Nat.gcd d.natAbs x.natAbs := by unfold gcdI; exact Int.natAbs_natCast _
    rw [e, Nat.dvd_gcd_iff] at h
    simp only [gF, List.mem_cons, forall_eq_or_imp]
    rw [h]
    exact ⟨fun ⟨⟨a, b⟩, c⟩ => ⟨a, b, c⟩, fun ⟨a, b, c⟩ => ⟨⟨a, b⟩, c⟩⟩
theorem gF_ext {l m : List Int} (h : ∀ k : Nat, (∀ x ∈ l, k ∣ x.natAbs) ↔ ∀ x ∈ m, k ∣ x.natAbs) : gF 0 l = gF 0 m := by
  have nl := gF_nn l 0 (by omega)
  have nm := gF_nn m 0 (by omega)
  have e : (gF 0 l).natAbs = (gF 0 m).natAbs := by
    refine Nat.dvd_antisymm ?_ ?_
    · rw [gF_dvd]
      exact ⟨Nat.dvd_zero _, (h _).mp ((gF_dvd _ l 0).mp (Nat.dvd_refl _)).2⟩
    · rw [gF_dvd]
      exact ⟨Nat.dvd_zero _, (h _).mpr ((gF_dvd _ m 0).mp (Nat.dvd_refl _)).2⟩
  omega
theorem gF_rev (l : List Int) : gF 0 l.reverse = gF 0 l := gF_ext fun k => by simp
theorem gF_zero (l : List Int) : gF 0 (l ++ [0]) = gF 0 l := gF_ext fun k => by
  simp only [List.mem_append, List.mem_singleton]
  exact ⟨fun h x hx => h x (.inl hx), fun h x hx => by
    rcases hx with hx | rfl
    · exact h x hx
    · exact Nat.dvd_zero _⟩
theorem gF_snoc : ∀ (l : List Int) (d x : Int), gF d (l ++ [x]) = gcdI (gF d l) x
  | [], d, x => rfl
  | y :: r, d, x => gF_snoc r _ x
theorem gcd_comm (a b : Int) : gcdI a b = gcdI b a := by unfold gcdI; rw [Nat.gcd_comm]
theorem gcd_neg (a b : Int) : gcdI a (-b) = gcdI a b := by unfold gcdI; rw [Int.natAbs_neg]
theorem gF_mem {l : List Int} {x : Int} (h : x ∈ l) : gF 0 l ∣ x := by
  have := ((gF_dvd _ l 0).mp (Nat.dvd_refl _)).2 x h
  exact Int.natAbs_dvd_natAbs.mp this
theorem gcdI_big {a b : Int} (ha : 0 ≤ a) (hb : 0 ≤ b) {M : Int} (h : a < M) (k : b < M) : gcdI a b < M := by
  unfold gcdI
  by_cases h0 : a = 0
  · subst h0
    rw [show (0 : Int).natAbs = 0 from rfl, Nat.gcd_zero_left]
    omega
  · have := Nat.gcd_le_left b.natAbs (show 0 < a.natAbs by omega)
    omega
/-! ### the row drawn -/
def topI : Int := 10 ^ 56
def inRow (x : Int) : Prop := -topI < x ∧ x < topI
theorem inRow_big {x : Int} (h : inRow x) : big x := by
  unfold inRow topI at h
  unfold big
  have : (10 : Int) ^ 56 < 10 ^ 60 := by decide
  omega
section
variable {D : List PV} {F : Int}
theorem dr_turn {n : Nat} {i : PV} {xs : List Int} {g : Int} {s2 s6 : SV} (hF : 1 ≤ F ∧ F ≤ 10 ^ 25) (h : DL n D) (hn : n ≤ 700000000) (k2 : slotV s2) (k6 : slotV s6) (hg : 0 ≤ g ∧ g < topI) (hx : xs.length ≤ 100) :
    ∃ D' o x, turnF (gN 2) l_law_divisors_right_1 i [.bor (.lst D), .val (.int F), s2, .un, .own (.lst (xs.map .int)), .val (.int g), s6] = .ok .nx [.bor (.lst D'), .val (.int F), .val i, .un, .own (.lst ((xs ++ [x]).map .int)), .val (.int (gcdI o g)), .val (.int o)] ∧ DL (n + 10) D' ∧ 0 ≤ o ∧ o < topI ∧ (x = o ∨ x = -o) := by
  obtain ⟨r3, D1, e1, a1, a2, h1⟩ := roll_ok (t := 60) h (by omega) (by omega) (small_t (by omega))
  obtain ⟨r4, D2, e2, a3, a4, h2⟩ := roll_ok (t := 10 ^ 30) h1 (by omega) (by decide) (by decide)
  obtain ⟨d, hd, D3, e3, h3⟩ := pick_ok (items := [.int 0, .int 1, .int r3, .int r4]) h2 (by omega) (by simp) (by simp)
  obtain ⟨m, rfl, m1, m2⟩ : ∃ m : Int, d = .int m ∧ 0 ≤ m ∧ m ≤ 10 ^ 30 := by
    have b : (60 : Int) ≤ 10 ^ 30 := by decide
    simp only [List.mem_cons, List.not_mem_nil, or_false] at hd
    rcases hd with rfl | rfl | rfl | rfl
    · exact ⟨0, rfl, by omega, by omega⟩
    · exact ⟨1, rfl, by omega, by omega⟩
    · exact ⟨_, rfl, a1, by omega⟩
    · exact ⟨_, rfl, a3, by omega⟩
  obtain ⟨r5, D4, e4, a5, a6, h4⟩ := roll_ok (t := 2) h3 (by omega) (by omega) (small_t (by omega))
  have o1 : 0 ≤ F * m := Int.mul_nonneg (by omega) m1
  have o2 : F * m < topI := by
    have h5 : F * m ≤ 10 ^ 25 * 10 ^ 30 := Int.mul_le_mul hF.2 m2 m1 (by decide)
    have : (10 : Int) ^ 25 * 10 ^ 30 < 10 ^ 56 := by decide
    unfold topI
    omega
  have hm : mulOk F m = true := by
    have b1 : (10 : Int) ^ 25 < 10 ^ 26 := by decide
    have b2 : (10 : Int) ^ 30 < 10 ^ 31 := by decide
    exact mulOk_of (abs_lt_of (b := 10 ^ 26) (by omega) (by omega) (by decide)) (abs_lt_of (b := 10 ^ 31) (by omega) (by omega) (by decide))
  obtain ⟨o, ho⟩ : ∃ o, F * m = o := ⟨_, rfl⟩
  rw [ho] at o1 o2
  have ht : topI < 2 ^ 190 := by unfold topI; decide
  have es := shared_ok o1 hg.1 (by omega)
  have e0 : gN 2 i [.bor (.lst D), .val (.int F), s2, .un, .own (.lst (xs.map .int)), .val (.int g), s6] = some [.bor (.lst D), .val (.int F), .val i, .un, .own (.lst (xs.map .int)), .val (.int g), s6] := by rcases k2 with rfl | ⟨z, rfl⟩ <;> simp
  have e2' : F_law_roll [.bor (.lst D1), .val (.int 1000000000000000000000000000000)] = .ok (.val (.int r4)) [.bor (.lst D2), .val (.int 1000000000000000000000000000000)] := e2
  have hb : xs.length < bigN := by unfold bigN; omega
  have s1 : fSet 6 (fBin pMulA (fName 1) (fCallD 2 F_law_pick 0 (fCons (fV (fLst (fCons (fVal (.int 0)) (fCons (fVal (.int 1)) (fCons (fV (fCallD 2 F_law_roll 0 (fCons (fVal (.int 60)) fNil))) (fCons (fV (fCallD 2 F_law_roll 0 (fCons (fBin pPow (fVal (.int 10)) (fVal (.int 30))) fNil))) fNil)))))) fNil))) [.bor (.lst D), .val (.int F), .val i, .un, .own (.lst (xs.map .int)), .val (.int g), s6]
      = .ok .nx [.bor (.lst D3), .val (.int F), .val i, .un, .own (.lst (xs.map .int)), .val (.int g), .val (.int o)] := by
    generalize xs.map PV.int = L
    rcases k6 with rfl | ⟨z, rfl⟩ <;> simp [e1, e2', e3, hm, ho]
  obtain ⟨x, hx2, s2'⟩ : ∃ x, (x = o ∨ x = -o) ∧ fDrop (fAppend 4 (fIfE (fTB (fBin pEq (fCallD 2 F_law_roll 0 (fCons (fVal (.int 2)) fNil)) (fVal (.int 0)))) (fName 6) (fUn pNeg (fName 6)))) [.bor (.lst D3), .val (.int F), .val i, .un, .own (.lst (xs.map .int)), .val (.int g), .val (.int o)]
      = .ok .nx [.bor (.lst D4), .val (.int F), .val i, .un, .own (.lst ((xs ++ [x]).map .int)), .val (.int g), .val (.int o)] := by
    by_cases hr : r5 = 0
    · exact ⟨o, .inl rfl, by simp [e4, hr, hb]⟩
    · exact ⟨-o, .inr rfl, by simp [e4, hr, hb]⟩
  refine ⟨D4, o, x, ?_, h4.mono (by omega), o1, o2, hx2⟩
  have s3 : fSet 5 (fCall 2 F_law_shared (fCons (fV (fName 6)) (fCons (fV (fName 5)) fNil))) [.bor (.lst D4), .val (.int F), .val i, .un, .own (.lst ((xs ++ [x]).map .int)), .val (.int g), .val (.int o)]
      = .ok .nx [.bor (.lst D4), .val (.int F), .val i, .un, .own (.lst ((xs ++ [x]).map .int)), .val (.int (gcdI o g)), .val (.int o)] := by
    generalize (xs ++ [x]).map PV.int = L
    simp [es]
  rw [turnF_eq, e0]
  show l_law_divisors_right_1 _ = _
  unfold l_law_divisors_right_1
  rw [fSeq_ap, s1, seqF_nx, fSeq_ap, s2', seqF_nx, s3]
theorem dr_loop (hF : 1 ≤ F ∧ F ≤ 10 ^ 25) : ∀ (k : Nat) (j : Int) (n : Nat) (D : List PV) (xs : List Int) (s2 s6 : SV), DL n D → n + 10 * k ≤ 700000000 → slotV s2 → slotV s6 → xs.length + k ≤ 100 → (∀ x ∈ xs, inRow x) → gF 0 xs < topI →
    ∃ D' ys s2' s6', forL (rngL j k) (turnF (gN 2) l_law_divisors_right_1) [.bor (.lst D), .val (.int F), s2, .un, .own (.lst (xs.map .int)), .val (.int (gF 0 xs)), s6] = .ok .nx [.bor (.lst D'), .val (.int F), s2', .un, .own (.lst (ys.map .int)), .val (.int (gF 0 ys)), s6'] ∧ DL (n + 10 * k) D' ∧ slotV s2' ∧ slotV s6' ∧ (∀ x ∈ ys, inRow x) ∧ ys.length ≤ 100
  | 0, j, n, D, xs, s2, s6, h, _, k2, k6, hl, hx, _ => ⟨D, xs, s2, s6, rfl, h.mono (by omega), k2, k6, hx, by omega⟩
  | k + 1, j, n, D, xs, s2, s6, h, hn, k2, k6, hl, hx, hg => by
    have g0 := gF_nn xs 0 (by omega)
    obtain ⟨D1, o, x, e, h1, o1, o2, hxo⟩ := dr_turn (F := F) (i := .int j) (xs := xs) hF h (by omega) k2 k6 ⟨g0, hg⟩ (by omega)
    have eg : gcdI o (gF 0 xs) = gF 0 (xs ++ [x]) := by
      rw [gF_snoc, gcd_comm]
      rcases hxo with rfl | rfl
      · rfl
      · rw [gcd_neg]
    rw [eg] at e
    have hx' : ∀ y ∈ xs ++ [x], inRow y := fun y hy => by
      rcases List.mem_append.mp hy with hy | hy
      · exact hx y hy
      · have : y = x := by simpa using hy
        subst this
        unfold inRow
        omega
    obtain ⟨D2, ys, a, b, e2, h2, k3, k4, hy, hyl⟩ := dr_loop hF k (j + 1) (n + 10) D1 (xs ++ [x]) (.val (.int j)) (.val (.int o)) h1 (by omega) (.inr ⟨_, rfl⟩) (.inr ⟨_, rfl⟩) (by simp; omega) hx' (by rw [← eg]; exact gcdI_big o1 g0 o2 hg)
    refine ⟨D2, ys, a, b, ?_, h2.mono (by omega), k3, k4, hy, hyl⟩
    have er : rngL j (k + 1) = .int j :: rngL (j + 1) k := by
      unfold rngL
      rw [List.range_succ_eq_map, List.map_cons, List.map_map]
      simp only [List.cons.injEq]
      refine ⟨by simp, List.map_congr_left fun i _ => ?_⟩
      simp
      omega
    rw [er]
    unfold forL
    rw [e]
    exact e2
theorem dr_1 {n : Nat} (h : DL n D) (hn : n ≤ 600000000) : ∃ D' F, b_law_divisors_right_1 [.bor (.lst D), .un, .un, .un, .un, .un, .un] = .ok .nx [.bor (.lst D'), .val (.int F), .un, .un, .un, .un, .un] ∧ DL (n + 2) D' ∧ 1 ≤ F ∧ F ≤ 10 ^ 25 := by
  obtain ⟨d, hd, D1, e1, h1⟩ := pick_ok (items := [.int 1, .int 12, .int (10 ^ 6), .int (10 ^ 25)]) h (by omega) (by simp) (by simp)
  obtain ⟨m, rfl, m1, m2⟩ : ∃ m : Int, d = .int m ∧ 1 ≤ m ∧ m ≤ 10 ^ 25 := by
    have b : (10 : Int) ^ 6 ≤ 10 ^ 25 := by decide
    have b2 : (12 : Int) ≤ 10 ^ 25 := by decide
    have b3 : (1 : Int) ≤ 10 ^ 6 := by decide
    simp only [List.mem_cons, List.not_mem_nil, or_false] at hd
    rcases hd with rfl | rfl | rfl | rfl
    · exact ⟨1, rfl, by omega, by omega⟩
    · exact ⟨12, rfl, by omega, by omega⟩
    · exact ⟨_, rfl, b3, b⟩
    · exact ⟨_, rfl, by omega, Int.le_refl _⟩
  have ht : m < 10 ^ 100 := by
    have : (10 : Int) ^ 25 < 10 ^ 100 := by decide
    omega
  obtain ⟨r, D2, e2, a1, a2, h2⟩ := roll_ok (t := m) h1 (by omega) (by omega) ht
  have e1' : F_law_pick [.bor (.lst D), .val (.lst [.int 1, .int 12, .int 1000000, .int 10000000000000000000000000])] = .ok (.val (.int m)) [.bor (.lst D1), .val (.lst [.int 1, .int 12, .int 1000000, .int 10000000000000000000000000])] := e1
  refine ⟨D2, 1 + r, ?_, h2.mono (by omega), by omega, by omega⟩
  unfold b_law_divisors_right_1
  simp [e1', e2]
theorem dr_6 {ys : List Int} {g : Int} {s2 s6 : SV} (k2 : slotV s2) (k6 : slotV s6) (hg : 0 ≤ g) (hd : ∀ y ∈ ys, g ∣ y) (hl : ys.length ≤ 100) :
    b_law_divisors_right_6 [.bor (.lst D), .val (.int F), s2, .val (.int g), .own (.lst (ys.map .int)), .val (.int g), s6] = .ok (.rt (.val (.bl true))) [.bor (.lst D), .val (.int F), s2, .val (.int g), .val (.lst (ys.map .int)), .val (.int g), s6] := by
  generalize hL : ys.map PV.int = L
  have hsv : savable [.bor (.lst D), .val (.int F), s2, .val (.int g), .val (.lst L), .val (.int g), s6] [6] = true := by rcases k6 with rfl | ⟨z, rfl⟩ <;> simp
  obtain ⟨ρ', e1, e2⟩ := lcL_skip (vs := [6]) (fg := gN 6) (ft := (fOr (fAnd (fTB (fBin pEq (fName 3) (fVal (.int 0)))) (fTB (fBin pNe (fName 6) (fVal (.int 0))))) (fAnd (fTB (fBin pGt (fName 3) (fVal (.int 0)))) (fTB (fBin pNe (fBin pMod (fApp pInt (fCons (fName 6) fNil)) (fName 3)) (fVal (.int 0))))))) (fe := fName 6) (items := L) (acc := []) (n := 0)
    (ρ := [.bor (.lst D), .val (.int F), s2, .val (.int g), .val (.lst L), .val (.int g), .un]) (P := fun _ ρ => ρ = [.bor (.lst D), .val (.int F), s2, .val (.int g), .val (.lst L), .val (.int g), .un]) rfl
    (fun i d ρ hi hp => by
      subst hp
      rw [← hL, List.getElem?_map] at hi
      obtain ⟨y, hy, rfl⟩ := Option.map_eq_some_iff.mp hi
      have hy' := hd y (List.mem_of_getElem? hy)
      refine ⟨[.bor (.lst D), .val (.int F), s2, .val (.int g), .val (.lst L), .val (.int g), .val (.int y)], [.bor (.lst D), .val (.int F), s2, .val (.int g), .val (.lst L), .val (.int g), .val (.int y)], by simp, ?_, by simp⟩
      by_cases h0 : g = 0
      · subst h0
        have : y = 0 := Int.zero_dvd.mp hy'
        subst this
        simp
      · have h1 : 0 < g := by omega
        have h2 : y % g = 0 := Int.emod_eq_zero_of_dvd hy'
        simp [h0, h1, h2])
  subst e2
  unfold b_law_divisors_right_6
  have hit : fIt (fName 4) [.bor (.lst D), .val (.int F), s2, .val (.int g), .own (.lst L), .val (.int g), s6] = .ok L [.bor (.lst D), .val (.int F), s2, .val (.int g), .val (.lst L), .val (.int g), s6] := by simp
  rw [fRet_ap, fBin_ap, fLc_ap, hit, bind_ok, if_pos hsv]
  have hw : wipeR [.bor (.lst D), .val (.int F), s2, .val (.int g), .val (.lst L), .val (.int g), s6] [6] = [.bor (.lst D), .val (.int F), s2, .val (.int g), .val (.lst L), .val (.int g), .un] := by simp
  rw [hw, e1, bind_ok]
  have hr : restoreR [.bor (.lst D), .val (.int F), s2, .val (.int g), .val (.lst L), .val (.int g), .un] [.bor (.lst D), .val (.int F), s2, .val (.int g), .val (.lst L), .val (.int g), s6] [6] = [.bor (.lst D), .val (.int F), s2, .val (.int g), .val (.lst L), .val (.int g), s6] := by
    rcases k6 with rfl | ⟨z, rfl⟩ <;> rfl
  rw [hr]
  have pe : pEq (.lst []) (.lst []) = vB true := by rfl
  simp [pe]
theorem divisors_ok {n : Nat} (h : DL n D) (hn : n ≤ 600000000) : ∃ D', F_law_divisors_right [.bor (.lst D)] = .ok (.val (.bl true)) [.bor (.lst D')] ∧ DL (n + 60) D' := by
  obtain ⟨D1, F, e1, h1, hF⟩ := dr_1 h hn
  obtain ⟨r, D2, e2, a1, a2, h2⟩ := roll_ok (t := 5) h1 (by omega) (by omega) (small_t (by omega))
  obtain ⟨D3, ys, s2, s6, e3, h3, k2, k6, hy, hyl⟩ := dr_loop (F := F) hF r.toNat 0 (n + 2 + 1) D2 [] .un .un h2 (by omega) (.inl rfl) (.inl rfl) (by simp; omega) (fun x hx => by cases hx) (by show (0 : Int) < topI; unfold topI; decide)
  have okr : okR r = true := by unfold okR; exact decide_eq_true (by omega)
  have q2 : b_law_divisors_right_2 [.bor (.lst D1), .val (.int F), .un, .un, .un, .un, .un] = .ok .nx [.bor (.lst D1), .val (.int F), .un, .un, .own (.lst []), .val (.int 0), .un] := by
    unfold b_law_divisors_right_2
    simp [plainR]
  have q3 : b_law_divisors_right_3 [.bor (.lst D1), .val (.int F), .un, .un, .own (.lst []), .val (.int 0), .un] = .ok .nx [.bor (.lst D3), .val (.int F), s2, .un, .own (.lst (ys.map .int)), .val (.int (gF 0 ys)), s6] := by
    unfold b_law_divisors_right_3
    have hit : fRng1 (fCons (fCallD 2 F_law_roll 0 (fCons (fVal (.int 5)) fNil)) fNil) [.bor (.lst D1), .val (.int F), .un, .un, .own (.lst []), .val (.int 0), .un] = .ok (rngL 0 r.toNat) [.bor (.lst D2), .val (.int F), .un, .un, .own (.lst []), .val (.int 0), .un] := by
      simp [e2, okr]
    rw [fFor_ap, hit, bind_ok]
    exact e3
  have b1 := cd_ok (l := ys) (fun x hx => inRow_big (hy x hx)) (by omega)
  have b2 := cd_ok (l := ys.reverse) (fun x hx => inRow_big (hy x (List.mem_reverse.mp hx))) (by simp; omega)
  have b3 := cd_ok (l := ys ++ [0]) (fun x hx => by
    rcases List.mem_append.mp hx with hx | hx
    · exact inRow_big (hy x hx)
    · have : x = 0 := by simpa using hx
      subst this
      unfold big; decide) (by simp; omega)
  rw [gF_rev] at b2
  rw [gF_zero] at b3
  have gn := gF_nn ys 0 (by omega)
  have gd : ∀ y ∈ ys, gF 0 ys ∣ y := fun y hy => gF_mem hy
  have q6 := dr_6 (D := D3) (F := F) k2 k6 gn gd hyl
  rw [List.map_reverse] at b2
  rw [List.map_append] at b3
  have hlen : (ys.map PV.int).length ≤ 100 := by rw [List.length_map]; exact hyl
  generalize gF 0 ys = g at *
  generalize ys.map PV.int = L at *
  have pt : pTuple [.lst L] = some (.val (.tup L)) := by
    simp
  have q4 : b_law_divisors_right_4 [.bor (.lst D3), .val (.int F), s2, .un, .own (.lst L), .val (.int g), s6] = .ok .nx [.bor (.lst D3), .val (.int F), s2, .val (.int g), .own (.lst L), .val (.int g), s6] := by
    unfold b_law_divisors_right_4
    simp [pt, b1]
  have pr : pTuple [.lst L.reverse] = some (.val (.tup L.reverse)) := by simp
  have hb : L.length + 1 ≤ bigN := by unfold bigN; omega
  have b3' : F_common_divisor [.val (.tup (L ++ [.int 0]))] = .ok (.val (.int g)) [.val (.tup (L ++ [.int 0]))] := b3
  have q5 : b_law_divisors_right_5 [.bor (.lst D3), .val (.int F), s2, .val (.int g), .own (.lst L), .val (.int g), s6] = .ok .nx [.bor (.lst D3), .val (.int F), s2, .val (.int g), .own (.lst L), .val (.int g), s6] := by
    unfold b_law_divisors_right_5
    simp [pt, pr, b2, b3', hb]
  refine ⟨D3, ?_, h3.mono (by omega)⟩
  simp only [F_law_divisors_right, runF]
  rw [if_pos ⟨rfl, rfl⟩]
  simp only [List.cons_append, List.nil_append, show List.replicate (7 - 1) SV.un = [.un, .un, .un, .un, .un, .un] from rfl]
  unfold b_law_divisors_right
  simp only [fSeq_ap, e1, q2, q3, q4, q5, q6, seqF_nx]
  simp
end
end KK

set_option Elab.async false
set_option linter.all false
set_option maxRecDepth 100000
namespace KK
open PySem PySem.Spec L2 TT
section
variable {D : List PV} {p : Int} {B O N R : PV} {t u : Str}
theorem e_6 (h1 : textD O = some t) (k1 : txOk t = true) (h2 : textD N = some u) (k2 : txOk u = true) :
    b_law_errors_right_6 [.bor (.lst D), .val O, .val N, .val R, .own (.lst [.str "prime", .str (ct ++ t), .str "prime", .str (ct ++ u), .str "operation", .str "none"]), .val B, .val (.int p)] = .ok (.rt (.val (.bl true))) [.bor (.lst D), .val O, .val N, .val R, .own (.lst [.str "prime", .str (ct ++ t), .str "prime", .str (ct ++ u), .str "operation", .str "none"]), .val B, .val (.int p)] := by
  have o1 := strOk_app (strOk_of "count ") (txOk_ok k1)
  have o2 := strOk_app (strOk_of "count ") (txOk_ok k2)
  have pe := pEq_txts (ss := [Str.ofString "prime", ct ++ t, Str.ofString "prime", ct ++ u, Str.ofString "operation", Str.ofString "none"]) (by
    show (PyData.strOk (Str.ofString "prime") && (PyData.strOk (Str.ofString "count " ++ t) && (PyData.strOk (Str.ofString "prime") && (PyData.strOk (Str.ofString "count " ++ u) && (PyData.strOk (Str.ofString "operation") && (PyData.strOk (Str.ofString "none") && true)))))) = true
    rw [o1, o2, strOk_of, strOk_of, strOk_of]
    rfl)
  have pe' : pEq (.lst [.str "prime", .str (ct ++ t), .str "prime", .str (ct ++ u), .str "operation", .str "none"]) (.lst [.str "prime", .str (ct ++ t), .str "prime", .str (ct ++ u), .str "operation", .str "none"]) = vB true := pe
  have a1 : ∀ ρ : Rho, ρ[1]? = some (.val O) → fBin pAdd (fVal (.str "count ")) (fApp pReprD (fCons (fName 1) fNil)) ρ = .ok (.val (.str (ct ++ t))) ρ := fun ρ h => by
    have := ct_add k1
    have e : (PV.str (Str.ofString "count ")) = .str ct := rfl
    rw [e]
    generalize ct = c at this ⊢
    simp [h, pReprD_of h1, this]
  have a2 : ∀ ρ : Rho, ρ[2]? = some (.val N) → fBin pAdd (fVal (.str "count ")) (fApp pReprD (fCons (fName 2) fNil)) ρ = .ok (.val (.str (ct ++ u))) ρ := fun ρ h => by
    have := ct_add k2
    have e : (PV.str (Str.ofString "count ")) = .str ct := rfl
    rw [e]
    generalize ct = c at this ⊢
    simp [h, pReprD_of h2, this]
  have a7 := lst_of (ds := [.str "prime", .str (ct ++ t), .str "prime", .str (ct ++ u), .str "operation", .str "none"]) (cons_w (f := fVal (.str "prime")) rfl (cons_v (a1 [.bor (.lst D), .val O, .val N, .val R, .own (.lst [.str "prime", .str (ct ++ t), .str "prime", .str (ct ++ u), .str "operation", .str "none"]), .val B, .val (.int p)] rfl) (cons_w (f := fVal (.str "prime")) rfl (cons_v (a2 [.bor (.lst D), .val O, .val N, .val R, .own (.lst [.str "prime", .str (ct ++ t), .str "prime", .str (ct ++ u), .str "operation", .str "none"]), .val B, .val (.int p)] rfl) (cons_w (f := fVal (.str "operation")) rfl (cons_w (f := fVal (.str "none")) rfl nil_v)))))) (by simp)
  unfold b_law_errors_right_6
  generalize hL : ([.str "prime", .str (ct ++ t), .str "prime", .str (ct ++ u), .str "operation", .str "none"] : List PV) = L at a7 pe' ⊢
  rw [fRet_ap, fBin_ap]
  have e0 : fName 4 [.bor (.lst D), .val O, .val N, .val R, .own (.lst L), .val B, .val (.int p)] = .ok (.ali 4) [.bor (.lst D), .val O, .val N, .val R, .own (.lst L), .val B, .val (.int p)] := rfl
  rw [e0, bind_ok, a7]
  simp [pe']
theorem errors_ok {n : Nat} (h : DL n D) (hn : n ≤ 600000000) : ∃ D', F_law_errors_right [.bor (.lst D)] = .ok (.val (.bl true)) [.bor (.lst D')] ∧ DL (n + 10) D' := by
  obtain ⟨B, hB, D1, e1, h1⟩ := pick_ok (items := badL) h (by omega) (by simp [badL]) (by simp [badL])
  obtain ⟨d, hd, D2, e2, h2⟩ := pick_ok (items := primes.map .int) h1 (by omega) (by simp [primes]) (by simp [primes])
  obtain ⟨p, hp, rfl⟩ := List.mem_map.mp hd
  obtain ⟨O, hO, D3, e3, h3⟩ := pick_ok (items := oddL p) h2 (by omega) (by simp [oddL]) (by simp [oddL])
  obtain ⟨N, hN, D4, e4, h4⟩ := pick_ok (items := noneL) h3 (by omega) (by simp [noneL]) (by simp [noneL])
  obtain ⟨R, hR, D5, e5, h5⟩ := pick_ok (items := rowsL) h4 (by omega) (by simp [rowsL]) (by simp [rowsL])
  obtain ⟨t, t1, t2⟩ := odd_text hp hO
  obtain ⟨u, u1, u2⟩ := none_text hN
  have s1 : b_law_errors_right_1 [.bor (.lst D), .un, .un, .un, .un, .un, .un] = .ok .nx [.bor (.lst D2), .un, .un, .un, .un, .val B, .val (.int p)] := by
    unfold b_law_errors_right_1
    have l1 : fLst (fCons (fVal .non) (fCons (fVal (.int 0)) (fCons (fVal (.int 1)) (fCons (fVal (.int 9)) (fCons (fVal (.int 33)) (fCons (fUn pNeg (fVal (.int 3))) (fCons (fVal (.bl true)) (fCons (fVal (.str "3")) (fCons (fTup (fCons (fVal (.int 3)) fNil)) (fCons (fV (fLst fNil)) fNil)))))))))) [.bor (.lst D), .un, .un, .un, .un, .un, .un] = .ok (.own (.lst badL)) [.bor (.lst D), .un, .un, .un, .un, .un, .un] := by rfl
    generalize fLst (fCons (fVal .non) (fCons (fVal (.int 0)) (fCons (fVal (.int 1)) (fCons (fVal (.int 9)) (fCons (fVal (.int 33)) (fCons (fUn pNeg (fVal (.int 3))) (fCons (fVal (.bl true)) (fCons (fVal (.str "3")) (fCons (fTup (fCons (fVal (.int 3)) fNil)) (fCons (fV (fLst fNil)) fNil)))))))))) = G1 at l1
    have l2 : fApp pList (fCons (fVal (.tup ([2, 3, 5, 7, 11, 13, 17, 19, 23, 29, 31].map .int))) fNil) [.bor (.lst D1), .un, .un, .un, .un, .un, .un] = .ok (.own (.lst (primes.map .int))) [.bor (.lst D1), .un, .un, .un, .un, .un, .un] := by rfl
    generalize fApp pList (fCons (fVal (.tup ([2, 3, 5, 7, 11, 13, 17, 19, 23, 29, 31].map .int))) fNil) = G2 at l2
    generalize badL = L1 at e1 l1
    generalize primes.map PV.int = L2 at e2 l2
    simp [l1, e1, l2, e2]
  have s2 : b_law_errors_right_2 [.bor (.lst D2), .un, .un, .un, .un, .val B, .val (.int p)] = .ok .nx [.bor (.lst D3), .val O, .un, .un, .un, .val B, .val (.int p)] := by
    unfold b_law_errors_right_2
    have l1 : fLst (fCons (fVal .non) (fCons (fUn pNeg (fVal (.int 1))) (fCons (fV (fName 6)) (fCons (fVal (.int 0)) (fCons (fBin pPow (fVal (.int 10)) (fVal (.int 50))) (fCons (fVal (.bl true)) (fCons (fVal (.str "1")) (fCons (fTup (fCons (fVal (.int 1)) fNil)) (fCons (fV (fDct0)) fNil))))))))) [.bor (.lst D2), .un, .un, .un, .un, .val B, .val (.int p)] = .ok (.own (.lst (oddL p))) [.bor (.lst D2), .un, .un, .un, .un, .val B, .val (.int p)] := by rfl
    generalize fLst (fCons (fVal .non) (fCons (fUn pNeg (fVal (.int 1))) (fCons (fV (fName 6)) (fCons (fVal (.int 0)) (fCons (fBin pPow (fVal (.int 10)) (fVal (.int 50))) (fCons (fVal (.bl true)) (fCons (fVal (.str "1")) (fCons (fTup (fCons (fVal (.int 1)) fNil)) (fCons (fV (fDct0)) fNil))))))))) = G1 at l1
    generalize oddL p = L1 at e3 l1
    simp [l1, e3]
  have s3 : b_law_errors_right_3 [.bor (.lst D3), .val O, .un, .un, .un, .val B, .val (.int p)] = .ok .nx [.bor (.lst D4), .val O, .val N, .un, .un, .val B, .val (.int p)] := by
    unfold b_law_errors_right_3
    have l1 : fLst (fCons (fVal .non) (fCons (fVal (.bl true)) (fCons (fVal (.str "1")) (fCons (fTup (fCons (fVal (.int 1)) fNil)) (fCons (fBin pPow (fVal (.int 10)) (fVal (.int 60))) (fCons (fUn pNeg (fBin pPow (fVal (.int 10)) (fVal (.int 60)))) (fCons (fV (fDct0)) (fCons (fV (fLst fNil)) fNil)))))))) [.bor (.lst D3), .val O, .un, .un, .un, .val B, .val (.int p)] = .ok (.own (.lst noneL)) [.bor (.lst D3), .val O, .un, .un, .un, .val B, .val (.int p)] := by rfl
    generalize fLst (fCons (fVal .non) (fCons (fVal (.bl true)) (fCons (fVal (.str "1")) (fCons (fTup (fCons (fVal (.int 1)) fNil)) (fCons (fBin pPow (fVal (.int 10)) (fVal (.int 60))) (fCons (fUn pNeg (fBin pPow (fVal (.int 10)) (fVal (.int 60)))) (fCons (fV (fDct0)) (fCons (fV (fLst fNil)) fNil)))))))) = G1 at l1
    generalize noneL = L1 at e4 l1
    simp [l1, e4]
  have s4 : b_law_errors_right_4 [.bor (.lst D4), .val O, .val N, .un, .un, .val B, .val (.int p)] = .ok .nx [.bor (.lst D5), .val O, .val N, .val R, .un, .val B, .val (.int p)] := by
    unfold b_law_errors_right_4
    have l1 : fLst (fCons (fVal .non) (fCons (fVal (.int 3)) (fCons (fV (fLst (fCons (fVal (.int 1)) (fCons (fVal (.int 2)) fNil)))) (fCons (fTup (fCons (fVal (.int 1)) (fCons (fVal .non) fNil))) (fCons (fTup (fCons (fVal (.int 1)) (fCons (fVal (.bl true)) fNil))) (fCons (fTup (fCons (fVal (.str "1")) fNil)) (fCons (fTup (fCons (fBin pPow (fVal (.int 10)) (fVal (.int 60))) (fCons (fVal (.int 1)) fNil))) (fCons (fV (fDct1 1 2)) (fCons (fVal (.str "12")) (fCons (fTup (fCons (fTup (fCons (fVal (.int 1)) (fCons (fVal (.int 2)) fNil))) fNil)) fNil)))))))))) [.bor (.lst D4), .val O, .val N, .un, .un, .val B, .val (.int p)] = .ok (.own (.lst rowsL)) [.bor (.lst D4), .val O, .val N, .un, .un, .val B, .val (.int p)] := by rfl
    generalize fLst (fCons (fVal .non) (fCons (fVal (.int 3)) (fCons (fV (fLst (fCons (fVal (.int 1)) (fCons (fVal (.int 2)) fNil)))) (fCons (fTup (fCons (fVal (.int 1)) (fCons (fVal .non) fNil))) (fCons (fTup (fCons (fVal (.int 1)) (fCons (fVal (.bl true)) fNil))) (fCons (fTup (fCons (fVal (.str "1")) fNil)) (fCons (fTup (fCons (fBin pPow (fVal (.int 10)) (fVal (.int 60))) (fCons (fVal (.int 1)) fNil))) (fCons (fV (fDct1 1 2)) (fCons (fVal (.str "12")) (fCons (fTup (fCons (fTup (fCons (fVal (.int 1)) (fCons (fVal (.int 2)) fNil))) fNil)) fNil)))))))))) = G1 at l1
    generalize rowsL = L1 at e5 l1
    simp [l1, e5]
  have s5 := e_5 (D := D5) hp hB hO hN hR t1 t2 u1 u2
  have s6 := e_6 (D := D5) (p := p) (B := B) (R := R) t1 t2 u1 u2
  refine ⟨D5, ?_, h5.mono (by omega)⟩
  simp only [F_law_errors_right, runF]
  rw [if_pos ⟨rfl, rfl⟩]
  simp only [List.cons_append, List.nil_append, show List.replicate (7 - 1) SV.un = [.un, .un, .un, .un, .un, .un] from rfl]
  unfold b_law_errors_right
  simp only [fSeq_ap, s1, s2, s3, s4, s5, s6, seqF_nx]
  simp
end
theorem law_turn {ns : List Int} {i : Nat} {s1 s3 : SV} (hn : ns.length ≤ 63) (hi : i ≤ 63) (k1 : slotV s1) (k3 : s3 = .un ∨ ∃ d, s3 = .own (.lst d)) : ∃ D, turnF (gN 1) l_law_1 (.int i) [.val (.scr (ns.map .int)), s1, .un, s3] = .ok .nx [.val (.scr (ns.map .int)), .val (.int i), .un, .own (.lst D)] := by
  obtain ⟨D, e1, h1⟩ := dice_ok (ns := ns) (spot := i) hi hn
  obtain ⟨D1, e2, h2⟩ := residues_ok h1 (by omega)
  obtain ⟨D2, e3, h3⟩ := divisors_ok h2 (by omega)
  obtain ⟨D3, e4, h4⟩ := errors_ok h3 (by omega)
  refine ⟨D3, ?_⟩
  have e0 : gN 1 (.int i) [.val (.scr (ns.map .int)), s1, .un, s3] = some [.val (.scr (ns.map .int)), .val (.int i), .un, s3] := by rcases k1 with rfl | ⟨z, rfl⟩ <;> simp
  rw [turnF_eq, e0]
  show l_law_1 _ = _
  generalize ns.map PV.int = L at *
  unfold l_law_1
  rcases k3 with rfl | ⟨z, rfl⟩ <;> simp [e1, e2, e3, e4]
theorem law_loop {ns : List Int} (hn : ns.length ≤ 63) : ∀ (k i : Nat) (s1 s3 : SV), i + k ≤ 63 → slotV s1 → (s3 = .un ∨ ∃ d, s3 = .own (.lst d)) →
    ∃ s1' s3', forL (rngL i k) (turnF (gN 1) l_law_1) [.val (.scr (ns.map .int)), s1, .un, s3] = .ok .nx [.val (.scr (ns.map .int)), s1', .un, s3']
  | 0, i, s1, s3, _, _, _ => ⟨s1, s3, rfl⟩
  | k + 1, i, s1, s3, hi, k1, k3 => by
    obtain ⟨D, e⟩ := law_turn (i := i) hn (by omega) k1 k3
    obtain ⟨a, b, e2⟩ := law_loop hn k (i + 1) (.val (.int i)) (.own (.lst D)) (by omega) (.inr ⟨_, rfl⟩) (.inr ⟨_, rfl⟩)
    refine ⟨a, b, ?_⟩
    have er : rngL (i : Int) (k + 1) = .int i :: rngL ((i + 1 : Nat) : Int) k := by
      unfold rngL
      rw [List.range_succ_eq_map, List.map_cons, List.map_map]
      simp only [List.cons.injEq]
      refine ⟨by simp, List.map_congr_left fun i _ => ?_⟩
      simp
      omega
    rw [er]
    unfold forL
    rw [e]
    exact e2
theorem law_true : ∀ ns : List Int, ns.length ≤ 63 → ∃ as, F_law [.val (.scr (ns.map .int))] = .ok (.val (.bl true)) as := by
  intro ns hn
  obtain ⟨k, hk, hk3, hok⟩ : ∃ k : Nat, (if (if (ns.length : Int) < 3 then (ns.length : Int) else 3) > 1 then (if (ns.length : Int) < 3 then (ns.length : Int) else 3) else 1) = (k : Int) ∧ k ≤ 3 ∧ okR (k : Int) = true := by
    refine ⟨(if (if (ns.length : Int) < 3 then (ns.length : Int) else 3) > 1 then (if (ns.length : Int) < 3 then (ns.length : Int) else 3) else 1).toNat, by (repeat' split) <;> omega, by (repeat' split) <;> omega, ?_⟩
    unfold okR
    exact decide_eq_true (by (repeat' split) <;> omega)
  obtain ⟨s1, s3, e1⟩ := law_loop hn k 0 .un .un (by omega) (.inl rfl) (.inl rfl)
  have q1 : b_law_1 [.val (.scr (ns.map .int)), .un, .un, .un] = .ok .nx [.val (.scr (ns.map .int)), s1, .un, s3] := by
    unfold b_law_1
    have hit : (fRng1 (fCons (fApp pMax (fCons (fVal (.int 1)) (fCons (fApp pMin (fCons (fVal (.int 3)) (fCons (fApp pLen (fCons (fName 0) fNil)) fNil))) fNil))) fNil)) [.val (.scr (ns.map .int)), .un, .un, .un] = .ok (rngL 0 k) [.val (.scr (ns.map .int)), .un, .un, .un] := by
      simp [hk, hok]
    rw [fFor_ap, hit, bind_ok]
    exact e1
  have q2 : b_law_2 [.val (.scr (ns.map .int)), s1, .un, s3] = .ok .nx [.val (.scr (ns.map .int)), s1, .own (.lst [.int 5, .int 1, .int 1, .int 6]), s3] := by rfl
  have q3 : b_law_3 [.val (.scr (ns.map .int)), s1, .own (.lst [.int 5, .int 1, .int 1, .int 6]), s3] = .ok (.rt (.val (.bl true))) [.val (.scr (ns.map .int)), s1, .own (.lst [.int 5, .int 1, .int 1, .int 6]), s3] := by rfl
  refine ⟨[.val (.scr (ns.map .int))], ?_⟩
  simp only [F_law, runF]
  rw [if_pos ⟨rfl, rfl⟩]
  simp only [List.cons_append, List.nil_append, show List.replicate (4 - 1) SV.un = [.un, .un, .un] from rfl]
  unfold b_law
  simp only [fSeq_ap, q1, q2, q3, seqF_nx]
  simp
end KK

set_option Elab.async false
set_option linter.all false
set_option maxRecDepth 100000
open PySem PySem.Spec PyProof.Rows L2 TT
namespace KK
abbrev RowR : PySem.W.OpenRow := PySem.W.OpenLaw.row PySem.Challenge.rw_touchtowers_k02_whole_residues_and_divis
abbrev asL : List Addr := [3, 6, 0, 51, 64, 76, 95, 52, 65, 77, 96, 100, 4, 107, 114, 121, 128, 135, 142, 149, 154, 161, 168, 175, 182, 189, 196, 203, 208, 215, 222, 93, 105, 112, 119, 126, 133, 140, 147, 152, 159, 166, 173, 180, 187, 194, 201, 206, 213, 220, 91, 106, 113, 120, 127, 134, 141, 148, 153, 160, 167, 174, 181, 188, 195, 202, 207, 214, 221, 53, 97, 102, 109, 116, 123, 130, 137, 144, 151, 156, 163, 170, 177, 184, 191, 198, 205, 217, 92, 88]
abbrev hk : PySem.W.Hook := hookA asL fa fn pn bx ms
def ob (s : PySem.W.SharedT) : AlY := obsA asL fa fn pn bx ms (HandSHeadRun.getT s)
theorem ob_eq (s : PySem.W.SharedT) : ob s = hk.obs s.abs := obsA_eq (HandSHeadRun.getT_eq s)
def loose : List Str := (["TowerError", "InvalidPrime", "InvalidOperation", "InvalidCount", "is_integer", "is_whole", "is_between", "check_between", "is_prime", "check_prime", "residue_inverse", "common_divisor"] : List Str) ++ (["residue_of", "_law_dice", "_law_roll", "_law_pick", "_law_word", "_law_shared", "_law_residues_right", "_law_divisors_right", "_law_errors_right", "PRIMES"] : List Str)
noncomputable abbrev endS (w : World) : Option (Shared × PySem.W.SharedT) := HandSHeadRun.wholeF (fun p => HandSHeadRun.stepQ (HandSHeadRun.denQ HandSHeadRun.tabQ) p w) HandSHeadRun.fenceQ 4000 RowR.prog
abbrev KS (s : Shared × PySem.W.SharedT) : PySem.W.Frag := KA asL (HandSHeadRun.getT s.2)
set_option maxHeartbeats 0 in
theorem run_s (w : World) : (endS w).map (fun s => HandSHeadRun.seenQ (PySem.W.view RowR.prog [0, 26]) loose (importedModules RowR.prog.main.body) (fun s => PySem.W.xlAt (PySem.W.view RowR.prog [0, 26]) [] s && PySem.W.recOk RowR.toRowW.records s) s.2.abs) = some (PySem.W.openGood (PySem.W.view RowR.prog [0, 26]) loose) := by
  kernel_rfl
set_option maxHeartbeats 0 in
theorem run_1 (w : World) : (endS w).map (fun s => ((bx (KS s), okT (KS s) ms && hdT (HandSHeadRun.getT s.2) (KS s) ms), (pn.all fun d => prB (KS s) d), pn.map fun d => prW (KS s) d)) = some ((true, true), true, pn.map He.DefD.val) := by
  kernel_rfl
set_option maxHeartbeats 0 in
theorem run_a0 (w : World) : (endS w).map (fun s => fa.all fun f => f.ok (KS s)) = some true := by
  kernel_rfl
set_option maxHeartbeats 0 in
theorem run_n0 (w : World) : (endS w).map (fun s => (fn.all fun d => d.ok (KS s), fn.map fun d => He.fnW (KS s) d.at_)) = some (true, fn.map He.DefD.val) := by
  kernel_rfl
theorem run_l (w : World) : (endS w).map (fun s => HandSHeadRun.looksF RowR.prog s.1.heap s.2.abs) = some true := by
  kernel_rfl
theorem run_ob (w : World) : (endS w).map (fun s => ob s.2) = some (hk.val w) :=
  show (endS w).map (fun s => obsA asL fa fn pn bx ms (HandSHeadRun.getT s.2)) = some (true, He.valD fn, pn.map He.DefD.val) from
  obsA_of (o := endS w) (G := fun s => HandSHeadRun.getT s.2) (as := asL) (fa := fa) (fn := fn) (pn := pn) (B := bx) (ms := ms) (run_1 w) (run_a0 w) (run_n0 w)
theorem run (w : World) : HandSHeadRun.RunEqI RowR (PySem.W.view RowR.prog [0, 26]) hk ob 4000 loose w := by
  unfold HandSHeadRun.RunEqI
  
  exact trip_of (run_l w) (run_s w) (run_ob w)
theorem facts {l : PySem.W.OpenLaw} {w : World} {K : PySem.W.Frag} {h : Heap} {mg : Str → Option Value} {f : Addr} (X : K.In h) (G : h.Ns mainGlobals mg) (hfa : mg ("law" : Str) = some (.ref f)) (c : SaysT fa fn pn bx ms K h) :
    ∃ (fd : FuncData) (sp : Sp) (cs : List (Addr × Addr)), (∀ (s : Shared) (u : Value), BindsTo s fd ⟨[u], []⟩ [("_law_script", u)]) ∧ (∀ p ∈ cs, h.get? p.2 = some { cls := .none, data := .fields #[] } ∧ K.lookup p.2 = none ∧ PySem.W.CodeHd h p.1 p.2) ∧ (∀ (H : Hp) (a : Addr) (ns : List Int), ns.length ≤ 63 → (∀ p ∈ cs, H p.2 = some (.tbl #[])) → SqL K H a (ns.map V.int) → sp [.ref a] H (fun v _ => v = .bl true) fun _ _ _ => False) ∧ ∀ base : Heap, K.In base → base.Ns mainGlobals mg → (∀ p ∈ cs, LamX.TabB base mg p.1 p.2) → FnOkG l.prog w K mg base CX0 9 f fd ["_law_script"] sp := by
  obtain ⟨fd, F⟩ := c.1.1.def_ (fn.length - 1) rfl
  have e := hfa.symm.trans (He.glo_ok X G (c.1.1.fact 18 (f := .glo "law") rfl))
  cases e
  have b := FunD.bindsA (ps := ["_law_script"]) F fun _ _ _ _ _ _ us hl => match us, hl with | [_], _ => rfl
  refine ⟨fd, fun vs H Q _ => ∃ (a : Addr) (ns : List Int), vs = [.ref a] ∧ (∀ p ∈ csK K ms, H p.2 = some (.tbl #[])) ∧ SqL K H a (ns.map V.int) ∧ ns.length ≤ 63 ∧ ∀ H', Q (.bl true) H', csK K ms, fun s v => b s [v] rfl, fun p hp => ⟨(c.2.2 p hp).1, (c.2.2 p hp).2.1, PySem.W.codeHd_of_K X (c.2.2 p hp).2.2⟩, fun H a ns hl ht hS => ⟨a, ns, rfl, ht, hS, hl, fun _ => rfl⟩, fun base _ _ tb => ?_⟩
  letI : Tabl := ⟨tabT K ms⟩
  exact law_endTG (ms := ms) rfl (law_fn F X G c.1 (tabE_of c.2.1 tb)) law_true
end KK
open PySem PySem.W PySem.Calls PyProof.Rows
set_option maxHeartbeats 0 in
theorem PySem.Challenge.cw_touchtowers_k02_whole_residues_and_divis_holds : PySem.Challenge.rw_touchtowers_k02_whole_residues_and_divis.Holds := by
  w_on; o_law
  refine HandSHeadRun.head_imp (r := OpenLaw.row PySem.Challenge.rw_touchtowers_k02_whole_residues_and_divis) (q := view (OpenLaw.row PySem.Challenge.rw_touchtowers_k02_whole_residues_and_divis).prog [0, 26]) (H := KK.hk) (ob := KK.ob) (M := 4000) (loose := KK.loose) (d := HandSHeadRun.topDef (OpenLaw.row PySem.Challenge.rw_touchtowers_k02_whole_residues_and_divis).prog 26) (kwd := []) KK.ob_eq
    KK.run (by kernel_rfl) (by kernel_rfl) (by kernel_rfl) (by rfl) (by first | assumption | decide +kernel) (by decide +kernel) ⟨rfl, rfl, rfl, rfl, rfl, by decide +kernel⟩ ?hw ?hc
  case hw => w_witness2
  case hc =>
    refine TT.walk_ofTG (l := PySem.Challenge.rw_touchtowers_k02_whole_residues_and_divis) (n := 63) (k := 9) (x := "_law_script") (CX := L2.CX0) rfl (by decide) (by kernel_rfl) ⟨⟨rfl, by decide, by decide⟩, rfl⟩ ?F (fun _ _ _ _ z => z)
    intro w mg fa h Y G hmg0
    obtain ⟨K, KX, c⟩ := Y
    have hmg : mg ("law" : PySem.Str) = some (.ref fa) := by
      have e : (HandSHeadRun.topDef (OpenLaw.row PySem.Challenge.rw_touchtowers_k02_whole_residues_and_divis).prog 26).name = ("law" : PySem.Str) := by kernel_rfl
      rw [← e]
      exact hmg0
    obtain ⟨fd, sp, cs, hb, hc, hsp, hF⟩ := KK.facts (l := PySem.Challenge.rw_touchtowers_k02_whole_residues_and_divis) (w := w) KX G hmg c
    exact ⟨K, fd, sp, cs, KX, hb, hc, hsp, hF⟩
