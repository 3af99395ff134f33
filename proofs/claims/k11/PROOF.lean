import PyProof.Rows.All
import Wide.All
import OpenK.AllK
import Wide.FinOn
import KE.OsRunLaw
import PySem.Challenge.RW_sortreason_k11_whole_arrangements
import HandS.ForMost
import HandS.Star
import HandS.Walk
import HandS.Property
import HandS.IsInst
import HandS.TupAny
import HandS.Deep
import HandS.Wide
import HandS.OwnEq
import KE.KOpsOwn
import HandS.Codes
import HandS.MakeKwOnly
import HandS.ClsMeth
import KE.KSuper
import HandS.Nested
import HandS.ForExc
import HandS.TryOnly
import HandS.Iter
import HandS.ListItems
import KE.KDictList
import HandS.Conv
import HandS.Zip
import KE.GoesZip
import KE.GoesMore
import HandS.GenYield
import HandS.GenList
import KE.KDictPairs
import KE.KItemsList
import HandS.Dict
import HandS.Replace
import HandS.Sort
import PyProof.ListRange
import HandS.Style
import PyProof.EnumMake
import KE.GoesEnum
import PyProof.InstNe
import OpenK.KWalk
import HandS.TupLe
import HandS.RevRange
import HandS.NamedTupSort
set_option Elab.async false
set_option linter.all false
set_option maxRecDepth 100000
set_option maxHeartbeats 1000000
/-! Typed readings over the hand layer: what a piece of the text gives, by what its slots hold, in a heap of which some addresses are set apart. -/
namespace Py
open PySem L2

/-! ### heaps and worlds -/
def Ex (H H' : Hp) : Prop := ∀ a o, H a = some o → H' a = some o
theorem Ex.refl (H : Hp) : Ex H H := fun _ _ h => h
theorem Ex.trans {H H1 H2 : Hp} (a : Ex H H1) (b : Ex H1 H2) : Ex H H2 := fun x o h => b x o (a x o h)
theorem Ex.new {H : Hp} {p : Addr} {o : HO} (h : H p = none) : Ex H (upd H p o) := fun a u e => by
  rw [upd_ne (ne_of_none e h)]
  exact e

/-- addresses set apart, and what holds of them throughout -/
structure World where
  hd : Addr → Prop
  ok : Hp → Prop
  there : ∀ {H : Hp} {a : Addr}, ok H → hd a → H a ≠ none
  keep : ∀ {H H' : Hp}, ok H → (∀ a, hd a → H' a = H a) → ok H'
open Classical in
/-- the heap without them -/
noncomputable def World.vis (W : World) (H : Hp) : Hp := fun a => if W.hd a then none else H a
section
variable {W : World} {H H' : Hp} {p : Addr} {o : HO}
theorem World.sub (W : World) (H : Hp) : Ex (W.vis H) H := fun a u e => by
  unfold World.vis at e
  split at e
  · cases e
  · exact e
theorem World.seen (h : ¬ W.hd p) : W.vis H p = H p := if_neg h
theorem World.free (k : W.ok H) (h : H p = none) : ¬ W.hd p := fun z => W.there k z h
theorem World.visNone (h : H p = none) : W.vis H p = none := by
  unfold World.vis
  split
  · rfl
  · exact h
theorem World.okEx (k : W.ok H) (e : Ex H H') : W.ok H' := W.keep k fun a z => by
  cases q : H a with
  | none => exact absurd q (W.there k z)
  | some u => exact e a u q
theorem World.visEx (k : W.ok H) (e : Ex H H') : Ex (W.vis H) (W.vis H') := fun a u q => by
  unfold World.vis at q ⊢
  split at q
  · cases q
  · rename_i z
    rw [if_neg z]
    exact e a u q
theorem World.okNew (k : W.ok H) (h : H p = none) : W.ok (upd H p o) := World.okEx k (Ex.new h)
theorem World.visNew (k : W.ok H) (h : H p = none) : W.vis (upd H p o) = upd (W.vis H) p o := by
  funext a
  unfold World.vis upd
  by_cases z : a = p
  · subst z
    rw [if_neg (World.free k h), if_pos rfl, if_pos rfl]
  · rw [if_neg z, if_neg z]
end
/-- nothing is set apart -/
def World.all : World := ⟨fun _ => False, fun _ => True, fun _ z => z.elim, fun _ _ => trivial⟩

/-! ### what a value stands for -/
structure Rep where
  p : V → Hp → Prop
  mono : ∀ {v : V} {H H' : Hp}, Ex H H' → p v H → p v H'
def rV (x : V) : Rep := ⟨fun v _ => v = x, fun _ h => h⟩
abbrev rInt (i : Int) : Rep := rV (.int i)
abbrev rStr (z : Str) : Rep := rV (.str z)
abbrev rBl (b : Bool) : Rep := rV (.bl b)
abbrev rNon : Rep := rV .non
abbrev rRef (a : Addr) : Rep := rV (.ref a)
abbrev rTy (n : String) : Rep := rV (.ty n)
def rEx {α : Type} (f : α → Rep) : Rep := ⟨fun v H => ∃ a, (f a).p v H, fun e ⟨a, h⟩ => ⟨a, (f a).mono e h⟩⟩
def Reps : List Rep → List V → Hp → Prop
  | [], [], _ => True
  | r :: rs, x :: xs, H => r.p x H ∧ Reps rs xs H
  | _, _, _ => False
theorem Reps.mono : ∀ {rs : List Rep} {xs : List V} {H H' : Hp}, Ex H H' → Reps rs xs H → Reps rs xs H'
  | [], [], _, _, _, _ => trivial
  | r :: _, _ :: _, _, _, e, h => ⟨r.mono e h.1, Reps.mono e h.2⟩
  | [], _ :: _, _, _, _, h => h.elim
  | _ :: _, [], _, _, _, h => h.elim
theorem Reps.len : ∀ {rs : List Rep} {xs : List V} {H : Hp}, Reps rs xs H → rs.length = xs.length
  | [], [], _, _ => rfl
  | _ :: _, _ :: _, _, h => congrArg Nat.succ (Reps.len h.2)
  | [], _ :: _, _, h => h.elim
  | _ :: _, [], _, h => h.elim
theorem Reps.get : ∀ {rs : List Rep} {xs : List V} {H : Hp} {i : Nat} {r : Rep}, Reps rs xs H → rs[i]? = some r → ∃ x, xs[i]? = some x ∧ r.p x H
  | [], _, _, i, _, _, e => by simp at e
  | r :: _, x :: _, _, 0, _, h, e => by
    simp at e
    subst e
    exact ⟨x, rfl, h.1⟩
  | _ :: rs, _ :: xs, _, i + 1, r, h, e => by
    obtain ⟨x, h1, h2⟩ := Reps.get (i := i) h.2 (by simpa using e)
    exact ⟨x, by simpa using h1, h2⟩
  | _ :: _, [], _, _, _, h, _ => h.elim
theorem Reps.get' {rs : List Rep} {xs : List V} {H : Hp} {i : Nat} {x : V} (h : Reps rs xs H) (e : xs[i]? = some x) : ∃ r, rs[i]? = some r ∧ r.p x H := by
  have hi : i < rs.length := by
    rw [h.len]
    exact (List.getElem?_eq_some_iff.mp e).1
  obtain ⟨y, h1, h2⟩ := h.get (List.getElem?_eq_getElem hi)
  rw [e] at h1
  cases h1
  exact ⟨_, List.getElem?_eq_getElem hi, h2⟩
theorem reps0 {xs : List V} {H : Hp} (h : Reps [] xs H) : xs = [] := by
  cases xs with
  | nil => rfl
  | cons _ _ => exact h.elim
theorem reps1 {r : Rep} {xs : List V} {H : Hp} (h : Reps [r] xs H) : ∃ x, xs = [x] ∧ r.p x H := by
  cases xs with
  | nil => exact h.elim
  | cons x xs =>
    obtain ⟨h1, h2⟩ := h
    rw [reps0 h2]
    exact ⟨x, rfl, h1⟩
theorem reps2 {r r' : Rep} {xs : List V} {H : Hp} (h : Reps [r, r'] xs H) : ∃ x y, xs = [x, y] ∧ r.p x H ∧ r'.p y H := by
  cases xs with
  | nil => exact h.elim
  | cons x xs =>
    obtain ⟨h1, h2⟩ := h
    obtain ⟨y, rfl, h3⟩ := reps1 h2
    exact ⟨x, y, rfl, h1, h3⟩
theorem reps3 {r r' r'' : Rep} {xs : List V} {H : Hp} (h : Reps [r, r', r''] xs H) : ∃ x y z, xs = [x, y, z] ∧ r.p x H ∧ r'.p y H ∧ r''.p z H := by
  cases xs with
  | nil => exact h.elim
  | cons x xs =>
    obtain ⟨h1, h2⟩ := h
    obtain ⟨y, z, rfl, h3⟩ := reps2 h2
    exact ⟨x, y, z, rfl, h1, h3⟩
theorem Reps.app : ∀ {rs rs' : List Rep} {xs ys : List V} {H : Hp}, Reps rs xs H → Reps rs' ys H → Reps (rs ++ rs') (xs ++ ys) H
  | [], _, [], _, _, _, k => k
  | _ :: _, _, _ :: _, _, _, h, k => ⟨h.1, Reps.app h.2 k⟩
  | [], _, _ :: _, _, _, h, _ => h.elim
  | _ :: _, _, [], _, _, h, _ => h.elim
theorem Reps.snoc {rs : List Rep} {r : Rep} {xs : List V} {x : V} {H : Hp} (h : Reps rs xs H) (k : r.p x H) : Reps (rs ++ [r]) (xs ++ [x]) H := h.app ⟨k, trivial⟩
theorem sqT_mono {K : PySem.W.Frag} {H H' : Hp} {a : Addr} {xs : List V} (e : Ex H H') (h : SqT K H a xs) : SqT K H' a xs :=
  h.elim (fun h => .inl (h.elim (fun h => .inl (e _ _ h)) fun ⟨o, h⟩ => .inr ⟨o, e _ _ h⟩)) fun h => .inr h
theorem sqL_mono {K : PySem.W.Frag} {H H' : Hp} {a : Addr} {xs : List V} (e : Ex H H') (h : SqL K H a xs) : SqL K H' a xs :=
  h.elim (fun h => .inl (h.elim (fun h => .inl (e _ _ h)) fun ⟨o, h⟩ => .inr ⟨o, e _ _ h⟩)) fun h => .inr h
/-- a tuple, a new list, a list to be read -/
def rTup (K : PySem.W.Frag) (rs : List Rep) : Rep := ⟨fun v H => ∃ a xs, v = .ref a ∧ SqT K H a xs ∧ Reps rs xs H, fun e ⟨a, xs, h1, h2, h3⟩ => ⟨a, xs, h1, sqT_mono e h2, h3.mono e⟩⟩
def rLst (rs : List Rep) : Rep := ⟨fun v H => ∃ a xs, v = .ref a ∧ H a = some (.lst xs) ∧ Reps rs xs H, fun e ⟨a, xs, h1, h2, h3⟩ => ⟨a, xs, h1, e _ _ h2, h3.mono e⟩⟩
def rSeq (K : PySem.W.Frag) (rs : List Rep) : Rep := ⟨fun v H => ∃ a xs, v = .ref a ∧ SqL K H a xs ∧ Reps rs xs H, fun e ⟨a, xs, h1, h2, h3⟩ => ⟨a, xs, h1, sqL_mono e h2, h3.mono e⟩⟩
/-- an instance and its fields -/
def Flds : List (Str × Rep) → List (Str × V) → Hp → Prop
  | [], [], _ => True
  | (n, r) :: fs, (m, x) :: gs, H => n = m ∧ r.p x H ∧ Flds fs gs H
  | _, _, _ => False
theorem Flds.mono : ∀ {fs : List (Str × Rep)} {gs : List (Str × V)} {H H' : Hp}, Ex H H' → Flds fs gs H → Flds fs gs H'
  | [], [], _, _, _, _ => trivial
  | (_, r) :: _, (_, _) :: _, _, _, e, h => ⟨h.1, r.mono e h.2.1, Flds.mono e h.2.2⟩
  | [], _ :: _, _, _, _, h => h.elim
  | _ :: _, [], _, _, _, h => h.elim
theorem Flds.look : ∀ {fs : List (Str × Rep)} {gs : List (Str × V)} {H : Hp} {f : Str} {r : Rep}, Flds fs gs H → fs.lookup f = some r → ∃ x, gs.lookup f = some x ∧ r.p x H
  | [], _, _, _, _, _, e => by cases e
  | (n, r) :: fs, (m, x) :: gs, H, f, r', h, e => by
    obtain ⟨h1, h2, h3⟩ := h
    subst h1
    rw [List.lookup_cons] at e ⊢
    split at e
    · cases e
      exact ⟨x, rfl, h2⟩
    · exact Flds.look h3 e
  | _ :: _, [], _, _, _, h, _ => h.elim
theorem Flds.no : ∀ {fs : List (Str × Rep)} {gs : List (Str × V)} {H : Hp} {f : Str}, Flds fs gs H → fs.lookup f = none → gs.lookup f = none
  | [], [], _, _, _, _ => rfl
  | (n, r) :: fs, (m, x) :: gs, H, f, h, e => by
    obtain ⟨h1, h2, h3⟩ := h
    subst h1
    rw [List.lookup_cons] at e ⊢
    split at e
    · cases e
    · exact Flds.no h3 e
  | [], _ :: _, _, _, h, _ => h.elim
  | _ :: _, [], _, _, h, _ => h.elim
def rIns (C : Addr) (fs : List (Str × Rep)) : Rep := ⟨fun v H => ∃ a dx gs, v = .ref a ∧ H a = some (.ins C dx gs) ∧ Flds fs gs H, fun e ⟨a, dx, gs, h1, h2, h3⟩ => ⟨a, dx, gs, h1, e _ _ h2, h3.mono e⟩⟩

/-! ### plain data -/
mutual
theorem dp_mono {K : PySem.W.Frag} {H H' : Hp} (e : Ex H H') : ∀ {v : V} {d : PyData}, Dp K H v d → Dp K H' v d
  | _, _, .non => .non
  | _, _, .bl b => .bl b
  | _, _, .int i => .int i
  | _, _, .str x => .str x
  | _, _, .lst h k => .lst (sqL_mono e h) (dpAll_mono e k)
  | _, _, .tup h k => .tup (sqT_mono e h) (dpAll_mono e k)
theorem dpAll_mono {K : PySem.W.Frag} {H H' : Hp} (e : Ex H H') : ∀ {vs : List V} {ds : List PyData}, DpAll K H vs ds → DpAll K H' vs ds
  | _, _, .nil => .nil
  | _, _, .cons h k => .cons (dp_mono e h) (dpAll_mono e k)
end
def rD (K : PySem.W.Frag) (d : PyData) : Rep := ⟨fun v H => Dp K H v d, fun e h => dp_mono e h⟩
section
variable {K : PySem.W.Frag} {H : Hp} {v : V}
theorem rD_int {i : Int} : (rD K (.int i)).p v H ↔ v = .int i := ⟨fun h => by cases h; rfl, fun h => by subst h; exact Dp.int i⟩
theorem rD_str {i : Str} : (rD K (.str i)).p v H ↔ v = .str i := ⟨fun h => by cases h; rfl, fun h => by subst h; exact Dp.str i⟩
theorem rD_bl {i : Bool} : (rD K (.bool i)).p v H ↔ v = .bl i := ⟨fun h => by cases h; rfl, fun h => by subst h; exact Dp.bl i⟩
theorem rD_non : (rD K .none).p v H ↔ v = .non := ⟨fun h => by cases h; rfl, fun h => by subst h; exact Dp.non⟩
theorem dpAll_reps : ∀ {xs : List V} {ds : List PyData}, DpAll K H xs ds ↔ Reps (ds.map (rD K)) xs H
  | [], [] => ⟨fun _ => trivial, fun _ => .nil⟩
  | x :: xs, d :: ds => ⟨fun h => by cases h with | cons a b => exact ⟨a, dpAll_reps.mp b⟩, fun h => .cons h.1 (dpAll_reps.mpr h.2)⟩
  | [], _ :: _ => ⟨fun h => (by cases h), fun h => h.elim⟩
  | _ :: _, [] => ⟨fun h => (by cases h), fun h => h.elim⟩
theorem rD_tup {ds : List PyData} : (rD K (.tuple ds)).p v H ↔ (rTup K (ds.map (rD K))).p v H :=
  ⟨fun h => by cases h with | tup a b => exact ⟨_, _, rfl, a, dpAll_reps.mp b⟩, fun ⟨a, xs, h1, h2, h3⟩ => by subst h1; exact Dp.tup h2 (dpAll_reps.mpr h3)⟩
theorem rD_lst {ds : List PyData} : (rD K (.list ds)).p v H ↔ (rSeq K (ds.map (rD K))).p v H :=
  ⟨fun h => by cases h with | lst a b => exact ⟨_, _, rfl, a, dpAll_reps.mp b⟩, fun ⟨a, xs, h1, h2, h3⟩ => by subst h1; exact Dp.lst h2 (dpAll_reps.mpr h3)⟩
end

/-! ### slots -/
abbrev Rs := List (Option Rep)
def Sg : Rs → St → Hp → Prop
  | [], [], _ => True
  | some r :: rs, x :: σ, H => (∃ v, x = some v ∧ r.p v H) ∧ Sg rs σ H
  | none :: rs, _ :: σ, H => Sg rs σ H
  | _, _, _ => False
theorem Sg.mono : ∀ {rs : Rs} {σ : St} {H H' : Hp}, Ex H H' → Sg rs σ H → Sg rs σ H'
  | [], [], _, _, _, _ => trivial
  | some r :: _, _ :: _, _, _, e, ⟨⟨v, h1, h2⟩, h3⟩ => ⟨⟨v, h1, r.mono e h2⟩, Sg.mono e h3⟩
  | none :: rs, _ :: σ, H, H', e, h => Sg.mono (rs := rs) (σ := σ) (H := H) (H' := H') e h
  | [], _ :: _, _, _, _, h => h.elim
  | some _ :: _, [], _, _, _, h => h.elim
  | none :: _, [], _, _, _, h => h.elim
theorem Sg.len : ∀ {rs : Rs} {σ : St} {H : Hp}, Sg rs σ H → rs.length = σ.length
  | [], [], _, _ => rfl
  | some _ :: _, _ :: _, _, h => congrArg Nat.succ (Sg.len h.2)
  | none :: rs, _ :: σ, H, h => congrArg Nat.succ (Sg.len (rs := rs) (σ := σ) (H := H) h)
  | [], _ :: _, _, h => h.elim
  | some _ :: _, [], _, h => h.elim
  | none :: _, [], _, h => h.elim
theorem Sg.get : ∀ {rs : Rs} {σ : St} {H : Hp} {i : Nat} {r : Rep}, Sg rs σ H → rs[i]? = some (some r) → ∃ v, σ[i]? = some (some v) ∧ r.p v H
  | [], _, _, i, _, _, e => by simp at e
  | some r :: _, x :: _, _, 0, _, h, e => by
    simp at e
    subst e
    obtain ⟨⟨v, h1, h2⟩, _⟩ := h
    subst h1
    exact ⟨v, rfl, h2⟩
  | none :: _, x :: _, _, 0, _, h, e => by simp at e
  | some _ :: rs, _ :: xs, _, i + 1, r, h, e => by
    obtain ⟨x, h1, h2⟩ := Sg.get (i := i) h.2 (by simpa using e)
    exact ⟨x, by simpa using h1, h2⟩
  | none :: rs, _ :: xs, H, i + 1, r, h, e => by
    obtain ⟨x, h1, h2⟩ := Sg.get (rs := rs) (σ := xs) (H := H) (i := i) h (by simpa using e)
    exact ⟨x, by simpa using h1, h2⟩
  | some _ :: _, [], _, _, _, h, _ => h.elim
  | none :: _, [], _, _, _, h, _ => h.elim
theorem Sg.set : ∀ {rs : Rs} {σ : St} {H : Hp} {i : Nat} {r : Rep} {v : V}, Sg rs σ H → r.p v H → Sg (rs.set i (some r)) (σ.set i (some v)) H
  | [], [], _, _, _, _, _, _ => trivial
  | some _ :: _, _ :: _, _, 0, _, v, h, k => ⟨⟨v, rfl, k⟩, h.2⟩
  | none :: rs, _ :: σ, H, 0, _, v, h, k => ⟨⟨v, rfl, k⟩, h⟩
  | some _ :: rs, _ :: σ, H, i + 1, r, v, h, k => ⟨h.1, Sg.set (i := i) h.2 k⟩
  | none :: rs, _ :: σ, H, i + 1, r, v, h, k => Sg.set (rs := rs) (σ := σ) (H := H) (i := i) h k
  | [], _ :: _, _, _, _, _, h, _ => h.elim
  | some _ :: _, [], _, _, _, _, h, _ => h.elim
  | none :: _, [], _, _, _, _, h, _ => h.elim
theorem Sg.nones : ∀ {n : Nat} {H : Hp}, Sg (List.replicate n none) (List.replicate n none) H
  | 0, _ => trivial
  | n + 1, H => Sg.nones (n := n) (H := H)
theorem Sg.of : ∀ {rs : List Rep} {vs : List V} {H : Hp} (n : Nat), Reps rs vs H → Sg (rs.map some ++ List.replicate n none) (vs.map some ++ List.replicate n none) H
  | [], [], _, n, _ => Sg.nones
  | _ :: _, v :: _, _, n, h => ⟨⟨v, rfl, h.1⟩, Sg.of n h.2⟩
  | [], _ :: _, _, _, h => h.elim
  | _ :: _, [], _, _, h => h.elim
/-- slots forgotten -/
def Sg.le (rs' rs : Rs) : Prop := rs'.length = rs.length ∧ ∀ (i : Nat) (r' : Rep), rs'[i]? = some (some r') → ∃ r, rs[i]? = some (some r) ∧ ∀ v H, r.p v H → r'.p v H
end Py
namespace Py
open PySem L2

/-! ### the readings -/
def tW (W : World) (rs : Rs) (r : Rep) : TE := fun σ H Q => W.ok H ∧ Sg rs σ (W.vis H) ∧ ∀ v H', W.ok H' → Ex (W.vis H) (W.vis H') → r.p v (W.vis H') → Q v H'
def tWT (W : World) (rs : Rs) (b : Bool) : TT := fun σ H Q => W.ok H ∧ Sg rs σ (W.vis H) ∧ ∀ H', W.ok H' → Ex (W.vis H) (W.vis H') → Q b H'
def tWA (W : World) (rs : Rs) (rl : List Rep) : TA := fun σ H Q => W.ok H ∧ Sg rs σ (W.vis H) ∧ ∀ vs H', W.ok H' → Ex (W.vis H) (W.vis H') → Reps rl vs (W.vis H') → Q vs H'
/-- what a target makes of the slots, given a value -/
def gW (W : World) (rs : Rs) (r : Rep) (rs' : Rs) : TG := fun v σ H Q => W.ok H ∧ Sg rs σ (W.vis H) ∧ r.p v (W.vis H) ∧ ∀ σ' H', W.ok H' → Ex (W.vis H) (W.vis H') → Sg rs' σ' (W.vis H') → Q σ' H'
def gWs (W : World) (rs : Rs) (rl : List Rep) (rs' : Rs) : TGs := fun vs σ H Q => W.ok H ∧ Sg rs σ (W.vis H) ∧ Reps rl vs (W.vis H) ∧ ∀ σ' H', W.ok H' → Ex (W.vis H) (W.vis H') → Sg rs' σ' (W.vis H') → Q σ' H'
structure Outs where
  res : Rep
  nx : Option Rs := none
  bk : Option Rs := none
  ct : Option Rs := none
def Outs.to (O : Outs) (N : Rs) : Outs := { O with nx := some N }
def Goes (W : World) (H : Hp) (o : Option Rs) (k : St → Hp → Prop) : Prop := ∀ N, o = some N → ∀ σ' H', W.ok H' → Ex (W.vis H) (W.vis H') → Sg N σ' (W.vis H') → k σ' H'
def sW (W : World) (rs : Rs) (O : Outs) : TS := fun D σ H => W.ok H ∧ Sg rs σ (W.vis H) ∧ (∀ v H', W.ok H' → Ex (W.vis H) (W.vis H') → O.res.p v (W.vis H') → D.rt v H') ∧ Goes W H O.nx D.nx ∧ Goes W H O.bk D.bk ∧ Goes W H O.ct D.ct
/-- what an iterable gives: n items, the i-th as item i says; it may lie in a new object -/
def iW (W : World) (rs : Rs) (n : Nat) (item : Nat → Rep) : TI := fun σ H R => W.ok H ∧ Sg rs σ (W.vis H) ∧ ∀ (J : It) (G : Hp → Prop) (Y : Nat → Hp → V → Hp → Prop) (H1 : Hp), Walk J n G Y → W.ok H1 → Ex (W.vis H) (W.vis H1) →
  (∀ H2, W.ok H2 → Ex (W.vis H1) (W.vis H2) → G H2) → (∀ i x H2 H3, i < n → Y i H2 x H3 → (H3 = H2 ∧ ∀ G2, Ex (W.vis H1) G2 → Ex G2 H2 → (item i).p x G2) ∨ ∃ T o, H2 T = none ∧ H3 = upd H2 T o ∧ ∀ G2, Ex (W.vis H1) G2 → Ex G2 H2 → (item i).p x (upd G2 T o)) → R J H1

abbrev Ew (X : Cx) (W : World) (rs : Rs) (e : Expr) (r : Rep) : Prop := PE X e (tW W rs r)
abbrev Tw (X : Cx) (W : World) (rs : Rs) (e : Expr) (b : Bool) : Prop := PT X e (tWT W rs b)
abbrev Lw (X : Cx) (W : World) (rs : Rs) (e : Expr) (b : Bool) : Prop := PW X e (tWT W rs b)
abbrev Aw (X : Cx) (W : World) (rs : Rs) (es : List Expr) (rl : List Rep) : Prop := PA X es (tWA W rs rl)
abbrev Gw (X : Cx) (W : World) (rs : Rs) (tg : Expr) (r : Rep) (rs' : Rs) : Prop := PG X tg (gW W rs r rs')
abbrev Gws (X : Cx) (W : World) (rs : Rs) (tgs : List Expr) (rl : List Rep) (rs' : Rs) : Prop := PGs X tgs (gWs W rs rl rs')
abbrev Sw (X : Cx) (W : World) (rs : Rs) (st : Stmt) (O : Outs) : Prop := PS X st (sW W rs O)
abbrev Bw (X : Cx) (W : World) (rs : Rs) (sts : List Stmt) (O : Outs) : Prop := PSs X sts (sW W rs O)
abbrev Iw (X : Cx) (W : World) (rs : Rs) (tg it : Expr) (n : Nat) (item : Nat → Rep) : Prop := PI X tg it (iW W rs n item)

/-! ### weakening a reading -/
section
variable {X : Cx}
theorem pe_cs {e : Expr} {t t' : TE} (h : PE X e t) (k : ∀ σ H Q, t' σ H Q → t σ H Q) : PE X e t' := ⟨fun pins s σ H Q I q => h.run pins s σ H Q I (k σ H Q q)⟩
theorem pt_cs {e : Expr} {t t' : TT} (h : PT X e t) (k : ∀ σ H Q, t' σ H Q → t σ H Q) : PT X e t' := ⟨fun pins s σ H Q I q => h.run pins s σ H Q I (k σ H Q q)⟩
theorem pw_cs {e : Expr} {t t' : TT} (h : PW X e t) (k : ∀ σ H Q, t' σ H Q → t σ H Q) : PW X e t' := ⟨fun wh pins s σ H Q I q => h.run wh pins s σ H Q I (k σ H Q q)⟩
theorem pa_cs {es : List Expr} {t t' : TA} (h : PA X es t) (k : ∀ σ H Q, t' σ H Q → t σ H Q) : PA X es t' := ⟨fun pos pins s σ H Q I q => h.run pos pins s σ H Q I (k σ H Q q)⟩
theorem ps_cs {st : Stmt} {t t' : TS} (h : PS X st t) (k : ∀ D σ H, t' D σ H → t D σ H) : PS X st t' := ⟨fun pins s σ H D I q => h.run pins s σ H D I (k D σ H q)⟩
theorem pss_cs {st : List Stmt} {t t' : TS} (h : PSs X st t) (k : ∀ D σ H, t' D σ H → t D σ H) : PSs X st t' := ⟨fun pins s σ H D I q => h.run pins s σ H D I (k D σ H q)⟩
theorem pg_cs {e : Expr} {t t' : TG} (h : PG X e t) (k : ∀ v σ H Q, t' v σ H Q → t v σ H Q) : PG X e t' := ⟨fun pins s σ H v u Q I r q => h.run pins s σ H v u Q I r (k v σ H Q q)⟩
theorem pgs_cs {es : List Expr} {t t' : TGs} (h : PGs X es t) (k : ∀ v σ H Q, t' v σ H Q → t v σ H Q) : PGs X es t' := ⟨fun pins s σ H v u Q I r q => h.run pins s σ H v u Q I r (k v σ H Q q)⟩
theorem pi_cs {tg e : Expr} {t t' : TI} (h : PI X tg e t) (k : ∀ σ H R, t' σ H R → t σ H R) : PI X tg e t' := ⟨fun pins s σ H R I q => h.run pins s σ H R I (k σ H R q)⟩
end

section
variable {X : Cx} {W : World} {rs : Rs} {a b e : Expr} {r ra rb rc : Rep} {pos : Pos}
/-! ### names and constants -/
theorem ew_name (i : Nat) {x : Str} (hr : rs[i]? = some (some r)) (h : PE X (.Name x pos) (tVar i)) : Ew X W rs (.Name x pos) r :=
  pe_cs h fun σ H Q ⟨k, g, q⟩ => let ⟨v, e, p⟩ := g.get hr; ⟨v, e, q v H k (Ex.refl _) p⟩
theorem ew_c {v : V} (h : PE X e (tC v)) (hr : ∀ H, r.p v H) : Ew X W rs e r := pe_cs h fun σ H Q ⟨k, g, q⟩ => q v H k (Ex.refl _) (hr _)
theorem ew_int {i : Int} {j : Nat} : Ew X W rs (.Constant (.int i) j pos) (rD X.K (.int i)) := ew_c pe_int fun _ => Dp.int i
theorem ew_bl {i : Bool} {j : Nat} : Ew X W rs (.Constant (.bool i) j pos) (rD X.K (.bool i)) := ew_c pe_bl fun _ => Dp.bl i
theorem ew_str {i : Str} {j : Nat} : Ew X W rs (.Constant (.str i) j pos) (rD X.K (.str i)) := ew_c pe_str fun _ => Dp.str i
theorem ew_non {j : Nat} : Ew X W rs (.Constant .none j pos) (rD X.K .none) := ew_c pe_non fun _ => Dp.non
theorem ew_sub (h : Ew X W rs e r) (k : ∀ v H, r.p v H → ra.p v H) : Ew X W rs e ra := pe_cs h fun σ H Q ⟨o, g, q⟩ => ⟨o, g, fun v H' o' x p => q v H' o' x (k v _ p)⟩
theorem ew_in {α : Type} {f : α → Rep} (c : α) (h : Ew X W rs e (f c)) : Ew X W rs e (rEx f) := ew_sub h fun _ _ p => ⟨c, p⟩
/-! ### two-place operations -/
def R2w (W : World) (f : R2) (rx ry rz : Rep) : Prop := ∀ x y H, W.ok H → rx.p x (W.vis H) → ry.p y (W.vis H) → ∀ Q : VK, (∀ v H', W.ok H' → Ex (W.vis H) (W.vis H') → rz.p v (W.vis H') → Q v H') → f x y H Q
theorem R2w.exl {α : Type} {f : R2} {g : α → Rep} (h : ∀ c, R2w W f (g c) rb rc) : R2w W f (rEx g) rb rc := fun x y H k ⟨c, p⟩ q => h c x y H k p q
theorem R2w.exr {α : Type} {f : R2} {g : α → Rep} (h : ∀ c, R2w W f ra (g c) rc) : R2w W f ra (rEx g) rc := fun x y H k p ⟨c, q⟩ => h c x y H k p q
/-- nothing but a value comes out -/
theorem R2w.val {f : R2} (h : ∀ x y H, W.ok H → ra.p x (W.vis H) → rb.p y (W.vis H) → ∃ z, rc.p z (W.vis H) ∧ ∀ Q : VK, Q z H → f x y H Q) : R2w W f ra rb rc := fun x y H k p q Q n => by
  obtain ⟨z, h1, h2⟩ := h x y H k p q
  exact h2 Q (n z H k (Ex.refl _) h1)
theorem two (ha : Ew X W rs a ra) (hb : Ew X W rs b rb) {f : R2} (hf : R2w W f ra rb rc) {σ : St} {H : Hp} {Q : VK} (h : tW W rs rc σ H Q) : tOp f (tW W rs ra) (tW W rs rb) σ H Q := by
  obtain ⟨k, g, q⟩ := h
  refine ⟨k, g, fun x H1 k1 e1 p1 => ⟨k1, g.mono e1, fun y H2 k2 e2 p2 => ?_⟩⟩
  exact hf x y H2 k2 (ra.mono e2 p1) p2 Q fun v H3 k3 e3 p3 => q v H3 k3 ((e1.trans e2).trans e3) p3
theorem ew_op {op : Operator} {f : R2} (ho : OpR X (binaryOp op) f) (ha : Ew X W rs a ra) (hb : Ew X W rs b rb) (hf : R2w W f ra rb rc) : Ew X W rs (.BinOp a op b pos) rc := pe_cs (pe_op ho ha hb) fun _ _ _ h => two ha hb hf h
theorem ew_cmp {op : CmpOp} {f : R2} (ho : OpR X (compareOp op) f) (ha : Ew X W rs a ra) (hb : Ew X W rs b rb) (hf : R2w W f ra rb rc) (hm : behindInMarks op b = false) : Ew X W rs (.Compare a [op] [b] pos) rc := pe_cs (pe_cmpR ho ha hb hm) fun _ _ _ h => two ha hb hf h
theorem tw_cmp {op : CmpOp} {f : R2} {c : Bool} (ho : OpR X (compareOp op) f) (ha : Ew X W rs a ra) (hb : Ew X W rs b rb) (hf : R2w W f ra rb (rD X.K (.bool c))) (hm : behindInMarks op b = false) : Tw X W rs (.Compare a [op] [b] pos) c :=
  pt_cs (pt_cmpR ho ha hb hm) fun σ H Q ⟨k, g, q⟩ => two ha hb hf ⟨k, g, fun v H' k' e' p' => ⟨c, rD_bl.mp p', q H' k' e'⟩⟩
/-! ### tests -/
theorem tw_val {c : Bool} (h : Ew X W rs e (rD X.K (.bool c))) (he : ∀ whole, isTrue e X.env whole = (do let v ← whole; standAt e.pos; holding [v] (truthy v))) : Tw X W rs e c :=
  pt_cs (pt_val h he) fun σ H Q ⟨k, g, q⟩ => ⟨k, g, fun v H' k' e' p' => ⟨c, rD_bl.mp p', q H' k' e'⟩⟩
theorem tw_not {c : Bool} (h : Tw X W rs e c) : Tw X W rs (.UnaryOp .Not e pos) (!c) := pt_cs (pt_not h) fun σ H Q ⟨k, g, q⟩ => ⟨k, g, fun H' k' e' => q H' k' e'⟩
theorem tw_eq {c d : Bool} (h : Tw X W rs e c) (q : c = d) : Tw X W rs e d := q ▸ h
theorem lw_one {c : Bool} {op : BoolOp} (h : Tw X W rs a c) : Lw X W rs (.BoolOp op [a] pos) c := by cases op <;> first | exact pw_and1 h | exact pw_or1 h
theorem lw_and {c d : Bool} {rest : List Expr} (h : Tw X W rs a c) (h2 : c = true → Lw X W rs (.BoolOp .And (b :: rest) pos) d) : Lw X W rs (.BoolOp .And (a :: b :: rest) pos) (c && d) := by
  cases c with
  | true => exact pw_cs (pw_and h (h2 rfl)) fun σ H Q ⟨k, g, q⟩ => ⟨k, g, fun H1 k1 e1 => iteT ⟨k1, g.mono e1, fun H2 k2 e2 => q H2 k2 (e1.trans e2)⟩⟩
  | false => exact pw_cs (pw_and h (tB' := fun _ _ _ => False) ⟨fun _ _ _ _ _ _ _ z => z.elim⟩) fun σ H Q ⟨k, g, q⟩ => ⟨k, g, fun H1 k1 e1 => iteF (q H1 k1 e1)⟩
theorem lw_or {c d : Bool} {rest : List Expr} (h : Tw X W rs a c) (h2 : c = false → Lw X W rs (.BoolOp .Or (b :: rest) pos) d) : Lw X W rs (.BoolOp .Or (a :: b :: rest) pos) (c || d) := by
  cases c with
  | false => exact pw_cs (pw_or h (h2 rfl)) fun σ H Q ⟨k, g, q⟩ => ⟨k, g, fun H1 k1 e1 => iteF ⟨k1, g.mono e1, fun H2 k2 e2 => q H2 k2 (e1.trans e2)⟩⟩
  | true => exact pw_cs (pw_or h (tB' := fun _ _ _ => False) ⟨fun _ _ _ _ _ _ _ z => z.elim⟩) fun σ H Q ⟨k, g, q⟩ => ⟨k, g, fun H1 k1 e1 => iteT (q H1 k1 e1)⟩
theorem tw_l {c : Bool} (h : Lw X W rs e c) : Tw X W rs e c := h.pt
/-- and, or, not as values -/
theorem ew_one {op : BoolOp} (h : Ew X W rs a r) : Ew X W rs (.BoolOp op [a] pos) r := pe_one h
theorem ew_and {c d : Bool} {rest : List Expr} (h : Ew X W rs a (rD X.K (.bool c))) (h2 : c = true → Ew X W rs (.BoolOp .And (b :: rest) pos) (rD X.K (.bool d))) : Ew X W rs (.BoolOp .And (a :: b :: rest) pos) (rD X.K (.bool (c && d))) := by
  cases c with
  | true => exact pe_cs (pe_and h (h2 rfl)) fun σ H Q ⟨k, g, q⟩ => ⟨k, g, fun v H1 k1 e1 p1 => ⟨true, rD_bl.mp p1, iteT ⟨k1, g.mono e1, fun v H2 k2 e2 p2 => q v H2 k2 (e1.trans e2) p2⟩⟩⟩
  | false => exact pe_cs (pe_and h (tb := fun _ _ _ => False) ⟨fun _ _ _ _ _ _ z => z.elim⟩) fun σ H Q ⟨k, g, q⟩ => ⟨k, g, fun v H1 k1 e1 p1 => ⟨false, rD_bl.mp p1, iteF (q _ H1 k1 e1 (Dp.bl false))⟩⟩
theorem ew_or {c d : Bool} {rest : List Expr} (h : Ew X W rs a (rD X.K (.bool c))) (h2 : c = false → Ew X W rs (.BoolOp .Or (b :: rest) pos) (rD X.K (.bool d))) : Ew X W rs (.BoolOp .Or (a :: b :: rest) pos) (rD X.K (.bool (c || d))) := by
  cases c with
  | false => exact pe_cs (pe_or h (h2 rfl)) fun σ H Q ⟨k, g, q⟩ => ⟨k, g, fun v H1 k1 e1 p1 => ⟨false, rD_bl.mp p1, iteF ⟨k1, g.mono e1, fun v H2 k2 e2 p2 => q v H2 k2 (e1.trans e2) p2⟩⟩⟩
  | true => exact pe_cs (pe_or h (tb := fun _ _ _ => False) ⟨fun _ _ _ _ _ _ z => z.elim⟩) fun σ H Q ⟨k, g, q⟩ => ⟨k, g, fun v H1 k1 e1 p1 => ⟨true, rD_bl.mp p1, iteT (q _ H1 k1 e1 (Dp.bl true))⟩⟩
theorem ew_not {c : Bool} (h : Ew X W rs a (rD X.K (.bool c))) : Ew X W rs (.UnaryOp .Not a pos) (rD X.K (.bool (!c))) := pe_cs (pe_not h) fun σ H Q ⟨k, g, q⟩ => ⟨k, g, fun v H1 k1 e1 p1 => ⟨c, rD_bl.mp p1, q _ H1 k1 e1 (Dp.bl _)⟩⟩
theorem ew_if {c : Expr} {d : Bool} (h : Tw X W rs c d) (h1 : d = true → Ew X W rs a r) (h2 : d = false → Ew X W rs b r) : Ew X W rs (.IfExp c a b pos) r := by
  cases d with
  | true => exact pe_cs (pe_ifExp h (h1 rfl) (tb := fun _ _ _ => False) ⟨fun _ _ _ _ _ _ z => z.elim⟩) fun σ H Q ⟨k, g, q⟩ => ⟨k, g, fun H1 k1 e1 => iteT ⟨k1, g.mono e1, fun v H2 k2 e2 p2 => q v H2 k2 (e1.trans e2) p2⟩⟩
  | false => exact pe_cs (pe_ifExp h (ta := fun _ _ _ => False) ⟨fun _ _ _ _ _ _ z => z.elim⟩ (h2 rfl)) fun σ H Q ⟨k, g, q⟩ => ⟨k, g, fun H1 k1 e1 => iteF ⟨k1, g.mono e1, fun v H2 k2 e2 p2 => q v H2 k2 (e1.trans e2) p2⟩⟩
/-! ### argument lists, displays -/
theorem aw_nil : Aw X W rs [] [] := pa_cs pa_nil fun σ H Q ⟨k, g, q⟩ => q [] H k (Ex.refl _) trivial
theorem aw_cons {es : List Expr} {rl : List Rep} (h : Ew X W rs e r) (h2 : Aw X W rs es rl) (hs : starEach (e :: es) X.env = (false, eval e X.env) :: starEach es X.env := by rfl) : Aw X W rs (e :: es) (r :: rl) :=
  pa_cs (pa_cons h h2 hs) fun σ H Q ⟨k, g, q⟩ => ⟨k, g, fun v H1 k1 e1 p1 => ⟨k1, g.mono e1, fun vs H2 k2 e2 p2 => q _ H2 k2 (e1.trans e2) ⟨r.mono e2 p1, p2⟩⟩⟩
theorem ew_tup {es : List Expr} {rl : List Rep} {x1 : Nat} (h : Aw X W rs es rl) (hl : rl.length ≤ 1000) : Ew X W rs (.Tuple es x1 pos) (rTup X.K rl) :=
  pe_cs (pe_tup h) fun σ H Q ⟨k, g, q⟩ => ⟨k, g, fun vs H1 k1 e1 p1 => ⟨Nat.le_of_lt (small1000 (p1.len ▸ hl)), fun p hp => q _ _ (World.okNew k1 hp) (e1.trans (World.visEx k1 (Ex.new hp)))
    ⟨p, vs, rfl, .inl (.inl (by rw [World.visNew k1 hp, upd_same])), p1.mono (World.visEx k1 (Ex.new hp))⟩⟩⟩
theorem ew_lst {es : List Expr} {rl : List Rep} (h : Aw X W rs es rl) (hl : rl.length ≤ 1000) : Ew X W rs (.List es pos) (rLst rl) :=
  pe_cs (pe_lst h) fun σ H Q ⟨k, g, q⟩ => ⟨k, g, fun vs H1 k1 e1 p1 => ⟨Nat.le_of_lt (small1000 (p1.len ▸ hl)), fun p hp => q _ _ (World.okNew k1 hp) (e1.trans (World.visEx k1 (Ex.new hp)))
    ⟨p, vs, rfl, by rw [World.visNew k1 hp, upd_same], p1.mono (World.visEx k1 (Ex.new hp))⟩⟩⟩
theorem ew_tupD {es : List Expr} {ds : List PyData} {x1 : Nat} (h : Aw X W rs es (ds.map (rD X.K))) (hl : ds.length ≤ 1000) : Ew X W rs (.Tuple es x1 pos) (rD X.K (.tuple ds)) := ew_sub (ew_tup h (by rw [List.length_map]; exact hl)) fun _ _ p => rD_tup.mpr p
theorem lst_seq {K : PySem.W.Frag} {rl : List Rep} {v : V} {H : Hp} (h : (rLst rl).p v H) : (rSeq K rl).p v H := let ⟨a, xs, h1, h2, h3⟩ := h; ⟨a, xs, h1, .inl (.inl h2), h3⟩
theorem ew_lstD {es : List Expr} {ds : List PyData} (h : Aw X W rs es (ds.map (rD X.K))) (hl : ds.length ≤ 1000) : Ew X W rs (.List es pos) (rD X.K (.list ds)) := ew_sub (ew_lst h (by rw [List.length_map]; exact hl)) fun _ _ p => rD_lst.mpr (lst_seq p)
/-! ### targets -/
theorem gw_name (i : Nat) {x : Str} (h : PG X (.Name x pos) (gName i)) : Gw X W rs (.Name x pos) r (rs.set i (some r)) := pg_cs h fun v σ H Q ⟨k, g, p, q⟩ => q _ H k (Ex.refl _) (g.set p)
theorem gws_nil : Gws X W rs [] [] rs := pgs_cs pgs_nil fun vs σ H Q ⟨k, g, p, q⟩ => by
  cases vs with
  | nil => exact ⟨rfl, q σ H k (Ex.refl _) g⟩
  | cons _ _ => exact p.elim
theorem gws_cons {es : List Expr} {rl : List Rep} {rs1 rs2 : Rs} (h : Gw X W rs e r rs1) (h2 : Gws X W rs1 es rl rs2) (hs : (assignEach (e :: es) X.env).map (·.2) = assign e X.env :: (assignEach es X.env).map (·.2) := by rfl) : Gws X W rs (e :: es) (r :: rl) rs2 :=
  pgs_cs (pgs_cons h h2 hs) fun vs σ H Q ⟨k, g, p, q⟩ => by
    cases vs with
    | nil => exact p.elim
    | cons x xs => exact ⟨x, xs, rfl, k, g, p.1, fun σ1 H1 k1 e1 g1 => ⟨k1, g1, p.2.mono e1, fun σ2 H2 k2 e2 g2 => q σ2 H2 k2 (e1.trans e2) g2⟩⟩
theorem gw_tup {es : List Expr} {rl : List Rep} {rs1 : Rs} {k : Nat} (hc : X.calm = true) (h : Gws X W rs es rl rs1) (hn : (assignEach es X.env).length = rl.length := by rfl) (hst : (assignEach es X.env).findIdx? (·.1) = none := by rfl) :
    Gw X W rs (.Tuple es k pos) (rTup X.K rl) rs1 := pg_cs (pg_tup hc h hn hst) fun v σ H Q ⟨k, g, ⟨a, xs, e, s, p⟩, q⟩ => ⟨a, xs, e, sqT_mono (W.sub H) s, p.len.symm, k, g, p, q⟩
/-! ### statements -/
variable {st : Stmt} {sts : List Stmt} {O : Outs} {N : Rs}
theorem goes_mono {H H1 : Hp} {o : Option Rs} {f : St → Hp → Prop} (h : Goes W H o f) (e : Ex (W.vis H) (W.vis H1)) : Goes W H1 o f := fun N z σ' H' k x g => h N z σ' H' k (e.trans x) g
theorem sW_mono {rs' : Rs} {D : Ends} {σ σ' : St} {H H1 : Hp} (h : sW W rs O D σ H) (k : W.ok H1) (e : Ex (W.vis H) (W.vis H1)) (g : Sg rs' σ' (W.vis H1)) : sW W rs' O D σ' H1 :=
  let ⟨_, _, h3, h4, h5, h6⟩ := h
  ⟨k, g, fun v H' k' e' p => h3 v H' k' (e.trans e') p, goes_mono h4 e, goes_mono h5 e, goes_mono h6 e⟩
theorem bw_nil : Bw X W rs [] (O.to rs) := pss_cs pss_nil fun D σ H ⟨k, g, _, n, _⟩ => n rs rfl σ H k (Ex.refl _) g
theorem bw_end : Bw X W rs [] ⟨r, some rs, none, none⟩ := pss_cs pss_nil fun D σ H ⟨k, g, _, n, _⟩ => n rs rfl σ H k (Ex.refl _) g
theorem bw_cons (h : Sw X W rs st (O.to N)) (h2 : Bw X W N sts O) : Bw X W rs (st :: sts) O := pss_cs (pss_cons h h2) fun D σ H ⟨k, g, r, n, b, c⟩ =>
  ⟨k, g, r, fun N' z σ' H' k' e' g' => by cases z; exact sW_mono (rs := rs) (σ := σ) ⟨k, g, r, n, b, c⟩ k' e' g', b, c⟩
theorem bw_one (h : Sw X W rs st O) : Bw X W rs [st] O := pss_one h
/-- what stands behind is never come to -/
theorem bw_last (h : Sw X W rs st { O with nx := none }) : Bw X W rs (st :: sts) O := pss_cs (pss_cons h pss_never) fun D σ H ⟨k, g, r, n, b, c⟩ => ⟨k, g, r, fun N' z => (by cases z), b, c⟩
theorem sw_nx (h : Sw X W rs st { O with nx := none }) : Sw X W rs st O := ps_cs h fun D σ H ⟨k, g, r, n, b, c⟩ => ⟨k, g, r, fun N' z => (by cases z), b, c⟩
theorem sw_ret (h : Ew X W rs e O.res) : Sw X W rs (.Return (some e) pos) O := ps_cs (ps_ret h) fun D σ H ⟨k, g, r, _⟩ => ⟨k, g, r⟩
theorem sw_if {c : Expr} {d : Bool} {as bs : List Stmt} (h : Tw X W rs c d) (h1 : d = true → Bw X W rs as O) (h2 : d = false → Bw X W rs bs O) : Sw X W rs (.If c as bs pos) O := by
  cases d with
  | true => exact ps_cs (ps_if h (h1 rfl) pss_never) fun D σ H q => ⟨q.1, q.2.1, fun H1 k1 e1 => iteT (sW_mono q k1 e1 (q.2.1.mono e1))⟩
  | false => exact ps_cs (ps_if h pss_never (h2 rfl)) fun D σ H q => ⟨q.1, q.2.1, fun H1 k1 e1 => iteF (sW_mono q k1 e1 (q.2.1.mono e1))⟩
theorem sw_pass : Sw X W rs (.Pass pos) (O.to rs) := ps_cs ps_pass fun D σ H ⟨k, g, _, n, _⟩ => n rs rfl σ H k (Ex.refl _) g
theorem sw_continue {O : Outs} (h : O.ct = some rs) : Sw X W rs (.Continue pos) O := ps_cs ps_continue fun D σ H ⟨k, g, _, _, _, c⟩ => c rs h σ H k (Ex.refl _) g
theorem sw_break {O : Outs} (h : O.bk = some rs) : Sw X W rs (.Break pos) O := ps_cs ps_break fun D σ H ⟨k, g, _, _, b, _⟩ => b rs h σ H k (Ex.refl _) g
theorem sw_expr (h : Ew X W rs e r) (hs : swapsWith e none pos.line X.env = pure false := by rfl) : Sw X W rs (.Expr e pos) (O.to rs) := ps_cs (ps_expr h hs) fun D σ H ⟨k, g, _, n, _⟩ => ⟨k, g, fun v H' k' e' _ => n rs rfl σ H' k' e' (g.mono e')⟩
theorem sw_asg {tg : Expr} (h : Ew X W rs e r) (hg : Gw X W rs tg r N) (hs : swapsWithSole [tg] e pos.line X.env = pure false := by rfl) (hw : swappedStores [tg] e X.env = pure none := by rfl)
    (h1 : (assignEach [tg] X.env).map (·.2) = [assign tg X.env] := by rfl) : Sw X W rs (.Assign [tg] e pos) (O.to N) :=
  ps_cs (ps_asg h hg hs hw h1) fun D σ H ⟨k, g, _, n, _⟩ => ⟨k, g, fun v H' k' e' p' => ⟨k', g.mono e', p', fun σ2 H2 k2 e2 g2 => n N rfl σ2 H2 k2 (e'.trans e2) g2⟩⟩
theorem sw_set (i : Nat) {x : Str} {pos' : Pos} (h : Ew X W rs e r) (hN : X.N.Nodup) (hi : X.N[i]? = some x) (hx : Loc X.env.scope x) (hs : swapsWith e (some (.Name x pos')) pos.line X.env = pure false := by rfl)
    (hf : X.fn x = true ∨ X.env.scope.names.lookup x = some .local := by first | exact .inl rfl | exact .inr rfl | assumption) : Sw X W rs (.Assign [.Name x pos'] e pos) (O.to (rs.set i (some r))) :=
  ps_cs (ps_set hN hi hx h hs hf) fun D σ H ⟨k, g, _, n, _⟩ => ⟨k, g, fun v H' k' e' p' => n _ rfl _ H' k' e' ((g.mono e').set p')⟩
/-- a slot's letter is told -/
theorem sW_ex {α : Type} {i : Nat} {f : α → Rep} {t : TS} (hi : rs[i]? = some (some (rEx f))) (h : ∀ c D σ H, sW W (rs.set i (some (f c))) O D σ H → t D σ H) : ∀ D σ H, sW W rs O D σ H → t D σ H := fun D σ H q => by
  obtain ⟨k, g, q'⟩ := q
  obtain ⟨v, e, c, p⟩ := g.get hi
  refine h c D σ H ⟨k, ?_, q'⟩
  have z := g.set (i := i) p
  have hs : σ.set i (some v) = σ := by
    obtain ⟨hlt, hv⟩ := List.getElem?_eq_some_iff.mp e
    rw [← hv]
    exact List.set_getElem_self hlt
  rw [hs] at z
  exact z
theorem bw_ex {α : Type} (i : Nat) {f : α → Rep} (hi : rs[i]? = some (some (rEx f))) (h : ∀ c, Bw X W (rs.set i (some (f c))) sts O) : Bw X W rs sts O :=
  pss_cs (t := fun D σ H => ∃ c, sW W (rs.set i (some (f c))) O D σ H) ⟨fun pins s σ H D I ⟨c, q⟩ => (h c).run pins s σ H D I q⟩ (sW_ex hi fun c D σ H q => ⟨c, q⟩)
/-- slots may be told by more, or forgotten -/
theorem Sg.weak : ∀ {rs rs' : Rs} {σ : St} {H : Hp}, Sg rs σ H → rs'.length = rs.length → (∀ (i : Nat) (r' : Rep), rs'[i]? = some (some r') → ∃ r, rs[i]? = some (some r) ∧ ∀ v H, r.p v H → r'.p v H) → Sg rs' σ H
  | [], [], [], _, _, _, _ => trivial
  | x :: rs, some r' :: rs', y :: σ, H, g, hl, h => by
    obtain ⟨r, h1, h2⟩ := h 0 r' rfl
    have e : x = some r := by simpa using h1
    subst e
    obtain ⟨⟨v, e1, p⟩, g2⟩ := g
    exact ⟨⟨v, e1, h2 v _ p⟩, Sg.weak g2 (Nat.succ.inj hl) fun i r q => by simpa using h (i + 1) r (by simpa using q)⟩
  | x :: rs, none :: rs', y :: σ, H, g, hl, h => by
    have g2 : Sg rs σ H := by
      cases x with
      | none => exact g
      | some r => exact g.2
    exact Sg.weak (rs' := rs') g2 (Nat.succ.inj hl) fun i r q => by simpa using h (i + 1) r (by simpa using q)
  | [], _ :: _, _, _, _, hl, _ => by cases hl
  | _ :: _, [], _, _, _, hl, _ => by cases hl
  | [], [], _ :: _, _, g, _, _ => g.elim
  | some _ :: _, _ :: _, [], _, g, _, _ => g.elim
  | none :: _, _ :: _, [], _, g, _, _ => g.elim
theorem bw_weak {rs' : Rs} (hl : rs'.length = rs.length) (h : ∀ (i : Nat) (r' : Rep), rs'[i]? = some (some r') → ∃ r, rs[i]? = some (some r) ∧ ∀ v H, r.p v H → r'.p v H) (hb : Bw X W rs' sts O) : Bw X W rs sts O :=
  pss_cs hb fun D σ H ⟨k, g, q⟩ => ⟨k, g.weak hl h, q⟩
end
end Py
namespace Py
open PySem L2
section
variable {X : Cx} {W : World} {rs : Rs} {a b e tg it : Expr} {r ra rb rc : Rep} {pos : Pos} {O : Outs} {n : Nat} {item : Nat → Rep}
/-! ### loops -/
theorem sw_for {body : List Stmt} (Ns Ms : Nat → Rs) (h0 : Ns 0 = rs) (hO : O.nx = some (Ns n)) (hi : Iw X W rs tg it n item) (hg : ∀ i, i < n → Gw X W (Ns i) tg (item i) (Ms i))
    (hb : ∀ i, i < n → Bw X W (Ms i) body { O with nx := some (Ns (i + 1)), ct := some (Ns (i + 1)), bk := O.nx }) (hp : PassesOwn (model X.prog X.w) X.A X.env X.xe) (hc : X.calm = true)
    (hs : ∀ x, foldedSetIterable it X.env x = pure x := by intro _; rfl) : Sw X W rs (.For tg it body [] pos) O := by
  have hG : PG X tg (fun v σ H Q => ∃ i, i < n ∧ gW W (Ns i) (item i) (Ms i) v σ H Q) := ⟨fun pins s σ H v u Q I rv ⟨i, hi, q⟩ => (hg i hi).run pins s σ H v u Q I rv q⟩
  have hB : PSs X body (fun D σ H => ∃ i, i < n ∧ sW W (Ms i) { O with nx := some (Ns (i + 1)), ct := some (Ns (i + 1)), bk := O.nx } D σ H) := ⟨fun pins s σ H D I ⟨i, hi, q⟩ => (hb i hi).run pins s σ H D I q⟩
  refine ps_cs (ps_for hp hc hi hG hB hs) ?_
  rintro D σ H ⟨k, g, rt, nx, bk, ct⟩
  refine ⟨k, g, ?_⟩
  intro J G Y H1 w k1 e1 hGk hY
  refine for_it (D := D) (g := fun v σ H Q => ∃ i, i < n ∧ gW W (Ns i) (item i) (Ms i) v σ H Q) (tb := fun D σ H => ∃ i, i < n ∧ sW W (Ms i) { O with nx := some (Ns (i + 1)), ct := some (Ns (i + 1)), bk := O.nx } D σ H) w
    (fun i σ' H' => W.ok H' ∧ Ex (W.vis H1) (W.vis H') ∧ Sg (Ns i) σ' (W.vis H')) ⟨k1, Ex.refl _, by rw [h0]; exact g.mono e1⟩ (fun i σ' H' _ p => hGk H' p.1 p.2.1) ?_ ?_
  · rintro i x σ' H' H'' hi' ⟨k', e', g'⟩ hy
    obtain ⟨k2, e2, p2⟩ : W.ok H'' ∧ Ex (W.vis H') (W.vis H'') ∧ (item i).p x (W.vis H'') := by
      rcases hY i x H' H'' hi' hy with ⟨rfl, hp2⟩ | ⟨T, o, hT, rfl, hp2⟩
      · exact ⟨k', Ex.refl _, hp2 _ e' (W.sub _)⟩
      · exact ⟨World.okNew k' hT, World.visEx k' (Ex.new hT), by rw [World.visNew k' hT]; exact hp2 _ e' (W.sub _)⟩
    refine ⟨i, hi', k2, g'.mono e2, p2, fun σ3 H3 k3 e3 g3 => ⟨i, hi', k3, g3, fun v H4 k4 e4 p4 => rt v H4 k4 ((((e1.trans e').trans e2).trans e3).trans e4) p4, ?_, ?_, ?_⟩⟩
    · intro N z σ4 H4 k4 e4 g4
      cases z
      exact ⟨k4, ((e'.trans e2).trans e3).trans e4, g4⟩
    · intro N z σ4 H4 k4 e4 g4
      exact nx N z σ4 H4 k4 ((((e1.trans e').trans e2).trans e3).trans e4) g4
    · intro N z σ4 H4 k4 e4 g4
      cases z
      exact ⟨k4, ((e'.trans e2).trans e3).trans e4, g4⟩
  · rintro σ' H' ⟨k', e', g'⟩
    exact nx _ hO σ' H' k' (e1.trans e') g'
/-! ### what is walked -/
theorem getD_of {rl : List Rep} {i : Nat} {r : Rep} (h : rl[i]? = some r) : rl.getD i rNon = r := by rw [List.getD_eq_getElem?_getD, h]; rfl
theorem iw_seq {rl : List Rep} (h : Ew X W rs it (rSeq X.K rl)) : Iw X W rs tg it rl.length (fun i => rl.getD i rNon) := by
  refine pi_cs (pi_list h) ?_
  rintro σ H R ⟨k, g, q⟩
  refine ⟨k, g, ?_⟩
  rintro v H1 k1 e1 ⟨p, xs, ev, hs, hr⟩
  refine ⟨p, ev, ⟨xs, sqL_mono (W.sub H1) hs⟩, q (Itl X.K p) (fun H => SqL X.K H p xs) (YAt xs) H1 (hr.len ▸ walk_list) k1 e1 (fun H2 _ e2 => sqL_mono (e2.trans (W.sub H2)) hs) ?_⟩
  rintro i x H2 H3 hi ⟨eH, hx⟩
  obtain ⟨r, h1, h2⟩ := hr.get' hx
  refine .inl ⟨eH, fun G2 e2 _ => ?_⟩
  show (rl.getD i rNon).p x G2
  rw [getD_of h1]
  exact r.mono e2 h2
theorem iw_lst {rl : List Rep} (h : Ew X W rs it (rLst rl)) : Iw X W rs tg it rl.length (fun i => rl.getD i rNon) := iw_seq (ew_sub h fun _ _ => lst_seq)
theorem iw_tup {rl : List Rep} (h : Ew X W rs it (rTup X.K rl)) : Iw X W rs tg it rl.length (fun i => rl.getD i rNon) := by
  refine pi_cs (pi_tup h) ?_
  rintro σ H R ⟨k, g, q⟩
  refine ⟨k, g, ?_⟩
  rintro v H1 k1 e1 ⟨p, xs, ev, hs, hr⟩
  refine ⟨p, ev, ⟨xs, sqT_mono (W.sub H1) hs⟩, q (Itt X.K p) (fun H => SqT X.K H p xs) (YAt xs) H1 (hr.len ▸ walk_tup) k1 e1 (fun H2 _ e2 => sqT_mono (e2.trans (W.sub H2)) hs) ?_⟩
  rintro i x H2 H3 hi ⟨eH, hx⟩
  obtain ⟨r, h1, h2⟩ := hr.get' hx
  refine .inl ⟨eH, fun G2 e2 _ => ?_⟩
  show (rl.getD i rNon).p x G2
  rw [getD_of h1]
  exact r.mono e2 h2
theorem iw_lstD {ds : List PyData} (h : Ew X W rs it (rD X.K (.list ds))) : Iw X W rs tg it ds.length (fun i => (ds.map (rD X.K)).getD i rNon) := by
  have z := iw_seq (tg := tg) (ew_sub h fun _ _ p => rD_lst.mp p)
  rw [List.length_map] at z
  exact z
theorem iw_tupD {ds : List PyData} (h : Ew X W rs it (rD X.K (.tuple ds))) : Iw X W rs tg it ds.length (fun i => (ds.map (rD X.K)).getD i rNon) := by
  have z := iw_tup (tg := tg) (ew_sub h fun _ _ p => rD_tup.mp p)
  rw [List.length_map] at z
  exact z
theorem iw_str {z : Str} (h : Ew X W rs it (rD X.K (.str z))) : Iw X W rs tg it z.cps.size (fun i => rD X.K (.str ⟨#[z.cps.getD i 0]⟩)) := by
  refine pi_cs (pi_str h) ?_
  rintro σ H R ⟨k, g, q⟩
  refine ⟨k, g, ?_⟩
  intro v H1 k1 e1 p
  refine ⟨z, rD_str.mp p, q (Its z) (fun _ => True) _ H1 walk_str k1 e1 (fun _ _ _ => trivial) ?_⟩
  rintro i x H2 H3 hi ⟨eH, c, hc, hx⟩
  refine .inl ⟨eH, fun G2 _ _ => rD_str.mpr ?_⟩
  have e : z.cps.getD i 0 = c := by rw [Array.getD_eq_getD_getElem?, hc]; rfl
  rw [e]
  exact hx
theorem iw_range1 {p : Pos} {j : Int} (hg : Gl X "range") (hm : X.mg "range" = none) (h : Ew X W rs a (rD X.K (.int j))) (hj : -(2 ^ 62) ≤ j ∧ j < 2 ^ 62) (hs : starEach [a] X.env = [(false, eval a X.env)] := by rfl) :
    Iw X W rs tg (.Call (.Name "range" p) [a] [] pos) j.toNat (fun i => rD X.K (.int i)) := by
  refine pi_cs (pi_range1 hg hm (aw_cons h aw_nil hs) hs) ?_
  rintro σ H R ⟨k, g, q⟩
  refine ⟨k, g, ?_⟩
  intro vs H1 k1 e1 hp
  obtain ⟨x, rfl, p⟩ := reps1 hp
  refine ⟨j, by rw [rD_int.mp p], hj.1, hj.2, q (Itr 0 j.toNat) (fun _ => True) _ H1 walk_range k1 e1 (fun _ _ _ => trivial) ?_⟩
  rintro i x H2 H3 hi ⟨eH, hx⟩
  exact .inl ⟨eH, fun G2 _ _ => rD_int.mpr (hx.trans (congrArg V.int (Int.zero_add _)))⟩
/-- the pairs that an iterator makes anew -/
theorem pair_new {K : PySem.W.Frag} {xs ys : Nat → Option V} {i : Nat} {H H3 : Hp} {v : V} {r1 r2 : Rep} {G : Hp} (y : YPair xs ys i H v H3) (h1 : ∀ x, xs i = some x → r1.p x G) (h2 : ∀ x, ys i = some x → r2.p x G) :
    ∃ T o, H T = none ∧ H3 = upd H T o ∧ ∀ G2, Ex G G2 → Ex G2 H → (rTup K [r1, r2]).p v (upd G2 T o) := by
  obtain ⟨T, x, z, rfl, hT, rfl, hx, hz⟩ := y
  refine ⟨T, _, hT, rfl, fun G2 e2 e3 => ?_⟩
  have hG : G2 T = none := by
    cases q : G2 T with
    | none => rfl
    | some u =>
      have z := e3 T u q
      rw [hT] at z
      cases z
  have e := e2.trans (Ex.new (o := .tup [x, z]) hG)
  exact ⟨T, [x, z], rfl, .inl (.inl upd_same), r1.mono e (h1 x hx), r2.mono e (h2 z hz), trivial⟩
theorem iw_enum {rl : List Rep} {p tpos : Pos} {elts : List Expr} {kk : Nat} (hg : Gl X "enumerate") (hm : X.mg "enumerate" = none) (h : Ew X W rs a (rSeq X.K rl)) (hs : starEach [a] X.env = [(false, eval a X.env)] := by rfl) :
    Iw X W rs (.Tuple elts kk tpos) (.Call (.Name "enumerate" p) [a] [] pos) rl.length (fun i => rTup X.K [rD X.K (.int i), rl.getD i rNon]) := by
  refine pi_cs (pi_enum hg hm (aw_cons h aw_nil hs) hs) ?_
  rintro σ H R ⟨k, g, q⟩
  refine ⟨k, g, ?_⟩
  intro vs H1 k1 e1 hp
  obtain ⟨v, rfl, p, xs, ev, hsq, hr⟩ := reps1 hp
  subst ev
  have w : Walk (Ite X.K p) rl.length (fun H => SqL X.K H p xs) (YPair (fun i => some (.int (i : Nat))) (fun i => xs[i]?)) := by
    rw [hr.len]
    exact walk_enum
  refine ⟨p, xs, rfl, sqL_mono (W.sub H1) hsq, q (Ite X.K p) (fun H => SqL X.K H p xs) (YPair (fun i => some (.int (i : Nat))) (fun i => xs[i]?)) H1 w k1 e1 (fun H2 _ e2 => sqL_mono (e2.trans (W.sub H2)) hsq) ?_⟩
  intro i x H2 H3 hi y
  refine .inr (pair_new (G := W.vis H1) y (fun x hx => ?_) (fun x hx => ?_))
  · exact rD_int.mpr (Option.some.inj hx).symm
  · obtain ⟨r, h1, h2⟩ := hr.get' hx
    rw [getD_of h1]
    exact h2
theorem iw_zip {rl rl' : List Rep} {p tpos : Pos} {elts : List Expr} {kk : Nat} (hg : Gl X "zip") (hm : X.mg "zip" = none) (h : Ew X W rs a (rSeq X.K rl)) (h' : Ew X W rs b (rSeq X.K rl'))
    (hs : starEach [a, b] X.env = (false, eval a X.env) :: starEach [b] X.env := by rfl) (hs' : starEach [b] X.env = (false, eval b X.env) :: starEach [] X.env := by rfl) (hpl : (backTo pos (starEach [b] X.env)).any (·.1) = false := by rfl) :
    Iw X W rs (.Tuple elts kk tpos) (.Call (.Name "zip" p) [a, b] [] pos) (min rl.length rl'.length) (fun i => rTup X.K [rl.getD i rNon, rl'.getD i rNon]) := by
  refine pi_cs (pi_zip hg hm (aw_cons h (aw_cons h' aw_nil hs') hs) hs hpl) ?_
  rintro σ H R ⟨k, g, q⟩
  refine ⟨k, g, ?_⟩
  intro vs H1 k1 e1 hp
  obtain ⟨v, v', rfl, ⟨p, xs, ev, hsq, hr⟩, p', xs', ev', hsq', hr'⟩ := reps2 hp
  subst ev
  subst ev'
  have w : Walk (Itz X.K p p') (min rl.length rl'.length) (fun H => SqL X.K H p xs ∧ SqL X.K H p' xs') (YPair (fun i => xs[i]?) (fun i => xs'[i]?)) := walk_zip (by rw [hr.len, hr'.len])
  refine ⟨p, p', xs, xs', rfl, sqL_mono (W.sub H1) hsq, sqL_mono (W.sub H1) hsq', q (Itz X.K p p') (fun H => SqL X.K H p xs ∧ SqL X.K H p' xs') (YPair (fun i => xs[i]?) (fun i => xs'[i]?)) H1 w k1 e1 (fun H2 _ e2 => ⟨sqL_mono (e2.trans (W.sub H2)) hsq, sqL_mono (e2.trans (W.sub H2)) hsq'⟩) ?_⟩
  intro i x H2 H3 hi y
  refine .inr (pair_new (G := W.vis H1) y (fun x hx => ?_) (fun x hx => ?_))
  · obtain ⟨r, h1, h2⟩ := hr.get' hx
    rw [getD_of h1]
    exact h2
  · obtain ⟨r, h1, h2⟩ := hr'.get' hx
    rw [getD_of h1]
    exact h2
end
end Py
namespace Py
open PySem L2
/-! ### one more address set apart -/
def World.hold (W : World) (D : Addr) (o : HO) : World where
  hd := fun a => W.hd a ∨ a = D
  ok := fun H => W.ok H ∧ ¬ W.hd D ∧ H D = some o
  there := fun {H a} k h => by
    rcases h with h | h
    · exact W.there k.1 h
    · subst h
      rw [k.2.2]
      exact fun z => nomatch z
  keep := fun {H H'} k h => ⟨W.keep k.1 fun a z => h a (.inl z), k.2.1, by rw [h D (.inr rfl)]; exact k.2.2⟩
section
variable {W : World} {D : Addr} {o o' : HO} {H H' : Hp}
theorem hold_vis : (W.hold D o).vis H = fun a => if a = D then none else W.vis H a := by
  funext a
  by_cases z : a = D
  · subst z
    rw [if_pos rfl]
    exact if_pos (.inr rfl)
  · rw [if_neg z]
    by_cases y : W.hd a
    · show World.vis _ _ _ = World.vis _ _ _
      unfold World.vis
      rw [if_pos (show (W.hold D o).hd a from .inl y), if_pos y]
    · show World.vis _ _ _ = World.vis _ _ _
      unfold World.vis
      rw [if_neg (show ¬ (W.hold D o).hd a from fun q => q.elim y z), if_neg y]
theorem hold_sub : Ex ((W.hold D o).vis H) (W.vis H) := fun a u e => by
  rw [hold_vis] at e
  dsimp only at e
  split at e
  · cases e
  · exact e
theorem hold_of {G : Hp} (hG : G D = none) (e : Ex G (W.vis H)) : Ex G ((W.hold D o).vis H) := fun a u q => by
  rw [hold_vis]
  dsimp only
  rw [if_neg (ne_of_none q hG)]
  exact e a u q
theorem hold_upd {u : HO} : (W.hold D o).vis (upd H D u) = (W.hold D o').vis H := by
  rw [hold_vis, hold_vis]
  funext a
  by_cases z : a = D
  · rw [if_pos z, if_pos z]
  · rw [if_neg z, if_neg z]
    unfold World.vis upd
    rw [if_neg z]
theorem hold_any : (W.hold D o).vis H = (W.hold D o').vis H := by rw [hold_vis, hold_vis]
theorem hold_okUpd {u : HO} (k : (W.hold D o).ok H) : (W.hold D u).ok (upd H D u) := ⟨W.keep k.1 fun a z => upd_ne (fun q => k.2.1 (q ▸ z)), k.2.1, upd_same⟩
theorem hold_seen (k : (W.hold D o).ok H) : W.vis H D = some o := by rw [World.seen k.2.1]; exact k.2.2
/-- a new object, set apart at once -/
theorem hold_new (k : W.ok H) (h : H D = none) : (W.hold D o).ok (upd H D o) := ⟨World.okNew k h, World.free k h, upd_same⟩
end
/-! ### comprehensions -/
def wipeR (rs : Rs) : List Nat → Rs
  | [] => rs
  | v :: vs => (wipeR rs vs).set v none
theorem Sg.wipe1 : ∀ {rs : Rs} {σ : St} {H : Hp} {i : Nat}, Sg rs σ H → Sg (rs.set i none) (σ.set i none) H
  | [], [], _, _, _ => trivial
  | some _ :: _, _ :: _, _, 0, h => h.2
  | none :: _, _ :: _, _, 0, h => h
  | some _ :: _, _ :: _, _, i + 1, h => ⟨h.1, Sg.wipe1 (i := i) h.2⟩
  | none :: rs, _ :: σ, H, i + 1, h => Sg.wipe1 (rs := rs) (σ := σ) (H := H) (i := i) h
  | [], _ :: _, _, _, h => h.elim
  | some _ :: _, [], _, _, h => h.elim
  | none :: _, [], _, _, h => h.elim
theorem Sg.wipe {rs : Rs} {σ : St} {H : Hp} : ∀ {vs : List Nat}, Sg rs σ H → Sg (wipeR rs vs) (L2.wipe σ vs) H
  | [], h => h
  | _ :: vs, h => (Sg.wipe (vs := vs) h).wipe1
/-- what is made so far -/
def takes (f : Nat → Rep) (b : Nat → Bool) (i : Nat) : List Rep := ((List.range i).filter b).map f
theorem takes_yes {f : Nat → Rep} {b : Nat → Bool} {i : Nat} (h : b i = true) : takes f b (i + 1) = takes f b i ++ [f i] := by
  unfold takes
  rw [List.range_succ, List.filter_append, List.map_append, List.filter_cons, if_pos h] <;> rfl
theorem takes_no {f : Nat → Rep} {b : Nat → Bool} {i : Nat} (h : b i = false) : takes f b (i + 1) = takes f b i := by
  unfold takes
  rw [List.range_succ, List.filter_append, List.map_append, List.filter_cons, if_neg (by rw [h]; decide)]
  show _ ++ [] = _
  rw [List.append_nil]
theorem takes_len (f : Nat → Rep) (b : Nat → Bool) (i : Nat) : (takes f b i).length ≤ i := by
  unfold takes
  rw [List.length_map]
  have h := List.length_filter_le b (List.range i)
  rw [List.length_range] at h
  exact h
theorem takes_all (f : Nat → Rep) (n : Nat) : takes f (fun _ => true) n = (List.range n).map f := by
  unfold takes
  rw [List.filter_eq_self.mpr fun _ _ => rfl]
/-- a target that stores to the block's own slots alone -/
structure OwnG (K : PySem.W.Frag) (g : TG) (vs : List Nat) (rs1 : Rs) (r : Rep) (Ms : Rs) : Prop where
  run : ∀ (v : V) (σ : St) (H G : Hp), Sg rs1 (L2.wipe σ vs) G → Ex G H → r.p v G → ∀ Q : St → Hp → Prop, (∀ σ2, L2.wipe σ2 vs = L2.wipe σ vs → Sg Ms σ2 G → Q σ2 H) → g v (L2.wipe σ vs) H Q
theorem own_name {K : PySem.W.Frag} {j : Nat} {rs1 : Rs} {r : Rep} : OwnG K (gName j) [j] rs1 r (rs1.set j (some r)) := ⟨fun v σ H G g _ p Q q => q _ (by show ((σ.set j none).set j (some v)).set j none = σ.set j none; rw [List.set_set, List.set_set]) (g.set p)⟩
theorem own_pair {K : PySem.W.Frag} {i j : Nat} {rs1 : Rs} {r1 r2 : Rep} (hij : i ≠ j) : OwnG K (gTup K 2 (gCons (gName i) (gCons (gName j) gNil))) [i, j] rs1 (rTup K [r1, r2]) ((rs1.set i (some r1)).set j (some r2)) := by
  refine ⟨fun v σ H G g e p Q q => ?_⟩
  obtain ⟨a, xs, rfl, hs, hr⟩ := p
  obtain ⟨x, y, rfl, h1, h2⟩ := reps2 hr
  refine ⟨a, [x, y], rfl, sqT_mono e hs, rfl, x, [y], rfl, y, [], rfl, rfl, q _ ?_ ((g.set h1).set h2)⟩
  show (((((σ.set j none).set i none).set i (some x)).set j (some y)).set j none).set i none = (σ.set j none).set i none
  refine List.ext_getElem? fun m => ?_
  simp only [List.getElem?_set, List.length_set]
  by_cases h1 : i = m <;> by_cases h2 : j = m <;> simp [h1, h2]
theorem own_pair' {K : PySem.W.Frag} {i j : Nat} {rs1 : Rs} {r1 r2 : Rep} (hij : i ≠ j) : OwnG K (gTup K 2 (gCons (gName i) (gCons (gName j) gNil))) [j, i] rs1 (rTup K [r1, r2]) ((rs1.set i (some r1)).set j (some r2)) := by
  refine ⟨fun v σ H G g e p Q q => ?_⟩
  obtain ⟨a, xs, rfl, hs, hr⟩ := p
  obtain ⟨x, y, rfl, h1, h2⟩ := reps2 hr
  refine ⟨a, [x, y], rfl, sqT_mono e hs, rfl, x, [y], rfl, y, [], rfl, rfl, q _ ?_ ((g.set h1).set h2)⟩
  show (((((σ.set i none).set j none).set i (some x)).set j (some y)).set i none).set j none = (σ.set i none).set j none
  refine List.ext_getElem? fun m => ?_
  simp only [List.getElem?_set, List.length_set]
  by_cases h1 : i = m <;> by_cases h2 : j = m <;> simp [h1, h2]
section
variable {X : Cx} {W : World} {rs : Rs} {a b e tg it : Expr} {r ra rb rc : Rep} {pos : Pos} {O : Outs} {n : Nat} {item : Nat → Rep}
theorem lc_read {ifs : List Expr} {vs : List Nat} {g : TG} (f : Nat → Rep) (c : Nat → Bool) (Ms : Nat → Rs) (hn : n ≤ 1000) (hown : ∀ i, i < n → OwnG X.K g vs (wipeR rs vs) (item i) (Ms i)) {σ : St} {H : Hp} {Q : VK} (h : tW W rs (rLst (takes f c n)) σ H Q) :
    tLc (iW W rs n item) g (fun σ H Q => ∃ D o i, i < n ∧ tWT (W.hold D o) (Ms i) (c i) σ H Q) (fun σ H Q => ∃ D o i, i < n ∧ c i = true ∧ tW (W.hold D o) (Ms i) (f i) σ H Q) vs σ H Q := by
  obtain ⟨k, g0, q⟩ := h
  refine ⟨k, g0, ?_⟩
  intro J G Y H1 w k1 e1 hGk hY D hD
  have nd : ¬ W.hd D := World.free k1 hD
  have vD : W.vis H1 D = none := World.visNone hD
  refine lc_it (D := D) (g := g) (tt := fun σ H Q => ∃ D o i, i < n ∧ tWT (W.hold D o) (Ms i) (c i) σ H Q) (te := fun σ H Q => ∃ D o i, i < n ∧ c i = true ∧ tW (W.hold D o) (Ms i) (f i) σ H Q) (vs := vs) (Qd := fun H => Q (.ref D) H) w
    (fun i H' => W.ok H' ∧ Ex (W.vis H1) (W.vis H') ∧ ∃ acc, H' D = some (.lst acc) ∧ Reps (takes f c i) acc ((W.hold D (.lst [])).vis H')) ?_ ?_ ?_ ?_
  · exact ⟨World.okNew k1 hD, World.visEx k1 (Ex.new hD), [], upd_same, trivial⟩
  · intro i H' _ p
    exact hGk H' p.1 p.2.1
  · rintro i x H' H'' hi' ⟨k', e', acc, hDa, hR⟩ hy
    have kW : (W.hold D (.lst acc)).ok H' := ⟨k', nd, hDa⟩
    have eG : Ex (W.vis H1) ((W.hold D (.lst acc)).vis H') := hold_of vD e'
    have hR : Reps (takes f c i) acc ((W.hold D (.lst acc)).vis H') := by rw [hold_any (o' := .lst [])]; exact hR
    obtain ⟨k2, e2, p2⟩ : (W.hold D (.lst acc)).ok H'' ∧ Ex ((W.hold D (.lst acc)).vis H') ((W.hold D (.lst acc)).vis H'') ∧ (item i).p x ((W.hold D (.lst acc)).vis H'') := by
      rcases hY i x H' H'' hi' hy with ⟨rfl, hp2⟩ | ⟨T, o, hT, rfl, hp2⟩
      · exact ⟨kW, Ex.refl _, hp2 _ eG (World.sub _ _)⟩
      · exact ⟨World.okNew kW hT, World.visEx kW (Ex.new hT), by rw [World.visNew kW hT]; exact hp2 _ eG (World.sub _ _)⟩
    refine (hown i hi').run x σ H'' _ ((g0.mono (e1.trans (eG.trans e2))).wipe) (World.sub _ _) p2 _ fun σ2 hw g2 => ⟨hw, D, .lst acc, i, hi', k2, g2, fun H3 k3 e3 => ?_⟩
    cases hcI : c i with
    | true =>
      refine iteT ⟨D, .lst acc, i, hi', hcI, k3, g2.mono e3, fun y H4 k4 e4 p4 => ⟨acc, k4.2.2, small1000 ?_, ?_, ?_, acc ++ [y], upd_same, ?_⟩⟩
      · rw [← hR.len]
        have := takes_len f c i
        omega
      · exact W.keep k4.1 fun a z => upd_ne (fun q => nd (q ▸ z))
      · refine (eG.trans (((e2.trans e3).trans e4).trans ?_))
        rw [← hold_upd (o := .lst []) (u := .lst (acc ++ [y]))]
        exact hold_sub
      · rw [takes_yes hcI, hold_upd (o' := .lst acc)]
        exact (hR.mono ((e2.trans e3).trans e4)).snoc p4
    | false =>
      refine iteF ⟨k3.1, eG.trans ((e2.trans e3).trans hold_sub), acc, k3.2.2, ?_⟩
      rw [takes_no hcI, hold_any (o' := .lst acc)]
      exact hR.mono (e2.trans e3)
  · rintro H' ⟨k', e', acc, hDa, hR⟩
    exact q _ H' k' (e1.trans e') ⟨D, acc, rfl, by rw [World.seen nd]; exact hDa, hR.mono hold_sub⟩
theorem ew_lc {elt : Expr} {ifs : List Expr} {scope : Scope} {own : List (Str × Nat)} {g : TG} (f : Nat → Rep) (c : Nat → Bool) (Ms : Nat → Rs) (hc : X.calm = true) (hN : X.N.Nodup) (hi : Iw X W rs tg it n item) (ok : BlkOk X.N X.env.scope scope own) (hn : n ≤ 1000)
    (hg : ∀ (s : Shared) (H : Hp) (C : Addr) (cl : List (Str × Addr)) (fp : List Addr), PG (X.blk s H scope (compEnvC scope cl C X.env) fp) tg g)
    (hown : ∀ i, i < n → OwnG X.K g (own.map (·.2)) (wipeR rs (own.map (·.2))) (item i) (Ms i))
    (ht : ∀ (s : Shared) (H : Hp) (C : Addr) (cl : List (Str × Addr)) (fp : List Addr) (D : Addr) (o : HO) (i : Nat), i < n → PTs (X.blk s H scope (compEnvC scope cl C X.env) fp) ifs (tWT (W.hold D o) (Ms i) (c i)))
    (he : ∀ (s : Shared) (H : Hp) (C : Addr) (cl : List (Str × Addr)) (fp : List Addr) (D : Addr) (o : HO) (i : Nat), i < n → c i = true → Ew (X.blk s H scope (compEnvC scope cl C X.env) fp) (W.hold D o) (Ms i) elt (f i))
    (hs : ∀ x, foldedSetIterable it X.env x = pure x := by intro _; rfl) : Ew X W rs (.ListComp elt [⟨tg, it, ifs, 0⟩] scope pos) (rLst (takes f c n)) :=
  pe_cs (pe_lc hc hN hi ok hg (tt := fun σ H Q => ∃ D o i, i < n ∧ tWT (W.hold D o) (Ms i) (c i) σ H Q) (fun s H C cl fp => ⟨fun pins s' σ H' Q I ⟨D, o, i, hi, q⟩ => (ht s H C cl fp D o i hi).run pins s' σ H' Q I q⟩)
    (te := fun σ H Q => ∃ D o i, i < n ∧ c i = true ∧ tW (W.hold D o) (Ms i) (f i) σ H Q) (fun s H C cl fp => ⟨fun pins s' σ H' Q I ⟨D, o, i, hi, hci, q⟩ => (he s H C cl fp D o i hi hci).run pins s' σ H' Q I q⟩) hs) fun σ H Q h => lc_read (ifs := ifs) f c Ms hn hown h
/-- y = [..] -/
theorem sw_lc (j : Nat) {y : Str} {py spos : Pos} {elt : Expr} {ifs : List Expr} {scope : Scope} {own : List (Str × Nat)} {g : TG} (f : Nat → Rep) (c : Nat → Bool) (Ms : Nat → Rs) (hc : X.calm = true) (hN : X.N.Nodup) (hi : Iw X W rs tg it n item) (ok : BlkOk X.N X.env.scope scope own) (hn : n ≤ 1000)
    (hy : X.N[j]? = some y) (hyl : X.env.scope.names.lookup y = some .local) (hsw : swapsWith (.ListComp elt [⟨tg, it, ifs, 0⟩] scope pos) (some (.Name y py)) spos.line X.env = pure true)
    (hg : ∀ (s : Shared) (H : Hp) (C : Addr) (cl : List (Str × Addr)) (fp : List Addr), PG (X.blk s H scope (compEnvC scope cl C X.env) fp) tg g)
    (hown : ∀ i, i < n → OwnG X.K g (own.map (·.2)) (wipeR rs (own.map (·.2))) (item i) (Ms i))
    (ht : ∀ (s : Shared) (H : Hp) (C : Addr) (cl : List (Str × Addr)) (fp : List Addr) (D : Addr) (o : HO) (i : Nat), i < n → PTs (X.blk s H scope (compEnvC scope cl C X.env) fp) ifs (tWT (W.hold D o) (Ms i) (c i)))
    (he : ∀ (s : Shared) (H : Hp) (C : Addr) (cl : List (Str × Addr)) (fp : List Addr) (D : Addr) (o : HO) (i : Nat), i < n → c i = true → Ew (X.blk s H scope (compEnvC scope cl C X.env) fp) (W.hold D o) (Ms i) elt (f i))
    (hs : ∀ x, foldedSetIterable it X.env x = pure x := by intro _; rfl) : Sw X W rs (.Assign [.Name y py] (.ListComp elt [⟨tg, it, ifs, 0⟩] scope pos) spos) (O.to (rs.set j (some (rLst (takes f c n))))) :=
  ps_cs (ps_setLc hc hN hy hyl hsw hi ok hg (tt := fun σ H Q => ∃ D o i, i < n ∧ tWT (W.hold D o) (Ms i) (c i) σ H Q) (fun s H C cl fp => ⟨fun pins s' σ H' Q I ⟨D, o, i, hi, q⟩ => (ht s H C cl fp D o i hi).run pins s' σ H' Q I q⟩)
    (te := fun σ H Q => ∃ D o i, i < n ∧ c i = true ∧ tW (W.hold D o) (Ms i) (f i) σ H Q) (fun s H C cl fp => ⟨fun pins s' σ H' Q I ⟨D, o, i, hi, hci, q⟩ => (he s H C cl fp D o i hi hci).run pins s' σ H' Q I q⟩) hs) fun D σ H ⟨k, g, r, nx, _⟩ =>
    lc_read (ifs := ifs) f c Ms hn hown ⟨k, g, fun v H' k' e' p' => nx _ rfl _ H' k' e' ((g.mono e').set p')⟩
theorem pts_yes : PTs X [] (tWT W rs true) := ⟨fun pins s σ H Q I ⟨k, g, q⟩ => pts_nil.run pins s σ H Q I (q H k (Ex.refl _))⟩
theorem pts_w {c : Bool} (h : Tw X W rs e c) : PTs X [e] (tWT W rs c) := pts_one h
end
end Py
namespace Py
open PySem L2
section
variable {X : Cx} {W : World} {rs : Rs} {a b c e o tg it : Expr} {r ra rb rc : Rep} {pos p apos : Pos} {O : Outs} {n : Nat}
/-! ### operations on plain data -/
theorem r2_I0 {g : Int → Int → V} {i j : Int} {d : PyData} (hd : ∀ H, Dp X.K H (g i j) d) : R2w W (rI0 g) (rD X.K (.int i)) (rD X.K (.int j)) (rD X.K d) := fun x y H k p q Q h => ⟨i, j, rD_int.mp p, rD_int.mp q, h _ H k (Ex.refl _) (hd _)⟩
theorem r2_I {C : Int → Int → Prop} {g : Int → Int → V} {i j : Int} {d : PyData} (hc : C i j) (hd : ∀ H, Dp X.K H (g i j) d) : R2w W (rI C g) (rD X.K (.int i)) (rD X.K (.int j)) (rD X.K d) := fun x y H k p q Q h => ⟨i, j, rD_int.mp p, rD_int.mp q, hc, h _ H k (Ex.refl _) (hd _)⟩
theorem r2_eqD {d d' : PyData} (h1 : SeqAt.shaped d = true) (h2 : SeqAt.shaped d' = true) : R2w W (rEqD X.K) (rD X.K d) (rD X.K d') (rD X.K (.bool (PyData.eqv d d'))) := fun x y H k p q Q h =>
  ⟨d, d', dp_mono (W.sub H) p, dp_mono (W.sub H) q, h1, h2, h _ H k (Ex.refl _) (Dp.bl _)⟩
theorem r2_neD {d d' : PyData} (h1 : SeqAt.shaped d = true) (h2 : SeqAt.shaped d' = true) : R2w W (rNeD X.K) (rD X.K d) (rD X.K d') (rD X.K (.bool (!PyData.eqv d d'))) := fun x y H k p q Q h =>
  ⟨d, d', dp_mono (W.sub H) p, dp_mono (W.sub H) q, h1, h2, h _ H k (Ex.refl _) (Dp.bl _)⟩
theorem r2_inD {d : PyData} {ds : List PyData} (h1 : SeqAt.shaped d = true) (h2 : SeqAt.shaped (.list ds) = true) : R2w W (rInD X.K) (rD X.K d) (rD X.K (.list ds)) (rD X.K (.bool (ds.any fun z => PyData.eqv z d))) := fun x y H k p q Q h =>
  ⟨d, ds, dp_mono (W.sub H) p, dp_mono (W.sub H) q, h1, h2, h _ H k (Ex.refl _) (Dp.bl _)⟩
theorem r2_notInD {d : PyData} {ds : List PyData} (h1 : SeqAt.shaped d = true) (h2 : SeqAt.shaped (.list ds) = true) : R2w W (rNotInD X.K) (rD X.K d) (rD X.K (.list ds)) (rD X.K (.bool (!ds.any fun z => PyData.eqv z d))) := fun x y H k p q Q h =>
  ⟨d, ds, dp_mono (W.sub H) p, dp_mono (W.sub H) q, h1, h2, h _ H k (Ex.refl _) (Dp.bl _)⟩
/-- .. from letters by their slots' data, the letter given by its value -/
theorem ew_add {i j : Int} (ha : Ew X W rs a (rD X.K (.int i))) (hb : Ew X W rs b (rD X.K (.int j))) : Ew X W rs (.BinOp a .Add b pos) (rD X.K (.int (i + j))) := ew_op op_add ha hb (r2_I0 fun _ => Dp.int _)
theorem ew_subI {i j : Int} (ha : Ew X W rs a (rD X.K (.int i))) (hb : Ew X W rs b (rD X.K (.int j))) : Ew X W rs (.BinOp a .Sub b pos) (rD X.K (.int (i - j))) := ew_op op_sub ha hb (r2_I0 fun _ => Dp.int _)
theorem ew_mul {i j : Int} (ha : Ew X W rs a (rD X.K (.int i))) (hb : Ew X W rs b (rD X.K (.int j))) (hc : CMul i j) : Ew X W rs (.BinOp a .Mult b pos) (rD X.K (.int (i * j))) := ew_op op_mul ha hb (r2_I hc fun _ => Dp.int _)
theorem ew_mod {i j : Int} (ha : Ew X W rs a (rD X.K (.int i))) (hb : Ew X W rs b (rD X.K (.int j))) (hj : 0 < j) : Ew X W rs (.BinOp a .Mod b pos) (rD X.K (.int (i % j))) := ew_op op_mod ha hb (r2_I hj fun _ => Dp.int _)
theorem ew_fdiv {i j : Int} (ha : Ew X W rs a (rD X.K (.int i))) (hb : Ew X W rs b (rD X.K (.int j))) (hc : CDiv i j) : Ew X W rs (.BinOp a .FloorDiv b pos) (rD X.K (.int (i / j))) := ew_op op_fdiv ha hb (r2_I hc fun _ => Dp.int _)
theorem ew_fdivW {i j : Int} (ha : Ew X W rs a (rD X.K (.int i))) (hb : Ew X W rs b (rD X.K (.int j))) (hc : CDivW i j) : Ew X W rs (.BinOp a .FloorDiv b pos) (rD X.K (.int (i / j))) := ew_op op_fdivW ha hb (r2_I hc fun _ => Dp.int _)
theorem ew_pow {i j : Int} (ha : Ew X W rs a (rD X.K (.int i))) (hb : Ew X W rs b (rD X.K (.int j))) (hc : CPow i j) : Ew X W rs (.BinOp a .Pow b pos) (rD X.K (.int (i ^ j.toNat))) := ew_op op_pow ha hb (r2_I hc fun _ => Dp.int _)
theorem ew_lt {i j : Int} (ha : Ew X W rs a (rD X.K (.int i))) (hb : Ew X W rs b (rD X.K (.int j))) : Ew X W rs (.Compare a [.Lt] [b] pos) (rD X.K (.bool (decide (i < j)))) := ew_cmp op_lt ha hb (r2_I0 fun _ => Dp.bl _) (nomark _)
theorem ew_le {i j : Int} (ha : Ew X W rs a (rD X.K (.int i))) (hb : Ew X W rs b (rD X.K (.int j))) : Ew X W rs (.Compare a [.LtE] [b] pos) (rD X.K (.bool (decide (i ≤ j)))) := ew_cmp op_le ha hb (r2_I0 fun _ => Dp.bl _) (nomark _)
theorem ew_gt {i j : Int} (ha : Ew X W rs a (rD X.K (.int i))) (hb : Ew X W rs b (rD X.K (.int j))) : Ew X W rs (.Compare a [.Gt] [b] pos) (rD X.K (.bool (decide (j < i)))) := ew_cmp op_gt ha hb (r2_I0 fun _ => Dp.bl _) (nomark _)
theorem ew_ge {i j : Int} (ha : Ew X W rs a (rD X.K (.int i))) (hb : Ew X W rs b (rD X.K (.int j))) : Ew X W rs (.Compare a [.GtE] [b] pos) (rD X.K (.bool (decide (j ≤ i)))) := ew_cmp op_ge ha hb (r2_I0 fun _ => Dp.bl _) (nomark _)
theorem ew_eqD {d d' : PyData} (hu : X.A.units + 64 < cLine) (ha : Ew X W rs a (rD X.K d)) (hb : Ew X W rs b (rD X.K d')) (h1 : SeqAt.shaped d = true) (h2 : SeqAt.shaped d' = true) : Ew X W rs (.Compare a [.Eq] [b] pos) (rD X.K (.bool (PyData.eqv d d'))) := ew_cmp (op_eqD hu) ha hb (r2_eqD h1 h2) (nomark _)
theorem ew_neD {d d' : PyData} (hu : X.A.units + 64 < cLine) (ha : Ew X W rs a (rD X.K d)) (hb : Ew X W rs b (rD X.K d')) (h1 : SeqAt.shaped d = true) (h2 : SeqAt.shaped d' = true) : Ew X W rs (.Compare a [.NotEq] [b] pos) (rD X.K (.bool (!PyData.eqv d d'))) := ew_cmp (op_neD hu) ha hb (r2_neD h1 h2) (nomark _)
theorem tw_lt {i j : Int} (ha : Ew X W rs a (rD X.K (.int i))) (hb : Ew X W rs b (rD X.K (.int j))) : Tw X W rs (.Compare a [.Lt] [b] pos) (decide (i < j)) := tw_cmp op_lt ha hb (r2_I0 fun _ => Dp.bl _) (nomark _)
theorem tw_le {i j : Int} (ha : Ew X W rs a (rD X.K (.int i))) (hb : Ew X W rs b (rD X.K (.int j))) : Tw X W rs (.Compare a [.LtE] [b] pos) (decide (i ≤ j)) := tw_cmp op_le ha hb (r2_I0 fun _ => Dp.bl _) (nomark _)
theorem tw_gt {i j : Int} (ha : Ew X W rs a (rD X.K (.int i))) (hb : Ew X W rs b (rD X.K (.int j))) : Tw X W rs (.Compare a [.Gt] [b] pos) (decide (j < i)) := tw_cmp op_gt ha hb (r2_I0 fun _ => Dp.bl _) (nomark _)
theorem tw_ge {i j : Int} (ha : Ew X W rs a (rD X.K (.int i))) (hb : Ew X W rs b (rD X.K (.int j))) : Tw X W rs (.Compare a [.GtE] [b] pos) (decide (j ≤ i)) := tw_cmp op_ge ha hb (r2_I0 fun _ => Dp.bl _) (nomark _)
theorem tw_eqD {d d' : PyData} (hu : X.A.units + 64 < cLine) (ha : Ew X W rs a (rD X.K d)) (hb : Ew X W rs b (rD X.K d')) (h1 : SeqAt.shaped d = true) (h2 : SeqAt.shaped d' = true) : Tw X W rs (.Compare a [.Eq] [b] pos) (PyData.eqv d d') := tw_cmp (op_eqD hu) ha hb (r2_eqD h1 h2) (nomark _)
theorem tw_neD {d d' : PyData} (hu : X.A.units + 64 < cLine) (ha : Ew X W rs a (rD X.K d)) (hb : Ew X W rs b (rD X.K d')) (h1 : SeqAt.shaped d = true) (h2 : SeqAt.shaped d' = true) : Tw X W rs (.Compare a [.NotEq] [b] pos) (!PyData.eqv d d') := tw_cmp (op_neD hu) ha hb (r2_neD h1 h2) (nomark _)
/-- a < b < c -/
theorem ew_chain {op op' : CmpOp} {f f' : R2} {u v : Bool} (ho : OpR X (compareOp op) f) (ho' : OpR X (compareOp op') f') (ha : Ew X W rs a ra) (hb : Ew X W rs b rb) (hc : Ew X W rs c rc) (hf : R2w W f ra rb (rD X.K (.bool u))) (hf' : u = true → R2w W f' rb rc (rD X.K (.bool v)))
    (hm : lastMarks [op, op'] [b, c] = false := by with_unfolding_all rfl) : Ew X W rs (.Compare a [op, op'] [b, c] pos) (rD X.K (.bool (u && v))) := by
  refine pe_cs (pe_chain ho ho' ha hb hc hm) ?_
  rintro σ H Q ⟨k, g, q⟩
  refine ⟨k, g, fun x H1 k1 e1 p1 => ⟨k1, g.mono e1, fun y H2 k2 e2 p2 => ?_⟩⟩
  refine hf x y H2 k2 (ra.mono e2 p1) p2 _ fun z H3 k3 e3 p3 => ⟨u, rD_bl.mp p3, ?_⟩
  cases u with
  | true => exact iteT ⟨k3, g.mono ((e1.trans e2).trans e3), fun w H4 k4 e4 p4 => hf' rfl y w H4 k4 (rb.mono (e3.trans e4) p2) p4 Q fun v' H5 k5 e5 p5 => q v' H5 k5 ((((e1.trans e2).trans e3).trans e4).trans e5) p5⟩
  | false => exact iteF (q _ H3 k3 ((e1.trans e2).trans e3) (Dp.bl false))
theorem tw_chain {op op' : CmpOp} {f f' : R2} {u v : Bool} (ho : OpR X (compareOp op) f) (ho' : OpR X (compareOp op') f') (ha : Ew X W rs a ra) (hb : Ew X W rs b rb) (hc : Ew X W rs c rc) (hf : R2w W f ra rb (rD X.K (.bool u))) (hf' : u = true → R2w W f' rb rc (rD X.K (.bool v)))
    (hm : lastMarks [op, op'] [b, c] = false := by with_unfolding_all rfl) : Tw X W rs (.Compare a [op, op'] [b, c] pos) (u && v) := by
  refine pt_cs (pt_chain ho ho' ha hb hc hm) ?_
  rintro σ H Q ⟨k, g, q⟩
  refine ⟨k, g, fun x H1 k1 e1 p1 => ⟨k1, g.mono e1, fun y H2 k2 e2 p2 => ?_⟩⟩
  refine hf x y H2 k2 (ra.mono e2 p1) p2 _ fun z H3 k3 e3 p3 => ⟨u, rD_bl.mp p3, ?_⟩
  cases u with
  | true => exact iteT ⟨k3, g.mono ((e1.trans e2).trans e3), fun w H4 k4 e4 p4 => hf' rfl y w H4 k4 (rb.mono (e3.trans e4) p2) p4 _ fun v' H5 k5 e5 p5 => ⟨_, rD_bl.mp p5, q H5 k5 ((((e1.trans e2).trans e3).trans e4).trans e5)⟩⟩
  | false => exact iteF ⟨_, rfl, q H3 k3 ((e1.trans e2).trans e3)⟩
/-! ### items -/
theorem at_nat {xs : List V} {i : Nat} {x : V} {z : Int} (hz : z = (i : Int)) (h : xs[i]? = some x) : atI xs z = some x := hz ▸ atI_nat h
theorem r2_ixT {rl : List Rep} {z : Int} {i : Nat} (hz : z = (i : Int)) (hr : rl[i]? = some r) : R2w W (rIxT X.K) (rTup X.K rl) (rD X.K (.int z)) r := fun x y H k ⟨p, xs, ex, hs, h⟩ q Q n => by
  obtain ⟨v, hv, pv⟩ := h.get hr
  exact ⟨p, xs, z, v, ex, rD_int.mp q, sqT_mono (W.sub H) hs, at_nat hz hv, n v H k (Ex.refl _) pv⟩
theorem r2_ixL {rl : List Rep} {z : Int} {i : Nat} (hz : z = (i : Int)) (hr : rl[i]? = some r) : R2w W (rIxL X.K) (rSeq X.K rl) (rD X.K (.int z)) r := fun x y H k ⟨p, xs, ex, hs, h⟩ q Q n => by
  obtain ⟨v, hv, pv⟩ := h.get hr
  exact ⟨p, xs, z, v, ex, rD_int.mp q, sqL_mono (W.sub H) hs, at_nat hz hv, n v H k (Ex.refl _) pv⟩
theorem ew_ix {f : R2} (hf : IxR X f) (ha : Ew X W rs a ra) (hb : Ew X W rs b rb) (h : R2w W f ra rb rc) (hs : PlainIx b) : Ew X W rs (.Subscript a b pos) rc := pe_cs (pe_ix hf ha hb hs) fun _ _ _ q => two ha hb h q
theorem ew_ixT {rl : List Rep} {z : Int} (i : Nat) (ha : Ew X W rs a (rTup X.K rl)) (hb : Ew X W rs b (rD X.K (.int z))) (hz : z = (i : Int)) (hr : rl[i]? = some r) (hs : PlainIx b) : Ew X W rs (.Subscript a b pos) r := ew_ix ix_tup ha hb (r2_ixT hz hr) hs
theorem ew_ixL {rl : List Rep} {z : Int} (i : Nat) (ha : Ew X W rs a (rSeq X.K rl)) (hb : Ew X W rs b (rD X.K (.int z))) (hz : z = (i : Int)) (hr : rl[i]? = some r) (hs : PlainIx b) : Ew X W rs (.Subscript a b pos) r := ew_ix ix_list ha hb (r2_ixL hz hr) hs
theorem ew_ixTD {ds : List PyData} {d : PyData} {z : Int} (i : Nat) (ha : Ew X W rs a (rD X.K (.tuple ds))) (hb : Ew X W rs b (rD X.K (.int z))) (hz : z = (i : Int)) (hr : ds[i]? = some d) (hs : PlainIx b) : Ew X W rs (.Subscript a b pos) (rD X.K d) :=
  ew_ixT i (ew_sub ha fun _ _ p => rD_tup.mp p) hb hz (by rw [List.getElem?_map, hr]; rfl) hs
theorem ew_ixLD {ds : List PyData} {d : PyData} {z : Int} (i : Nat) (ha : Ew X W rs a (rD X.K (.list ds))) (hb : Ew X W rs b (rD X.K (.int z))) (hz : z = (i : Int)) (hr : ds[i]? = some d) (hs : PlainIx b) : Ew X W rs (.Subscript a b pos) (rD X.K d) :=
  ew_ixL i (ew_sub ha fun _ _ p => rD_lst.mp p) hb hz (by rw [List.getElem?_map, hr]; rfl) hs
/-! ### promises -/
/-- called with such values in a world, it hands back such a value, and only makes objects there -/
def spW {α : Type} (pre : World → α → Prop) (args : α → List Rep) (res : α → Rep) : Sp := fun vs H Q _ => ∃ (W : World) (z : α), pre W z ∧ W.ok H ∧ Reps (args z) vs (W.vis H) ∧ ∀ v H', W.ok H' → Ex (W.vis H) (W.vis H') → (res z).p v (W.vis H') → Q v H'
/-- an __init__: the new instance's fields -/
def spI {α : Type} (C : Addr) (pre : α → Prop) (args : α → List Rep) (fs : α → List (Str × Rep)) : Sp := fun vs H Q _ => ∃ (W : World) (z : α) (x dx : Addr) (ws : List V), vs = .ref x :: ws ∧ pre z ∧ (W.hold x (.ins C dx [])).ok H ∧ Reps (args z) ws ((W.hold x (.ins C dx [])).vis H) ∧
  ∀ gs H', (W.hold x (.ins C dx gs)).ok H' → Ex ((W.hold x (.ins C dx [])).vis H) ((W.hold x (.ins C dx gs)).vis H') → Flds (fs z) gs ((W.hold x (.ins C dx gs)).vis H') → Q .non H'
abbrev FnC (X : Cx) (k : Nat) (f : Addr) (sp : Sp) : Prop := FnR X.prog X.w X.K X.mg X.base CX0 k f sp
/-- f(e, ..) -/
theorem pe_callR {k : Nat} {f : Addr} {sp : Sp} {x : Str} {es : List Expr} {t : TA} (F : FnC X k f sp) (hr : Room k X.A) (hk : PySem.W.keepIn X.K (.ref f) = true) (hg : Gl X x) (hm : X.mg x = some (.ref f)) (ha : PA X (e :: es) t) (hdb : (x == ("__debug__" : Str)) = false := by decide)
    (he : starEach (e :: es) X.env = (false, eval e X.env) :: starEach es X.env := by rfl) (hpl : (backTo pos (starEach es X.env)).any (·.1) = false := by rfl) : PE X (.Call (.Name x p) (e :: es) [] pos) (fun σ H Q => t σ H fun vs H1 => sp vs H1 Q E0) := by
  refine ⟨fun pins s σ H Q I h => ?_⟩
  refine wpAny_Call_Name_kw (ld_glob I hg hm ?_ hdb)
  refine PySem.W.callWith_K (h₀ := X.base) I.ok.mod.kin hk (thn (ha.run pos pins s σ H _ I h) fun us s1 ⟨vs, H1, I1, r, q⟩ => ⟨I1.kIn, ?_⟩) he hpl
  exact wpAny_call (run_fnR F hr pass0 I1 r q)
theorem ew_call {k : Nat} {f : Addr} {x : Str} {es : List Expr} {α : Type} {pre : World → α → Prop} {args : α → List Rep} {res : α → Rep} (z : α) (F : FnC X k f (spW pre args res)) (hr : Room k X.A) (hk : PySem.W.keepIn X.K (.ref f) = true) (hg : Gl X x) (hm : X.mg x = some (.ref f))
    (ha : Aw X W rs (e :: es) (args z)) (hp : pre W z) (hdb : (x == ("__debug__" : Str)) = false := by decide) (he : starEach (e :: es) X.env = (false, eval e X.env) :: starEach es X.env := by rfl) (hpl : (backTo pos (starEach es X.env)).any (·.1) = false := by rfl) :
    Ew X W rs (.Call (.Name x p) (e :: es) [] pos) (res z) :=
  pe_cs (pe_callR F hr hk hg hm ha hdb he hpl) fun σ H Q ⟨k, g, q⟩ => ⟨k, g, fun vs H1 k1 e1 p1 => ⟨W, z, hp, k1, p1, fun v H2 k2 e2 p2 => q v H2 k2 (e1.trans e2) p2⟩⟩
/-- C(e, ..) -/
theorem ew_make {k : Nat} {f C : Addr} {x : Str} {es : List Expr} {α : Type} {pre : α → Prop} {args : α → List Rep} {fs : α → List (Str × Rep)} (z : α) (M : Mk X.K C f) (F : FnC X k f (spI C pre args fs)) (hr : Room (k + 1) X.A) (hg : Gl X x) (hm : X.mg x = some (.ref C))
    (ha : Aw X W rs (e :: es) (args z)) (hp : pre z) (hdb : (x == ("__debug__" : Str)) = false := by decide) (he : starEach (e :: es) X.env = (false, eval e X.env) :: starEach es X.env := by rfl) (hpl : (backTo pos (starEach es X.env)).any (·.1) = false := by rfl) :
    Ew X W rs (.Call (.Name x p) (e :: es) [] pos) (rIns C (fs z)) := by
  refine pe_cs (StX.pe_makeR M F hr hg hm pass0 ha hdb he hpl) ?_
  rintro σ H Q ⟨k, g, q⟩
  refine ⟨k, g, fun vs H1 k1 e1 p1 x dx hx hdx hne => ?_⟩
  have hdx2 : (upd H1 dx (.own x)) x = none := by rw [upd_ne (Ne.symm hne)]; exact hx
  have k2 := hold_new (o := .ins C dx []) (World.okNew (o := .own x) k1 hdx) hdx2
  have eh : Ex (W.vis H1) ((W.hold x (.ins C dx [])).vis (upd (upd H1 dx (.own x)) x (.ins C dx []))) := hold_of (World.visNone hx) ((World.visEx k1 (Ex.new hdx)).trans (World.visEx (World.okNew k1 hdx) (Ex.new hdx2)))
  refine ⟨W, z, x, dx, vs, rfl, hp, k2, p1.mono eh, fun gs H' k' e' fl => ⟨rfl, q _ H' k'.1 (e1.trans ((eh.trans e').trans hold_sub)) ⟨x, dx, gs, rfl, hold_seen k', fl.mono hold_sub⟩⟩⟩
/-! ### fields, methods, properties -/
theorem ew_fld {C : Addr} {fs : List (Str × Rep)} {f : Str} (h : Ew X W rs o (rIns C fs)) (hf : fs.lookup f = some r) (c : Cls X.K C) (n : NoAttr X.K C f) (hb : attributeBase o f X.env (eval o X.env) = eval o X.env) : Ew X W rs (.Attribute o f pos) r := by
  refine pe_cs (pe_fld h hb) ?_
  rintro σ H Q ⟨k, g, q⟩
  refine ⟨k, g, ?_⟩
  rintro v H1 k1 e1 ⟨p, dx, gs, ev, hi, fl⟩
  obtain ⟨y, hy, py⟩ := fl.look hf
  exact ⟨p, C, dx, gs, y, ev, W.sub H1 _ _ hi, c, n, hy, q y H1 k1 e1 py⟩
/-- a method that such an object has, with such arguments -/
structure HasM (X : Cx) (W : World) (ro : Rep) (m : Str) (rl : List Rep) (rc : Rep) : Prop where
  go : ∀ (v : V) (H : Hp), W.ok H → ro.p v (W.vis H) → ∃ (a C dx f : Addr) (fs : List (Str × V)) (k : Nat) (sp : Sp), v = .ref a ∧ W.vis H a = some (.ins C dx fs) ∧ fs.lookup m = none ∧ Cls X.K C ∧ Meth X.K C m f ∧ FnC X k f sp ∧ Room (k + 1) X.A ∧
    ∀ (vs : List V) (H1 : Hp), W.ok H1 → Ex (W.vis H) (W.vis H1) → Reps rl vs (W.vis H1) → ∀ Q : VK, (∀ w H', W.ok H' → Ex (W.vis H1) (W.vis H') → rc.p w (W.vis H') → Q w H') → sp (v :: vs) H1 Q E0
theorem hasM {C f : Addr} {fs : List (Str × Rep)} {m : Str} {rl : List Rep} {k : Nat} {α : Type} {pre : World → α → Prop} {args : α → List Rep} {res : α → Rep} (z : α) (c : Cls X.K C) (hm : Meth X.K C m f) (F : FnC X k f (spW pre args res)) (hr : Room (k + 1) X.A) (hp : pre W z) (ha : args z = rIns C fs :: rl)
    (hl : fs.lookup m = none) (hrc : res z = rc) : HasM X W (rIns C fs) m rl rc := ⟨fun v H kH ⟨p, dx, gs, ev, hi, fl⟩ => ⟨p, C, dx, f, gs, k, _, ev, hi, fl.no hl, c, hm, F, hr, fun vs H1 k1 e1 p1 Q q => ⟨W, z, hp, k1, by rw [ha]; exact ⟨(rIns C fs).mono e1 ⟨p, dx, gs, ev, hi, fl⟩, p1⟩, fun w H' k' e' pw => q w H' k' e' (hrc ▸ pw)⟩⟩⟩
theorem pe_methD {m : Str} {es : List Expr} {ta : TE} {t : TA} {pl : Sem Bool} (he : PE X o ta) (ha : PA X (e :: es) t) (hst : starEach (e :: es) X.env = (false, eval e X.env) :: starEach es X.env) (hpl : (backTo pos (starEach es X.env)).any (·.1) = false)
    (ht : eval (.Call (.Attribute o m apos) (e :: es) [] pos) X.env = (do
      let ov ← eval o X.env
      standAt apos.atName
      let (f, first) ← holding [ov] (getMethod ov m pl)
      callWith pos f first (backTo pos (starEach (e :: es) X.env)) (backToKw pos (keywordEach [] X.env)))) :
    PE X (.Call (.Attribute o m apos) (e :: es) [] pos) (fun σ H Q => ta σ H fun x H1 => ∃ (a C dx f : Addr) (fs : List (Str × V)) (k : Nat) (sp : Sp), x = .ref a ∧ H1 a = some (.ins C dx fs) ∧ fs.lookup m = none ∧ Cls X.K C ∧ Meth X.K C m f ∧ FnC X k f sp ∧ Room k X.A ∧ t σ H1 fun vs H2 => sp (x :: vs) H2 Q E0) := by
  refine ⟨fun pins s σ H Q I h => ?_⟩
  refine PySem.W.methodCall_KW (pl := pl) (thn (he.run pins s σ H _ I h) fun u s1 ⟨x, H1, I1, rx, a, C, dx, f, fs, k, sp, ex, ea, l, c, hm, F, hr, q⟩ => ?_) ht
  subst ex
  obtain rfl : u = Value.ref a := rx
  refine getmeth_ok I1 ea c hm l ?_
  refine PySem.W.callWith_K (first := [.ref a]) (h₀ := X.base) I.ok.mod.kin hm.kp (thn (ha.run pos pins s1 σ H1 _ I1 q) fun us s2 ⟨vs, H2, I2, r, q2⟩ => ⟨I2.kIn, ?_⟩) hst hpl
  exact wpAny_call (run_fnR (us := .ref a :: us) (vs := .ref a :: vs) F hr pass0 I2 (.cons rfl r) q2)
theorem pe_methD0 {m : Str} {ta : TE} {pl : Sem Bool} (he : PE X o ta) (ht : eval (.Call (.Attribute o m apos) [] [] pos) X.env = (do
      let ov ← eval o X.env
      standAt apos.atName
      let (f, first) ← holding [ov] (getMethod ov m pl)
      callWith pos f first (backTo pos (starEach [] X.env)) (backToKw pos (keywordEach [] X.env)))) :
    PE X (.Call (.Attribute o m apos) [] [] pos) (fun σ H Q => ta σ H fun x H1 => ∃ (a C dx f : Addr) (fs : List (Str × V)) (k : Nat) (sp : Sp), x = .ref a ∧ H1 a = some (.ins C dx fs) ∧ fs.lookup m = none ∧ Cls X.K C ∧ Meth X.K C m f ∧ FnC X k f sp ∧ Room k X.A ∧ sp [x] H1 Q E0) := by
  refine ⟨fun pins s σ H Q I h => ?_⟩
  refine PySem.W.methodCall_KW (pl := pl) (thn (he.run pins s σ H _ I h) fun u s1 ⟨x, H1, I1, rx, a, C, dx, f, fs, k, sp, ex, ea, l, c, hm, F, hr, q⟩ => ?_) ht
  subst ex
  obtain rfl : u = Value.ref a := rx
  refine getmeth_ok I1 ea c hm l ?_
  exact PySem.W.callWith_K0 (first := [.ref a]) I1.kIn hm.kp (wpAny_call (run_fnR (us := [.ref a]) (vs := [.ref a]) F hr pass0 I1 (.cons rfl .nil) q))
theorem ew_meth {m : Str} {es : List Expr} {rl : List Rep} {ro : Rep} {pl : Sem Bool} (h : Ew X W rs o ro) (ha : Aw X W rs (e :: es) rl) (hm : HasM X W ro m rl rc) (hst : starEach (e :: es) X.env = (false, eval e X.env) :: starEach es X.env := by rfl) (hpl : (backTo pos (starEach es X.env)).any (·.1) = false := by rfl)
    (ht : eval (.Call (.Attribute o m apos) (e :: es) [] pos) X.env = (do
      let ov ← eval o X.env
      standAt apos.atName
      let (f, first) ← holding [ov] (getMethod ov m pl)
      callWith pos f first (backTo pos (starEach (e :: es) X.env)) (backToKw pos (keywordEach [] X.env))) := by rfl) : Ew X W rs (.Call (.Attribute o m apos) (e :: es) [] pos) rc := by
  refine pe_cs (pe_methD h ha hst hpl ht) ?_
  rintro σ H Q ⟨k, g, q⟩
  refine ⟨k, g, fun v H1 k1 e1 p1 => ?_⟩
  obtain ⟨p, C, dx, f, fs, j, sp, ev, hi, l, c, m', F, hr, go⟩ := hm.go v H1 k1 p1
  exact ⟨p, C, dx, f, fs, j, sp, ev, W.sub H1 _ _ hi, l, c, m', F, hr.mono (Nat.le_succ _), k1, g.mono e1, fun vs H2 k2 e2 p2 => go vs H2 k2 e2 p2 Q fun w H' k' e' pw => q w H' k' ((e1.trans e2).trans e') pw⟩
theorem ew_meth0 {m : Str} {ro : Rep} {pl : Sem Bool} (h : Ew X W rs o ro) (hm : HasM X W ro m [] rc)
    (ht : eval (.Call (.Attribute o m apos) [] [] pos) X.env = (do
      let ov ← eval o X.env
      standAt apos.atName
      let (f, first) ← holding [ov] (getMethod ov m pl)
      callWith pos f first (backTo pos (starEach [] X.env)) (backToKw pos (keywordEach [] X.env))) := by rfl) : Ew X W rs (.Call (.Attribute o m apos) [] [] pos) rc := by
  refine pe_cs (pe_methD0 h ht) ?_
  rintro σ H Q ⟨k, g, q⟩
  refine ⟨k, g, fun v H1 k1 e1 p1 => ?_⟩
  obtain ⟨p, C, dx, f, fs, j, sp, ev, hi, l, c, m', F, hr, go⟩ := hm.go v H1 k1 p1
  exact ⟨p, C, dx, f, fs, j, sp, ev, W.sub H1 _ _ hi, l, c, m', F, hr.mono (Nat.le_succ _), go [] H1 k1 (Ex.refl _) trivial Q fun w H' k' e' pw => q w H' k' (e1.trans e') pw⟩
/-- a property that such an object has -/
structure HasP (X : Cx) (W : World) (ro : Rep) (m : Str) (rc : Rep) : Prop where
  go : ∀ (v : V) (H : Hp), W.ok H → ro.p v (W.vis H) → ∃ (a C dx q f : Addr) (fs : List (Str × V)) (k : Nat) (sp : Sp), v = .ref a ∧ W.vis H a = some (.ins C dx fs) ∧ Cls X.K C ∧ PropOf X.K C m q f ∧ FnC X k f sp ∧ Room (k + 1) X.A ∧
    ∀ Q : VK, (∀ w H', W.ok H' → Ex (W.vis H) (W.vis H') → rc.p w (W.vis H') → Q w H') → sp [v] H Q E0
theorem hasP {C q f : Addr} {fs : List (Str × Rep)} {m : Str} {k : Nat} {α : Type} {pre : World → α → Prop} {args : α → List Rep} {res : α → Rep} (z : α) (c : Cls X.K C) (hm : PropOf X.K C m q f) (F : FnC X k f (spW pre args res)) (hr : Room (k + 1) X.A) (hp : pre W z) (ha : args z = [rIns C fs])
    (hrc : res z = rc) : HasP X W (rIns C fs) m rc := ⟨fun v H kH ⟨p, dx, gs, ev, hi, fl⟩ => ⟨p, C, dx, q, f, gs, k, _, ev, hi, c, hm, F, hr, fun Q n => ⟨W, z, hp, kH, by rw [ha]; exact ⟨⟨p, dx, gs, ev, hi, fl⟩, trivial⟩, fun w H' k' e' pw => n w H' k' e' (hrc ▸ pw)⟩⟩⟩
theorem getpropR {pins : List (Addr × Obj)} {σ : St} {H : Hp} {s : Shared} {Q : VK} {b : Bool} {E' : Value → Shared → Prop} {C q g a dx : Addr} {fs : List (Str × V)} {f : Str} {k : Nat} {sp : Sp} (I : Inv X pins σ H s) (ea : H a = some (.ins C dx fs)) (c : Cls X.K C) (hp : PropOf X.K C f q g)
    (F : FnC X k g sp) (hr : Room (k + 1) X.A) (h : sp [.ref a] H Q E0) : wpAny (model X.prog X.w) X.A (getAttr (.ref a) f b) (EP X pins σ Q) E' s := by
  obtain ⟨mA, O, _, _, _, _⟩ := ins_get I.hok ea
  obtain ⟨od, J, _⟩ := O.look
  obtain ⟨rest, hrec⟩ := hp.rec_
  have I1 := I.tok (s.toks + 1)
  have hc : (PySem.W.clsIn X.K C).isSome = true := by
    obtain ⟨cd, hc, _⟩ := PySem.W.any_some c.hd
    rw [hc]
    rfl
  refine PySem.W.get_bind I.kIn J (PySem.W.plainGet_of (c.get f)).1 (PySem.W.findObj_data hc hp.at_ hp.get hp.tak) (PySem.W.plainGet_of (c.get f)).2 (wpAny_call (PySem.W.prop_get (s := { s with toks := s.toks + 1 }) I.kIn hrec ?_))
  refine codeAny_mono (F X.A.in1 X.stack { s with toks := s.toks + 1 } H [.ref a] [.ref a] Q E0 hr.in1 I1.env0.in1 (.cons rfl .nil) h) fun r s' hq => ?_
  cases r with
  | error er => exact hq.elim
  | ok fl =>
    cases fl with
    | ret u =>
      obtain ⟨v, H', I3, rv, q3⟩ := I1.after hq
      show wpAny _ _ (handedOut u) _ _ _
      rw [PySem.W.handedOut_of (handed_of rv)]
      exact wpAny_pure ⟨v, H', I3, rv, q3⟩
    | next => exact False.elim hq
    | brk => exact False.elim hq
    | cont => exact False.elim hq
theorem ew_prop {m : Str} {ro : Rep} (h : Ew X W rs o ro) (hm : HasP X W ro m rc) (hab : attributeBase o m X.env (eval o X.env) = eval o X.env) : Ew X W rs (.Attribute o m pos) rc := by
  refine ⟨fun pins s σ H Q I q => ?_⟩
  obtain ⟨kH, g, q⟩ := q
  refine attr_of hab (thn (h.run pins s σ H (fun v H1 => W.ok H1 ∧ Ex (W.vis H) (W.vis H1) ∧ ro.p v (W.vis H1)) I ⟨kH, g, fun v H1 k1 e1 p1 => ⟨k1, e1, p1⟩⟩) fun u s1 ⟨x, H1, I1, rx, k1, e1, p1⟩ => ?_)
  obtain ⟨p, C, dx, q', f, fs, j, sp, ev, hi, c, hp, F, hr, go⟩ := hm.go x H1 k1 p1
  subst ev
  obtain rfl : u = Value.ref p := rx
  exact getpropR I1 (W.sub H1 _ _ hi) c hp F hr (go Q fun w H' k' e' pw => q w H' k' (e1.trans e') pw)
end
end Py
namespace Py
open PySem L2
/-! ### own special methods -/
section
variable {X : Cx} {CX : CXT} {pins : List (Addr × Obj)} {σ : St} {H : Hp} {s : Shared} {a C f : Addr} {sp : Sp} {k : Nat}
theorem cmpback {P : Value → Shared → Prop} {z : V} {v : Value} {s' : Shared} (r : RelV z v) (h : P v s') : PySem.W.CmpBack P v s' := by
  cases z with
  | non => cases (show v = Value.none from r); exact h
  | bl b => cases (show v = Value.bool b from r); exact h
  | int i =>
    obtain ⟨t, e⟩ := (show ∃ t, v = Value.int i t from r)
    cases e
    exact h
  | str x =>
    obtain ⟨t, e⟩ := (show ∃ t, v = Value.str x t from r)
    cases e
    exact h
  | byt b =>
    obtain ⟨t, e⟩ := (show ∃ t, v = Value.bytes b t from r)
    cases e
    exact h
  | flt b =>
    obtain ⟨t, e⟩ := (show ∃ t, v = Value.float b t from r)
    cases e
    exact h
  | ref a => cases (show v = Value.ref a from r); exact h
  | ty n => cases (show v = Value.type n from r); exact h
/-- the callee runs somewhere below the running body -/
theorem run_at {A : Around} {Q : VK} {us : List Value} {ws : List V} (F : FnC X k f sp) (hr : Room k A) (e0 : Env0 X.prog X.w X.K X.mg X.base A X.stack s H) (I : Inv X pins σ H s) (r : Vals ws us) (h : sp ws H Q E0) :
    codeAny (model X.prog X.w) A (.call (.ref f) ⟨us, []⟩) (fun r s' => match r with | .ok (.ret v) => EP X pins σ Q v s' | .ok _ => False | .error e => X.xe e s') s := by
  refine codeAny_mono (F A X.stack s H us ws Q E0 hr e0 r h) fun r s' hq => ?_
  cases r with
  | error e => exact hq.elim
  | ok fl =>
    cases fl with
    | ret u => exact I.after hq
    | next => exact False.elim hq
    | brk => exact False.elim hq
    | cont => exact False.elim hq
theorem inst_of {dx : Addr} {fs : List (Str × V)} (I : Inv X pins σ H s) (h : H a = some (.ins C dx fs)) : ∃ od, PySem.W.InstAt s.heap a (PySem.W.instObj C dx) C (some od) := by
  obtain ⟨mA, J, _⟩ := ins_get I.hok h
  obtain ⟨od, J, _⟩ := J.look
  exact ⟨od, J⟩
/-- an object's special method: what is asked -/
def Own (X : Cx) (m : Str) (x : V) (H : Hp) (ws : List V) (Q : VK) : Prop := ∃ (a C dx f : Addr) (fs : List (Str × V)) (k : Nat) (sp : Sp), x = .ref a ∧ H a = some (.ins C dx fs) ∧ Meth X.K C m f ∧ FnC X k f sp ∧ Room (k + 1) X.A ∧ sp (x :: ws) H Q E0
theorem un_own : UnR X (unaryOp .USub) (fun x H Q => Own X "__neg__" x H [] Q) := by
  intro pins s σ H x v Q I rx ⟨a, C, dx, f, fs, k, sp, ex, hi, hm, F, hr, q⟩
  subst ex
  obtain rfl : v = Value.ref a := rx
  obtain ⟨m, hF⟩ := I.fr
  obtain ⟨od, J⟩ := inst_of I hi
  exact PySem.W.ksp_neg hF I.ok.mod.kin J hm.at_ hm.fn (wpAny_call (run_at (us := [.ref a]) (ws := [.ref a]) F (hr.mono (Nat.le_succ _)) I.env0 I (.cons rfl .nil) q))
theorem op_own (op : Operator) {y : V} : OpR X (binaryOp op) (fun x y H Q => Own X (PySem.dunder op.info.2) x H [y] Q ∧ ∃ a b C dx dy fs gs, x = .ref a ∧ y = .ref b ∧ H a = some (.ins C dx fs) ∧ H b = some (.ins C dy gs) ∧ PySem.W.selfFirst X.K C = true) := by
  intro pins s σ H x y v u Q I rx ry ⟨⟨a, C, dx, f, fs, k, sp, ex, hi, hm, F, hr, q⟩, a', b, C', dx', dy, fs', gs, ex', ey, hi', hj, hc⟩
  subst ex
  cases ex'
  subst ey
  rw [hi] at hi'
  cases hi'
  obtain rfl : v = Value.ref a := rx
  obtain rfl : u = Value.ref b := ry
  obtain ⟨m, hF⟩ := I.fr
  obtain ⟨od, J⟩ := inst_of I hi
  obtain ⟨od', J'⟩ := inst_of I hj
  refine PySem.W.binop_K hF I.ok.mod.kin J J'.type hc hm.at_ hm.fn (thn (wpAny_call (run_at (us := [.ref a, .ref b]) (ws := [.ref a, .ref b]) F (hr.mono (Nat.le_succ _)) I.env0 I (.cons rfl (.cons rfl .nil)) q)) fun w s' h => ?_)
  obtain ⟨z, H', I', rz, qz⟩ := h
  exact cmpback rz ⟨z, H', I', rz, qz⟩
theorem cmp_own (op : CmpOp) (hop : ∀ a b, compareOp op a b = richCompare op a b) : OpR X (compareOp op) (fun x y H Q => Own X (PySem.cmpInfo op).2.1 x H [y] Q ∧ ∃ a b C C' dx dy fs gs, x = .ref a ∧ y = .ref b ∧ H a = some (.ins C dx fs) ∧ H b = some (.ins C' dy gs) ∧ PySem.W.notFirst X.K C (.ref C') = true) := by
  intro pins s σ H x y v u Q I rx ry ⟨⟨a, C, dx, f, fs, k, sp, ex, hi, hm, F, hr, q⟩, a', b, C', C'', dx', dy, fs', gs, ex', ey, hi', hj, hc⟩
  subst ex
  cases ex'
  subst ey
  rw [hi] at hi'
  cases hi'
  obtain rfl : v = Value.ref a := rx
  obtain rfl : u = Value.ref b := ry
  obtain ⟨m, hF⟩ := I.fr
  obtain ⟨od, J⟩ := inst_of I hi
  obtain ⟨od', J'⟩ := inst_of I hj
  rw [hop]
  refine PySem.W.cmp_K (op := op) (tb := .ref C'') hr.units0 hF I.ok.mod.kin J J'.type hc hm.at_ hm.fn (thn (wpAny_call (run_at (us := [.ref a, .ref b]) (ws := [.ref a, .ref b]) F (hr.mono (Nat.le_succ _)) I.env0 I (.cons rfl (.cons rfl .nil)) q)) fun w s' h => ?_)
  obtain ⟨z, H', I', rz, qz⟩ := h
  exact cmpback rz ⟨z, H', I', rz, qz⟩
theorem in_own : OpR X (compareOp .In) (fun x y H Q => Own X "__contains__" y H [x] fun z H' => ∃ b, z = .bl b ∧ Q (.bl b) H') := by
  intro pins s σ H x y v u Q I rx ry ⟨a, C, dx, f, fs, k, sp, ey, hi, hm, F, hr, q⟩
  subst ey
  obtain rfl : u = Value.ref a := ry
  obtain ⟨m, hF⟩ := I.fr
  obtain ⟨od, J⟩ := inst_of I hi
  refine PySem.W.in_K hF I.ok.mod.kin J hm.at_ hm.fn (thn (wpAny_call (run_at (us := [.ref a, v]) (ws := [.ref a, x]) F (hr.mono (Nat.le_succ _)) I.env0 I (.cons rfl (.cons rx .nil)) q)) fun w s' h => ?_)
  obtain ⟨z, H', I', rz, b, ez, qz⟩ := h
  subst ez
  cases rz
  exact wpAny_truthy_bool ⟨.bl b, H', I', rfl, qz⟩
theorem notIn_own : OpR X (compareOp .NotIn) (fun x y H Q => Own X "__contains__" y H [x] fun z H' => ∃ b, z = .bl b ∧ Q (.bl (!b)) H') := by
  intro pins s σ H x y v u Q I rx ry ⟨a, C, dx, f, fs, k, sp, ey, hi, hm, F, hr, q⟩
  subst ey
  obtain rfl : u = Value.ref a := ry
  obtain ⟨m, hF⟩ := I.fr
  obtain ⟨od, J⟩ := inst_of I hi
  refine PySem.W.notIn_K hF I.ok.mod.kin J hm.at_ hm.fn (thn (wpAny_call (run_at (us := [.ref a, v]) (ws := [.ref a, x]) F (hr.mono (Nat.le_succ _)) I.env0 I (.cons rfl (.cons rx .nil)) q)) fun w s' h => ?_)
  obtain ⟨z, H', I', rz, b, ez, qz⟩ := h
  subst ez
  cases rz
  exact wpAny_truthy_bool ⟨.bl (!b), H', I', rfl, qz⟩
theorem call_lenOwn : CallR X (.builtin "len") (fun xs H Q => ∃ x, xs = [x] ∧ Own X "__len__" x H [] fun z H' => ∃ n : Nat, z = .int n ∧ n < 2 ^ 63 ∧ Q (.int n) H') := by
  intro pins s σ H xs us Q I r ⟨x, exs, a, C, dx, f, fs, k, sp, ex, hi, hm, F, hr, q⟩
  subst exs
  obtain ⟨u, rfl, rx⟩ := vals1 r
  subst ex
  obtain rfl : u = Value.ref a := rx
  obtain ⟨m, hF⟩ := I.fr
  obtain ⟨od, J⟩ := inst_of I hi
  refine PySem.W.len_K hF I.ok.mod.kin J hm.at_ hm.fn (thn (wpAny_call (run_at (us := [.ref a]) (ws := [.ref a]) F hr.in1 I.env0.in1 I (.cons rfl .nil) q)) fun w s' h => ?_)
  obtain ⟨z, H', I', rz, n, ez, hn, qz⟩ := h
  subst ez
  obtain ⟨t, rfl⟩ := rz
  exact ⟨⟨by omega, by exact_mod_cast hn⟩, .int n, H', I'.tok _, ⟨_, rfl⟩, qz⟩
theorem pe_ixOwn {a b : Expr} {ta tb : TE} {pos : Pos} (ha : PE X a ta) (hb : PE X b tb) (hsl : ∀ (x : Addr) (i : Value), subscripted b true (.ref x) i = runValue (.builtin "lifetime.subscript" ⟨[.ref x, i], []⟩)) :
    PE X (.Subscript a b pos) (fun σ H Q => ta σ H fun x H1 => tb σ H1 fun y H2 => Own X "__getitem__" x H2 [y] Q ∧ ∃ f, (∃ C, PySem.W.findIn X.K (.ref C) "__getitem__" = some (some (.ref f)) ∧ ∃ a dx fs, x = .ref a ∧ H2 a = some (.ins C dx fs)) ∧ PySem.W.fnIn X.K f = true) := by
  refine ⟨fun pins s σ H Q I h => ?_⟩
  refine PyProof.Rows.Subscript_ (binT ha hb I h fun v u s2 x y H2 I2 rx ry q => ?_)
  obtain ⟨⟨a', C, dx, f, fs, k, sp, ex, hi, hm, F, hr, q⟩, f', ⟨C', hf', a'', dx', fs', ex', hi'⟩, hfn⟩ := q
  subst ex
  cases ex'
  rw [hi] at hi'
  cases hi'
  have e := hm.at_.symm.trans hf'
  cases e
  obtain rfl : v = Value.ref a' := rx
  obtain ⟨m, hF⟩ := I2.fr
  obtain ⟨od, J⟩ := inst_of I2 hi
  exact PySem.W.sub_K hF I2.ok.mod.kin J hm.at_ hfn hm.fn (wpAny_call (run_at (us := [.ref a', u]) (ws := [.ref a', y]) F hr.in1 I2.env0.in1 I2 (.cons rfl (.cons ry .nil)) q)) (hsl _ _)
/-- the truth of an object with an own __len__ and no __bool__ -/
theorem truthy_lenK {w : PySem.World} {prog : Program} {A : Around} {E : Value → Shared → Prop} {s : Shared} {K : PySem.W.Frag} {x C L f : Addr} {h₀ : Heap} {m : Str → Option Value} {ox : Obj} {od : Option Obj} {Q : Bool → Shared → Prop} (F : PyProof.Rows.Fr h₀ L s.heap m) (X₀ : K.In h₀) (I : PySem.W.InstAt s.heap x ox C od)
    (hb : PySem.W.findIn K (.ref C) "__bool__" = some none) (hs : PySem.W.findIn K (.ref C) "__len__" = some (some (.ref f))) (hf : PySem.W.isFn K (.ref f) = true)
    (h : wpAny (model prog w) A.in1 (call (.ref f) [.ref x]) (fun v s' => ∃ n t, v = Value.int n t ∧ (0 ≤ n ∧ n < 2 ^ 63) ∧ Q (n != 0) { s' with toks := s'.toks + 1 }) E s) : wpAny (model prog w) A (truthy (.ref x)) Q E s := by
  have X := X₀.keeps F.keep
  unfold truthy
  refine wpAny_bind (m := callSpecial? (.ref x) (Str.ofString "__bool__")) (wpAny_bind (wpAny_bind (I.type.here ((PySem.W.looks_findIn X hb).here (wpAny_pure ?_)))))
  refine wpAny_bind (wpAny_bind (I.type.here ((PySem.W.looks_findIn X hs).here ?_)))
  rw [if_neg (by simp)]
  refine wpAny_bind (wpAny_runValue (codeAny_builtin entry_len ?_))
  rw [Around.under_plainId plain_len _]
  unfold Builtin.«len»
  refine wpAny_bind (m := oneArg "len" _) (wpAny_pure ?_)
  refine wpAny_bind (m := callSpecial? (.ref x) (Str.ofString "__len__")) (PySem.W.special_fn X I hs (beq_iff_eq.mp hf) (wpAny_mono h (fun r s' hr => ?_) fun _ _ y => y))
  obtain ⟨n, u, rfl, ⟨h0, h1⟩, hq⟩ := hr
  refine wpAny_bind (wpAny_holding (wpAny_pure ?_))
  refine wpAny_bind (wpAny_letGo ?_)
  show wpAny _ _ (if n < 0 then _ else _) _ _ _
  rw [if_neg (by omega)]
  show wpAny _ _ (if n ≥ 2 ^ 63 then _ else _) _ _ _
  rw [if_neg (by omega)]
  exact wpAny_bind (wpAny_mkInt (wpAny_pure (show wpAny _ _ (pure (n != 0)) _ _ _ from wpAny_pure hq)))
/-- bool(x), by the truth of x -/
theorem bool_new {prog : Program} {w : PySem.World} {A : Around} {x : Value} {P : Fin → Shared → Prop} {E : Value → Shared → Prop} {s : Shared} (h : wpAny (model prog w) A (truthy x) (fun b s' => P (.done (.ret (.bool b))) s') E s) :
    wpAny (model prog w) A (Builtin.«bool.__new__» ⟨[.type "bool", x], []⟩) P E s := by
  obtain ⟨hp, g, d, tk, os⟩ := s
  have f1 := F.conv_sub_bool
  repeat (any_goals (first | assumption | (with_reducible refine wpAny_mono (t := truthy x) h (fun _ _ q => ?_) (fun _ _ q => ?_)) | wp_step))
theorem call_boolT {prog : Program} {w : PySem.World} {A : Around} {E : Value → Shared → Prop} {s : Shared} {x : Value} {Q : Value → Shared → Prop}
    (h : wpAny (model prog w) A.in1.in1 (truthy x) (fun b s₁ => Q (.bool b) s₁) E s) : wpAny (model prog w) A (call (.type "bool") [x]) Q E s := by
  refine callType_codes (T := "bool") (Bi := Builtin.«object.__init__») (Q₁ := fun r s₁ => ∃ b, r = Value.bool b ∧ Q r s₁) PySem.F.called_bool (PySem.F.typeCall_bool_1 _) PySem.F.entry_object_init ?_ ?_
  · refine codeAny_of_tree ?_
    show wpAny _ A.in1.in1 (do checkBuiltinCall "bool.__new__" ⟨[.type "bool", x], []⟩; again (.builtin "bool.__new__" ⟨[.type "bool", x], []⟩)) _ _ s
    refine wpAny_bind (wpAny_of_eq (PySem.F.newCall_bool_1 _) (wpAny_pure ⟨plainId_quiet (by decide +kernel) _, codeAny_builtin PySem.F.entry_bool_new ?_⟩))
    rw [Around.under_plainId (by decide +kernel) _]
    exact bool_new (wpAny_mono h (fun b s₁ q => ⟨b, rfl, q⟩) fun _ _ q => q)
  · rintro obj s₁ ⟨b, rfl, hq⟩
    exact ⟨typeIs_bool _ _, PySem.F.args_object_init_2 _ _, object_init_meets PySem.F.called_bool.init.lookup PySem.F.called_bool.made (by decide) prog w A.in1 _ s₁ ⟨typeIs_bool _ _, rfl, hq⟩⟩
end
end Py
/-! == and in over lists and tuples, item by item, whatever the items' own == gives -/
namespace PyG
open PySem PySem.SeqAt
open AutoSeq1 (wpAny_loadPart')
open MeetsSeq MeetsSeq2 MeetsSeq3 SeqRoads2
section
variable {prog : Program} {w : World} {A : Around} {R : Result → Shared → Prop}
/-- at each turn the two lists are read anew: N and M items, the comparison of the i-th ones gives c i -/
def ListI (prog : Program) (w : World) (A : Around) (E : Value → Shared → Prop) (l b : Addr) (N : Nat) (c : Nat → Bool) (I : Nat → Shared → Prop) : Prop :=
  ∀ i s, I i s → ∃ (items items2 : Array Value) (n n2 : Nat), s.heap.get? l = some { cls := .type "list", data := .seq items n } ∧ s.heap.get? b = some { cls := .type "list", data := .seq items2 n2 } ∧ items.size = N ∧ items2.size = N ∧
    ∀ (h1 : i < items.size) (h2 : i < items2.size), wpAny (model prog w) A.in1 (eqBool items[i] items2[i]) (fun r s' => r = c i ∧ I (i + 1) s') E s
theorem eq_loop (op : CmpOp) (code : Int) (yes : Bool) (hop : op = .Eq ∧ code = 2 ∧ yes = true ∨ op = .NotEq ∧ code = 3 ∧ yes = false) (l b : Addr) (N : Nat) (c : Nat → Bool) (I : Nat → Shared → Prop) (hl : ListI prog w A (fun e s' => R (.error e) s') l b N c I)
    (finT : ∀ s, (∀ j, j < N → c j = true) → I N s → R (.ok (.ret (.bool yes))) s) (finF : ∀ i s, i < N → c i = false → I (i + 1) s → R (.ok (.ret (.bool (!yes)))) s) (k : Nat) :
    ∀ i : Nat, N - i = k → i ≤ N → (∀ j, j < i → c j = true) → ∀ s, I i s →
      wpAny (model prog w) A.in1 (Builtin.«list.__eq__.loop» ⟨[.ref l, .ref b, rawInt i, rawInt code], []⟩) (GQ.FinOf prog w A R) (fun e s' => R (.error e) s') s := by
  induction k with
  | zero =>
    intro i hk hi hc s h
    obtain ⟨items, items2, n, n2, hl1, hb1, hs1, hs2, _⟩ := hl _ _ h
    have hi' : i = N := by omega
    subst hi'
    have hR : R (.ok (.ret (.bool yes))) s := finT s hc h
    obtain ⟨hp, g, d, tk, os⟩ := s
    have hi1 : items[((i : Nat) : Int).toNat]? = none := by simp; omega
    have hi2 : items2[((i : Nat) : Int).toNat]? = none := by simp; omega
    rcases hop with ⟨rfl, rfl, rfl⟩ | ⟨rfl, rfl, rfl⟩
    · wp_walk using wpAny_loadPart' hl1, wpAny_loadPart' hb1
      rw [hi1, hi2]
      wp_walk using wpAny_loadPart' hl1, wpAny_loadPart' hb1
      show R (.ok (.ret (.bool (items.size == items2.size)))) _
      rw [hs1, hs2]
      simpa using hR
    · wp_walk using wpAny_loadPart' hl1, wpAny_loadPart' hb1
      rw [hi1, hi2]
      wp_walk using wpAny_loadPart' hl1, wpAny_loadPart' hb1
      show R (.ok (.ret (.bool (items.size != items2.size)))) _
      rw [hs1, hs2]
      simpa using hR
  | succ k ih =>
    intro i hk hi hc s h
    obtain ⟨items, items2, n, n2, hl1, hb1, hs1, hs2, turn⟩ := hl _ _ h
    have hlt : i < items.size := by omega
    have hlt2 : i < items2.size := by omega
    have ht := turn hlt hlt2
    obtain ⟨hp, g, d, tk, os⟩ := s
    have hi1 : items[((i : Nat) : Int).toNat]? = some items[i] := by simp [hlt]
    have hi2 : items2[((i : Nat) : Int).toNat]? = some items2[i] := by simp [hlt2]
    have hcc : ((i : Int) + 1) = ((i + 1 : Nat) : Int) := by omega
    rcases hop with ⟨rfl, rfl, rfl⟩ | ⟨rfl, rfl, rfl⟩
    all_goals
      wp_walk using wpAny_loadPart' hl1, wpAny_loadPart' hb1
      rw [hi1, hi2]
      refine wpAny_bind (wpAny_mono ht (fun r s2 h2 => ?_) fun _ _ x => x)
      obtain ⟨hr, h2⟩ := h2
      subst hr
      cases hci : c i with
      | true =>
        have hrec := ih (i + 1) (by omega) (by omega) (fun j hj => by
          by_cases e : j = i
          · rw [e]; exact hci
          · exact hc j (by omega)) s2 h2
        obtain ⟨hp2, g2, d2, tk2, os2⟩ := s2
        wp_walk
        rw [hcc]
        exact ⟨plainId_quiet plain_eq_loop _, codeAny_builtin entry_eq_loop (by
          rw [Around.under_plainId plain_eq_loop _]
          exact hrec)⟩
      | false =>
        have hR := finF i s2 (by omega) hci h2
        obtain ⟨items3, items4, n3, n4, hl3, hb3, hs3, hs4, _⟩ := hl _ _ h2
        obtain ⟨hp2, g2, d2, tk2, os2⟩ := s2
        have hi3 : items3[((i : Nat) : Int).toNat]? = some (items3[i]'(by omega)) := by simp
        have hi4 : items4[((i : Nat) : Int).toNat]? = some (items4[i]'(by omega)) := by simp
        wp_walk using wpAny_loadPart' hl3, wpAny_loadPart' hb3
        rw [hi3, hi4]
        wp_walk
        exact hR
theorem list_eqB (l b : Addr) (N : Nat) (c : Nat → Bool) (I : Nat → Shared → Prop) (hl : ListI prog w A (fun e s' => R (.error e) s') l b N c I)
    (finT : ∀ s, (∀ j, j < N → c j = true) → I N s → R (.ok (.ret (.bool true))) s) (finF : ∀ i s, i < N → c i = false → I (i + 1) s → R (.ok (.ret (.bool false))) s) {s : Shared} (h : I 0 s) :
    wpAny (model prog w) A.in1 (Builtin.«list.__eq__» ⟨[.ref l, .ref b], []⟩) (GQ.FinOf prog w A R) (fun e s' => R (.error e) s') s := by
  obtain ⟨items, items2, n, n2, hl1, hb1, hs1, hs2, _⟩ := hl _ _ h
  have hrec := eq_loop (A := A) (R := R) .Eq 2 true (.inl ⟨rfl, rfl, rfl⟩) l b N c I hl finT finF _ 0 rfl (Nat.zero_le _) (fun j hj => absurd hj (Nat.not_lt_zero _)) s h
  obtain ⟨hp, g, d, tk, os⟩ := s
  have f3 := AutoSeq1.sub_list_list
  have hne : ¬ (items.size != items2.size) = true := by simp [hs1, hs2]
  wp_walk using wpAny_loadPart' hl1, wpAny_loadPart' hb1
  exact ⟨plainId_quiet plain_eq_loop _, codeAny_builtin entry_eq_loop (by
    rw [Around.under_plainId plain_eq_loop _]
    exact hrec)⟩
theorem list_neB (l b : Addr) (N : Nat) (c : Nat → Bool) (I : Nat → Shared → Prop) (hl : ListI prog w A (fun e s' => R (.error e) s') l b N c I)
    (finT : ∀ s, (∀ j, j < N → c j = true) → I N s → R (.ok (.ret (.bool false))) s) (finF : ∀ i s, i < N → c i = false → I (i + 1) s → R (.ok (.ret (.bool true))) s) {s : Shared} (h : I 0 s) :
    wpAny (model prog w) A.in1 (Builtin.«list.__ne__» ⟨[.ref l, .ref b], []⟩) (GQ.FinOf prog w A R) (fun e s' => R (.error e) s') s := by
  obtain ⟨items, items2, n, n2, hl1, hb1, hs1, hs2, _⟩ := hl _ _ h
  have hrec := eq_loop (A := A) (R := R) .NotEq 3 false (.inr ⟨rfl, rfl, rfl⟩) l b N c I hl finT finF _ 0 rfl (Nat.zero_le _) (fun j hj => absurd hj (Nat.not_lt_zero _)) s h
  obtain ⟨hp, g, d, tk, os⟩ := s
  have f3 := AutoSeq1.sub_list_list
  have hne : ¬ (items.size != items2.size) = true := by simp [hs1, hs2]
  wp_walk using wpAny_loadPart' hl1, wpAny_loadPart' hb1
  exact ⟨plainId_quiet plain_eq_loop _, codeAny_builtin entry_eq_loop (by
    rw [Around.under_plainId plain_eq_loop _]
    exact hrec)⟩
/-- lists of different lengths -/
theorem list_eqL (l b : Addr) {items items2 : Array Value} {n n2 : Nat} {s : Shared} (hl1 : s.heap.get? l = some { cls := .type "list", data := .seq items n }) (hb1 : s.heap.get? b = some { cls := .type "list", data := .seq items2 n2 }) (hne : items.size ≠ items2.size)
    (fin : R (.ok (.ret (.bool false))) s) : wpAny (model prog w) A.in1 (Builtin.«list.__eq__» ⟨[.ref l, .ref b], []⟩) (GQ.FinOf prog w A R) (fun e s' => R (.error e) s') s := by
  obtain ⟨hp, g, d, tk, os⟩ := s
  have f3 := AutoSeq1.sub_list_list
  have hne : (items.size != items2.size) = true := by simp [hne]
  wp_walk using wpAny_loadPart' hl1, wpAny_loadPart' hb1
  exact fin
theorem list_neL (l b : Addr) {items items2 : Array Value} {n n2 : Nat} {s : Shared} (hl1 : s.heap.get? l = some { cls := .type "list", data := .seq items n }) (hb1 : s.heap.get? b = some { cls := .type "list", data := .seq items2 n2 }) (hne : items.size ≠ items2.size)
    (fin : R (.ok (.ret (.bool true))) s) : wpAny (model prog w) A.in1 (Builtin.«list.__ne__» ⟨[.ref l, .ref b], []⟩) (GQ.FinOf prog w A R) (fun e s' => R (.error e) s') s := by
  obtain ⟨hp, g, d, tk, os⟩ := s
  have f3 := AutoSeq1.sub_list_list
  have hne : (items.size != items2.size) = true := by simp [hne]
  wp_walk using wpAny_loadPart' hl1, wpAny_loadPart' hb1
  exact fin
theorem tuple_eqB (l b : Addr) (items items2 : Array Value) (n n2 : Nat) (dd dd2 : Option Addr) (sl sl2 : Array (Option Value)) (c : Nat → Bool) (I : Nat → Shared → Prop)
    (turn : ∀ i (h1 : i < items.size) (h2 : i < items2.size) s, I i s → wpAny (model prog w) A.in1 (eqBool items[i] items2[i]) (fun r s' => r = c i ∧ I (i + 1) s') (fun e s' => R (.error e) s') s)
    (finT : ∀ s, (∀ j, j < min items.size items2.size → c j = true) → I (min items.size items2.size) s → R (.ok (.ret (.bool (items.size == items2.size)))) s) (finF : ∀ i s, i < min items.size items2.size → c i = false → I (i + 1) s → R (.ok (.ret (.bool false))) s)
    {s : Shared} (hl1 : s.heap.get? l = some { cls := .type "tuple", dict := dd, data := .seq items n, slots := sl }) (hb1 : s.heap.get? b = some { cls := .type "tuple", dict := dd2, data := .seq items2 n2, slots := sl2 }) (h : I 0 s) :
    wpAny (model prog w) A.in1 (Builtin.«tuple.__eq__» ⟨[.ref l, .ref b], []⟩) (GQ.FinOf prog w A R) (fun e s' => R (.error e) s') s := by
  have f2 := AutoSeq1.sub_tuple_tuple
  have hZ : (items.toList.zip items2.toList).length = min items.size items2.size := by simp
  have h0 := h
  obtain ⟨hp, g, d, tk, os⟩ := s
  wp_walk using wpAny_loadPart' hl1, wpAny_loadPart' hb1, wpAny_forIn_list _ (fun rest b s' => (b.1 = none ∧ ∃ i, rest = (items.toList.zip items2.toList).drop i ∧ i ≤ min items.size items2.size ∧ (∀ j, j < i → c j = true) ∧ I i s')) _
  case turn =>
    rintro ⟨y, x⟩ rest b s' ⟨hb', i, hz, hi, hc, hI⟩
    have hlt : i < (items.toList.zip items2.toList).length := by
      rcases Nat.lt_or_ge i (items.toList.zip items2.toList).length with h' | h'
      · exact h'
      · rw [List.drop_of_length_le h'] at hz; cases hz
    have hm : i < min items.size items2.size := hZ ▸ hlt
    have h1 : i < items.size := by omega
    have h2 : i < items2.size := by omega
    rw [List.drop_eq_getElem_cons hlt] at hz
    injection hz with hyx hrest
    have hy : y = items[i] := by have := congrArg Prod.fst hyx; simpa using this
    have hx : x = items2[i] := by have := congrArg Prod.snd hyx; simpa using this
    subst hy hx
    refine wpAny_bind (wpAny_mono (turn i h1 h2 s' hI) (fun r s2 q2 => ?_) fun _ _ x => x)
    obtain ⟨hr, q2⟩ := q2
    subst hr
    cases hci : c i with
    | true =>
      wp_walk
      exact ⟨rfl, i + 1, hrest, by omega, fun j hj => by
        by_cases e : j = i
        · rw [e]; exact hci
        · exact hc j (by omega), q2⟩
    | false =>
      have hR := finF i s2 hm hci q2
      wp_walk
      exact hR
  case fin =>
    rintro ⟨b1, b2⟩ s' ⟨hb', i, hz, hi, hc, hI⟩
    simp only at hb'
    subst hb'
    have hge : min items.size items2.size ≤ i := by
      rcases Nat.lt_or_ge i (items.toList.zip items2.toList).length with h' | h'
      · rw [List.drop_eq_getElem_cons h'] at hz; cases hz
      · exact hZ ▸ h'
    have hi' : i = min items.size items2.size := by omega
    subst hi'
    have hR := finT s' hc hI
    wp_walk
    simpa [Builtin.Tuple.tupleCompareSizes] using hR
  case h =>
    exact ⟨rfl, 0, rfl, Nat.zero_le _, fun j hj => absurd hj (Nat.not_lt_zero _), h0⟩
theorem tuple_inB (l : Addr) (x : Value) (items : Array Value) (n : Nat) (dd : Option Addr) (sl : Array (Option Value)) (c : Nat → Bool) (I : Nat → Shared → Prop)
    (turn : ∀ i (h1 : i < items.size) s, I i s → wpAny (model prog w) A.in1 (eqBool items[i] x) (fun r s' => r = c i ∧ I (i + 1) s') (fun e s' => R (.error e) s') s)
    (finF : ∀ s, (∀ j, j < items.size → c j = false) → I items.size s → R (.ok (.ret (.bool false))) s) (finT : ∀ i s, i < items.size → c i = true → I (i + 1) s → R (.ok (.ret (.bool true))) s)
    {s : Shared} (hl1 : s.heap.get? l = some { cls := .type "tuple", dict := dd, data := .seq items n, slots := sl }) (h : I 0 s) :
    wpAny (model prog w) A.in1 (Builtin.«tuple.__contains__» ⟨[.ref l, x], []⟩) (GQ.FinOf prog w A R) (fun e s' => R (.error e) s') s := by
  have h0 := h
  obtain ⟨hp, g, d, tk, os⟩ := s
  wp_walk using wpAny_loadPart' hl1, wpAny_forIn_array _ (fun rest b s' => b.1 = none ∧ ∃ i, rest = items.toList.drop i ∧ i ≤ items.size ∧ (∀ j, j < i → c j = false) ∧ I i s') _
  case turn =>
    rintro y rest b s' ⟨hb', i, hz, hi, hc, hI⟩
    have hlt : i < items.toList.length := by
      rcases Nat.lt_or_ge i items.toList.length with h' | h'
      · exact h'
      · rw [List.drop_of_length_le h'] at hz; cases hz
    have h1 : i < items.size := by simpa using hlt
    rw [List.drop_eq_getElem_cons hlt] at hz
    injection hz with hyx hrest
    have hy : y = items[i] := by simpa using hyx
    subst hy
    refine wpAny_bind (wpAny_mono (turn i h1 s' hI) (fun r s2 q2 => ?_) fun _ _ x => x)
    obtain ⟨hr, q2⟩ := q2
    subst hr
    cases hci : c i with
    | false =>
      wp_walk
      exact ⟨rfl, i + 1, hrest, by omega, fun j hj => by
        by_cases e : j = i
        · rw [e]; exact hci
        · exact hc j (by omega), q2⟩
    | true =>
      have hR := finT i s2 h1 hci q2
      wp_walk
      exact hR
  case fin =>
    rintro ⟨b1, b2⟩ s' ⟨hb', i, hz, hi, hc, hI⟩
    simp only at hb'
    subst hb'
    have hge : items.size ≤ i := by
      rcases Nat.lt_or_ge i items.toList.length with h' | h'
      · rw [List.drop_eq_getElem_cons h'] at hz; cases hz
      · simpa using h'
    have hi' : i = items.size := by omega
    subst hi'
    have hR := finF s' hc hI
    wp_walk
    exact hR
  case h =>
    exact ⟨rfl, 0, by simp, Nat.zero_le _, fun j hj => absurd hj (Nat.not_lt_zero _), h0⟩
end
end PyG
namespace PyG
open PySem PySem.SeqAt
section
variable {prog : Program} {w : World} {A : Around} {E : Value → Shared → Prop} {s : Shared}
theorem rc_listB {l b : Addr} {N : Nat} {c : Nat → Bool} {Q : Value → Shared → Prop} (hu : A.units < cLine) (I : Nat → Shared → Prop) (hl : ListI prog w A E l b N c I)
    (finT : ∀ s, (∀ j, j < N → c j = true) → I N s → Q (.bool true) s) (finF : ∀ i s, i < N → c i = false → I (i + 1) s → Q (.bool false) s) (h : I 0 s) : wpAny (model prog w) A (richCompare .Eq (.ref l) (.ref b)) Q E s := by
  obtain ⟨items, items2, n, n2, hl1, hb1, _, _, _⟩ := hl _ _ h
  refine wpAny_richCompare_same_room (op := .Eq) ⟨_, hl1, rfl⟩ ⟨_, hb1, rfl⟩ F.slot_list_eq (GQ.call_here F.slot_list_eq ⟨_, hl1, rfl⟩ F.entry_list_eq (F.args_list_eq_2 _ _) ?_) hu
  exact list_eqB (R := wants (fun v s' => v ≠ .notImplemented ∧ Q v s') E) l b N c I hl (fun s' z q => ⟨(fun x => nomatch x), finT s' z q⟩) (fun i s' z z' q => ⟨(fun x => nomatch x), finF i s' z z' q⟩) h
theorem rc_listNB {l b : Addr} {N : Nat} {c : Nat → Bool} {Q : Value → Shared → Prop} (hu : A.units < cLine) (I : Nat → Shared → Prop) (hl : ListI prog w A E l b N c I)
    (finT : ∀ s, (∀ j, j < N → c j = true) → I N s → Q (.bool false) s) (finF : ∀ i s, i < N → c i = false → I (i + 1) s → Q (.bool true) s) (h : I 0 s) : wpAny (model prog w) A (richCompare .NotEq (.ref l) (.ref b)) Q E s := by
  obtain ⟨items, items2, n, n2, hl1, hb1, _, _, _⟩ := hl _ _ h
  refine wpAny_richCompare_same_room (op := .NotEq) ⟨_, hl1, rfl⟩ ⟨_, hb1, rfl⟩ F.slot_list_ne (GQ.call_here F.slot_list_ne ⟨_, hl1, rfl⟩ F.entry_list_ne (F.args_list_ne_2 _ _) ?_) hu
  exact list_neB (R := wants (fun v s' => v ≠ .notImplemented ∧ Q v s') E) l b N c I hl (fun s' z q => ⟨(fun x => nomatch x), finT s' z q⟩) (fun i s' z z' q => ⟨(fun x => nomatch x), finF i s' z z' q⟩) h
theorem rc_listL {l b : Addr} {items items2 : Array Value} {n n2 : Nat} {Q : Value → Shared → Prop} (hu : A.units < cLine) (hl1 : s.heap.get? l = some { cls := .type "list", data := .seq items n }) (hb1 : s.heap.get? b = some { cls := .type "list", data := .seq items2 n2 }) (hne : items.size ≠ items2.size)
    (h : Q (.bool false) s) : wpAny (model prog w) A (richCompare .Eq (.ref l) (.ref b)) Q E s := by
  refine wpAny_richCompare_same_room (op := .Eq) ⟨_, hl1, rfl⟩ ⟨_, hb1, rfl⟩ F.slot_list_eq (GQ.call_here F.slot_list_eq ⟨_, hl1, rfl⟩ F.entry_list_eq (F.args_list_eq_2 _ _) ?_) hu
  exact list_eqL (R := wants (fun v s' => v ≠ .notImplemented ∧ Q v s') E) l b hl1 hb1 hne ⟨(fun x => nomatch x), h⟩
theorem rc_listNL {l b : Addr} {items items2 : Array Value} {n n2 : Nat} {Q : Value → Shared → Prop} (hu : A.units < cLine) (hl1 : s.heap.get? l = some { cls := .type "list", data := .seq items n }) (hb1 : s.heap.get? b = some { cls := .type "list", data := .seq items2 n2 }) (hne : items.size ≠ items2.size)
    (h : Q (.bool true) s) : wpAny (model prog w) A (richCompare .NotEq (.ref l) (.ref b)) Q E s := by
  refine wpAny_richCompare_same_room (op := .NotEq) ⟨_, hl1, rfl⟩ ⟨_, hb1, rfl⟩ F.slot_list_ne (GQ.call_here F.slot_list_ne ⟨_, hl1, rfl⟩ F.entry_list_ne (F.args_list_ne_2 _ _) ?_) hu
  exact list_neL (R := wants (fun v s' => v ≠ .notImplemented ∧ Q v s') E) l b hl1 hb1 hne ⟨(fun x => nomatch x), h⟩
theorem rc_tupB {l b : Addr} {items items2 : Array Value} {c : Nat → Bool} {Q : Value → Shared → Prop} (hu : A.units < cLine) (I : Nat → Shared → Prop) (hl : s.heap.IsTuple l items) (hb : s.heap.IsTuple b items2)
    (turn : ∀ i (h1 : i < items.size) (h2 : i < items2.size) s, I i s → wpAny (model prog w) A.in1 (eqBool items[i] items2[i]) (fun r s' => r = c i ∧ I (i + 1) s') E s)
    (finT : ∀ s, (∀ j, j < min items.size items2.size → c j = true) → I (min items.size items2.size) s → Q (.bool (items.size == items2.size)) s) (finF : ∀ i s, i < min items.size items2.size → c i = false → I (i + 1) s → Q (.bool false) s) (h : I 0 s) :
    wpAny (model prog w) A (richCompare .Eq (.ref l) (.ref b)) Q E s := by
  obtain ⟨⟨cls, dd, data, sl⟩, ho, hc, n, hd⟩ := id hl
  obtain ⟨⟨cls2, dd2, data2, sl2⟩, ho2, hc2, n2, hd2⟩ := id hb
  simp only at hc hd hc2 hd2
  subst hc hd hc2 hd2
  refine wpAny_richCompare_same_room (op := .Eq) ⟨_, ho, rfl⟩ ⟨_, ho2, rfl⟩ F.slot_tuple_eq (GQ.call_here F.slot_tuple_eq ⟨_, ho, rfl⟩ F.entry_tuple_eq (F.args_tuple_eq_2 _ _) ?_) hu
  exact tuple_eqB (R := wants (fun v s' => v ≠ .notImplemented ∧ Q v s') E) l b items items2 n n2 dd dd2 sl sl2 c I turn (fun s' z q => ⟨(fun x => nomatch x), finT s' z q⟩) (fun i s' z z' q => ⟨(fun x => nomatch x), finF i s' z z' q⟩) ho ho2 h
theorem in_tupB {l : Addr} {x : Value} {items : Array Value} {c : Nat → Bool} {Q : Value → Shared → Prop} (I : Nat → Shared → Prop) (hl : s.heap.IsTuple l items)
    (turn : ∀ i (h1 : i < items.size) s, I i s → wpAny (model prog w) A.in1 (eqBool items[i] x) (fun r s' => r = c i ∧ I (i + 1) s') E s)
    (finF : ∀ s, (∀ j, j < items.size → c j = false) → I items.size s → Q (.bool false) s) (finT : ∀ i s, i < items.size → c i = true → I (i + 1) s → Q (.bool true) s) (h : I 0 s) : wpAny (model prog w) A (compareOp .In x (.ref l)) Q E s := by
  obtain ⟨⟨cls, dd, data, sl⟩, ho, hc, n, hd⟩ := id hl
  simp only at hc hd
  subst hc hd
  show wpAny _ A (do return .bool (← contains (.ref l) x)) Q E s
  refine wpAny_bind (wpAny_contains_slot ⟨_, ho, rfl⟩ F.slot_tuple_contains (wpAny_mono (Q := fun v s' => ∃ b, v = .bool b ∧ Q (.bool b) s') (GQ.call_here F.slot_tuple_contains ⟨_, ho, rfl⟩ F.entry_tuple_contains (F.args_tuple_contains_2 _ _) ?_) (fun v s' hv => ?_) fun _ _ e => e))
  · exact tuple_inB (R := wants (fun v s' => ∃ b, v = .bool b ∧ Q (.bool b) s') E) l x items n dd sl c I turn (fun s' z q => ⟨_, rfl, finF s' z q⟩) (fun i s' z z' q => ⟨_, rfl, finT i s' z z' q⟩) ho h
  · obtain ⟨b, rfl, hq⟩ := hv
    exact wpAny_truthy_bool (wpAny_pure hq)
end
end PyG
namespace Py
open PySem L2
/-! ### == with an answer, within a world -/
section
variable {X : Cx} {W : World} {n m : Nat} {r1 r2 : Rep} {b : Bool}
def EqW (X : Cx) (W : World) (n : Nat) (r1 r2 : Rep) (b : Bool) : Prop :=
  ∀ (A : Around) (pins : List (Addr × Obj)) (s : Shared) (σ : St) (H : Hp) (x y : V) (u v : Value), Sub X n A → Inv X pins σ H s → RelV x u → RelV y v → W.ok H → r1.p x (W.vis H) → r2.p y (W.vis H) →
    wpAny (model X.prog X.w) A (eqBool u v) (fun r s' => r = b ∧ ∃ H', Inv X pins σ H' s' ∧ W.ok H' ∧ Ex (W.vis H) (W.vis H')) X.xe s
def RcW (X : Cx) (op : CmpOp) (W : World) (n : Nat) (r1 r2 : Rep) (b : Bool) : Prop :=
  ∀ (A : Around) (pins : List (Addr × Obj)) (s : Shared) (σ : St) (H : Hp) (x y : V) (u v : Value), Sub X n A → Inv X pins σ H s → RelV x u → RelV y v → W.ok H → r1.p x (W.vis H) → r2.p y (W.vis H) →
    wpAny (model X.prog X.w) A (richCompare op u v) (fun r s' => r = .bool b ∧ ∃ H', Inv X pins σ H' s' ∧ W.ok H' ∧ Ex (W.vis H) (W.vis H')) X.xe s
theorem EqW.mono (h : EqW X W n r1 r2 b) (hn : n ≤ m) : EqW X W m r1 r2 b := fun A pins s σ H x y u v sb => h A pins s σ H x y u v (sb.mono hn)
theorem EqW.eq (h : EqW X W n r1 r2 b) {b' : Bool} (e : b = b') : EqW X W n r1 r2 b' := e ▸ h
theorem RcW.eq {op : CmpOp} (h : RcW X op W n r1 r2 b) {b' : Bool} (e : b = b') : RcW X op W n r1 r2 b' := e ▸ h
theorem RcW.mono {op : CmpOp} (h : RcW X op W n r1 r2 b) (hn : n ≤ m) : RcW X op W m r1 r2 b := fun A pins s σ H x y u v sb => h A pins s σ H x y u v (sb.mono hn)
/-- the same object is equal to itself: then the answer must be so -/
theorem RcW.eqW (h : RcW X .Eq W n r1 r2 b) (hr : ∀ x H, r1.p x H → ∃ a, x = .ref a) (hr' : ∀ x H, r2.p x H → ∃ a, x = .ref a) (hs : ∀ x H, r1.p x H → r2.p x H → b = true) : EqW X W n r1 r2 b := by
  intro A pins s σ H x y u v sb I rx ry k p1 p2
  obtain ⟨a, rfl⟩ := hr _ _ p1
  obtain ⟨c, rfl⟩ := hr' _ _ p2
  obtain rfl : u = Value.ref a := rx
  obtain rfl : v = Value.ref c := ry
  by_cases hac : a = c
  · subst hac
    exact SeqAt.EqAt.same (A := A) (s := s) (.ref a) X.prog X.w X.xe _ ⟨(hs _ _ p1 p2).symm, H, I, k, Ex.refl _⟩
  · refine GQ.eqBool_refG hac (wpAny_mono (h A pins s σ H (.ref a) (.ref c) _ _ sb I rfl rfl k p1 p2) (fun r s' q => ?_) fun _ _ x => x)
    obtain ⟨hr', q⟩ := q
    exact ⟨b, hr', rfl, q⟩
/-- by an own special method -/
theorem rcW_own (op : CmpOp) (hop : ∀ a c, compareOp op a c = richCompare op a c) (h : ∀ (x y : V) (H : Hp), W.ok H → r1.p x (W.vis H) → r2.p y (W.vis H) → ∃ (a c C C' dx dy f : Addr) (fs gs : List (Str × V)) (sp : Sp), x = .ref a ∧ y = .ref c ∧ W.vis H a = some (.ins C dx fs) ∧ W.vis H c = some (.ins C' dy gs) ∧
      PySem.W.notFirst X.K C (.ref C') = true ∧ Meth X.K C (PySem.cmpInfo op).2.1 f ∧ FnC X n f sp ∧ ∀ Q : VK, (∀ H', W.ok H' → Ex (W.vis H) (W.vis H') → Q (.bl b) H') → sp [x, y] H Q E0) : RcW X op W (n + 1) r1 r2 b := by
  intro A pins s σ H x y u v sb I rx ry k p1 p2
  obtain ⟨a, c, C, C', dx, dy, f, fs, gs, sp, ex, ey, hi, hj, hn, hm, F, go⟩ := h x y H k p1 p2
  subst ex
  subst ey
  obtain rfl : u = Value.ref a := rx
  obtain rfl : v = Value.ref c := ry
  obtain ⟨m, hF⟩ := I.fr
  obtain ⟨od, J⟩ := inst_of I (W.sub H _ _ hi)
  obtain ⟨od', J'⟩ := inst_of I (W.sub H _ _ hj)
  have e0 : Env0 X.prog X.w X.K X.mg X.base A X.stack s H := by
    have e := I.env0
    exact ⟨by rw [sb.fr]; exact e.frames, e.mod, e.bs, e.bsz, e.funs, e.frf, e.hok, e.bare⟩
  refine PySem.W.cmp_K (op := op) (tb := .ref C') sb.room.units0 hF I.ok.mod.kin J J'.type hn hm.at_ hm.fn (thn (wpAny_call (run_at (us := [.ref a, .ref c]) (ws := [.ref a, .ref c]) F (sb.room.mono (Nat.le_succ _)) e0 I (.cons rfl (.cons rfl .nil)) (go (fun v H' => v = .bl b ∧ W.ok H' ∧ Ex (W.vis H) (W.vis H')) fun H' k' e' => ⟨rfl, k', e'⟩))) fun w s' h => ?_)
  obtain ⟨z, H', I', rz, ez, k', e'⟩ := h
  subst ez
  cases rz
  exact ⟨rfl, H', I', k', e'⟩
/-- what the loop over the items keeps -/
def LoopW (X : Cx) (W : World) (pins : List (Addr × Obj)) (σ : St) (H : Hp) (s' : Shared) : Prop := ∃ H', Inv X pins σ H' s' ∧ W.ok H' ∧ Ex (W.vis H) (W.vis H')
theorem turnW {rs1 rs2 : List Rep} {c : Nat → Bool} (h : ∀ i q q', rs1[i]? = some q → rs2[i]? = some q' → EqW X W n q q' (c i)) {A : Around} (sb : Sub X (n + 1) A) {pins : List (Addr × Obj)} {σ : St} {H : Hp} {xs ys : List V} {its its2 : List Value} (p : Reps rs1 xs (W.vis H)) (p2 : Reps rs2 ys (W.vis H)) (r : Vals xs its) (r2 : Vals ys its2)
    (i : Nat) (h1 : i < its.toArray.size) (h2 : i < its2.toArray.size) (s' : Shared) (l : LoopW X W pins σ H s') :
    wpAny (model X.prog X.w) A.in1 (eqBool its.toArray[i] its2.toArray[i]) (fun r s2 => r = c i ∧ LoopW X W pins σ H s2) X.xe s' := by
  obtain ⟨H1, I1, k1, e1⟩ := l
  have g1 : its[i]? = some its.toArray[i] := by
    have h1' : i < its.length := by simpa using h1
    rw [List.getElem?_eq_getElem h1'] <;> simp
  have g2 : its2[i]? = some its2.toArray[i] := by
    have h2' : i < its2.length := by simpa using h2
    rw [List.getElem?_eq_getElem h2'] <;> simp
  have j1 : i < xs.length := by rw [r.length]; simpa using h1
  have j2 : i < ys.length := by rw [r2.length]; simpa using h2
  obtain ⟨u, hu, ru⟩ := r.get (List.getElem?_eq_getElem j1)
  obtain ⟨v, hv, rv⟩ := r2.get (List.getElem?_eq_getElem j2)
  obtain ⟨q, hq, pq⟩ := p.get' (List.getElem?_eq_getElem j1)
  obtain ⟨q', hq', pq'⟩ := p2.get' (List.getElem?_eq_getElem j2)
  rw [g1] at hu
  rw [g2] at hv
  rw [Option.some.inj hu, Option.some.inj hv]
  refine wpAny_mono (h i q q' hq hq' A.in1 pins s' σ H1 _ _ u v sb.in1 I1 ru rv k1 (q.mono e1 pq) (q'.mono e1 pq')) (fun r s2 z => ?_) fun _ _ x => x
  obtain ⟨hr, H2, I2, k2, e2⟩ := z
  exact ⟨hr, H2, I2, k2, e1.trans e2⟩
def allB (c : Nat → Bool) (n : Nat) : Bool := (List.range n).all c
theorem allB_true {c : Nat → Bool} {n : Nat} (h : ∀ j, j < n → c j = true) : allB c n = true := List.all_eq_true.mpr fun j hj => h j (List.mem_range.mp hj)
theorem allB_false {c : Nat → Bool} {n i : Nat} (hi : i < n) (h : c i = false) : allB c n = false := by
  cases q : allB c n with
  | false => rfl
  | true =>
    have z := List.all_eq_true.mp q i (List.mem_range.mpr hi)
    rw [h] at z
    cases z
theorem rcW_tup {rs1 rs2 : List Rep} {c : Nat → Bool} (h : ∀ i q q', rs1[i]? = some q → rs2[i]? = some q' → EqW X W n q q' (c i)) : RcW X .Eq W (n + 1) (rTup X.K rs1) (rTup X.K rs2) (rs1.length == rs2.length && allB c (min rs1.length rs2.length)) := by
  intro A pins s σ H x y u v sb I rx ry k ⟨a, xs, ex, ha, hp⟩ ⟨a', ys, ey, hb, hp'⟩
  subst ex
  subst ey
  obtain rfl : u = Value.ref a := rx
  obtain rfl : v = Value.ref a' := ry
  obtain ⟨its, r, e, z⟩ := I.tuple (sqT_mono (W.sub H) ha)
  obtain ⟨its2, r2, e2, z2⟩ := I.tuple (sqT_mono (W.sub H) hb)
  have l1 : its.toArray.size = rs1.length := by rw [List.size_toArray, ← r.length, hp.len]
  have l2 : its2.toArray.size = rs2.length := by rw [List.size_toArray, ← r2.length, hp'.len]
  refine PyG.rc_tupB (c := c) sb.room.units0 (fun _ s' => LoopW X W pins σ H s') e e2 (fun i h1 h2 s' q => turnW h sb hp hp' r r2 i h1 h2 s' q) (fun s' hc q => ?_) (fun i s' hi hc q => ?_) ⟨H, I, k, Ex.refl _⟩
  · rw [l1, l2] at hc ⊢
    rw [allB_true hc, Bool.and_true]
    exact ⟨rfl, q⟩
  · rw [l1, l2] at hi
    rw [allB_false hi hc, Bool.and_false]
    exact ⟨rfl, q⟩
theorem rcW_lst {rs1 rs2 : List Rep} {c : Nat → Bool} (h : ∀ i q q', rs1[i]? = some q → rs2[i]? = some q' → EqW X W n q q' (c i)) : RcW X .Eq W (n + 1) (rLst rs1) (rLst rs2) (rs1.length == rs2.length && allB c rs1.length) := by
  intro A pins s σ H x y u v sb I rx ry k ⟨a, xs, ex, ha, hp⟩ ⟨a', ys, ey, hb, hp'⟩
  subst ex
  subst ey
  obtain rfl : u = Value.ref a := rx
  obtain rfl : v = Value.ref a' := ry
  have rd : ∀ s', LoopW X W pins σ H s' → ∃ (its its2 : List Value) (n n2 : Nat), Vals xs its ∧ Vals ys its2 ∧ s'.heap.get? a = some { cls := .type "list", data := .seq its.toArray n } ∧ s'.heap.get? a' = some { cls := .type "list", data := .seq its2.toArray n2 } := by
    rintro s' ⟨H1, I1, k1, e1⟩
    obtain ⟨z, its, n1, r, e⟩ := I1.hok a _ (W.sub H1 _ _ (e1 _ _ ha))
    obtain ⟨z2, its2, n2, r2, e2⟩ := I1.hok a' _ (W.sub H1 _ _ (e1 _ _ hb))
    exact ⟨its, its2, n1, n2, r, r2, e, e2⟩
  obtain ⟨its, its2, n1, n2, r, r2, e, e2⟩ := rd s ⟨H, I, k, Ex.refl _⟩
  have l1 : its.toArray.size = rs1.length := by rw [List.size_toArray, ← r.length, hp.len]
  have l2 : its2.toArray.size = rs2.length := by rw [List.size_toArray, ← r2.length, hp'.len]
  by_cases hl : rs1.length = rs2.length
  · have hb1 : (rs1.length == rs2.length) = true := beq_iff_eq.mpr hl
    rw [hb1, Bool.true_and]
    refine PyG.rc_listB (N := rs1.length) (c := c) sb.room.units0 (fun _ s' => LoopW X W pins σ H s') (fun i s' q => ?_) (fun s' hc q => ?_) (fun i s' hi hc q => ?_) ⟨H, I, k, Ex.refl _⟩
    · obtain ⟨its, its2, n1, n2, r, r2, e, e2⟩ := rd s' q
      refine ⟨its.toArray, its2.toArray, n1, n2, e, e2, by rw [List.size_toArray, ← r.length, hp.len], by rw [List.size_toArray, ← r2.length, ← hp'.len, hl], fun h1 h2 => turnW h sb hp hp' r r2 i h1 h2 s' q⟩
    · rw [allB_true hc]
      exact ⟨rfl, q⟩
    · rw [allB_false hi hc]
      exact ⟨rfl, q⟩
  · have hb1 : (rs1.length == rs2.length) = false := beq_eq_false_iff_ne.mpr hl
    rw [hb1, Bool.false_and]
    exact PyG.rc_listL sb.room.units0 e e2 (by rw [l1, l2]; exact hl) ⟨rfl, H, I, k, Ex.refl _⟩
theorem rcW_lstN {rs1 rs2 : List Rep} {c : Nat → Bool} (h : ∀ i q q', rs1[i]? = some q → rs2[i]? = some q' → EqW X W n q q' (c i)) : RcW X .NotEq W (n + 1) (rLst rs1) (rLst rs2) (!(rs1.length == rs2.length && allB c rs1.length)) := by
  intro A pins s σ H x y u v sb I rx ry k ⟨a, xs, ex, ha, hp⟩ ⟨a', ys, ey, hb, hp'⟩
  subst ex
  subst ey
  obtain rfl : u = Value.ref a := rx
  obtain rfl : v = Value.ref a' := ry
  have rd : ∀ s', LoopW X W pins σ H s' → ∃ (its its2 : List Value) (n n2 : Nat), Vals xs its ∧ Vals ys its2 ∧ s'.heap.get? a = some { cls := .type "list", data := .seq its.toArray n } ∧ s'.heap.get? a' = some { cls := .type "list", data := .seq its2.toArray n2 } := by
    rintro s' ⟨H1, I1, k1, e1⟩
    obtain ⟨z, its, n1, r, e⟩ := I1.hok a _ (W.sub H1 _ _ (e1 _ _ ha))
    obtain ⟨z2, its2, n2, r2, e2⟩ := I1.hok a' _ (W.sub H1 _ _ (e1 _ _ hb))
    exact ⟨its, its2, n1, n2, r, r2, e, e2⟩
  obtain ⟨its, its2, n1, n2, r, r2, e, e2⟩ := rd s ⟨H, I, k, Ex.refl _⟩
  have l1 : its.toArray.size = rs1.length := by rw [List.size_toArray, ← r.length, hp.len]
  have l2 : its2.toArray.size = rs2.length := by rw [List.size_toArray, ← r2.length, hp'.len]
  by_cases hl : rs1.length = rs2.length
  · have hb1 : (rs1.length == rs2.length) = true := beq_iff_eq.mpr hl
    rw [hb1, Bool.true_and]
    refine PyG.rc_listNB (N := rs1.length) (c := c) sb.room.units0 (fun _ s' => LoopW X W pins σ H s') (fun i s' q => ?_) (fun s' hc q => ?_) (fun i s' hi hc q => ?_) ⟨H, I, k, Ex.refl _⟩
    · obtain ⟨its, its2, n1, n2, r, r2, e, e2⟩ := rd s' q
      refine ⟨its.toArray, its2.toArray, n1, n2, e, e2, by rw [List.size_toArray, ← r.length, hp.len], by rw [List.size_toArray, ← r2.length, ← hp'.len, hl], fun h1 h2 => turnW h sb hp hp' r r2 i h1 h2 s' q⟩
    · rw [allB_true hc]
      exact ⟨rfl, q⟩
    · rw [allB_false hi hc]
      exact ⟨rfl, q⟩
  · have hb1 : (rs1.length == rs2.length) = false := beq_eq_false_iff_ne.mpr hl
    rw [hb1, Bool.false_and]
    exact PyG.rc_listNL sb.room.units0 e e2 (by rw [l1, l2]; exact hl) ⟨rfl, H, I, k, Ex.refl _⟩
/-- as operators -/
theorem op_rcW {op : CmpOp} (hop : ∀ a c, compareOp op a c = richCompare op a c) (h : RcW X op W n r1 r2 b) (hr : Room n X.A) : OpR X (compareOp op) (fun x y H Q => W.ok H ∧ r1.p x (W.vis H) ∧ r2.p y (W.vis H) ∧ ∀ H', W.ok H' → Ex (W.vis H) (W.vis H') → Q (.bl b) H') := by
  intro pins s σ H x y v u Q I rx ry ⟨k, p1, p2, q⟩
  rw [hop]
  refine wpAny_mono (h X.A pins s σ H x y v u ⟨hr, rfl⟩ I rx ry k p1 p2) (fun r s' z => ?_) fun _ _ x => x
  obtain ⟨hr', H', I', k', e'⟩ := z
  subst hr'
  exact ⟨.bl b, H', I', rfl, q H' k' e'⟩
theorem ew_rc {rs : Rs} {a c : Expr} {pos : Pos} {op : CmpOp} (hop : ∀ a c, compareOp op a c = richCompare op a c) (h : RcW X op W n r1 r2 b) (hr : Room n X.A) (ha : Ew X W rs a r1) (hc : Ew X W rs c r2) (hm : behindInMarks op c = false) : Ew X W rs (.Compare a [op] [c] pos) (rD X.K (.bool b)) :=
  ew_cmp (op_rcW hop h hr) ha hc (fun x y H k p1 p2 Q q => ⟨k, p1, p2, fun H' k' e' => q _ H' k' e' (Dp.bl b)⟩) hm
theorem tw_rc {rs : Rs} {a c : Expr} {pos : Pos} {op : CmpOp} (hop : ∀ a c, compareOp op a c = richCompare op a c) (h : RcW X op W n r1 r2 b) (hr : Room n X.A) (ha : Ew X W rs a r1) (hc : Ew X W rs c r2) (hm : behindInMarks op c = false) : Tw X W rs (.Compare a [op] [c] pos) b :=
  tw_cmp (op_rcW hop h hr) ha hc (fun x y H k p1 p2 Q q => ⟨k, p1, p2, fun H' k' e' => q _ H' k' e' (Dp.bl b)⟩) hm
def anyB (c : Nat → Bool) (n : Nat) : Bool := (List.range n).any c
theorem anyB_false {c : Nat → Bool} {n : Nat} (h : ∀ j, j < n → c j = false) : anyB c n = false := by
  cases q : anyB c n with
  | false => rfl
  | true =>
    obtain ⟨j, hj, z⟩ := List.any_eq_true.mp q
    rw [h j (List.mem_range.mp hj)] at z
    cases z
theorem anyB_true {c : Nat → Bool} {n i : Nat} (hi : i < n) (h : c i = true) : anyB c n = true := List.any_eq_true.mpr ⟨i, List.mem_range.mpr hi, h⟩
/-- x in a tuple, by the items' own == -/
theorem op_inTupW {rs2 : List Rep} {c : Nat → Bool} (h : ∀ i q, rs2[i]? = some q → EqW X W n q r1 (c i)) (hr : Room (n + 1) X.A) :
    OpR X (compareOp .In) (fun x y H Q => W.ok H ∧ r1.p x (W.vis H) ∧ (rTup X.K rs2).p y (W.vis H) ∧ ∀ H', W.ok H' → Ex (W.vis H) (W.vis H') → Q (.bl (anyB c rs2.length)) H') := by
  intro pins s σ H x y v u Q I rx ry ⟨k, p1, ⟨a, ys, ey, ha, hp⟩, q⟩
  subst ey
  obtain rfl : u = Value.ref a := ry
  obtain ⟨its, r, e, z⟩ := I.tuple (sqT_mono (W.sub H) ha)
  have l1 : its.toArray.size = rs2.length := by rw [List.size_toArray, ← r.length, hp.len]
  refine PyG.in_tupB (c := c) (fun _ s' => LoopW X W pins σ H s') e (fun i h1 s' l => ?_) (fun s' hc l => ?_) (fun i s' hi hc l => ?_) ⟨H, I, k, Ex.refl _⟩
  · obtain ⟨H1, I1, k1, e1⟩ := l
    have g1 : its[i]? = some its.toArray[i] := by
      have h1' : i < its.length := by simpa using h1
      rw [List.getElem?_eq_getElem h1'] <;> simp
    have j1 : i < ys.length := by rw [r.length]; simpa using h1
    obtain ⟨u, hu, ru⟩ := r.get (List.getElem?_eq_getElem j1)
    obtain ⟨q', hq, pq⟩ := hp.get' (List.getElem?_eq_getElem j1)
    rw [g1] at hu
    rw [Option.some.inj hu]
    refine wpAny_mono (h i q' hq X.A.in1 pins s' σ H1 _ _ u v ⟨hr.in1, rfl⟩ I1 ru rx k1 (q'.mono e1 pq) (r1.mono e1 p1)) (fun r s2 z => ?_) fun _ _ x => x
    obtain ⟨hr, H2, I2, k2, e2⟩ := z
    exact ⟨hr, H2, I2, k2, e1.trans e2⟩
  · obtain ⟨H1, I1, k1, e1⟩ := l
    rw [l1] at hc
    exact ⟨.bl false, H1, I1, rfl, anyB_false hc ▸ q H1 k1 e1⟩
  · obtain ⟨H1, I1, k1, e1⟩ := l
    rw [l1] at hi
    exact ⟨.bl true, H1, I1, rfl, anyB_true hi hc ▸ q H1 k1 e1⟩
theorem ew_inTup {rs : Rs} {a c : Expr} {pos : Pos} {rs2 : List Rep} {f : Nat → Bool} (h : ∀ i q, rs2[i]? = some q → EqW X W n q r1 (f i)) (hr : Room (n + 1) X.A) (ha : Ew X W rs a r1) (hc : Ew X W rs c (rTup X.K rs2)) (hm : behindInMarks .In c = false) : Ew X W rs (.Compare a [.In] [c] pos) (rD X.K (.bool (anyB f rs2.length))) :=
  ew_cmp (op_inTupW h hr) ha hc (fun x y H k p1 p2 Q q => ⟨k, p1, p2, fun H' k' e' => q _ H' k' e' (Dp.bl _)⟩) hm
end
end Py
namespace Py
open PySem L2
section
variable {X : Cx} {W : World} {rs : Rs} {a b c e o tg it : Expr} {r ra rb rc : Rep} {pos p apos : Pos} {O : Outs} {n : Nat} {C : Addr}
/-! ### operators of own classes -/
theorem HasM.own {ro : Rep} {m : Str} {rl : List Rep} (h : HasM X W ro m rl rc) {v : V} {H H1 : Hp} (k : W.ok H) (pv : ro.p v (W.vis H)) (k1 : W.ok H1) (e1 : Ex (W.vis H) (W.vis H1)) {vs : List V} (pr : Reps rl vs (W.vis H1)) {Q : VK} (q : ∀ w H', W.ok H' → Ex (W.vis H1) (W.vis H') → rc.p w (W.vis H') → Q w H') : Own X m v H1 vs Q := by
  obtain ⟨p, C, dx, f, fs, j, sp, ev, hi, l, c, m', F, hr, go⟩ := h.go v H k pv
  exact ⟨p, C, dx, f, fs, j, sp, ev, W.sub H1 _ _ (e1 _ _ hi), m', F, hr, go vs H1 k1 e1 pr Q q⟩
def InsOf (C : Addr) (r : Rep) : Prop := ∀ v H, r.p v H → ∃ a dx fs, v = .ref a ∧ H a = some (.ins C dx fs)
theorem insOf {fs : List (Str × Rep)} : InsOf C (rIns C fs) := fun v H ⟨a, dx, gs, ev, hi, _⟩ => ⟨a, dx, gs, ev, hi⟩
theorem ew_negOwn (ha : Ew X W rs a ra) (h : HasM X W ra "__neg__" [] rc) : Ew X W rs (.UnaryOp .USub a pos) rc :=
  pe_cs (pe_un un_own ha) fun σ H Q ⟨k, g, q⟩ => ⟨k, g, fun v H1 k1 e1 p1 => h.own (vs := []) k1 p1 k1 (Ex.refl _) trivial fun w H' k' e' pw => q w H' k' (e1.trans e') pw⟩
theorem ew_binOwn (op : Operator) (ha : Ew X W rs a ra) (hb : Ew X W rs b rb) (h : HasM X W ra (PySem.dunder op.info.2) [rb] rc) (ia : InsOf C ra) (ib : InsOf C rb) (sf : PySem.W.selfFirst X.K C = true) : Ew X W rs (.BinOp a op b pos) rc := by
  have ho : OpR X (binaryOp op) (fun x y H Q => Own X (PySem.dunder op.info.2) x H [y] Q ∧ ∃ a b C dx dy fs gs, x = .ref a ∧ y = .ref b ∧ H a = some (.ins C dx fs) ∧ H b = some (.ins C dy gs) ∧ PySem.W.selfFirst X.K C = true) := fun pins s σ H x y v u Q I rx ry h => op_own op (y := y) pins s σ H x y v u Q I rx ry h
  refine ew_op ho ha hb fun x y H k p q Q n => ?_
  obtain ⟨a, dx, fs, ex, hi⟩ := ia _ _ p
  obtain ⟨b, dy, gs, ey, hj⟩ := ib _ _ q
  exact ⟨h.own (vs := [y]) k p k (Ex.refl _) ⟨q, trivial⟩ n, a, b, C, dx, dy, fs, gs, ex, ey, W.sub H _ _ hi, W.sub H _ _ hj, sf⟩
theorem ew_inOwn {d : Bool} (ha : Ew X W rs a ra) (hb : Ew X W rs b rb) (h : HasM X W rb "__contains__" [ra] (rD X.K (.bool d))) (hm : behindInMarks .In b = false) : Ew X W rs (.Compare a [.In] [b] pos) (rD X.K (.bool d)) :=
  ew_cmp in_own ha hb (fun x y H k p q Q n => h.own (vs := [x]) k q k (Ex.refl _) ⟨p, trivial⟩ fun w H' k' e' pw => ⟨d, rD_bl.mp pw, n _ H' k' e' (Dp.bl d)⟩) hm
theorem ew_notInOwn {d : Bool} (ha : Ew X W rs a ra) (hb : Ew X W rs b rb) (h : HasM X W rb "__contains__" [ra] (rD X.K (.bool d))) (hm : behindInMarks .NotIn b = false) : Ew X W rs (.Compare a [.NotIn] [b] pos) (rD X.K (.bool (!d))) :=
  ew_cmp notIn_own ha hb (fun x y H k p q Q n => h.own (vs := [x]) k q k (Ex.refl _) ⟨p, trivial⟩ fun w H' k' e' pw => ⟨d, rD_bl.mp pw, n _ H' k' e' (Dp.bl (!d))⟩) hm
theorem tw_notInOwn {d : Bool} (ha : Ew X W rs a ra) (hb : Ew X W rs b rb) (h : HasM X W rb "__contains__" [ra] (rD X.K (.bool d))) (hm : behindInMarks .NotIn b = false) : Tw X W rs (.Compare a [.NotIn] [b] pos) (!d) :=
  tw_cmp notIn_own ha hb (fun x y H k p q Q n => h.own (vs := [x]) k q k (Ex.refl _) ⟨p, trivial⟩ fun w H' k' e' pw => ⟨d, rD_bl.mp pw, n _ H' k' e' (Dp.bl (!d))⟩) hm
theorem ew_callB {id : String} {f : List V → Hp → VK → Prop} {x : Str} (hc : CallR X (.builtin id) f) (hg : Gl X x) (hm : X.mg x = none) (hv : bootBuiltins x = some (.builtin id)) (ha : Ew X W rs a ra) (h : ∀ v H, W.ok H → ra.p v (W.vis H) → ∀ Q : VK, (∀ w H', W.ok H' → Ex (W.vis H) (W.vis H') → rc.p w (W.vis H') → Q w H') → f [v] H Q)
    (hn : x ≠ "__name__" := by decide) (hdb : (x == ("__debug__" : Str)) = false := by decide) (he : starEach [a] X.env = (false, eval a X.env) :: starEach [] X.env := by rfl) (hpl : (backTo pos (starEach [] X.env)).any (·.1) = false := by rfl) : Ew X W rs (.Call (.Name x p) [a] [] pos) rc := by
  refine pe_cs (pe_callB hc hg hm hv (aw_cons ha aw_nil he) hn hdb he hpl) ?_
  rintro σ H Q ⟨k, g, q⟩
  refine ⟨k, g, fun vs H1 k1 e1 pr => ?_⟩
  obtain ⟨v, rfl, pv⟩ := reps1 pr
  exact h v H1 k1 pv Q fun w H' k' e' pw => q w H' k' (e1.trans e') pw
theorem ew_callTy {T : String} {f : List V → Hp → VK → Prop} {x : Str} (hc : CallR X (.type T) f) (hg : Gl X x) (hm : X.mg x = none) (hv : bootBuiltins x = some (.type T)) (ha : Ew X W rs a ra) (h : ∀ v H, W.ok H → ra.p v (W.vis H) → ∀ Q : VK, (∀ w H', W.ok H' → Ex (W.vis H) (W.vis H') → rc.p w (W.vis H') → Q w H') → f [v] H Q)
    (hn : x ≠ "__name__" := by decide) (hdb : (x == ("__debug__" : Str)) = false := by decide) (he : starEach [a] X.env = (false, eval a X.env) :: starEach [] X.env := by rfl) (hpl : (backTo pos (starEach [] X.env)).any (·.1) = false := by rfl) : Ew X W rs (.Call (.Name x p) [a] [] pos) rc := by
  refine pe_cs (pe_callTy hc hg hm hv (aw_cons ha aw_nil he) hn hdb he hpl) ?_
  rintro σ H Q ⟨k, g, q⟩
  refine ⟨k, g, fun vs H1 k1 e1 pr => ?_⟩
  obtain ⟨v, rfl, pv⟩ := reps1 pr
  exact h v H1 k1 pv Q fun w H' k' e' pw => q w H' k' (e1.trans e') pw
/-- len, of what it may be -/
theorem ew_len {x : Str} {m : Nat} (hx : x = "len") (hg : Gl X x) (hm : X.mg x = none) (ha : Ew X W rs a ra) (h : ∀ v H, ra.p v H → LenV X.K v H m) (hdb : (x == ("__debug__" : Str)) = false := by decide) (he : starEach [a] X.env = (false, eval a X.env) :: starEach [] X.env := by rfl) (hpl : (backTo pos (starEach [] X.env)).any (·.1) = false := by rfl) :
    (hl : ∀ v H H', Ex H H' → LenV X.K v H m → LenV X.K v H' m) → Ew X W rs (.Call (.Name x p) [a] [] pos) (rD X.K (.int m)) := fun hl => by
  subst hx
  exact ew_callB call_len hg hm PySem.boot_len ha (fun v H k pv Q q => ⟨v, m, rfl, hl v _ _ (W.sub H) (h v _ pv), q _ H k (Ex.refl _) (Dp.int _)⟩) (by decide) hdb he hpl
theorem ew_lenOwn {m : Nat} (hm' : m < 2 ^ 63) (hg : Gl X "len") (hm : X.mg "len" = none) (ha : Ew X W rs a ra) (h : HasM X W ra "__len__" [] (rD X.K (.int m))) (he : starEach [a] X.env = (false, eval a X.env) :: starEach [] X.env := by rfl) (hpl : (backTo pos (starEach [] X.env)).any (·.1) = false := by rfl) : Ew X W rs (.Call (.Name "len" p) [a] [] pos) (rD X.K (.int m)) :=
  ew_callB call_lenOwn hg hm PySem.boot_len ha (fun v H k pv Q q => ⟨v, rfl, h.own (vs := []) k pv k (Ex.refl _) trivial fun w H' k' e' pw => ⟨m, rD_int.mp pw, hm', q _ H' k' e' (Dp.int _)⟩⟩) (by decide) (by decide) he hpl
theorem call_boolOwn : CallR X (.type "bool") (fun xs H Q => ∃ x, xs = [x] ∧ (∃ a C dx fs, x = .ref a ∧ H a = some (.ins C dx fs) ∧ PySem.W.findIn X.K (.ref C) "__bool__" = some none) ∧ Room 3 X.A ∧ ∃ (a C dx f : Addr) (fs : List (Str × V)) (k : Nat) (sp : Sp), x = .ref a ∧ H a = some (.ins C dx fs) ∧ Meth X.K C "__len__" f ∧ FnC X k f sp ∧ Room (k + 3) X.A ∧ sp [x] H (fun z H' => ∃ n : Nat, z = .int n ∧ n < 2 ^ 63 ∧ Q (.bl (n != 0)) H') E0) := by
  intro pins s σ H xs us Q I r ⟨x, exs, ⟨a', C', dx', fs', ex', hi', hb⟩, _, a, C, dx, f, fs, k, sp, ex, hi, hm, F, hr, q⟩
  subst exs
  obtain ⟨u, rfl, rx⟩ := vals1 r
  subst ex
  cases ex'
  rw [hi] at hi'
  cases hi'
  obtain rfl : u = Value.ref a' := rx
  obtain ⟨m, hF⟩ := I.fr
  obtain ⟨od, J⟩ := inst_of I hi
  refine call_boolT (truthy_lenK hF I.ok.mod.kin J hb hm.at_ hm.fn (thn (wpAny_call (run_at (us := [.ref a']) (ws := [.ref a']) F (hr.in1.in1.in1) I.env0.in1.in1.in1 I (.cons rfl .nil) q)) fun w s' h => ?_))
  obtain ⟨z, H', I', rz, n, ez, hn, qz⟩ := h
  subst ez
  obtain ⟨t, rfl⟩ := rz
  refine ⟨_, _, rfl, ⟨by omega, by exact_mod_cast hn⟩, .bl (n != 0), H', I'.tok _, ?_, qz⟩
  show Value.bool (((n : Nat) : Int) != 0) = Value.bool (n != 0)
  congr 1
  cases n <;> rfl
/-! ### defs -/
variable {P : Program} {w : PySem.World} {K : PySem.W.Frag} {mg : Str → Option Value} {base : Heap}
theorem fn_w {x qual : Str} {st : Stmt} {f : Addr} {fd : FuncData} {N ps : List Str} {k : Nat} {α : Type} {pre : World → α → Prop} {args : α → List Rep} {res : α → Rep} (F : Fun K x qual st f fd) (S : FnScope N ps (defScope st)) (hb : Binds K fd ps []) (hl : ∀ z, (args z).length = ps.length)
    (h : ∀ (cdv : Value) (A : Around) (outer : List Env) (s : Shared) (H : Hp) (E : XK) (W : World) (z : α), Room k (A.deeper (PyProof.Rows.envOfC qual (defScope st) s.heap.objs.size f cdv)) → pre W z →
      ∃ nx, Bw (cxOf CX0 P w K mg base N qual (defScope st) f cdv A outer s H E).nox W ((args z).map some ++ List.replicate (N.length - ps.length) none) (defBody st) ⟨res z, nx, none, none⟩ ∧ ∀ N', nx = some N' → ∀ H, (res z).p .non H) : FnR P w K mg base CX0 (k + 1) f (spW pre args res) := by
  have G : FnOk P w K mg base CX0 (k + 1) f fd ps (spW pre args res) := by
    refine F.ok S (fun vs H Q E ⟨W, z, _, _, pr, _⟩ => by rw [← hl z, pr.len]) ?_
    rintro cdv A outer s H vs Q E hr ⟨W, z, hp, kH, pr, q⟩
    obtain ⟨nx, hB, hN⟩ := h cdv A outer s H E W z hr hp
    refine ⟨_, hB, kH, ?_, q, fun N' e σ' H' k' e' g' => q .non H' k' e' (hN N' e _), fun N' e => (by cases e), fun N' e => (by cases e)⟩
    have e : N.length - ps.length = N.length - vs.length := by rw [← pr.len, hl z]
    rw [e]
    exact Sg.of _ pr
  exact (G.raw hb .nil).imp fun vs H Q E q => by rw [List.append_nil]; exact q
/-! ### __init__: the fields grow -/
/-- the body of an __init__: self's address, the slots, the fields so far, those at the end -/
def tI (W : World) (C x dx : Addr) (rs : Rs) (fr out : List (Str × Rep)) : TS := fun D σ H => ∃ gs, (W.hold x (.ins C dx gs)).ok H ∧ Flds fr gs ((W.hold x (.ins C dx gs)).vis H) ∧ Sg rs σ ((W.hold x (.ins C dx gs)).vis H) ∧
  ∀ gs' H' σ', (W.hold x (.ins C dx gs')).ok H' → Ex ((W.hold x (.ins C dx gs)).vis H) ((W.hold x (.ins C dx gs)).vis H') → Flds out gs' ((W.hold x (.ins C dx gs')).vis H') → D.nx σ' H'
abbrev Ib (X : Cx) (W : World) (C x dx : Addr) (rs : Rs) (fr : List (Str × Rep)) (sts : List Stmt) (out : List (Str × Rep)) : Prop := PSs X sts (tI W C x dx rs fr out)
variable {x dx : Addr} {fr out : List (Str × Rep)} {sts : List Stmt}
theorem ib_nil : Ib X W C x dx rs fr [] fr := pss_cs pss_nil fun D σ H ⟨gs, k, fl, g, q⟩ => q gs H σ k (Ex.refl _) fl
/-- a test that does not hold: what stands in it is never come to -/
theorem ib_if {t : Expr} {as : List Stmt} (h : ∀ gs, Tw X (W.hold x (.ins C dx gs)) rs t false) (h2 : Ib X W C x dx rs fr sts out) : Ib X W C x dx rs fr (.If t as [] pos :: sts) out := by
  have hT : PT X t (fun σ H Q => ∃ gs, tWT (W.hold x (.ins C dx gs)) rs false σ H Q) := ⟨fun pins s σ H Q I ⟨gs, q⟩ => (h gs).run pins s σ H Q I q⟩
  refine pss_cs (pss_cons (ps_if hT pss_never pss_nil) h2) ?_
  rintro D σ H ⟨gs, k, fl, g, q⟩
  refine ⟨gs, k, g, fun H1 k1 e1 => iteF ⟨gs, k1, fl.mono e1, g.mono e1, fun gs' H' σ' k' e' fl' => q gs' H' σ' k' (e1.trans e') fl'⟩⟩
theorem flds_put {f : Str} {v : V} : ∀ {fr : List (Str × Rep)} {gs : List (Str × V)} {H : Hp}, Flds fr gs H → fr.lookup f = none → r.p v H → Flds (fr ++ [(f, r)]) (putF f v gs) H
  | [], [], _, _, _, p => ⟨rfl, p, trivial⟩
  | (n, q) :: fr, (m, y) :: gs, H, ⟨h1, h2, h3⟩, e, p => by
    subst h1
    rw [List.lookup_cons] at e
    split at e
    · cases e
    · rename_i hne
      have hn : ¬ n = f := fun z => by
        subst z
        simp at hne
      show Flds ((n, q) :: (fr ++ [(f, r)])) (if n = f then _ else _) H
      rw [if_neg hn]
      exact ⟨rfl, h2, flds_put h3 e p⟩
  | [], _ :: _, _, h, _, _ => h.elim
  | _ :: _, [], _, h, _, _ => h.elim
theorem flds_len : ∀ {fr : List (Str × Rep)} {gs : List (Str × V)} {H : Hp}, Flds fr gs H → fr.length = gs.length
  | [], [], _, _ => rfl
  | _ :: _, _ :: _, _, h => congrArg Nat.succ (flds_len h.2.2)
  | [], _ :: _, _, h => h.elim
  | _ :: _, [], _, h => h.elim
/-- self.f = e -/
theorem ib_set {f : Str} {i : Nat} {o : Expr} {pos' : Pos} (ho : PE X o (tVar i)) (hi : rs[i]? = some (some (rRef x))) (h : ∀ gs, Ew X (W.hold x (.ins C dx gs)) rs e r) (c : Cls X.K C) (n : NoAttr X.K C f) (hf : fr.lookup f = none) (hl : fr.length < 100) (h2 : Ib X W C x dx rs (fr ++ [(f, r)]) sts out)
    (hs : swapsWith e (some (.Attribute o f pos')) pos.line X.env = pure false) : Ib X W C x dx rs fr (.Assign [.Attribute o f pos'] e pos :: sts) out := by
  have hE : PE X e (fun σ H Q => ∃ gs, tW (W.hold x (.ins C dx gs)) rs r σ H Q) := ⟨fun pins s σ H Q I ⟨gs, q⟩ => (h gs).run pins s σ H Q I q⟩
  refine pss_cs (pss_cons (ps_fld ho hE hs) h2) ?_
  rintro D σ H ⟨gs, k, fl, g, q⟩
  refine ⟨gs, k, g, fun v H1 k1 e1 p1 => ?_⟩
  obtain ⟨y, hy, py⟩ := g.get hi
  obtain rfl : y = V.ref x := py
  refine ⟨.ref x, hy, x, C, dx, gs, rfl, k1.2.2, c, n, by rw [← flds_len fl]; omega, ?_⟩
  refine ⟨putF f v gs, hold_okUpd k1, ?_, ?_, ?_⟩
  · rw [hold_upd (o' := .ins C dx gs)]
    exact flds_put (fl.mono e1) hf p1
  · rw [hold_upd (o' := .ins C dx gs)]
    exact g.mono e1
  · intro gs' H' σ' k' e' fl'
    refine q gs' H' σ' k' (e1.trans ?_) fl'
    rw [hold_upd (o' := .ins C dx gs)] at e'
    rw [hold_any (o := .ins C dx gs) (o' := .ins C dx (putF f v gs))]
    exact e'
/-- an __init__ of the text -/
theorem fn_i {nm qual : Str} {st : Stmt} {f : Addr} {fd : FuncData} {N ps : List Str} {k : Nat} {α : Type} {pre : α → Prop} {args : α → List Rep} {fs : α → List (Str × Rep)} (F : Fun K nm qual st f fd) (S : FnScope N ps (defScope st)) (hb : Binds K fd ps []) (hl : ∀ z, (args z).length + 1 = ps.length)
    (h : ∀ (cdv : Value) (A : Around) (outer : List Env) (s : Shared) (H : Hp) (E : XK) (W : World) (x dx : Addr) (z : α), Room k (A.deeper (PyProof.Rows.envOfC qual (defScope st) s.heap.objs.size f cdv)) → pre z →
      Ib (cxOf CX0 P w K mg base N qual (defScope st) f cdv A outer s H E).nox W C x dx (some (rRef x) :: (args z).map some ++ List.replicate (N.length - ps.length) none) [] (defBody st) (fs z)) : FnR P w K mg base CX0 (k + 1) f (spI C pre args fs) := by
  have G : FnOk P w K mg base CX0 (k + 1) f fd ps (spI C pre args fs) := by
    refine F.ok S (fun vs H Q E ⟨W, z, x, dx, ws, ev, _, _, pr, _⟩ => by rw [ev, List.length_cons, ← pr.len]; exact hl z) ?_
    rintro cdv A outer s H vs Q E hr ⟨W, z, x, dx, ws, ev, hp, kH, pr, q⟩
    refine ⟨_, h cdv A outer s H E W x dx z hr hp, [], kH, trivial, ?_, fun gs' H' σ' k' e' fl => q gs' H' k' (by rw [hold_any (o := .ins C dx gs') (o' := .ins C dx [])]; exact e') fl⟩
    have e : N.length - ps.length = N.length - vs.length := by rw [ev, List.length_cons, ← pr.len, hl z]
    rw [e, ev]
    exact Sg.of (rs := rRef x :: args z) (vs := .ref x :: ws) _ ⟨rfl, pr⟩
  exact (G.raw hb .nil).imp fun vs H Q E q => by rw [List.append_nil]; exact q
/-! ### the class in a name of the def -/
theorem pe_makeL {k i : Nat} {f : Addr} {sp : Sp} {nm : Str} {es : List Expr} {t : TA} (M : Mk X.K C f) (F : FnC X k f sp) (hr : Room (k + 1) X.A) (hv : PE X (.Name nm p) (tVar i)) (ha : PA X (e :: es) t)
    (he : starEach (e :: es) X.env = (false, eval e X.env) :: starEach es X.env := by rfl) (hpl : (backTo pos (starEach es X.env)).any (·.1) = false := by rfl) :
    PE X (.Call (.Name nm p) (e :: es) [] pos) (fun σ H Q => σ[i]? = some (some (.ref C)) ∧ StX.tMakeR C sp E0 t σ H Q) := by
  refine ⟨fun pins s σ H Q I ⟨hσ, h⟩ => ?_⟩
  refine wpAny_Call_Name_kw (thn (hv.run pins s σ H (fun v H1 => v = .ref C ∧ H1 = H) I ⟨.ref C, hσ, rfl, rfl⟩) fun u s1 ⟨v, H1, I1, rv, ev, eH⟩ => ?_)
  subst ev
  subst eH
  obtain rfl : u = Value.ref C := rv
  refine PySem.W.callWith_K (h₀ := X.base) I1.ok.mod.kin M.kp (thn (ha.run pos pins s1 σ H1 _ I1 h) fun us s2 ⟨vs, H2, I2, r, q⟩ => ⟨I2.kIn, ?_⟩) he hpl
  exact StX.run_makeR M F hr pass0 I2 r q
end
end Py
namespace Py
open PySem L2
section
variable {X : Cx} {W : World} {rs : Rs} {a b c e o tg it : Expr} {r ra rb rc : Rep} {pos p apos : Pos} {O : Outs} {n : Nat} {C : Addr}
/-! ### types -/
structure IsiC (K : PySem.W.Frag) (C : Addr) : Prop where
  cl : Cls K C
  ca : PySem.W.findIn K (.ref C) "__class__" = some (some (.builtin "object.__class__"))
  cn : PySem.W.specialIn K (.builtin "object.__class__") "__get__" = some (some (.builtin "getset_descriptor.__get__"))
  ct : PySem.W.takesIn K (.builtin "object.__class__") = some true
  cm : PySem.W.mroIn K C (.type "object") = some true
def IsR (K : PySem.W.Frag) (r : Rep) (t : Value) : Prop := ∀ v H, r.p v H → TyX K H v t
theorem isR_str {K : PySem.W.Frag} {z : Str} : IsR K (rD K (.str z)) (.type "str") := fun v H h => by cases h; exact .base (.str _)
theorem isR_int {K : PySem.W.Frag} {z : Int} : IsR K (rD K (.int z)) (.type "int") := fun v H h => by cases h; exact .base (.int _)
theorem isR_bl {K : PySem.W.Frag} {z : Bool} : IsR K (rD K (.bool z)) (.type "bool") := fun v H h => by cases h; exact .base (.bl _)
theorem isR_non {K : PySem.W.Frag} : IsR K (rD K .none) (.type "NoneType") := fun v H h => by cases h; exact .base .non
theorem isR_ins {K : PySem.W.Frag} {fs : List (Str × Rep)} (c : IsiC K C) : IsR K (rIns C fs) (.ref C) := fun v H ⟨a, dx, gs, ev, hi, _⟩ => by
  subst ev
  exact .base (.ins hi c.cl c.ca c.cn c.ct c.cm)
theorem ew_ty {x : Str} {T : String} (hg : Gl X x) (hm : X.mg x = none) (hv : bootBuiltins x = some (.type T)) (hn : x ≠ "__name__" := by decide) (hd : (x == ("__debug__" : Str)) = false := by decide) : Ew X W rs (.Name x pos) (rTy T) := ew_c (pe_bltn (v := .ty T) hg hm hv rfl hn hd) fun _ => rfl
theorem ew_cls {x : Str} (hg : Gl X x) (hm : X.mg x = some (.ref C)) (hd : (x == ("__debug__" : Str)) = false := by decide) : Ew X W rs (.Name x pos) (rRef C) := ew_c (pe_glob (v := .ref C) hg hm rfl hd) fun _ => rfl
theorem ew_glob {x : Str} {v : V} {u : Value} {d : PyData} (hg : Gl X x) (hm : X.mg x = some u) (rv : RelV v u) (hd' : ∀ H, Dp X.K H v d) (hd : (x == ("__debug__" : Str)) = false := by decide) : Ew X W rs (.Name x pos) (rD X.K d) := ew_c (pe_glob hg hm rv hd) hd'
theorem ew_globI {x : Str} {i : Int} (hg : Gl X x) (hm : ∃ t, X.mg x = some (.int i t)) (hd : (x == ("__debug__" : Str)) = false := by decide) : Ew X W rs (.Name x pos) (rD X.K (.int i)) := hm.elim fun t h => ew_glob (v := .int i) hg h ⟨t, rfl⟩ (fun _ => Dp.int i) hd
theorem ew_globS {x : Str} {i : Str} (hg : Gl X x) (hm : ∃ t, X.mg x = some (.str i t)) (hd : (x == ("__debug__" : Str)) = false := by decide) : Ew X W rs (.Name x pos) (rD X.K (.str i)) := hm.elim fun t h => ew_glob (v := .str i) hg h ⟨t, rfl⟩ (fun _ => Dp.str i) hd
theorem ew_isi {cv : V} {u t : Value} {d : Bool} (hg : Gl X "isinstance") (hm : X.mg "isinstance" = none) (ha : Ew X W rs a ra) (hc : Ew X W rs c (rV cv)) (k : ClsV cv u) (ht : IsR X.K ra t) (hk : PySem.W.kitOne X.K t u = some d)
    (he : starEach [a, c] X.env = (false, eval a X.env) :: starEach [c] X.env := by rfl) (he' : starEach [c] X.env = (false, eval c X.env) :: starEach [] X.env := by rfl) (hpl : (backTo pos (starEach [c] X.env)).any (·.1) = false := by rfl) : Ew X W rs (.Call (.Name "isinstance" p) [a, c] [] pos) (rD X.K (.bool d)) := by
  refine pe_cs (pe_callB call_isi hg hm (by decide +kernel) (aw_cons ha (aw_cons hc aw_nil he') he) (by decide) (by decide) he hpl) ?_
  rintro σ H Q ⟨k', g, q⟩
  refine ⟨k', g, fun vs H1 k1 e1 pr => ?_⟩
  obtain ⟨x, y, rfl, px, py⟩ := reps2 pr
  exact ⟨x, y, t, u, d, rfl, (show y = cv from py) ▸ k, ht x H1 (ra.mono (W.sub H1) px), hk, q _ H1 k1 e1 (Dp.bl d)⟩
theorem ew_typeOwn (hg : Gl X "type") (hm : X.mg "type" = none) (ha : Ew X W rs a ra) (hi : InsOf C ra) (he : starEach [a] X.env = (false, eval a X.env) :: starEach [] X.env := by rfl) (hpl : (backTo pos (starEach [] X.env)).any (·.1) = false := by rfl) : Ew X W rs (.Call (.Name "type" p) [a] [] pos) (rRef C) :=
  ew_callTy cr_type hg hm (by decide +kernel) ha (fun v H k pv Q q => by
    obtain ⟨a, dx, fs, ev, h⟩ := hi v _ pv
    subst ev
    exact ⟨a, C, dx, fs, rfl, W.sub H _ _ h, q _ H k (Ex.refl _) rfl⟩) (by decide) (by decide) he hpl
theorem ew_isCls {C' : Addr} (ha : Ew X W rs a (rRef C)) (hb : Ew X W rs b (rRef C')) (h : C = C' ∨ (PySem.W.makesIn X.K C = true ∧ PySem.W.makesIn X.K C' = true)) : Ew X W rs (.Compare a [.Is] [b] pos) (rD X.K (.bool (decide (C = C')))) :=
  ew_cmp op_is_cls ha hb (fun x y H k p q Q n => ⟨C, C', p, q, h, n _ H k (Ex.refl _) (Dp.bl _)⟩) (nomark _)
/-! ### len, all, list -/
theorem ew_lenStr {z : Str} (hz : z.length ≤ sizeLine) (hg : Gl X "len") (hm : X.mg "len" = none) (ha : Ew X W rs a (rD X.K (.str z))) (he : starEach [a] X.env = (false, eval a X.env) :: starEach [] X.env := by rfl) (hpl : (backTo pos (starEach [] X.env)).any (·.1) = false := by rfl) : Ew X W rs (.Call (.Name "len" p) [a] [] pos) (rD X.K (.int z.length)) :=
  ew_callB call_len_str hg hm PySem.boot_len ha (fun v H k pv Q q => ⟨z, by rw [rD_str.mp pv], hz, q _ H k (Ex.refl _) (Dp.int _)⟩) (by decide) (by decide) he hpl
theorem ew_lenSeq {rl : List Rep} (hg : Gl X "len") (hm : X.mg "len" = none) (ha : Ew X W rs a (rSeq X.K rl)) (he : starEach [a] X.env = (false, eval a X.env) :: starEach [] X.env := by rfl) (hpl : (backTo pos (starEach [] X.env)).any (·.1) = false := by rfl) : Ew X W rs (.Call (.Name "len" p) [a] [] pos) (rD X.K (.int rl.length)) :=
  ew_callB call_len_seq hg hm PySem.boot_len ha (fun v H k ⟨a, xs, ev, hs, hr⟩ Q q => ⟨a, xs, by rw [ev], .inl (sqL_mono (W.sub H) hs), by rw [← hr.len]; exact q _ H k (Ex.refl _) (Dp.int _)⟩) (by decide) (by decide) he hpl
theorem ew_lenTup {rl : List Rep} (hg : Gl X "len") (hm : X.mg "len" = none) (ha : Ew X W rs a (rTup X.K rl)) (he : starEach [a] X.env = (false, eval a X.env) :: starEach [] X.env := by rfl) (hpl : (backTo pos (starEach [] X.env)).any (·.1) = false := by rfl) : Ew X W rs (.Call (.Name "len" p) [a] [] pos) (rD X.K (.int rl.length)) :=
  ew_callB call_len_seq hg hm PySem.boot_len ha (fun v H k ⟨a, xs, ev, hs, hr⟩ Q q => ⟨a, xs, by rw [ev], .inr (sqT_mono (W.sub H) hs), by rw [← hr.len]; exact q _ H k (Ex.refl _) (Dp.int _)⟩) (by decide) (by decide) he hpl
theorem ew_lenD {ds : List PyData} (hg : Gl X "len") (hm : X.mg "len" = none) (ha : Ew X W rs a (rD X.K (.list ds))) (he : starEach [a] X.env = (false, eval a X.env) :: starEach [] X.env := by rfl) (hpl : (backTo pos (starEach [] X.env)).any (·.1) = false := by rfl) : Ew X W rs (.Call (.Name "len" p) [a] [] pos) (rD X.K (.int ds.length)) := by
  have z := ew_lenSeq (p := p) (pos := pos) hg hm (ew_sub ha fun _ _ q => rD_lst.mp q) he hpl
  rw [List.length_map] at z
  exact z
/-- all([..]) where every item is True, any -/
theorem bools {K : PySem.W.Frag} : ∀ {bs : List Bool} {xs : List V} {H : Hp}, Reps (bs.map fun q => rD K (.bool q)) xs H → xs = bs.map V.bl
  | [], [], _, _ => rfl
  | q :: bs, x :: xs, H, h => by
    rw [List.map_cons, rD_bl.mp h.1, bools h.2]
  | [], _ :: _, _, h => h.elim
  | _ :: _, [], _, h => h.elim
theorem ew_all {bs : List Bool} (hc : X.calm = true) (hg : Gl X "all") (hm : X.mg "all" = none) (ha : Ew X W rs a (rLst (bs.map fun q => rD X.K (.bool q)))) (he : starEach [a] X.env = (false, eval a X.env) :: starEach [] X.env := by rfl) (hpl : (backTo pos (starEach [] X.env)).any (·.1) = false := by rfl) : Ew X W rs (.Call (.Name "all" p) [a] [] pos) (rD X.K (.bool (bs.all id))) :=
  ew_callB (cr_all hc) hg hm (by decide +kernel) ha (fun v H k ⟨a, xs, ev, hs, hr⟩ Q q => ⟨a, bs, by rw [ev], .inl (.inl (by rw [← bools hr]; exact W.sub H _ _ hs)), q _ H k (Ex.refl _) (Dp.bl _)⟩) (by decide) (by decide) he hpl
theorem ew_listT {rl : List Rep} (hg : Gl X "list") (hm : X.mg "list" = none) (ha : Ew X W rs a (rTup X.K rl)) (he : starEach [a] X.env = (false, eval a X.env) :: starEach [] X.env := by rfl) (hpl : (backTo pos (starEach [] X.env)).any (·.1) = false := by rfl) : Ew X W rs (.Call (.Name "list" p) [a] [] pos) (rLst rl) :=
  ew_callTy call_list_of hg hm (by decide +kernel) ha (fun v H k ⟨a, xs, ev, hs, hr⟩ Q q => ⟨a, xs, by rw [ev], .inr (sqT_mono (W.sub H) hs), fun l hl => q _ _ (World.okNew k hl) (World.visEx k (Ex.new hl)) ⟨l, xs, rfl, by rw [World.visNew k hl, upd_same], hr.mono (World.visEx k (Ex.new hl))⟩⟩) (by decide) (by decide) he hpl
theorem ew_listL {rl : List Rep} (hg : Gl X "list") (hm : X.mg "list" = none) (ha : Ew X W rs a (rSeq X.K rl)) (he : starEach [a] X.env = (false, eval a X.env) :: starEach [] X.env := by rfl) (hpl : (backTo pos (starEach [] X.env)).any (·.1) = false := by rfl) : Ew X W rs (.Call (.Name "list" p) [a] [] pos) (rLst rl) :=
  ew_callTy call_list_of hg hm (by decide +kernel) ha (fun v H k ⟨a, xs, ev, hs, hr⟩ Q q => ⟨a, xs, by rw [ev], .inl (sqL_mono (W.sub H) hs), fun l hl => q _ _ (World.okNew k hl) (World.visEx k (Ex.new hl)) ⟨l, xs, rfl, by rw [World.visNew k hl, upd_same], hr.mono (World.visEx k (Ex.new hl))⟩⟩) (by decide) (by decide) he hpl
/-! ### tuples joined and cut -/
theorem ew_catT {rl rl' : List Rep} (ha : Ew X W rs a (rTup X.K rl)) (hb : Ew X W rs b (rTup X.K rl')) (hl : rl.length + rl'.length ≤ 1000) : Ew X W rs (.BinOp a .Add b pos) (rTup X.K (rl ++ rl')) := by
  refine ew_op op_catA ha hb ?_
  rintro x y H k ⟨a, xs, ex, hs, hr⟩ ⟨a', ys, ey, hs', hr'⟩ Q q
  refine ⟨a, a', xs, ys, ex, ey, sqT_mono (W.sub H) hs, sqT_mono (W.sub H) hs', Nat.le_of_lt (small1000 (by rw [← hr.len, ← hr'.len]; exact hl)), fun e1 => ?_, fun _ e2 => ?_, fun _ _ z hz => ?_⟩
  · subst e1
    have e : rl = [] := List.length_eq_zero_iff.mp hr.len
    subst e
    exact q _ H k (Ex.refl _) ⟨a', ys, rfl, hs', hr'⟩
  · subst e2
    have e : rl' = [] := List.length_eq_zero_iff.mp hr'.len
    subst e
    exact q _ H k (Ex.refl _) ⟨a, xs, rfl, hs, by rw [List.append_nil]; exact hr⟩
  · exact q _ _ (World.okNew k hz) (World.visEx k (Ex.new hz)) ⟨z, xs ++ ys, rfl, .inl (.inl (by rw [World.visNew k hz, upd_same])), (hr.mono (World.visEx k (Ex.new hz))).app (hr'.mono (World.visEx k (Ex.new hz)))⟩
theorem ew_catTD {ds ds' : List PyData} (ha : Ew X W rs a (rD X.K (.tuple ds))) (hb : Ew X W rs b (rD X.K (.tuple ds'))) (hl : ds.length + ds'.length ≤ 1000) : Ew X W rs (.BinOp a .Add b pos) (rD X.K (.tuple (ds ++ ds'))) :=
  ew_sub (ew_catT (ew_sub ha fun _ _ q => rD_tup.mp q) (ew_sub hb fun _ _ q => rD_tup.mp q) (by simpa using hl)) fun _ _ q => rD_tup.mpr (by rw [List.map_append]; exact q)
/-- t[:k], a written k below its length -/
theorem reps_take : ∀ {rl : List Rep} {xs : List V} {H : Hp} (m : Nat), Reps rl xs H → Reps (rl.take m) (xs.take m) H
  | [], [], _, m, _ => by simp only [List.take_nil]; exact trivial
  | r :: rl, x :: xs, H, 0, _ => trivial
  | r :: rl, x :: xs, H, m + 1, h => ⟨h.1, reps_take m h.2⟩
  | [], _ :: _, _, _, h => h.elim
  | _ :: _, [], _, _, h => h.elim
theorem ew_takeT {rl : List Rep} {m : Nat} {p2 : Pos} (ha : Ew X W rs a (rTup X.K rl)) (hb : Ew X W rs b (rD X.K (.int m))) (hm : m < rl.length) : Ew X W rs (.Subscript a (.Slice none (some b) none p2) pos) (rTup X.K (rl.take m)) := by
  refine pe_cs (pe_slice sl_tup ha po_none (po_some hb)) ?_
  rintro σ H Q ⟨k, g, q⟩
  refine ⟨k, g, fun v H1 k1 e1 pv => ?_⟩
  show tW W rs (rD X.K (.int m)) σ H1 _
  refine ⟨k1, g.mono e1, fun w H2 k2 e2 pw => ⟨m, rD_int.mp pw, ?_⟩⟩
  obtain ⟨a', xs, ev, hs, hr⟩ := (rTup X.K rl).mono e2 pv
  have hlen : xs.length = rl.length := hr.len.symm
  have e3 : HT.sIx xs.length 0 none = 0 := rfl
  have e4 : HT.sIx xs.length xs.length (some (m : Int)) = m := by
    rw [HT.sIx_nat]
    omega
  refine ⟨a', xs, ev, sqT_mono (W.sub H2) hs, ?_, fun z hz => ?_⟩
  · rw [e4]
    omega
  · refine q _ _ (World.okNew k2 hz) ((e1.trans e2).trans (World.visEx k2 (Ex.new hz))) ⟨z, xs.take m, rfl, .inl (.inl ?_), (reps_take m hr).mono (World.visEx k2 (Ex.new hz))⟩
    rw [World.visNew k2 hz, upd_same]
    unfold cutV
    rw [e3, e4]
    rfl
theorem ew_takeTD {ds : List PyData} {m : Nat} {p2 : Pos} (ha : Ew X W rs a (rD X.K (.tuple ds))) (hb : Ew X W rs b (rD X.K (.int m))) (hm : m < ds.length) : Ew X W rs (.Subscript a (.Slice none (some b) none p2) pos) (rD X.K (.tuple (ds.take m))) :=
  ew_sub (ew_takeT (ew_sub ha fun _ _ q => rD_tup.mp q) hb (by simpa using hm)) fun _ _ q => rD_tup.mpr (by rw [List.map_take]; exact q)
/-! ### signs of texts -/
theorem ew_item_str {z : Str} {k : Int} {m : Nat} {c : Nat} (ha : Ew X W rs a (rD X.K (.str z))) (hb : Ew X W rs b (rD X.K (.int k))) (hz : z.length ≤ sizeLine) (hat : atI z.cps.toList k = some c) (hs : PlainIx b) : Ew X W rs (.Subscript a b pos) (rD X.K (.str ⟨#[c]⟩)) :=
  ew_ix ix_str ha hb (fun x y H kk p q Q n => ⟨z, k, c, rD_str.mp p, rD_int.mp q, hz, hat, n _ H kk (Ex.refl _) (Dp.str _)⟩) hs
theorem ew_inSign {c : Nat} {z : Str} (ha : Ew X W rs a (rD X.K (.str ⟨#[c]⟩))) (hb : Ew X W rs b (rD X.K (.str z))) (hm : behindInMarks .In b = false) : Ew X W rs (.Compare a [.In] [b] pos) (rD X.K (.bool (decide (c ∈ z.cps.toList)))) :=
  ew_cmp op_in_sign ha hb (fun x y H kk p q Q n => ⟨c, z, rD_str.mp p, rD_str.mp q, n _ H kk (Ex.refl _) (Dp.bl _)⟩) hm
/-! ### dicts of flat data, by written keys -/
def rDict (kvs : List (L2.Key × V)) : Rep := ⟨fun v H => ∃ a, v = .ref a ∧ H a = some (.dK kvs), fun e ⟨a, h1, h2⟩ => ⟨a, h1, e _ _ h2⟩⟩
theorem ew_dget {kvs : List (L2.Key × V)} {z : Str} {v : V} {d : PyData} (hu : X.A.units + 1 < cLine) (ho : Ew X W rs o (rDict kvs)) (hi : Ew X W rs a (rD X.K (.str z))) (hv : valV kvs (Sum.inr z) = some v) (hd : ∀ H, Dp X.K H v d) (hs : NoSl a) : Ew X W rs (.Subscript o a pos) (rD X.K d) := by
  refine pe_cs (pe_dget hu ho hi hs) ?_
  rintro σ H Q ⟨k, g, q⟩
  refine ⟨k, g, fun x H1 k1 e1 p1 => ⟨k1, g.mono e1, fun y H2 k2 e2 p2 => ?_⟩⟩
  obtain ⟨a', ev, h⟩ := (rDict kvs).mono e2 p1
  refine ⟨a', v, ev, ?_, q v H2 k2 (e1.trans e2) (hd _)⟩
  rw [rD_str.mp p2, ← hv]
  exact DGet.k (k := Sum.inr z) (W.sub H2 _ _ h)
theorem ew_disp {keys : List (Option Expr)} {values : List Expr} {trs : List (TE × TE)} {kvs : List (L2.Key × V)} (h : PPs X pos keys values trs) (hall : keys.all (·.isSome) = true) (hl : keys.length = values.length) (h0 : keys ≠ []) (h15 : keys.length ≤ 15)
    (ht : ∀ σ H Q, Q (kvs.map (fun kv => (kV kv.1, kv.2))) H → tPairs trs σ H Q) (hk : kvs.length ≤ 15) : Ew X W rs (.Dict keys values pos) (rDict (mergeK [] kvs)) := by
  refine pe_cs (pe_disp h hall hl h0 h15) ?_
  rintro σ H Q ⟨k, g, q⟩ l hl'
  refine ht σ _ _ ⟨upd_same, kvs, rfl, hk, ?_⟩
  rw [upd_upd]
  exact q _ _ (World.okNew k hl') (World.visEx k (Ex.new hl')) ⟨l, rfl, by rw [World.visNew k hl', upd_same]⟩
theorem ew_listDict {kvs : List (L2.Key × V)} {ds : List PyData} (hc : X.calm = true) (hg : Gl X "list") (hm : X.mg "list" = none) (ha : Ew X W rs a (rDict kvs)) (hd : ∀ H, Reps (ds.map (rD X.K)) (kvs.map fun kv => kV kv.1) H) (he : starEach [a] X.env = (false, eval a X.env) :: starEach [] X.env := by rfl) (hpl : (backTo pos (starEach [] X.env)).any (·.1) = false := by rfl) :
    Ew X W rs (.Call (.Name "list" p) [a] [] pos) (rD X.K (.list ds)) :=
  ew_callTy (call_listD hc) hg hm (by decide +kernel) ha (fun v H k ⟨a, ev, h⟩ Q q => ⟨a, kvs, by rw [ev], .inl (W.sub H _ _ h), fun l hl => q _ _ (World.okNew k hl) (World.visEx k (Ex.new hl)) (rD_lst.mpr ⟨l, _, rfl, .inl (.inl (by rw [World.visNew k hl, upd_same])), hd _⟩)⟩) (by decide) (by decide) he hpl
end
end Py
namespace Py
open PySem L2
section
variable {X : Cx} {W : World} {rs : Rs} {a b c e o tg it : Expr} {r ra rb rc : Rep} {pos p apos : Pos} {O : Outs} {n : Nat} {C : Addr} {k : Nat} {f : Addr} {α : Type} {pre : α → Prop} {args : α → List Rep} {fs : α → List (Str × Rep)}
/-- what follows once the new instance's __init__ is promised -/
theorem make_read {t : TA} (z : α) (hp : pre z) (ht : ∀ σ H (Q : List V → Hp → Prop), W.ok H → Sg rs σ (W.vis H) → (∀ vs H', W.ok H' → Ex (W.vis H) (W.vis H') → Reps (args z) vs (W.vis H') → Q vs H') → t σ H Q) {σ : St} {H : Hp} {Q : VK} (h : tW W rs (rIns C (fs z)) σ H Q) : StX.tMakeR C (spI C pre args fs) E0 t σ H Q := by
  obtain ⟨k, g, q⟩ := h
  refine ht σ H _ k g fun vs H1 k1 e1 p1 x dx hx hdx hne => ?_
  have hdx2 : (upd H1 dx (.own x)) x = none := by rw [upd_ne (Ne.symm hne)]; exact hx
  have k2 := hold_new (o := .ins C dx []) (World.okNew (o := .own x) k1 hdx) hdx2
  have eh : Ex (W.vis H1) ((W.hold x (.ins C dx [])).vis (upd (upd H1 dx (.own x)) x (.ins C dx []))) := hold_of (World.visNone hx) ((World.visEx k1 (Ex.new hdx)).trans (World.visEx (World.okNew k1 hdx) (Ex.new hdx2)))
  exact ⟨W, z, x, dx, vs, rfl, hp, k2, p1.mono eh, fun gs H' k' e' fl => ⟨rfl, q _ H' k'.1 (e1.trans ((eh.trans e').trans hold_sub)) ⟨x, dx, gs, rfl, hold_seen k', fl.mono hold_sub⟩⟩⟩
/-- C() -/
theorem pe_makeR0 {sp : Sp} {nm : Str} (M : Mk X.K C f) (F : FnC X k f sp) (hr : Room (k + 1) X.A) (hg : Gl X nm) (hm : X.mg nm = some (.ref C)) (hdb : (nm == ("__debug__" : Str)) = false := by decide) : PE X (.Call (.Name nm p) [] [] pos) (StX.tMakeR C sp E0 tNil) := by
  refine ⟨fun pins s σ H Q I h => ?_⟩
  refine wpAny_Call_Name_kw (ld_glob I hg hm ?_ hdb)
  exact PySem.W.callWith_K0 I.kIn M.kp (StX.run_makeR (us := []) (vs := []) M F hr pass0 I .nil h)
theorem ew_make0 {nm : Str} (z : α) (M : Mk X.K C f) (F : FnC X k f (spI C pre args fs)) (hr : Room (k + 1) X.A) (hg : Gl X nm) (hm : X.mg nm = some (.ref C)) (ha : args z = []) (hp : pre z) (hdb : (nm == ("__debug__" : Str)) = false := by decide) : Ew X W rs (.Call (.Name nm p) [] [] pos) (rIns C (fs z)) :=
  pe_cs (pe_makeR0 M F hr hg hm hdb) fun σ H Q h => make_read z hp (fun σ H Q k g q => q [] H k (Ex.refl _) (by rw [ha]; trivial)) h
/-- C( *xs) -/
theorem pe_makeS {sp : Sp} {nm : Str} {te : TE} {q : Pos} (M : Mk X.K C f) (F : FnC X k f sp) (hr : Room (k + 1) X.A) (hg : Gl X nm) (hm : X.mg nm = some (.ref C)) (he : PE X e te) (hdb : (nm == ("__debug__" : Str)) = false := by decide) (hst : starEach [.Starred e q] X.env = [(true, eval e X.env)] := by rfl) :
    PE X (.Call (.Name nm p) [.Starred e q] [] pos) (StX.tMakeR C sp E0 (fun σ H Q => te σ H fun y H1 => ∃ a xs, y = V.ref a ∧ (SqT X.K H1 a xs ∨ SqL X.K H1 a xs) ∧ Q xs H1)) := by
  refine ⟨fun pins s σ H Q I h => ?_⟩
  refine wpAny_Call_Name_kw (ld_glob I hg hm ?_ hdb)
  refine PySem.W.callWith_S (h₀ := X.base) I.ok.mod.kin M.kp (thn (he.run pins s σ H _ I h) fun v s1 ⟨y, H1, I1, ry, a, xs, ey, hxs, q⟩ => ?_) hst
  subst ey
  obtain rfl : v = Value.ref a := ry
  exact StX.star_any I1 hxs fun us s2 I2 rv => ⟨I2.kIn, StX.run_makeR M F hr pass0 I2 rv q⟩
theorem ew_makeST {nm : Str} {q : Pos} (z : α) (M : Mk X.K C f) (F : FnC X k f (spI C pre args fs)) (hr : Room (k + 1) X.A) (hg : Gl X nm) (hm : X.mg nm = some (.ref C)) (he : Ew X W rs e (rTup X.K (args z))) (hp : pre z) (hdb : (nm == ("__debug__" : Str)) = false := by decide) (hst : starEach [.Starred e q] X.env = [(true, eval e X.env)] := by rfl) :
    Ew X W rs (.Call (.Name nm p) [.Starred e q] [] pos) (rIns C (fs z)) :=
  pe_cs (pe_makeS M F hr hg hm he hdb hst) fun σ H Q h => make_read z hp (fun σ H Q k g q => ⟨k, g, fun v H' k' e' ⟨a, xs, ev, hs, hr⟩ => ⟨a, xs, ev, .inl (sqT_mono (W.sub H') hs), q xs H' k' e' hr⟩⟩) h
theorem ew_makeSL {nm : Str} {q : Pos} (z : α) (M : Mk X.K C f) (F : FnC X k f (spI C pre args fs)) (hr : Room (k + 1) X.A) (hg : Gl X nm) (hm : X.mg nm = some (.ref C)) (he : Ew X W rs e (rSeq X.K (args z))) (hp : pre z) (hdb : (nm == ("__debug__" : Str)) = false := by decide) (hst : starEach [.Starred e q] X.env = [(true, eval e X.env)] := by rfl) :
    Ew X W rs (.Call (.Name nm p) [.Starred e q] [] pos) (rIns C (fs z)) :=
  pe_cs (pe_makeS M F hr hg hm he hdb hst) fun σ H Q h => make_read z hp (fun σ H Q k g q => ⟨k, g, fun v H' k' e' ⟨a, xs, ev, hs, hr⟩ => ⟨a, xs, ev, .inr (sqL_mono (W.sub H') hs), q xs H' k' e' hr⟩⟩) h
/-- the class in a name of the def: cls(e, ..) -/
theorem ew_makeL (i : Nat) {nm : Str} {es : List Expr} (z : α) (M : Mk X.K C f) (F : FnC X k f (spI C pre args fs)) (hr : Room (k + 1) X.A) (hv : PE X (.Name nm p) (tVar i)) (hi : rs[i]? = some (some (rRef C))) (ha : Aw X W rs (e :: es) (args z)) (hp : pre z)
    (he : starEach (e :: es) X.env = (false, eval e X.env) :: starEach es X.env := by rfl) (hpl : (backTo pos (starEach es X.env)).any (·.1) = false := by rfl) : Ew X W rs (.Call (.Name nm p) (e :: es) [] pos) (rIns C (fs z)) :=
  pe_cs (pe_makeL M F hr hv ha he hpl) fun σ H Q h => ⟨by
    obtain ⟨_, g, _⟩ := h
    obtain ⟨v, e, pv⟩ := g.get hi
    rw [e]
    exact congrArg (fun z => some (some z)) pv, make_read z hp (fun σ H Q k g q => ⟨k, g, q⟩) h⟩
/-! ### an __init__ with a star parameter -/
variable {P : Program} {w : PySem.World} {K : PySem.W.Frag} {mg : Str → Option Value} {base : Heap}
theorem fn_is {nm qual pv : Str} {st : Stmt} {fd : FuncData} {N : List Str} (F : Fun K nm qual st f fd) (S : FnScope N ["self", pv] (defScope st)) (hz : ∀ z, pre z → (args z).length ≤ 1000)
    (hb : ∀ (kV doc pm : Value) (an : Option Addr) (cdv ct : Value) (us rest : List Value), us.length = ["self"].length → bindArgs (PySem.W.fnOf nm qual (defArgs st) (defBody st) (defScope st) .none kV doc pm an cdv ct) ⟨us ++ rest, []⟩ = (newTuple rest >>= fun t => pure ((["self"] : List Str).zip us ++ [(pv, t)])))
    (h : ∀ (cdv : Value) (A : Around) (outer : List Env) (s : Shared) (H : Hp) (E : XK) (W : World) (x dx : Addr) (z : α), Room k (A.deeper (PyProof.Rows.envOfC qual (defScope st) s.heap.objs.size f cdv)) → pre z →
      Ib (cxOf CX0 P w K mg base N qual (defScope st) f cdv A outer s H E).nox W C x dx (some (rRef x) :: some (rTup K (args z)) :: List.replicate (N.length - 2) none) [] (defBody st) (fs z)) : FnR P w K mg base CX0 (k + 1) f (spI C pre args fs) := by
  obtain ⟨oc, od, kV, doc, pm, an, cdv, ct, osl, rfl, lk, hcd⟩ := F.ex
  have G := StX.fn_star (P := P) (w := w) (mg := mg) (base := base) (CX := CX0) (k := k) (ps := ["self"]) (pv := pv) (N := N) lk hcd S StX.cxUp_none (hb kV doc pm an cdv ct)
    (sp := fun vs H Q _ => ∃ (W : World) (z : α) (x dx p : Addr), vs = [.ref x, .ref p] ∧ pre z ∧ (W.hold x (.ins C dx [])).ok H ∧ (rTup K (args z)).p (.ref p) ((W.hold x (.ins C dx [])).vis H) ∧
      ∀ gs H', (W.hold x (.ins C dx gs)).ok H' → Ex ((W.hold x (.ins C dx [])).vis H) ((W.hold x (.ins C dx gs)).vis H') → Flds (fs z) gs ((W.hold x (.ins C dx gs)).vis H') → Q .non H') ?_
  · refine G.imp ?_
    rintro vs H Q E ⟨W, z, x, dx, ws, ev, hp, kH, pr, q⟩
    refine ⟨[.ref x], ws, ev, rfl, Nat.le_of_lt (small1000 (pr.len ▸ hz z hp)), fun t ht => ⟨W, z, x, dx, t, rfl, hp, World.okNew kH ht, ⟨t, ws, rfl, .inl (.inl (by rw [World.visNew kH ht, upd_same])), pr.mono (World.visEx kH (Ex.new ht))⟩, fun gs H' k' e' fl => q gs H' k' ((World.visEx kH (Ex.new ht)).trans e') fl⟩⟩
  · rintro A outer s H vs Q E hr ⟨W, z, x, dx, t, ev, hp, kH, pt, q⟩
    subst ev
    refine ⟨_, (h cdv A outer s H E W x dx z hr hp).nox, [], kH, trivial, ⟨⟨_, rfl, rfl⟩, ⟨_, rfl, pt⟩, Sg.nones⟩, fun gs' H' σ' k' e' fl => q gs' H' k' (by rw [hold_any (o := .ins C dx gs') (o' := .ins C dx [])]; exact e') fl⟩
end
end Py
namespace Py
open PySem L2
section
variable {X : Cx} {W : World} {rs : Rs} {a b c e o tg it : Expr} {r ra rb rc : Rep} {pos p apos : Pos} {C : Addr} {k : Nat} {f : Addr}
theorem ew_negI {i : Int} (ha : Ew X W rs a (rD X.K (.int i))) : Ew X W rs (.UnaryOp .USub a pos) (rD X.K (.int (-i))) := by
  refine pe_cs (pe_un un_neg ha) ?_
  rintro σ H Q ⟨k, g, q⟩
  exact ⟨k, g, fun v H' k' e' p => ⟨i, rD_int.mp p, q _ H' k' e' (Dp.int _)⟩⟩
theorem ew_absI {i : Int} (hg : Gl X "abs") (hm : X.mg "abs" = none) (ha : Ew X W rs a (rD X.K (.int i))) (he : starEach [a] X.env = (false, eval a X.env) :: starEach [] X.env := by rfl) (hpl : (backTo pos (starEach [] X.env)).any (·.1) = false := by rfl) : Ew X W rs (.Call (.Name "abs" p) [a] [] pos) (rD X.K (.int (if i < 0 then -i else i))) :=
  ew_callB call_abs hg hm (by decide +kernel) ha (fun v H k pv Q q => ⟨i, by rw [rD_int.mp pv], q _ H k (Ex.refl _) (Dp.int _)⟩) (by decide) (by decide) he hpl
/-! ### calls with keywords -/
abbrev Kw (X : Cx) (W : World) (rs : Rs) (kws : List Keyword) (rl : List Rep) : Prop := PK X kws (tWA W rs rl)
theorem pk_cs {kws : List Keyword} {t t' : TA} (h : PK X kws t) (i : ∀ σ H Q, t' σ H Q → t σ H Q) : PK X kws t' := ⟨fun pos pins s σ H Q I q => h.run pos pins s σ H Q I (i _ _ _ q)⟩
theorem kw_nil : Kw X W rs [] [] := pk_cs pk_nil fun σ H Q ⟨k, g, q⟩ => q [] H k (Ex.refl _) trivial
theorem kw_cons {kws : List Keyword} {rl : List Rep} {nm : Option Str} (h : Ew X W rs e r) (h2 : Kw X W rs kws rl) : Kw X W rs (⟨nm, e, p⟩ :: kws) (r :: rl) :=
  pk_cs (pk_cons h h2) fun σ H Q ⟨k, g, q⟩ => ⟨k, g, fun v H1 k1 e1 p1 => ⟨k1, g.mono e1, fun vs H2 k2 e2 p2 => q _ H2 k2 (e1.trans e2) ⟨r.mono e2 p1, p2⟩⟩⟩
variable {α : Type} {pre : α → Prop} {args : α → List Rep} {fs : α → List (Str × Rep)} {fd : FuncData} {ps ks : List Str} {sp : Sp} {t tk : TA} {g : List Value → List Value → List Value} {gV : List V → List V → List V} {n : Nat} {es : List Expr} {kws : List Keyword} {x : Str}
theorem pe_makeKL {i : Nat} (M : Mk X.K C f) (F : FnOk X.prog X.w X.K X.mg X.base CX0 k f fd ps sp) (hr : Room (k + 1) X.A) (hv : PE X (.Name x p) (tVar i)) (hb : KBn X.K fd ps (n + 1) ks g gV) (ha : PA X (e :: es) t) (hkw : PK X kws tk)
    (hall : (backToKw pos (keywordEach kws X.env)).all (·.1.isSome) = true := by rfl) (hks : (backToKw pos (keywordEach kws X.env)).filterMap (·.1) = ks := by rfl)
    (he : starEach (e :: es) X.env = (false, eval e X.env) :: starEach es X.env := by rfl) (hpl : ((backTo pos (starEach (e :: es) X.env)).any (·.1) || (backToKw pos (keywordEach kws X.env)).any (·.1.isNone)) = false := by rfl) :
    PE X (.Call (.Name x p) (e :: es) kws pos) (fun σ H Q => σ[i]? = some (some (.ref C)) ∧ tMakeK C n ks.length sp gV E0 t tk σ H Q) := by
  refine ⟨fun pins s σ H Q I ⟨hσ, h⟩ => ?_⟩
  refine wpAny_Call_Name_kw (thn (hv.run pins s σ H (fun v H1 => v = .ref C ∧ H1 = H) I ⟨.ref C, hσ, rfl, rfl⟩) fun u s1 ⟨v, H1, I1, rv, ev, eH⟩ => ?_)
  subst ev
  subst eH
  obtain rfl : u = Value.ref C := rv
  refine PySem.W.callWith_KW (h₀ := X.base) I1.ok.mod.kin M.kp hall (thn (ha.run pos pins s1 σ H1 _ I1 h) fun us s2 ⟨vs, H2, I2, r, q⟩ => ?_) hpl he
  refine thn (hkw.run pos pins s2 σ H2 _ I2 q) fun ws s3 ⟨zs, H3, I3, rz, l1, l2, q2⟩ => ⟨I3.kIn, ?_⟩
  rw [hks]
  exact run_makeK M F hr hb pass0 I3 r rz l1 l2 q2
theorem makeK_read {rl rk : List Rep} (z : α) (hp : pre z) (hl : rl.length = n) (hk : rk.length = ks.length) (hgv : ∀ x vs zs, vs.length = n → zs.length = ks.length → gV (.ref x :: vs) zs = .ref x :: (vs ++ zs)) (ha : args z = rl ++ rk) {σ : St} {H : Hp} {Q : VK} (h : tW W rs (rIns C (fs z)) σ H Q) :
    tMakeK C n ks.length (spI C pre args fs) gV E0 (tWA W rs rl) (tWA W rs rk) σ H Q := by
  obtain ⟨kk, g, q⟩ := h
  refine ⟨kk, g, fun vs H0 k0 e0 p0 => ⟨k0, g.mono e0, fun zs H1 k1 e1 p1 => ⟨by rw [← p0.len, hl], by rw [← p1.len, hk], fun x dx hx hdx hne => ?_⟩⟩⟩
  have hdx2 : (upd H1 dx (.own x)) x = none := by rw [upd_ne (Ne.symm hne)]; exact hx
  have k2 := hold_new (o := .ins C dx []) (World.okNew (o := .own x) k1 hdx) hdx2
  have eh : Ex (W.vis H1) ((W.hold x (.ins C dx [])).vis (upd (upd H1 dx (.own x)) x (.ins C dx []))) := hold_of (World.visNone hx) ((World.visEx k1 (Ex.new hdx)).trans (World.visEx (World.okNew k1 hdx) (Ex.new hdx2)))
  rw [hgv x vs zs (by rw [← p0.len, hl]) (by rw [← p1.len, hk])]
  exact ⟨W, z, x, dx, vs ++ zs, rfl, hp, k2, by rw [ha]; exact ((p0.mono e1).app p1).mono eh, fun gs H' k' e' fl => ⟨rfl, q _ H' k'.1 ((e0.trans e1).trans ((eh.trans e').trans hold_sub)) ⟨x, dx, gs, rfl, hold_seen k', fl.mono hold_sub⟩⟩⟩
theorem ew_makeK {rl rk : List Rep} (z : α) (M : Mk X.K C f) (F : FnOk X.prog X.w X.K X.mg X.base CX0 k f fd ps (spI C pre args fs)) (hr : Room (k + 1) X.A) (hg : Gl X x) (hm : X.mg x = some (.ref C)) (hb : KBn X.K fd ps (n + 1) ks g gV) (hgv : ∀ x vs zs, vs.length = n → zs.length = ks.length → gV (.ref x :: vs) zs = .ref x :: (vs ++ zs))
    (ha : Aw X W rs (e :: es) rl) (hkw : Kw X W rs kws rk) (hp : pre z) (hz : args z = rl ++ rk) (hl : rl.length = n) (hk : rk.length = ks.length)
    (hall : (backToKw pos (keywordEach kws X.env)).all (·.1.isSome) = true := by rfl) (hks : (backToKw pos (keywordEach kws X.env)).filterMap (·.1) = ks := by rfl) (hdb : (x == ("__debug__" : Str)) = false := by decide)
    (he : starEach (e :: es) X.env = (false, eval e X.env) :: starEach es X.env := by rfl) (hpl : ((backTo pos (starEach (e :: es) X.env)).any (·.1) || (backToKw pos (keywordEach kws X.env)).any (·.1.isNone)) = false := by rfl) :
    Ew X W rs (.Call (.Name x p) (e :: es) kws pos) (rIns C (fs z)) :=
  pe_cs (pe_makeK M F hr hg hm hb pass0 ha hkw hall hks hdb he hpl) fun σ H Q h => makeK_read z hp hl hk hgv hz h
theorem ew_makeKL {rl rk : List Rep} (i : Nat) (z : α) (M : Mk X.K C f) (F : FnOk X.prog X.w X.K X.mg X.base CX0 k f fd ps (spI C pre args fs)) (hr : Room (k + 1) X.A) (hv : PE X (.Name x p) (tVar i)) (hi : rs[i]? = some (some (rRef C))) (hb : KBn X.K fd ps (n + 1) ks g gV) (hgv : ∀ x vs zs, vs.length = n → zs.length = ks.length → gV (.ref x :: vs) zs = .ref x :: (vs ++ zs))
    (ha : Aw X W rs (e :: es) rl) (hkw : Kw X W rs kws rk) (hp : pre z) (hz : args z = rl ++ rk) (hl : rl.length = n) (hk : rk.length = ks.length)
    (hall : (backToKw pos (keywordEach kws X.env)).all (·.1.isSome) = true := by rfl) (hks : (backToKw pos (keywordEach kws X.env)).filterMap (·.1) = ks := by rfl)
    (he : starEach (e :: es) X.env = (false, eval e X.env) :: starEach es X.env := by rfl) (hpl : ((backTo pos (starEach (e :: es) X.env)).any (·.1) || (backToKw pos (keywordEach kws X.env)).any (·.1.isNone)) = false := by rfl) :
    Ew X W rs (.Call (.Name x p) (e :: es) kws pos) (rIns C (fs z)) :=
  pe_cs (pe_makeKL M F hr hv hb ha hkw hall hks he hpl) fun σ H Q h => ⟨by
    obtain ⟨_, g, _⟩ := h
    obtain ⟨v, e, pv⟩ := g.get hi
    rw [e]
    exact congrArg (fun z => some (some z)) pv, makeK_read z hp hl hk hgv hz h⟩
variable {P : Program} {w : PySem.World} {K : PySem.W.Frag} {mg : Str → Option Value} {base : Heap}
/-- an __init__ of a def with defaults -/
theorem fn_iD {nm qual : Str} {params : Arguments} {body : List Stmt} {scope : Scope} {dvs : List V} {kws : List (Str × V)} {N : List Str} (F : FunD K nm qual params body scope dvs kws f fd) (S : FnScope N ps scope) (hl : ∀ z, (args z).length + 1 = ps.length)
    (h : ∀ (cdv : Value) (A : Around) (outer : List Env) (s : Shared) (H : Hp) (E : XK) (W : World) (x dx : Addr) (z : α), Room k (A.deeper (PyProof.Rows.envOfC qual scope s.heap.objs.size f cdv)) → pre z →
      Ib (cxOf CX0 P w K mg base N qual scope f cdv A outer s H E).nox W C x dx (some (rRef x) :: (args z).map some ++ List.replicate (N.length - ps.length) none) [] body (fs z)) : FnOk P w K mg base CX0 (k + 1) f fd ps (spI C pre args fs) := by
  refine F.ok S (fun vs H Q E ⟨W, z, x, dx, ws, ev, _, _, pr, _⟩ => by rw [ev, List.length_cons, ← pr.len]; exact hl z) ?_
  rintro cdv A outer s H vs Q E hr ⟨W, z, x, dx, ws, ev, hp, kH, pr, q⟩
  refine ⟨_, (h cdv A outer s H E W x dx z hr hp).nox, [], kH, trivial, ?_, fun gs' H' σ' k' e' fl => q gs' H' k' (by rw [hold_any (o := .ins C dx gs') (o' := .ins C dx [])]; exact e') fl⟩
  have e : N.length - ps.length = N.length - vs.length := by rw [ev, List.length_cons, ← pr.len, hl z]
  rw [e, ev]
  exact Sg.of (rs := rRef x :: args z) (vs := .ref x :: ws) _ ⟨rfl, pr⟩
/-- C.m(e, ..), a classmethod of an own class -/
theorem ew_cmeth {mc : Value} {m : Str} {pp g : Addr} {rl : List Rep} {pl : Sem Bool} {β : Type} {pre : Py.World → β → Prop} {args : β → List Rep} {res : β → Rep} {X : Cx} {W : World} {rs : Rs} {o e : Expr} {es : List Expr} (z : β) (ho : Ew X W rs o (rRef C)) (r : ClX.CRead X.K C mc) (c : ClX.CMet X.K C mc m pp g) (F : FnC X k g (spW pre args res)) (hr : Room k X.A) (ha : Aw X W rs (e :: es) rl) (hz : args z = rRef C :: rl) (hp : pre W z)
    (hst : starEach (e :: es) X.env = (false, eval e X.env) :: starEach es X.env := by rfl) (hpl : (backTo pos (starEach es X.env)).any (·.1) = false := by rfl)
    (ht : eval (.Call (.Attribute o m apos) (e :: es) [] pos) X.env = (do
      let ov ← eval o X.env
      standAt apos.atName
      let (f, first) ← holding [ov] (getMethod ov m pl)
      callWith pos f first (backTo pos (starEach (e :: es) X.env)) (backToKw pos (keywordEach [] X.env))) := by rfl) :
    Ew X W rs (.Call (.Attribute o m apos) (e :: es) [] pos) (res z) :=
  pe_cs (ClX.pe_cmeth ho r c F hr pass0 ha hst hpl ht) fun σ H Q ⟨k, g, q⟩ => ⟨k, g, fun v H1 k1 e1 p1 => ⟨p1, k1, g.mono e1, fun vs H2 k2 e2 p2 => ⟨W, z, hp, k2, by rw [hz]; exact ⟨rfl, p2⟩, fun w H3 k3 e3 p3 => q w H3 k3 ((e1.trans e2).trans e3) p3⟩⟩⟩
/-- [e for x in ..] -/
theorem ew_lcAll {X : Cx} {W : World} {rs : Rs} {tg it elt : Expr} {n : Nat} {item : Nat → Rep} {scope : Scope} (j : Nat) {y : Str} (f : Nat → Rep) (hc : X.calm = true) (hN : X.N.Nodup) (hi : Iw X W rs tg it n item) (ok : BlkOk X.N X.env.scope scope [(y, j)]) (hn : n ≤ 1000)
    (hg : ∀ (s : Shared) (H : Hp) (C : Addr) (cl : List (Str × Addr)) (fp : List Addr), PG (X.blk s H scope (compEnvC scope cl C X.env) fp) tg (gName j))
    (he : ∀ (s : Shared) (H : Hp) (C : Addr) (cl : List (Str × Addr)) (fp : List Addr) (D : Addr) (o : HO) (i : Nat), i < n → Ew (X.blk s H scope (compEnvC scope cl C X.env) fp) (W.hold D o) ((wipeR rs [j]).set j (some (item i))) elt (f i))
    (hs : ∀ x, foldedSetIterable it X.env x = pure x := by intro _; rfl) : Ew X W rs (.ListComp elt [⟨tg, it, [], 0⟩] scope pos) (rLst ((List.range n).map f)) := by
  rw [← takes_all]
  exact ew_lc (own := [(y, j)]) f (fun _ => true) (fun i => (wipeR rs [j]).set j (some (item i))) hc hN hi ok hn hg (fun i hi => own_name) (fun _ _ _ _ _ _ _ _ _ => pts_yes) (fun s H C cl fp D o i hi _ => he s H C cl fp D o i hi) hs
/-- y = [e for x in ..] -/
theorem sw_lcAll {X : Cx} {W : World} {rs : Rs} {O : Outs} {tg it elt : Expr} {n : Nat} {item : Nat → Rep} {scope : Scope} {spos py : Pos} (jy j : Nat) {y x : Str} (f : Nat → Rep) (hc : X.calm = true) (hN : X.N.Nodup) (hi : Iw X W rs tg it n item) (ok : BlkOk X.N X.env.scope scope [(x, j)]) (hn : n ≤ 1000)
    (hy : X.N[jy]? = some y) (hyl : X.env.scope.names.lookup y = some .local) (hsw : swapsWith (.ListComp elt [⟨tg, it, [], 0⟩] scope pos) (some (.Name y py)) spos.line X.env = pure true)
    (hg : ∀ (s : Shared) (H : Hp) (C : Addr) (cl : List (Str × Addr)) (fp : List Addr), PG (X.blk s H scope (compEnvC scope cl C X.env) fp) tg (gName j))
    (he : ∀ (s : Shared) (H : Hp) (C : Addr) (cl : List (Str × Addr)) (fp : List Addr) (D : Addr) (o : HO) (i : Nat), i < n → Ew (X.blk s H scope (compEnvC scope cl C X.env) fp) (W.hold D o) ((wipeR rs [j]).set j (some (item i))) elt (f i))
    (hs : ∀ x, foldedSetIterable it X.env x = pure x := by intro _; rfl) : Sw X W rs (.Assign [.Name y py] (.ListComp elt [⟨tg, it, [], 0⟩] scope pos) spos) (O.to (rs.set jy (some (rLst ((List.range n).map f))))) := by
  rw [← takes_all]
  exact sw_lc jy (own := [(x, j)]) f (fun _ => true) (fun i => (wipeR rs [j]).set j (some (item i))) hc hN hi ok hn hy hyl hsw hg (fun i hi => own_name) (fun _ _ _ _ _ _ _ _ _ => pts_yes) (fun s H C cl fp D o i hi _ => he s H C cl fp D o i hi) hs
theorem iw_tupM {X : Cx} {W : World} {rs : Rs} {tg it : Expr} {α : Type} {zs : List α} {f : α → Rep} (h : Ew X W rs it (rTup X.K (zs.map f))) : Iw X W rs tg it zs.length (fun i => (zs.map f).getD i rNon) := by
  have z := iw_tup (tg := tg) h
  rw [List.length_map] at z
  exact z
theorem iw_lstM {X : Cx} {W : World} {rs : Rs} {tg it : Expr} {α : Type} {zs : List α} {f : α → Rep} (h : Ew X W rs it (rLst (zs.map f))) : Iw X W rs tg it zs.length (fun i => (zs.map f).getD i rNon) := by
  have z := iw_lst (tg := tg) h
  rw [List.length_map] at z
  exact z
theorem getD_map {α : Type} {f : α → Rep} {z : List α} {i : Nat} (h : i < z.length) : (z.map f).getD i rNon = f z[i] := by
  rw [List.getD_eq_getElem?_getD, List.getElem?_map, List.getElem?_eq_getElem h]
  rfl
theorem range_map {α : Type} {β : Type} (f : α → β) (g : Nat → β) (z : List α) (h : ∀ i (hi : i < z.length), g i = f z[i]) : (List.range z.length).map g = z.map f := by
  refine List.ext_getElem (by simp) fun i h1 h2 => ?_
  rw [List.getElem_map, List.getElem_map, List.getElem_range]
  exact h i (by simpa using h2)
end
end Py
namespace Py
open PySem L2
/-- a method that says super(): what K holds of it -/
structure FunC (P : Program) (K : PySem.W.Frag) (nm qual : Str) (params : Arguments) (body : List Stmt) (scope : Scope) (f cda cc D : Addr) : Prop where
  ex : ∃ (oc : Value) (od : Option Addr) (doc pm ct : Value) (an : Option Addr) (osl : Array (Option Value)), K.lookup f = some ⟨oc, od, .func (PySem.W.fnX nm qual params body scope [("__class__", cc)] .none .none doc pm an (.ref cda) ct), osl⟩
  code : PySem.W.codeIn K (.ref cda) qual = true
  file : ∃ (ccl : Value) (cdd : Option Addr) (vs : Array Value) (ccs : Array (Option Value)) (file : Str) (tf : Tok), K.lookup cda = some ⟨ccl, cdd, .fields vs, ccs⟩ ∧ vs[2]? = some (.str file tf) ∧ ((P.main.file : Str) == file) = true
  cell : ∃ (cl : Value) (cld : Option Addr) (csl : Array (Option Value)), K.lookup cc = some ⟨cl, cld, .cell (some (.ref D)), csl⟩
  cls : ∃ cd, PySem.W.clsIn K D = some cd
  nosup : PySem.W.nsIn K mainGlobals "super" = some none
  top : (P.main.scope.names.lookup ("super" : Str)).isSome = false
  any : PySem.W.nsIn K cStatics "thirdparty.any" = some none
/-- super().m from a method of class D, self of class C: the def at f2 -/
structure SupM (K : PySem.W.Frag) (C D : Addr) (m : Str) (f2 : Addr) : Prop where
  sub : PySem.W.mroIn K C (.ref D) = some true
  at_ : PySem.W.ks_superIn K C D m = some (some (.ref f2))
  ty : PySem.W.typeIn K (.ref f2) = some (.type "function")
  fn : PySem.W.fnIn K f2 = true
section
open NdefX
variable {P : Program} {w : PySem.World} {K : PySem.W.Frag} {mg : Str → Option Value} {base : Heap} {nm qual m : Str} {params : Arguments} {scope : Scope} {f f2 cda cc C D : Addr} {N ps : List Str} {k : Nat} {sp sp2 : Sp} {e : Expr} {es : List Expr} {rest : List Stmt} {p0 p1 apos pos pos0 : Pos}
abbrev nfS (nm qual : Str) (params : Arguments) (body : List Stmt) (scope : Scope) (cc cda : Addr) : NF := ⟨nm, qual, params, body, scope, [("__class__", cc)], cda⟩
theorem cl1 {y : Str} {c cc : Addr} (h : ([(("__class__" : Str), cc)] : List (Str × Addr)).lookup y = some c) : y = "__class__" ∧ c = cc := by
  rw [List.lookup_cons] at h
  cases q : (y == ("__class__" : Str)) with
  | true =>
    rw [q] at h
    cases h
    exact ⟨by simpa using q, rfl⟩
  | false =>
    rw [q] at h
    cases h
theorem fn_super {self : Str} {ar : Arg} {s1 : Stmt} (hs1 : s1 = .Expr (.Call (.Attribute (.Call (.Name "super" p0) [] [] p1) m apos) (e :: es) [] pos) pos0) (S : FunC P K nm qual params (s1 :: rest) scope f cda cc D) (NS : NScope N (self :: ps) ["__class__"] scope) (hsup : scope.names.lookup ("super" : Str) = some .globalImplicit)
    (har : (params.posonlyargs ++ params.args).head? = some ar) (hself : ar.arg = self) (hN0 : N[0]? = some self) (hmc : (m == ("__class__" : Str)) = false)
    (hb : ∀ (doc pm ct : Value) (an : Option Addr) (us : List Value), us.length = (self :: ps).length → bindArgs (PySem.W.fnX nm qual params (s1 :: rest) scope [("__class__", cc)] .none .none doc pm an (.ref cda) ct) ⟨us, []⟩ = pure ((self :: ps).zip us))
    (M : SupM K C D m f2) (F2 : FnR P w K mg base CX0 k f2 sp2)
    (hst : ∀ env, starEach (e :: es) env = (false, eval e env) :: starEach es env) (hpl : ∀ env, (backTo pos (starEach es env)).any (·.1) = false)
    {pl : Sem Bool} (hev : ∀ env, eval (.Call (.Attribute (.Call (.Name "super" p0) [] [] p1) m apos) (e :: es) [] pos) env = (do
      let ov ← attributeBase (.Call (.Name "super" p0) [] [] p1) m env (eval (.Call (.Name "super" p0) [] [] p1) env)
      standAt apos.atName
      let (f, first) ← holding [ov] (getMethod ov m pl)
      callWith pos f first (backTo pos (starEach (e :: es) env)) []))
    (h : ∀ (A : Around) (outer : List Env) (s : Shared) (H : Hp) (vs : List V) (Q : VK) (E : XK), Room k (A.deeper (envF (nfS nm qual params (s1 :: rest) scope cc cda) f s.heap.objs.size)) → sp vs H Q E →
      ∃ x dx fs ws tA tR, vs = .ref x :: ws ∧ ws.length = ps.length ∧ H x = some (.ins C dx fs) ∧ PA (ncx CX0 P w K mg base N (nfS nm qual params (s1 :: rest) scope cc cda) f A outer s H E) (e :: es) tA ∧ PSs (ncx CX0 P w K mg base N (nfS nm qual params (s1 :: rest) scope cc cda) f A outer s H E) rest tR ∧
        tA (startF N vs [none]) H fun ws' H1 => sp2 (.ref x :: ws') H1 (fun _ H2 => tR { nx := fun _ H' => Q .non H', rt := Q } (startF N vs [none]) H2) E0) : FnR P w K mg base CX0 (k + 1) f sp := by
  intro A outer s H us vs Q E hr e0 r hsp
  obtain ⟨oc, od, doc, pm, ct, an, osl, lk⟩ := S.ex
  obtain ⟨ccl, cdd, fvs, ccs, file, tf, lkc, hfv, hfile⟩ := S.file
  obtain ⟨cl, cld, csl, lcell⟩ := S.cell
  obtain ⟨cdD, hcdD⟩ := S.cls
  have KX : K.In s.heap := e0.mod.kin.keeps fun b o e => (e0.bs b o e).1
  have lim : s.heap.NoLimit := e0.mod.nolimit.keeps fun b o e => (e0.bs b o e).1
  obtain ⟨x, dx, fs, ws, tA, tR, ev, hlw, hx, hA, hR, hq⟩ := h A outer s H vs Q E (hr.deeper _) hsp
  have hl : vs.length = (self :: ps).length := by rw [ev, List.length_cons, hlw, List.length_cons]
  have hlu : us.length = (self :: ps).length := by rw [← r.length]; exact hl
  refine ks_codeAny_call_defAt (binds := (self :: ps).zip us) hr.depth (KX _ _ lk) rfl lim (PySem.W.codeRec_of KX S.code) rfl (.of_eq (hb doc pm ct an us hlu)) NS.nocell (fun ⟨n, _⟩ hy => NS.par n (List.of_mem_zip hy).1) (fun h₁ hns kp => ?_) NS.co NS.gen NS.kind
  have I : Inv (ncx CX0 P w K mg base N (nfS nm qual params (s1 :: rest) scope cc cda) f A outer s H E) [] (startF N vs [none]) H { s with heap := h₁, toks := s.toks + ((self :: ps).zip us).length } := inv_startN NS hr.hd e0 hl r
    ⟨rfl, fun y c hy => ?_, fun y z c hy hz => ?_, fun i y hy => ?_⟩ hns kp
  · refine ks_wpAt_execs_cons ?_
    subst hs1
    refine ks_wpAt_Expr_any (ks_wpAt_MethodCall ?_ (hev _)) I.quiet
    have KI := I.kIn
    obtain ⟨oD, hD1, hD2⟩ : ∃ oD, h₁.get? D = some oD ∧ oD.data = .cls cdD := by
      have hD := hcdD
      unfold PySem.W.clsIn at hD
      split at hD
      · rename_i c d cd' sl ho
        cases hD
        exact ⟨_, KI _ _ ho, rfl⟩
      · cases hD
    obtain ⟨od', J⟩ := inst_of I hx
    refine ks_wpAt_super_base (ar := ar) hsup (NS.frk _ (List.mem_cons_self ..)) hmc rfl (KI _ _ lk) rfl har rfl (KI _ _ lkc) rfl hfv hfile S.top ?_
    obtain ⟨mb, hmb, hboot⟩ := I.mod.blt
    refine PySem.W.ks_loadName_global NS.kind hsup (Calls.loadGlobal_builtin (I.mod.glob.keeps I.bk) (PySem.W.mg_none_of I.mod.kin I.mod.glob S.nosup) (hmb.keeps I.bk) ((hboot _ (by decide)).trans (by decide +kernel)) ⟨rfl, ?_⟩)
    refine wpAny_loadName_free NS.kind (NS.frk _ (List.mem_cons_self ..)) rfl ⟨_, KI _ _ lcell, rfl⟩ ?_
    obtain ⟨mm, hnm, hlook⟩ := I.loc
    obtain ⟨u, ru, lku⟩ := hlook 0 self (.ref x) hN0 (by rw [ev]; rfl) (.inl (NS.par _ (List.mem_cons_self ..)))
    obtain rfl : u = Value.ref x := ru
    have hms : mm self = some (.ref x) := by
      rcases lku with ⟨_, e⟩ | ⟨e, _⟩
      · exact e
      · rcases e with e | e
        · rw [show (ncx CX0 P w K mg base N (nfS nm qual params _ scope cc cda) f A outer s H E).env.kindOf self = some .local from NS.par _ (List.mem_cons_self ..)] at e
          cases e
        · rw [show (ncx CX0 P w K mg base N (nfS nm qual params _ scope cc cda) f A outer s H E).env.kindOf self = some .local from NS.par _ (List.mem_cons_self ..)] at e
          cases e
    rw [hself]
    refine wpAny_loadName_local NS.kind (NS.par _ (List.mem_cons_self ..)) hnm hms ?_
    refine ks_wpAny_isType_cls hD1 hD2 ⟨rfl, ?_⟩
    refine ks_wpAny_call_super hD1 hD2 J.at_ J.cls (fun c e => ?_) (PySem.W.looks_mroIn KI M.sub) (fun h' eg k => ?_)
    · have := J.no
      unfold PySem.W.notCls at this
      rw [e] at this
      exact Bool.noConfusion this
    · have I2 := ClX.pin_new (t' := s.toks + ((self :: ps).zip us).length) I k (Nat.le_refl _) eg (fun v z => nomatch z)
      have hsup2 := M.at_
      unfold PySem.W.ks_superIn at hsup2
      cases hcl : PySem.W.clsIn K C with
      | none =>
        rw [hcl] at hsup2
        cases hsup2
      | some cdC =>
        rw [hcl] at hsup2
        obtain ⟨of, hof, hofc⟩ : ∃ of, K.lookup f2 = some of ∧ of.cls = .type "function" := by
          have ht' : (K.lookup f2).map (·.cls) = some (.type "function") := M.ty
          cases z : K.lookup f2 with
          | none => rw [z] at ht'; cases ht'
          | some of => rw [z] at ht'; exact ⟨of, rfl, Option.some.inj ht'⟩
        refine ks_wpAny_getMethod_super (K := K) (ClX.pin_at I2) (PySem.W.looks_opaque I2.kIn S.any) (l₀ := cdC.mro) (fun A Q E s k q => wpAny_bind ((PySem.W.looks_clsIn I2.kIn hcl) A _ E s k (wpAny_pure q))) rfl I2.kIn hsup2 (I2.kIn _ _ hof) hofc (PySem.W.ks_ne KI J hcl) hmc ?_
        have I3 := ClX.pin_new (o := PySem.W.methodObj (.ref f2) (.ref x)) (t' := s.toks + ((self :: ps).zip us).length + 1) I2 (fun _ _ z => Heap.get?_push_of_some _ z) (Nat.le_refl _) (Heap.get?_push_size _ rfl) (fun v z => nomatch z)
        refine ClX.callwith_cm (C := x) I3 (ClX.base_none I2 (Nat.le_refl _)) M.fn (thn (hA.run pos _ _ _ H _ I3 hq) fun us' s3 ⟨vs', H2, I4, rv, q2⟩ => ⟨⟨ClX.pin_at I4, I4.kIn⟩, ?_⟩) (hst _) (hpl _)
        refine thn (ClX.run_cm F2 (hr.deeper _) pass0 I4 rv q2) fun v s4 ⟨v', H3, I5, rv', q3⟩ => ?_
        refine wpAt_of_wpAny (wpAny_mono (hR.run [] s4 _ H3 _ (ClX.unpin I5) q3) (fun fl s' hs => ?_) fun e s' hs => hs)
        have fin : ∀ {σ' : L2.St} {H' : Hp} {v : V} {u : Value}, Inv (ncx CX0 P w K mg base N (nfS nm qual params (.Expr (.Call (.Attribute (.Call (.Name "super" p0) [] [] p1) m apos) (e :: es) [] pos) pos0 :: rest) scope cc cda) f A outer s H E) [] σ' H' s' → L2.RelV v u → Q v H' → CE outer P w H s Q u s' :=
          fun {σ' H' v u} J rv q => ⟨v, H', J.os, J.bare, J.base, J.hok, rv, q⟩
        cases fl with
        | ret u =>
          obtain ⟨v, σ', H', J, rv, q⟩ := hs
          exact fin J rv q
        | next =>
          obtain ⟨σ', H', J, q⟩ := hs
          exact fin (v := V.non) (u := Value.none) J rfl q
        | brk =>
          obtain ⟨_, _, _, q⟩ := hs
          exact False.elim q
        | cont =>
          obtain ⟨_, _, _, q⟩ := hs
          exact False.elim q
  · have hc := (cl1 hy).2
    subst hc
    exact ⟨(e0.bs _ _ (e0.mod.kin _ _ lcell)).2, _, _, KX _ _ lcell, rfl⟩
  · rw [(cl1 hy).1, (cl1 hz).1]
  · cases i with
    | zero =>
      cases hy
      exact ⟨cc, rfl, fun v hv => by cases hv⟩
    | succ i => cases hy
end
end Py
namespace K11
open PySem L2 Py
/-! ### the text by places -/
def top (i : Nat) : Stmt := PySem.Challenge.pw_sortreason_k11_whole_arrangements.main.body.getD i (.Pass ⟨0, 0, 0, 0⟩)
abbrev sIsName : Stmt := top 6
abbrev sIsInteger : Stmt := top 7
abbrev sIsBetween : Stmt := top 8
abbrev sMInit : Stmt := inClass (top 22) 0
abbrev sMEq : Stmt := inClass (top 22) 1
abbrev sMName : Stmt := inClass (top 22) 2
abbrev sPlainOf : Stmt := inClass (top 23) 0
abbrev sSizeOf : Stmt := inClass (top 24) 0
abbrev sRInit : Stmt := inClass (top 25) 0
abbrev sREq : Stmt := inClass (top 25) 1
abbrev sROf : Stmt := inClass (top 25) 2
abbrev sEOf : Stmt := inClass (top 26) 0
abbrev sPInit : Stmt := inClass (top 27) 0
abbrev sPEq : Stmt := inClass (top 27) 1
abbrev sPNeg : Stmt := inClass (top 27) 2
abbrev sPUp : Stmt := inClass (top 27) 3
abbrev sPDownw : Stmt := inClass (top 27) 4
abbrev sPMeas : Stmt := inClass (top 27) 5
abbrev sPDown : Stmt := inClass (top 27) 6
abbrev sKInit : Stmt := inClass (top 28) 0
abbrev sKEq : Stmt := inClass (top 28) 1
abbrev sKLen : Stmt := inClass (top 28) 2
abbrev sKAdd : Stmt := inClass (top 28) 3
abbrev sKNeg : Stmt := inClass (top 28) 4
abbrev sKCont : Stmt := inClass (top 28) 5
abbrev sKGet : Stmt := inClass (top 28) 6
abbrev sKParts : Stmt := inClass (top 28) 8
/-! ### the addresses -/
structure Ad where
  (cPlain cSize cRest cEnding cPart cKey cMeasure cBadKey : Addr)
  (fIsName fIsInteger fIsBetween fMInit fMEq fMName fPlainOf fSizeOf fRInit fREq fROf fEOf fPInit fPEq fPNeg fPUp fPDownw fPMeas fPDown fKInit fKEq fKLen fKAdd fKNeg fKCont fKGet fKParts : Addr)
/-! ### the data -/
inductive Meas | plain (n : Str) | size (n : Str) | rest (n : Str) (k : Int) | ending (n : Str) deriving DecidableEq
def Meas.name : Meas → Str | .plain n => n | .size n => n | .rest n _ => n | .ending n => n
structure PartD where
  m : Meas
  down : Bool
deriving DecidableEq
def clsOf (d : Ad) : Meas → Addr | .plain _ => d.cPlain | .size _ => d.cSize | .rest _ _ => d.cRest | .ending _ => d.cEnding
def fldsOf (K : PySem.W.Frag) : Meas → List (Str × Rep)
  | .plain n => [("_name", rD K (.str n))]
  | .size n => [("_name", rD K (.str n))]
  | .rest n k => [("_name", rD K (.str n)), ("_divisor", rD K (.int k))]
  | .ending n => [("_name", rD K (.str n))]
def rMeas (K : PySem.W.Frag) (d : Ad) (m : Meas) : Rep := rIns (clsOf d m) (fldsOf K m)
def rPart (K : PySem.W.Frag) (d : Ad) (p : PartD) : Rep := rIns d.cPart [("_measure", rMeas K d p.m), ("_down", rD K (.bool p.down))]
def rKey (K : PySem.W.Frag) (d : Ad) (ps : List PartD) : Rep := rIns d.cKey [("_parts", rTup K (ps.map (rPart K d)))]
/-- the letters a to z -/
def Good (z : Str) : Prop := 1 ≤ z.length ∧ z.length ≤ 8 ∧ ∀ c ∈ z.cps.toList, c ∈ ("abcdefghijklmnopqrstuvwxyz" : Str).cps.toList
/-! ### what the top has left -/
def fOf (d : Ad) : Meas → Addr | .plain _ => d.fPlainOf | .size _ => d.fSizeOf | .rest _ _ => d.fROf | .ending _ => d.fEOf
def fEq (d : Ad) : Meas → Addr | .rest _ _ => d.fREq | _ => d.fMEq
def isRest : Meas → Bool | .rest _ _ => true | _ => false
structure Tx (P : Program) (K : PySem.W.Frag) (mg : Str → Option Value) (d : Ad) : Prop where
  gLetters : ∃ t, mg "LETTERS" = some (.str "abcdefghijklmnopqrstuvwxyz" t)
  gLongest : ∃ t, mg "LONGEST" = some (.int 8 t)
  gMost : ∃ t, mg "MOST_PARTS" = some (.int 6 t)
  bLen : mg "len" = none
  bAll : mg "all" = none
  bIsi : mg "isinstance" = none
  bStr : mg "str" = none
  bInt : mg "int" = none
  bBool : mg "bool" = none
  bType : mg "type" = none
  bAbs : mg "abs" = none
  bList : mg "list" = none
  gIsName : mg "is_name" = some (.ref d.fIsName)
  gIsInteger : mg "is_integer" = some (.ref d.fIsInteger)
  gIsBetween : mg "is_between" = some (.ref d.fIsBetween)
  gMeasure : mg "Measure" = some (.ref d.cMeasure)
  gPlain : mg "Plain" = some (.ref d.cPlain)
  gSize : mg "Size" = some (.ref d.cSize)
  gRest : mg "Rest" = some (.ref d.cRest)
  gEnding : mg "Ending" = some (.ref d.cEnding)
  gPart : mg "Part" = some (.ref d.cPart)
  gKey : mg "Key" = some (.ref d.cKey)
  isName : ∃ fd, Fun K "is_name" "is_name" sIsName d.fIsName fd
  isInteger : ∃ fd, Fun K "is_integer" "is_integer" sIsInteger d.fIsInteger fd
  isBetween : ∃ fd, Fun K "is_between" "is_between" sIsBetween d.fIsBetween fd
  mInit : ∃ fd, Fun K "__init__" "Measure.__init__" sMInit d.fMInit fd
  mEq : ∃ fd, Fun K "__eq__" "Measure.__eq__" sMEq d.fMEq fd
  mName : ∃ fd, Fun K "name" "Measure.name" sMName d.fMName fd
  plainOf : ∃ fd, Fun K "of" "Plain.of" sPlainOf d.fPlainOf fd
  sizeOf : ∃ fd, Fun K "of" "Size.of" sSizeOf d.fSizeOf fd
  rInit : ∃ cda cc, FunC P K "__init__" "Rest.__init__" (defArgs sRInit) (defBody sRInit) (defScope sRInit) d.fRInit cda cc d.cRest
  rSup : SupM K d.cRest d.cRest "__init__" d.fMInit
  rEq : ∃ fd, Fun K "__eq__" "Rest.__eq__" sREq d.fREq fd
  rOf : ∃ fd, Fun K "of" "Rest.of" sROf d.fROf fd
  eOf : ∃ fd, Fun K "of" "Ending.of" sEOf d.fEOf fd
  pInit : ∃ fd, FunD K "__init__" "Part.__init__" (defArgs sPInit) (defBody sPInit) (defScope sPInit) [] [("down", .bl false)] d.fPInit fd
  pEq : ∃ fd, Fun K "__eq__" "Part.__eq__" sPEq d.fPEq fd
  pNeg : ∃ fd, Fun K "__neg__" "Part.__neg__" sPNeg d.fPNeg fd
  pUp : ∃ fd, Fun K "up" "Part.up" sPUp d.fPUp fd
  pDownw : ∃ fd, Fun K "downward" "Part.downward" sPDownw d.fPDownw fd
  pMeas : ∃ fd, Fun K "measure" "Part.measure" sPMeas d.fPMeas fd
  pDown : ∃ fd, Fun K "down" "Part.down" sPDown d.fPDown fd
  kInit : ∃ fd, Fun K "__init__" "Key.__init__" sKInit d.fKInit fd
  kEq : ∃ fd, Fun K "__eq__" "Key.__eq__" sKEq d.fKEq fd
  kLen : ∃ fd, Fun K "__len__" "Key.__len__" sKLen d.fKLen fd
  kAdd : ∃ fd, Fun K "__add__" "Key.__add__" sKAdd d.fKAdd fd
  kNeg : ∃ fd, Fun K "__neg__" "Key.__neg__" sKNeg d.fKNeg fd
  kCont : ∃ fd, Fun K "__contains__" "Key.__contains__" sKCont d.fKCont fd
  kGet : ∃ fd, Fun K "__getitem__" "Key.__getitem__" sKGet d.fKGet fd
  kParts : ∃ fd, Fun K "parts" "Key.parts" sKParts d.fKParts fd
  isi : ∀ m, IsiC K (clsOf d m)
  nName : ∀ m, NoAttr K (clsOf d m) "_name"
  nDiv : ∀ m, NoAttr K (clsOf d m) "_divisor"
  mOf : ∀ m, Meth K (clsOf d m) "of" (fOf d m)
  mmEq : ∀ m, Meth K (clsOf d m) "__eq__" (fEq d m)
  qName : ∃ q, ∀ m, PropOf K (clsOf d m) "name" q d.fMName
  nf : ∀ m m', PySem.W.notFirst K (clsOf d m) (.ref (clsOf d m')) = true
  kRest : ∀ m, PySem.W.kitOne K (.ref (clsOf d m)) (.ref d.cRest) = some (isRest m)
  kMeas : ∀ m, PySem.W.kitOne K (.ref (clsOf d m)) (.ref d.cMeasure) = some true
  mks : ∀ m, PySem.W.makesIn K (clsOf d m) = true
  inj : [d.cPlain, d.cSize, d.cRest, d.cEnding].Nodup
  mkPlain : Mk K d.cPlain d.fMInit
  mkSize : Mk K d.cSize d.fMInit
  mkEnding : Mk K d.cEnding d.fMInit
  mkRest : Mk K d.cRest d.fRInit
  isiP : IsiC K d.cPart
  nPm : NoAttr K d.cPart "_measure"
  nPd : NoAttr K d.cPart "_down"
  mPEq : Meth K d.cPart "__eq__" d.fPEq
  mPNeg : Meth K d.cPart "__neg__" d.fPNeg
  qPm : ∃ q, PropOf K d.cPart "measure" q d.fPMeas
  qPd : ∃ q, PropOf K d.cPart "down" q d.fPDown
  nfP : PySem.W.notFirst K d.cPart (.ref d.cPart) = true
  kP : PySem.W.kitOne K (.ref d.cPart) (.ref d.cPart) = some true
  mkPart : Mk K d.cPart d.fPInit
  cmPart : ∃ mc p1 p2, ClX.CRead K d.cPart mc ∧ ClX.CMet K d.cPart mc "up" p1 d.fPUp ∧ ClX.CMet K d.cPart mc "downward" p2 d.fPDownw
  isiK : IsiC K d.cKey
  nKp : NoAttr K d.cKey "_parts"
  mKEq : Meth K d.cKey "__eq__" d.fKEq
  mKLen : Meth K d.cKey "__len__" d.fKLen
  mKAdd : Meth K d.cKey "__add__" d.fKAdd
  mKNeg : Meth K d.cKey "__neg__" d.fKNeg
  mKCont : Meth K d.cKey "__contains__" d.fKCont
  mKGet : Meth K d.cKey "__getitem__" d.fKGet
  fnKGet : PySem.W.fnIn K d.fKGet = true
  qKp : ∃ q, PropOf K d.cKey "parts" q d.fKParts
  nfK : PySem.W.notFirst K d.cKey (.ref d.cKey) = true
  kK : PySem.W.kitOne K (.ref d.cKey) (.ref d.cKey) = some true
  sfK : PySem.W.selfFirst K d.cKey = true
  nbK : PySem.W.findIn K (.ref d.cKey) "__bool__" = some none
  mkKey : Mk K d.cKey d.fKInit
  gBad : mg "BadKey" = some (.ref d.cBadKey)
  xBad : PySem.W.excIn K d.cBadKey [.type "ValueError", .type "Exception", .type "BaseException", .type "object"] "ValueError.__new__" = true
  kBad : PySem.W.keepIn K (.ref d.cBadKey) = true
  bBad : PySem.W.subIn K (.ref d.cBadKey) (.type "BaseException") = some true
  tBad : PySem.W.typeIn K (.ref d.cBadKey) = some (.type "type")
  eBad : PySem.W.exmOne K (.ref d.cBadKey) (.ref d.cBadKey) = some true
theorem r2_IK {W : Py.World} {K : PySem.W.Frag} {g : Int → Int → V} {i j : Int} {d : PyData} (hd : ∀ H, Dp K H (g i j) d) : R2w W (rI0 g) (rD K (.int i)) (rD K (.int j)) (rD K d) := fun x y H k p q Q h => ⟨i, j, rD_int.mp p, rD_int.mp q, h _ H k (Ex.refl _) (hd _)⟩
section
variable {P : Program} {w : PySem.World} {K : PySem.W.Frag} {mg : Str → Option Value} {base : Heap} {d : Ad}
theorem scIsName : FnScope ["value", "letter"] ["value"] (defScope sIsName) := ⟨rfl, rfl, rfl, by decide +kernel, rfl, by decide +kernel, by decide +kernel⟩
theorem ok_isName (T : Tx P K mg d) : FnR P w K mg base CX0 1 d.fIsName (spW (fun _ z => Good z) (fun z => [rD K (.str z)]) (fun _ => rD K (.bool true))) := by
  obtain ⟨fd, F⟩ := T.isName
  refine fn_w F scIsName (F.binds fun _ _ _ _ _ _ us hl => match us, hl with | [_], _ => rfl) (fun _ => rfl) fun cdv A outer s H E W z hr hp => ⟨none, ?_, fun _ e => nomatch e⟩
  obtain ⟨g1, g2, g3⟩ := hp
  have hz : z.length ≤ sizeLine := Nat.le_of_lt (small1000 (by omega))
  refine bw_cons (N := [some (rD K (.str z)), none]) (sw_if (d := false) (tw_l (lw_or (c := false) (d := false) (tw_not (c := true) (tw_val (ew_isi (t := .type "str") (d := true) rfl T.bIsi (ew_name 0 rfl (pv 0)) (ew_ty rfl T.bStr (by decide +kernel)) (.ty "str") isR_str (kit_ty (by decide +kernel))) (by intro _; rfl)))
    fun _ => lw_one (tw_not (c := true) (tw_eq (tw_chain op_le op_le ew_int (ew_lenStr hz rfl T.bLen (ew_name 0 rfl (pv 0))) (ew_globI rfl T.gLongest) (r2_I0 fun _ => Dp.bl _) (fun _ => r2_I0 fun _ => Dp.bl _)) ?_)))) (fun e => nomatch e) fun _ => bw_nil) ?_
  · rw [decide_eq_true (by omega), decide_eq_true (by omega)] <;> rfl
  refine bw_one (sw_ret ?_)
  have hall : (((List.range z.cps.size).map fun i => decide (z.cps.getD i 0 ∈ ("abcdefghijklmnopqrstuvwxyz" : Str).cps.toList)).all id) = true := by
    rw [List.all_eq_true]
    intro x hx
    obtain ⟨i, hi, rfl⟩ := List.mem_map.mp hx
    have hi' : i < z.cps.size := List.mem_range.mp hi
    refine decide_eq_true (g3 _ ?_)
    rw [Array.getD_eq_getD_getElem?, Array.getElem?_eq_getElem hi']
    simp
  rw [← hall]
  refine ew_all rfl rfl T.bAll ?_
  have e : (((List.range z.cps.size).map fun i => decide (z.cps.getD i 0 ∈ ("abcdefghijklmnopqrstuvwxyz" : Str).cps.toList)).map fun q => rD K (.bool q)) = takes (fun i => rD K (.bool (decide (z.cps.getD i 0 ∈ ("abcdefghijklmnopqrstuvwxyz" : Str).cps.toList)))) (fun _ => true) z.cps.size := by
    rw [Py.takes_all, List.map_map] <;> rfl
  show Ew _ W _ _ (rLst (((List.range z.cps.size).map fun i => decide (z.cps.getD i 0 ∈ ("abcdefghijklmnopqrstuvwxyz" : Str).cps.toList)).map fun q => rD K (.bool q)))
  rw [e]
  refine ew_lc (own := [("letter", 1)]) (g := gName 1) _ _ (fun i => [some (rD K (.str z)), some (rD K (.str ⟨#[z.cps.getD i 0]⟩))]) rfl scIsName.nd (iw_str (ew_name 0 rfl (pv 0))) (blkOk_by (N := ["value", "letter"]) (sc := defScope sIsName) (by decide +kernel)) (by show z.length ≤ 1000; omega) (fun _ _ _ _ _ => pg_name scIsName.nd rfl (.inl rfl)) (fun i _ => own_name) (fun _ _ _ _ _ _ _ _ _ => pts_yes) ?_
  intro s' H' C cl fp D o i hi _
  exact ew_inSign (ew_name 1 rfl (pv 1)) (ew_globS rfl T.gLetters) rfl
theorem scIsInteger : FnScope ["value"] ["value"] (defScope sIsInteger) := ⟨rfl, rfl, rfl, by decide +kernel, rfl, by decide +kernel, by decide +kernel⟩
theorem ok_isInteger (T : Tx P K mg d) : FnR P w K mg base CX0 1 d.fIsInteger (spW (α := Int) (fun _ _ => True) (fun z => [rD K (.int z)]) (fun _ => rD K (.bool true))) := by
  obtain ⟨fd, F⟩ := T.isInteger
  refine fn_w F scIsInteger (F.binds fun _ _ _ _ _ _ us hl => match us, hl with | [_], _ => rfl) (fun _ => rfl) fun cdv A outer s H E W z hr hp => ⟨none, bw_one (sw_ret ?_), fun _ e => nomatch e⟩
  exact ew_and (c := true) (d := true) (ew_isi (t := .type "int") (d := true) rfl T.bIsi (ew_name 0 rfl (pv 0)) (ew_ty rfl T.bInt (by decide +kernel)) (.ty "int") isR_int (kit_ty (by decide +kernel))) fun _ => ew_one (ew_not (c := false) (ew_isi (t := .type "int") (d := false) rfl T.bIsi (ew_name 0 rfl (pv 0)) (ew_ty rfl T.bBool (by decide +kernel)) (.ty "bool") isR_int (kit_ty (by decide +kernel))))
theorem scIsBetween : FnScope ["value", "low", "high"] ["value", "low", "high"] (defScope sIsBetween) := ⟨rfl, rfl, rfl, by decide +kernel, rfl, by decide +kernel, by decide +kernel⟩
theorem ok_isBetween (T : Tx P K mg d) : FnR P w K mg base CX0 2 d.fIsBetween (spW (α := Int × Int × Int) (fun _ _ => True) (fun z => [rD K (.int z.1), rD K (.int z.2.1), rD K (.int z.2.2)]) (fun z => rD K (.bool (decide (z.2.1 ≤ z.1) && decide (z.1 ≤ z.2.2))))) := by
  obtain ⟨fd, F⟩ := T.isBetween
  obtain ⟨fd', F'⟩ := T.isInteger
  refine fn_w F scIsBetween (F.binds fun _ _ _ _ _ _ us hl => match us, hl with | [_, _, _], _ => rfl) (fun _ => rfl) fun cdv A outer s H E W z hr hp => ⟨none, bw_one (sw_ret ?_), fun _ e => nomatch e⟩
  exact ew_and (c := true) (ew_call z.1 (ok_isInteger T) hr F'.kp rfl T.gIsInteger (aw_cons (ew_name 0 rfl (pv 0)) aw_nil) trivial) fun _ => ew_one (ew_chain op_le op_le (ew_name 1 rfl (pv 1)) (ew_name 0 rfl (pv 0)) (ew_name 2 rfl (pv 2)) (r2_IK fun _ => Dp.bl _) fun _ => r2_IK fun _ => Dp.bl _)
/-! ### measures -/
theorem scMInit : FnScope ["self", "name"] ["self", "name"] (defScope sMInit) := ⟨rfl, rfl, rfl, by decide +kernel, rfl, by decide +kernel, by decide +kernel⟩
theorem ok_mInit (T : Tx P K mg d) {C : Addr} (c : Cls K C) (n : NoAttr K C "_name") : FnR P w K mg base CX0 2 d.fMInit (spI C Good (fun z => [rD K (.str z)]) (fun z => [("_name", rD K (.str z))])) := by
  obtain ⟨fd, F⟩ := T.mInit
  obtain ⟨fd', F'⟩ := T.isName
  refine fn_i F scMInit (F.binds fun _ _ _ _ _ _ us hl => match us, hl with | [_, _], _ => rfl) (fun _ => rfl) fun cdv A outer s H E W x dx z hr hp => ?_
  refine ib_if (fun gs => tw_not (c := true) (tw_val (ew_call z (ok_isName T) hr F'.kp rfl T.gIsName (aw_cons (ew_name 1 rfl (pv 1)) aw_nil) hp) (by intro _; rfl))) (ib_set (i := 0) (pv 0) rfl (fun gs => ew_name 1 rfl (pv 1)) c n rfl (by decide) ib_nil rfl)
theorem lookName {K : PySem.W.Frag} (m : Meas) : (fldsOf K m).lookup ("_name" : Str) = some (rD K (.str m.name)) := by cases m <;> rfl
theorem scMEq : FnScope ["self", "other"] ["self", "other"] (defScope sMEq) := ⟨rfl, rfl, rfl, by decide +kernel, rfl, by decide +kernel, by decide +kernel⟩
theorem Good.strOk {z : Str} (h : Good z) : PyData.strOk z = true := by
  unfold PyData.strOk
  rw [← Array.all_toList, List.all_eq_true]
  intro x hx
  have : ∀ c ∈ ("abcdefghijklmnopqrstuvwxyz" : Str).cps.toList, c < 0x110000 := by decide +kernel
  exact decide_eq_true (this x (h.2.2 x hx))
theorem shaped_str {z : Str} (h : Good z) : SeqAt.shaped (.str z) = true := by simp [SeqAt.shaped, PyData.canLay0, PyData.depth, h.strOk]
theorem beq_str (a b : Str) : (a == b) = decide (a = b) := by
  by_cases h : a = b
  · subst h
    simp
  · simp [h]
theorem shaped_int (z : Int) : SeqAt.shaped (.int z) = true := by simp [SeqAt.shaped, PyData.canLay0, PyData.depth]
theorem shaped_bl (z : Bool) : SeqAt.shaped (.bool z) = true := by simp [SeqAt.shaped, PyData.canLay0, PyData.depth]
theorem eqv_str (a b : Str) : PyData.eqv (.str a) (.str b) = (a == b) := by unfold PyData.eqv; rfl
theorem eqv_int (a b : Int) : PyData.eqv (.int a) (.int b) = (a == b) := by unfold PyData.eqv; rfl
theorem eqv_bl (a b : Bool) : PyData.eqv (.bool a) (.bool b) = (a == b) := by unfold PyData.eqv; rfl
theorem cls_eq (T : Tx P K mg d) {m m' : Meas} (h : isRest m = false) : (decide (clsOf d m = clsOf d m') && (m.name == m'.name)) = decide (m = m') := by
  have hn := T.inj
  simp only [List.nodup_cons, List.mem_cons, not_or, List.not_mem_nil, not_false_eq_true, List.nodup_nil, and_true] at hn
  obtain ⟨⟨h1, h2, h3⟩, ⟨h4, h5⟩, h6⟩ := hn
  cases m with
  | rest _ _ => cases h
  | plain n => cases m' <;> simp [clsOf, Meas.name, h1, h2, h3, Ne.symm h1, Ne.symm h2, Ne.symm h3, beq_str]
  | size n => cases m' <;> simp [clsOf, Meas.name, h1, h4, h5, Ne.symm h1, Ne.symm h4, Ne.symm h5, beq_str]
  | ending n => cases m' <;> simp [clsOf, Meas.name, h3, h5, h6, Ne.symm h3, Ne.symm h5, Ne.symm h6, beq_str]
theorem ok_mEq (T : Tx P K mg d) : FnR P w K mg base CX0 1 d.fMEq (spW (α := Meas × Meas) (fun _ z => isRest z.1 = false ∧ Good z.1.name ∧ Good z.2.name) (fun z => [rMeas K d z.1, rMeas K d z.2]) (fun z => rD K (.bool (decide (z.1 = z.2))))) := by
  obtain ⟨fd, F⟩ := T.mEq
  refine fn_w F scMEq (F.binds fun _ _ _ _ _ _ us hl => match us, hl with | [_, _], _ => rfl) (fun _ => rfl) fun cdv A outer s H E W z hr hp => ⟨none, ?_, fun _ e => nomatch e⟩
  refine bw_one (sw_ret ?_)
  show Ew _ W _ _ (rD K (.bool (decide (z.1 = z.2))))
  rw [← cls_eq T hp.1, ← eqv_str]
  refine ew_and (ew_isCls (ew_typeOwn rfl T.bType (ew_name 0 rfl (pv 0)) insOf) (ew_typeOwn rfl T.bType (ew_name 1 rfl (pv 1)) insOf) (.inr ⟨T.mks _, T.mks _⟩)) fun _ => ew_one (ew_eqD hr.units (ew_fld (ew_name 0 rfl (pv 0)) (lookName z.1) (T.isi _).cl (T.nName _) rfl) (ew_fld (ew_name 1 rfl (pv 1)) (lookName z.2) (T.isi _).cl (T.nName _) rfl) (shaped_str hp.2.1) (shaped_str hp.2.2))
theorem scMName : FnScope ["self"] ["self"] (defScope sMName) := ⟨rfl, rfl, rfl, by decide +kernel, rfl, by decide +kernel, by decide +kernel⟩
theorem ok_mName (T : Tx P K mg d) : FnR P w K mg base CX0 1 d.fMName (spW (α := Meas) (fun _ _ => True) (fun z => [rMeas K d z]) (fun z => rD K (.str z.name))) := by
  obtain ⟨fd, F⟩ := T.mName
  refine fn_w F scMName (F.binds fun _ _ _ _ _ _ us hl => match us, hl with | [_], _ => rfl) (fun _ => rfl) fun cdv A outer s H E W z hr hp => ⟨none, bw_one (sw_ret ?_), fun _ e => nomatch e⟩
  exact ew_fld (ew_name 0 rfl (pv 0)) (lookName z) (T.isi _).cl (T.nName _) rfl
end
end K11
namespace K11
open PySem L2 Py
section
variable {P : Program} {w : PySem.World} {K : PySem.W.Frag} {mg : Str → Option Value} {base : Heap} {d : Ad}
/-! ### of -/
def kindOf : Meas → Nat | .plain _ => 0 | .size _ => 1 | .rest _ _ => 2 | .ending _ => 3
def ofD : Meas → PyData → PyData
  | .plain _, c => c
  | .size _, .int i => .int (if i < 0 then -i else i)
  | .size _, .str z => .int z.length
  | .rest _ k, .int i => .int (i % k)
  | .ending _, .str z => .str ⟨#[z.cps.getD (z.length - 1) 0]⟩
  | _, c => c
def ofOk : Meas → PyData → Prop
  | .plain _, _ => True
  | .size _, .int i => True
  | .size _, .str z => z.length ≤ sizeLine
  | .rest _ k, .int i => 0 < k
  | .ending _, .str z => 1 ≤ z.length ∧ z.length ≤ sizeLine
  | _, c => False
abbrev spOf (K : PySem.W.Frag) (d : Ad) (n : Nat) : Sp := spW (α := Meas × PyData) (fun _ z => kindOf z.1 = n ∧ ofOk z.1 z.2) (fun z => [rMeas K d z.1, rD K z.2]) (fun z => rD K (ofD z.1 z.2))
theorem scPlainOf : FnScope ["self", "cell"] ["self", "cell"] (defScope sPlainOf) := ⟨rfl, rfl, rfl, by decide +kernel, rfl, by decide +kernel, by decide +kernel⟩
theorem ok_plainOf (T : Tx P K mg d) : FnR P w K mg base CX0 1 d.fPlainOf (spOf K d 0) := by
  obtain ⟨fd, F⟩ := T.plainOf
  refine fn_w F scPlainOf (F.binds fun _ _ _ _ _ _ us hl => match us, hl with | [_, _], _ => rfl) (fun _ => rfl) fun cdv A outer s H E W z hr hp => ⟨none, ?_, fun _ e => nomatch e⟩
  obtain ⟨m, c⟩ := z
  cases m with
  | plain n => exact bw_one (sw_ret (ew_name 1 rfl (pv 1)))
  | _ => cases hp.1
theorem scSizeOf : FnScope ["self", "cell"] ["self", "cell"] (defScope sSizeOf) := ⟨rfl, rfl, rfl, by decide +kernel, rfl, by decide +kernel, by decide +kernel⟩
theorem ok_sizeOf (T : Tx P K mg d) : FnR P w K mg base CX0 1 d.fSizeOf (spOf K d 1) := by
  obtain ⟨fd, F⟩ := T.sizeOf
  refine fn_w F scSizeOf (F.binds fun _ _ _ _ _ _ us hl => match us, hl with | [_, _], _ => rfl) (fun _ => rfl) fun cdv A outer s H E W z hr hp => ⟨none, bw_one (sw_ret ?_), fun _ e => nomatch e⟩
  obtain ⟨m, c⟩ := z
  cases m with
  | size n =>
    cases c with
    | int i => exact ew_if (d := false) (tw_val (ew_isi (t := .type "int") (d := false) rfl T.bIsi (ew_name 1 rfl (pv 1)) (ew_ty rfl T.bStr (by decide +kernel)) (.ty "str") isR_int (kit_ty (by decide +kernel))) (by intro _; rfl)) (fun e => nomatch e) fun _ => ew_absI rfl T.bAbs (ew_name 1 rfl (pv 1))
    | str z => exact ew_if (d := true) (tw_val (ew_isi (t := .type "str") (d := true) rfl T.bIsi (ew_name 1 rfl (pv 1)) (ew_ty rfl T.bStr (by decide +kernel)) (.ty "str") isR_str (kit_ty (by decide +kernel))) (by intro _; rfl)) (fun _ => ew_lenStr hp.2 rfl T.bLen (ew_name 1 rfl (pv 1))) (fun e => nomatch e)
    | _ => cases hp.2
  | _ => cases hp.1
theorem scROf : FnScope ["self", "cell"] ["self", "cell"] (defScope sROf) := ⟨rfl, rfl, rfl, by decide +kernel, rfl, by decide +kernel, by decide +kernel⟩
theorem ok_rOf (T : Tx P K mg d) : FnR P w K mg base CX0 1 d.fROf (spOf K d 2) := by
  obtain ⟨fd, F⟩ := T.rOf
  refine fn_w F scROf (F.binds fun _ _ _ _ _ _ us hl => match us, hl with | [_, _], _ => rfl) (fun _ => rfl) fun cdv A outer s H E W z hr hp => ⟨none, bw_one (sw_ret ?_), fun _ e => nomatch e⟩
  obtain ⟨m, c⟩ := z
  cases m with
  | rest n k =>
    cases c with
    | int i => exact ew_mod (ew_name 1 rfl (pv 1)) (ew_fld (ew_name 0 rfl (pv 0)) (f := "_divisor") rfl (T.isi (.rest n k)).cl (T.nDiv (.rest n k)) rfl) hp.2
    | _ => cases hp.2
  | _ => cases hp.1
theorem scEOf : FnScope ["self", "cell"] ["self", "cell"] (defScope sEOf) := ⟨rfl, rfl, rfl, by decide +kernel, rfl, by decide +kernel, by decide +kernel⟩
theorem ok_eOf (T : Tx P K mg d) : FnR P w K mg base CX0 1 d.fEOf (spOf K d 3) := by
  obtain ⟨fd, F⟩ := T.eOf
  refine fn_w F scEOf (F.binds fun _ _ _ _ _ _ us hl => match us, hl with | [_, _], _ => rfl) (fun _ => rfl) fun cdv A outer s H E W z hr hp => ⟨none, bw_one (sw_ret ?_), fun _ e => nomatch e⟩
  obtain ⟨m, c⟩ := z
  cases m with
  | ending n =>
    cases c with
    | str z =>
      have e : atI z.cps.toList (-1) = some (z.cps.getD (z.length - 1) 0) := by
        have hl : z.cps.toList ≠ [] := by
          intro h
          have h1 : z.cps.toList.length = 0 := by rw [h] <;> rfl
          have h2 : 1 ≤ z.cps.size := hp.2.1
          rw [Array.length_toList] at h1
          omega
        have h3 := (List.dropLast_concat_getLast hl).symm
        have h4 : z.cps.getD (z.length - 1) 0 = z.cps.toList.getLast hl := by
          rw [List.getLast_eq_getElem, Array.getD_eq_getD_getElem?, Array.getElem?_eq_getElem (by have := hp.2.1; show z.cps.size - 1 < z.cps.size; have : 1 ≤ z.cps.size := this; omega)]
          rfl
        rw [h4]
        conv => lhs; rw [h3]
        exact atI_last _ _
      exact ew_item_str (m := 0) (ew_name 1 rfl (pv 1)) (ew_negI ew_int) hp.2.2 e (by intro _ _; rfl)
    | _ => cases hp.2
  | _ => cases hp.1
theorem ok_of (T : Tx P K mg d) (m : Meas) : FnR P w K mg base CX0 1 (fOf d m) (spOf K d (kindOf m)) := by
  cases m with
  | plain _ => exact ok_plainOf T
  | size _ => exact ok_sizeOf T
  | rest _ _ => exact ok_rOf T
  | ending _ => exact ok_eOf T
/-! ### == of measures -/
def divOf : Meas → Int | .rest _ k => k | _ => 0
theorem scREq : FnScope ["self", "other"] ["self", "other"] (defScope sREq) := ⟨rfl, rfl, rfl, by decide +kernel, rfl, by decide +kernel, by decide +kernel⟩
theorem ok_rEq (T : Tx P K mg d) : FnR P w K mg base CX0 1 d.fREq (spW (α := Meas × Meas) (fun _ z => isRest z.1 = true ∧ Good z.1.name ∧ Good z.2.name) (fun z => [rMeas K d z.1, rMeas K d z.2]) (fun z => rD K (.bool (decide (z.1 = z.2))))) := by
  obtain ⟨fd, F⟩ := T.rEq
  refine fn_w F scREq (F.binds fun _ _ _ _ _ _ us hl => match us, hl with | [_, _], _ => rfl) (fun _ => rfl) fun cdv A outer s H E W z hr hp => ⟨none, bw_one (sw_ret ?_), fun _ e => nomatch e⟩
  obtain ⟨m, m'⟩ := z
  obtain ⟨hp, g1, g2⟩ := hp
  cases m with
  | rest n k =>
    have e : decide (Meas.rest n k = m') = (isRest m' && ((n == m'.name) && (k == divOf m'))) := by
      rw [beq_str]
      cases m' with
      | rest n' k' => by_cases h1 : n = n' <;> by_cases h2 : k = k' <;> simp [h1, h2, isRest, Meas.name, divOf]
      | _ => simp [isRest]
    show Ew _ W _ _ (rD K (.bool (decide (Meas.rest n k = m'))))
    rw [e, ← eqv_str, ← eqv_int]
    refine ew_and (ew_isi (t := .ref (clsOf d m')) rfl T.bIsi (ew_name 1 rfl (pv 1)) (ew_cls rfl T.gRest) (.own d.cRest) (isR_ins (T.isi m')) (T.kRest m')) fun hb => ?_
    cases m' with
    | rest n' k' =>
      exact ew_and (ew_eqD hr.units (ew_fld (ew_name 0 rfl (pv 0)) (f := "_name") rfl (T.isi (.rest n k)).cl (T.nName (.rest n k)) rfl) (ew_fld (ew_name 1 rfl (pv 1)) (f := "_name") rfl (T.isi (.rest n' k')).cl (T.nName (.rest n' k')) rfl) (shaped_str g1) (shaped_str g2))
        fun _ => ew_one (ew_eqD hr.units (ew_fld (ew_name 0 rfl (pv 0)) (f := "_divisor") rfl (T.isi (.rest n k)).cl (T.nDiv (.rest n k)) rfl) (ew_fld (ew_name 1 rfl (pv 1)) (f := "_divisor") rfl (T.isi (.rest n' k')).cl (T.nDiv (.rest n' k')) rfl) (shaped_int _) (shaped_int _))
    | _ => cases hb
  | _ => cases hp
end
end K11
namespace K11
open PySem L2 Py
section
variable {P : Program} {w : PySem.World} {K : PySem.W.Frag} {mg : Str → Option Value} {base : Heap} {d : Ad}
/-! ### == of measures, anywhere -/
theorem rc_meas {X : Cx} (T : Tx X.prog X.K X.mg d) {W : Py.World} {m m' : Meas} (g1 : Good m.name) (g2 : Good m'.name) : RcW X .Eq W 2 (rMeas X.K d m) (rMeas X.K d m') (decide (m = m')) := by
  refine rcW_own .Eq (fun _ _ => rfl) fun x y H k p q => ?_
  obtain ⟨a, dx, gs, ex, hi, fl⟩ := p
  obtain ⟨c, dy, gs', ey, hj, fl'⟩ := q
  cases hb : isRest m with
  | false => 
    have e : fEq d m = d.fMEq := by cases m <;> first | rfl | cases hb
    exact ⟨a, c, clsOf d m, clsOf d m', dx, dy, d.fMEq, gs, gs', _, ex, ey, hi, hj, T.nf m m', e ▸ T.mmEq m, ok_mEq T, fun Q n => ⟨W, (m, m'), ⟨hb, g1, g2⟩, k, ⟨⟨a, dx, gs, ex, hi, fl⟩, ⟨c, dy, gs', ey, hj, fl'⟩, trivial⟩, fun v H' k' e' pv => by rw [rD_bl.mp pv]; exact n H' k' e'⟩⟩
  | true =>
    have e : fEq d m = d.fREq := by cases m <;> first | rfl | cases hb
    exact ⟨a, c, clsOf d m, clsOf d m', dx, dy, d.fREq, gs, gs', _, ex, ey, hi, hj, T.nf m m', e ▸ T.mmEq m, ok_rEq T, fun Q n => ⟨W, (m, m'), ⟨hb, g1, g2⟩, k, ⟨⟨a, dx, gs, ex, hi, fl⟩, ⟨c, dy, gs', ey, hj, fl'⟩, trivial⟩, fun v H' k' e' pv => by rw [rD_bl.mp pv]; exact n H' k' e'⟩⟩
/-! ### parts -/
abbrev PGood (p : PartD) : Prop := Good p.m.name
abbrev fsPart (K : PySem.W.Frag) (d : Ad) (p : PartD) : List (Str × Rep) := [("_measure", rMeas K d p.m), ("_down", rD K (.bool p.down))]
theorem scPInit : FnScope ["self", "measure", "down"] ["self", "measure", "down"] (defScope sPInit) := ⟨rfl, rfl, rfl, by decide +kernel, rfl, by decide +kernel, by decide +kernel⟩
theorem ok_pInitD (T : Tx P K mg d) {fd : FuncData} (F : FunD K "__init__" "Part.__init__" (defArgs sPInit) (defBody sPInit) (defScope sPInit) [] [("down", .bl false)] d.fPInit fd) : FnOk P w K mg base CX0 1 d.fPInit fd ["self", "measure", "down"] (spI d.cPart (fun _ => True) (fun z : PartD => [rMeas K d z.m, rD K (.bool z.down)]) (fsPart K d)) := by
  refine fn_iD F scPInit (fun _ => rfl) fun cdv A outer s H E W x dx z hr hp => ?_
  refine ib_if (fun gs => tw_not (c := true) (tw_val (ew_isi (t := .ref (clsOf d z.m)) rfl T.bIsi (ew_name 1 rfl (pv 1)) (ew_cls rfl T.gMeasure) (.own d.cMeasure) (isR_ins (T.isi z.m)) (T.kMeas z.m)) (by intro _; rfl))) ?_
  refine ib_if (fun gs => tw_not (c := true) (tw_val (ew_isi (t := .type "bool") (d := true) rfl T.bIsi (ew_name 2 rfl (pv 2)) (ew_ty rfl T.bBool (by decide +kernel)) (.ty "bool") isR_bl (kit_ty (by decide +kernel))) (by intro _; rfl))) ?_
  exact ib_set (i := 0) (pv 0) rfl (fun gs => ew_name 1 rfl (pv 1)) T.isiP.cl T.nPm rfl (by simp) (ib_set (i := 0) (pv 0) rfl (fun gs => ew_name 2 rfl (pv 2)) T.isiP.cl T.nPd rfl (by simp) ib_nil rfl) rfl
theorem ok_pInit (T : Tx P K mg d) : FnR P w K mg base CX0 1 d.fPInit (spI d.cPart (fun _ => True) (fun m : Meas => [rMeas K d m]) (fun m => fsPart K d ⟨m, false⟩)) := by
  obtain ⟨fd, F⟩ := T.pInit
  obtain ⟨ds, r, hb⟩ := F.binds0 2 (by decide) (ps := ["self", "measure", "down"]) rfl fun D doc pm an cdv ct us ks h1 h2 => match us, ks, h1, h2 with
    | [_, _], [_], _, _ => ⟨_, _, _, _, _, _, rfl, rfl, rfl⟩
  refine ((ok_pInitD T F).raw hb r).imp ?_
  rintro vs H Q E ⟨W, z, x, dx, ws, ev, hp, kH, pr, q⟩
  subst ev
  exact ⟨W, ⟨z, false⟩, x, dx, ws ++ [V.bl false], rfl, trivial, kH, pr.app (rs' := [rD K (.bool false)]) (ys := [.bl false]) ⟨Dp.bl false, trivial⟩, q⟩
theorem kb_pInit {fd : FuncData} (F : FunD K "__init__" "Part.__init__" (defArgs sPInit) (defBody sPInit) (defScope sPInit) [] [("down", .bl false)] d.fPInit fd) : ∃ mv : List Value, KBn K fd ["self", "measure", "down"] 2 ["down"] (fun us ws => us ++ ws) (fun vs zs => vs ++ zs) := by
  have h := F.kbinds0 (ps := ["self", "measure", "down"]) 2 ["down"] [] (fun us _ ws => us ++ ws) (by decide) (by simp) (fun a _ c => a.append c) fun D doc pm an cdv ct us mv ws h1 _ h2 => match us, ws, h1, h2 with
    | [_, _], [_], _, _ => rfl
  exact h
theorem scPEq : FnScope ["self", "other"] ["self", "other"] (defScope sPEq) := ⟨rfl, rfl, rfl, by decide +kernel, rfl, by decide +kernel, by decide +kernel⟩
theorem ok_pEq (T : Tx P K mg d) : FnR P w K mg base CX0 3 d.fPEq (spW (α := PartD × PartD) (fun _ z => PGood z.1 ∧ PGood z.2) (fun z => [rPart K d z.1, rPart K d z.2]) (fun z => rD K (.bool (decide (z.1 = z.2))))) := by
  obtain ⟨fd, F⟩ := T.pEq
  refine fn_w F scPEq (F.binds fun _ _ _ _ _ _ us hl => match us, hl with | [_, _], _ => rfl) (fun _ => rfl) fun cdv A outer s H E W z hr hp => ⟨none, bw_one (sw_ret ?_), fun _ e => nomatch e⟩
  obtain ⟨⟨m, u⟩, ⟨m', u'⟩⟩ := z
  have e : decide ((⟨m, u⟩ : PartD) = ⟨m', u'⟩) = (true && (decide (m = m') && (u == u'))) := by
    by_cases h1 : m = m' <;> by_cases h2 : u = u' <;> simp [h1, h2]
  show Ew _ W _ _ (rD K (.bool (decide ((⟨m, u⟩ : PartD) = ⟨m', u'⟩))))
  rw [e, ← eqv_bl]
  refine ew_and (ew_isi (t := .ref d.cPart) (d := true) rfl T.bIsi (ew_name 1 rfl (pv 1)) (ew_cls rfl T.gPart) (.own d.cPart) (isR_ins T.isiP) T.kP) fun _ => ?_
  exact ew_and (ew_rc (fun _ _ => rfl) (rc_meas T hp.1 hp.2) hr (ew_fld (ew_name 0 rfl (pv 0)) (f := "_measure") rfl T.isiP.cl T.nPm rfl) (ew_fld (ew_name 1 rfl (pv 1)) (f := "_measure") rfl T.isiP.cl T.nPm rfl) rfl)
    fun _ => ew_one (ew_eqD hr.units (ew_fld (ew_name 0 rfl (pv 0)) (f := "_down") rfl T.isiP.cl T.nPd rfl) (ew_fld (ew_name 1 rfl (pv 1)) (f := "_down") rfl T.isiP.cl T.nPd rfl) (shaped_bl _) (shaped_bl _))
def negP (p : PartD) : PartD := ⟨p.m, !p.down⟩
theorem scPNeg : FnScope ["self"] ["self"] (defScope sPNeg) := ⟨rfl, rfl, rfl, by decide +kernel, rfl, by decide +kernel, by decide +kernel⟩
theorem ok_pNeg (T : Tx P K mg d) : FnR P w K mg base CX0 3 d.fPNeg (spW (α := PartD) (fun _ z => True) (fun z => [rPart K d z]) (fun z => rPart K d (negP z))) := by
  obtain ⟨fd, F⟩ := T.pNeg
  obtain ⟨fd', F'⟩ := T.pInit
  obtain ⟨_, hb⟩ := kb_pInit F'
  refine fn_w F scPNeg (F.binds fun _ _ _ _ _ _ us hl => match us, hl with | [_], _ => rfl) (fun _ => rfl) fun cdv A outer s H E W z hr hp => ⟨none, bw_one (sw_ret ?_), fun _ e => nomatch e⟩
  show Ew _ W _ _ (rIns d.cPart (fsPart K d (negP z)))
  exact ew_makeK (fs := fsPart K d) (rl := [rMeas K d z.m]) (rk := [rD K (.bool (!z.down))]) (negP z) T.mkPart (ok_pInitD T F') hr rfl T.gPart hb (fun _ _ _ _ _ => rfl) (aw_cons (ew_fld (ew_name 0 rfl (pv 0)) (f := "_measure") rfl T.isiP.cl T.nPm rfl) aw_nil) (kw_cons (ew_not (ew_fld (ew_name 0 rfl (pv 0)) (f := "_down") rfl T.isiP.cl T.nPd rfl)) kw_nil) trivial rfl rfl rfl
theorem scPUp : FnScope ["cls", "name"] ["cls", "name"] (defScope sPUp) := ⟨rfl, rfl, rfl, by decide +kernel, rfl, by decide +kernel, by decide +kernel⟩
theorem ok_pUp (T : Tx P K mg d) : FnR P w K mg base CX0 4 d.fPUp (spW (α := Str) (fun _ z => Good z) (fun z => [rRef d.cPart, rD K (.str z)]) (fun z => rPart K d ⟨.plain z, false⟩)) := by
  obtain ⟨fd, F⟩ := T.pUp
  refine fn_w F scPUp (F.binds fun _ _ _ _ _ _ us hl => match us, hl with | [_, _], _ => rfl) (fun _ => rfl) fun cdv A outer s H E W z hr hp => ⟨none, bw_one (sw_ret ?_), fun _ e => nomatch e⟩
  show Ew _ W _ _ (rIns d.cPart (fsPart K d ⟨.plain z, false⟩))
  exact ew_makeL (fs := fun m => fsPart K d ⟨m, false⟩) 0 (.plain z) T.mkPart (ok_pInit T) (hr.mono (by decide)) (pv 0) rfl (aw_cons (ew_make (fs := fun z => [("_name", rD K (.str z))]) z T.mkPlain (ok_mInit T (T.isi (.plain z)).cl (T.nName (.plain z))) hr rfl T.gPlain (aw_cons (ew_name 1 rfl (pv 1)) aw_nil) hp) aw_nil) trivial
theorem scPMeas : FnScope ["self"] ["self"] (defScope sPMeas) := ⟨rfl, rfl, rfl, by decide +kernel, rfl, by decide +kernel, by decide +kernel⟩
theorem ok_pMeas (T : Tx P K mg d) : FnR P w K mg base CX0 1 d.fPMeas (spW (α := PartD) (fun _ _ => True) (fun z => [rPart K d z]) (fun z => rMeas K d z.m)) := by
  obtain ⟨fd, F⟩ := T.pMeas
  refine fn_w F scPMeas (F.binds fun _ _ _ _ _ _ us hl => match us, hl with | [_], _ => rfl) (fun _ => rfl) fun cdv A outer s H E W z hr hp => ⟨none, bw_one (sw_ret ?_), fun _ e => nomatch e⟩
  exact ew_fld (ew_name 0 rfl (pv 0)) (f := "_measure") rfl T.isiP.cl T.nPm rfl
theorem scPDown : FnScope ["self"] ["self"] (defScope sPDown) := ⟨rfl, rfl, rfl, by decide +kernel, rfl, by decide +kernel, by decide +kernel⟩
theorem ok_pDown (T : Tx P K mg d) : FnR P w K mg base CX0 1 d.fPDown (spW (α := PartD) (fun _ _ => True) (fun z => [rPart K d z]) (fun z => rD K (.bool z.down))) := by
  obtain ⟨fd, F⟩ := T.pDown
  refine fn_w F scPDown (F.binds fun _ _ _ _ _ _ us hl => match us, hl with | [_], _ => rfl) (fun _ => rfl) fun cdv A outer s H E W z hr hp => ⟨none, bw_one (sw_ret ?_), fun _ e => nomatch e⟩
  exact ew_fld (ew_name 0 rfl (pv 0)) (f := "_down") rfl T.isiP.cl T.nPd rfl
end
end K11
namespace K11
open PySem L2 Py
section
variable {P : Program} {w : PySem.World} {K : PySem.W.Frag} {mg : Str → Option Value} {base : Heap} {d : Ad}
/-! ### the same object tells the same -/
theorem ins_same {C C' : Addr} {fs fs' : List (Str × Rep)} {v : V} {H : Hp} (h : (rIns C fs).p v H) (h' : (rIns C' fs').p v H) : C = C' ∧ ∃ gs, Flds fs gs H ∧ Flds fs' gs H := by
  obtain ⟨a, dx, gs, rfl, hi, fl⟩ := h
  obtain ⟨a', dx', gs', e, hi', fl'⟩ := h'
  cases e
  rw [hi] at hi'
  cases hi'
  exact ⟨rfl, gs, fl, fl'⟩
theorem flds1 {n : Str} {r r' : Rep} {fs fs' : List (Str × Rep)} {gs : List (Str × V)} {H : Hp} (h : Flds ((n, r) :: fs) gs H) (h' : Flds ((n, r') :: fs') gs H) : ∃ v gs', r.p v H ∧ r'.p v H ∧ Flds fs gs' H ∧ Flds fs' gs' H := by
  cases gs with
  | nil => exact h.elim
  | cons g gs => exact ⟨g.2, gs, h.2.1, h'.2.1, h.2.2, h'.2.2⟩
theorem str_same {a b : Str} {v : V} {H : Hp} (h : (rD K (.str a)).p v H) (h' : (rD K (.str b)).p v H) : a = b := by
  rw [rD_str.mp h] at h'
  cases rD_str.mp h'
  rfl
theorem int_same {a b : Int} {v : V} {H : Hp} (h : (rD K (.int a)).p v H) (h' : (rD K (.int b)).p v H) : a = b := by
  rw [rD_int.mp h] at h'
  cases rD_int.mp h'
  rfl
theorem bl_same {a b : Bool} {v : V} {H : Hp} (h : (rD K (.bool a)).p v H) (h' : (rD K (.bool b)).p v H) : a = b := by
  rw [rD_bl.mp h] at h'
  cases rD_bl.mp h'
  rfl
theorem meas_same (T : Tx P K mg d) {m m' : Meas} {v : V} {H : Hp} (h : (rMeas K d m).p v H) (h' : (rMeas K d m').p v H) : m = m' := by
  have hn := T.inj
  simp only [List.nodup_cons, List.mem_cons, not_or, List.not_mem_nil, not_false_eq_true, List.nodup_nil, and_true] at hn
  obtain ⟨⟨h1, h2, h3⟩, ⟨h4, h5⟩, h6⟩ := hn
  obtain ⟨e, gs, fl, fl'⟩ := ins_same h h'
  cases m with
  | plain n => cases m' with
    | plain n' => obtain ⟨v, gs', a, b, _⟩ := flds1 fl fl'; rw [str_same a b]
    | size n' => exact absurd e h1
    | rest n' k' => exact absurd e h2
    | ending n' => exact absurd e h3
  | size n => cases m' with
    | size n' => obtain ⟨v, gs', a, b, _⟩ := flds1 fl fl'; rw [str_same a b]
    | plain n' => exact absurd e.symm h1
    | rest n' k' => exact absurd e h4
    | ending n' => exact absurd e h5
  | rest n k => cases m' with
    | rest n' k' =>
      obtain ⟨v, gs', a, b, fl, fl'⟩ := flds1 fl fl'
      obtain ⟨v', gs', a', b', _⟩ := flds1 fl fl'
      rw [str_same a b, int_same a' b']
    | plain n' => exact absurd e.symm h2
    | size n' => exact absurd e.symm h4
    | ending n' => exact absurd e h6
  | ending n => cases m' with
    | ending n' => obtain ⟨v, gs', a, b, _⟩ := flds1 fl fl'; rw [str_same a b]
    | plain n' => exact absurd e.symm h3
    | size n' => exact absurd e.symm h5
    | rest n' k' => exact absurd e.symm h6
theorem part_same (T : Tx P K mg d) {p p' : PartD} {v : V} {H : Hp} (h : (rPart K d p).p v H) (h' : (rPart K d p').p v H) : p = p' := by
  obtain ⟨_, gs, fl, fl'⟩ := ins_same h h'
  obtain ⟨v, gs', a, b, fl, fl'⟩ := flds1 fl fl'
  obtain ⟨v', gs', a', b', _⟩ := flds1 fl fl'
  obtain ⟨m, u⟩ := p
  obtain ⟨m', u'⟩ := p'
  rw [show m = m' from meas_same T a b, show u = u' from bl_same a' b']
/-! ### keys -/
theorem rc_part {X : Cx} (T : Tx X.prog X.K X.mg d) {W : Py.World} {p p' : PartD} (g1 : PGood p) (g2 : PGood p') : RcW X .Eq W 4 (rPart X.K d p) (rPart X.K d p') (decide (p = p')) := by
  refine rcW_own .Eq (fun _ _ => rfl) fun x y H k p1 q1 => ?_
  obtain ⟨a, dx, gs, ex, hi, fl⟩ := p1
  obtain ⟨c, dy, gs', ey, hj, fl'⟩ := q1
  exact ⟨a, c, d.cPart, d.cPart, dx, dy, d.fPEq, gs, gs', _, ex, ey, hi, hj, T.nfP, T.mPEq, ok_pEq T, fun Q n => ⟨W, (p, p'), ⟨g1, g2⟩, k, ⟨⟨a, dx, gs, ex, hi, fl⟩, ⟨c, dy, gs', ey, hj, fl'⟩, trivial⟩, fun v H' k' e' pv => by rw [rD_bl.mp pv]; exact n H' k' e'⟩⟩
theorem eqw_part {X : Cx} (T : Tx X.prog X.K X.mg d) {W : Py.World} {p p' : PartD} (g1 : PGood p) (g2 : PGood p') : EqW X W 4 (rPart X.K d p) (rPart X.K d p') (decide (p = p')) :=
  (rc_part T g1 g2).eqW (fun x H ⟨a, _, _, e, _⟩ => ⟨a, e⟩) (fun x H ⟨a, _, _, e, _⟩ => ⟨a, e⟩) fun x H h1 h2 => decide_eq_true (part_same T h1 h2)
theorem eqw_parts {X : Cx} (T : Tx X.prog X.K X.mg d) {W : Py.World} {ps qs : List PartD} (g1 : ∀ p ∈ ps, PGood p) (g2 : ∀ p ∈ qs, PGood p) : ∀ (i : Nat) (q q' : Rep), (ps.map (rPart X.K d))[i]? = some q → (qs.map (rPart X.K d))[i]? = some q' → EqW X W 4 q q' (decide ((ps[i]? : Option PartD) = qs[i]?)) := by
  intro i q q' h h'
  rw [List.getElem?_map] at h h'
  cases e : ps[i]? with
  | none => rw [e] at h; cases h
  | some p =>
    cases e' : qs[i]? with
    | none => rw [e'] at h'; cases h'
    | some p' =>
      rw [e] at h
      rw [e'] at h'
      cases h
      cases h'
      exact (eqw_part T (g1 p (List.mem_of_getElem? e)) (g2 p' (List.mem_of_getElem? e'))).eq (by simp)
theorem lists_eq {α : Type} [DecidableEq α] (xs ys : List α) : (xs.length == ys.length && allB (fun i => decide (xs[i]? = ys[i]?)) (min xs.length ys.length)) = decide (xs = ys) := by
  by_cases h : xs = ys
  · subst h
    simp [allB]
  · rw [decide_eq_false h]
    by_cases hl : xs.length = ys.length
    · have : ∃ i, i < xs.length ∧ xs[i]? ≠ ys[i]? := by
        apply Classical.byContradiction
        intro hc
        refine h (List.ext_getElem? fun i => ?_)
        apply Classical.byContradiction
        intro hi
        by_cases hlt : i < xs.length
        · exact hc ⟨i, hlt, hi⟩
        · rw [List.getElem?_eq_none (by omega), List.getElem?_eq_none (by omega)] at hi
          exact hi rfl
      obtain ⟨i, hi, hne⟩ := this
      rw [allB_false (i := i) (by omega) (by simpa using hne)]
      simp
    · simp [hl]
theorem lists_eqL {α : Type} [DecidableEq α] (xs ys : List α) : (xs.length == ys.length && allB (fun i => decide (xs[i]? = ys[i]?)) xs.length) = decide (xs = ys) := by
  rw [← lists_eq xs ys]
  by_cases hl : xs.length = ys.length
  · rw [← hl, Nat.min_self]
  · have : (xs.length == ys.length) = false := by simpa using hl
    rw [this]
    rfl
abbrev KGood (ps : List PartD) : Prop := ps.length ≤ 6 ∧ ∀ p ∈ ps, PGood p
abbrev fsKey (K : PySem.W.Frag) (d : Ad) (ps : List PartD) : List (Str × Rep) := [("_parts", rTup K (ps.map (rPart K d)))]
theorem scKInit : FnScope ["self", "parts", "part"] ["self", "parts"] (defScope sKInit) := ⟨rfl, rfl, rfl, by decide +kernel, rfl, by decide +kernel, by decide +kernel⟩
theorem ok_kInit (T : Tx P K mg d) : FnR P w K mg base CX0 1 d.fKInit (spI d.cKey (fun z : List PartD => z.length ≤ 6) (fun z => z.map (rPart K d)) (fsKey K d)) := by
  obtain ⟨fd, F⟩ := T.kInit
  refine fn_is F scKInit (fun z h => by rw [List.length_map]; omega) (fun k1 k2 k3 k4 k5 k6 => StX.bind_star1 (B := fun vs => bindArgs (PySem.W.fnOf "__init__" "Key.__init__" (defArgs sKInit) (defBody sKInit) (defScope sKInit) .none k1 k2 k3 k4 k5 k6) ⟨vs, []⟩) (p1 := "self") (pv := "parts") (fun _ => rfl) (fun _ _ _ => rfl)) fun cdv A outer s H E W x dx z hr hp => ?_
  refine ib_if (fun gs => tw_not (c := true) (tw_val (c := true) ?_ (by intro _; rfl))) ?_
  · have e : (((List.range z.length).map fun _ => true).all id) = true := by simp
    rw [← e]
    refine ew_all rfl rfl T.bAll ?_
    rw [List.map_map]
    refine ew_lcAll 2 (y := "part") _ rfl scKInit.nd (n := z.length) (item := fun i => (z.map (rPart K d)).getD i rNon) ?_ (blkOk_by (N := ["self", "parts", "part"]) (sc := defScope sKInit) (by decide +kernel)) (by omega) (fun _ _ _ _ _ => pg_name scKInit.nd rfl (.inl rfl)) ?_
    · exact iw_tupM (ew_name 1 rfl (pv 1))
    · intro s' H' C cl fp D o i hi
      rw [getD_map hi]
      exact ew_isi (t := .ref d.cPart) (d := true) rfl T.bIsi (ew_name 2 rfl (pv 2)) (ew_cls rfl T.gPart) (.own d.cPart) (isR_ins T.isiP) T.kP
  · refine ib_if (fun gs => ?_) (ib_set (i := 0) (pv 0) rfl (fun gs => ew_name 1 rfl (pv 1)) T.isiK.cl T.nKp rfl (by simp) ib_nil rfl)
    refine tw_eq (tw_gt (ew_lenTup rfl T.bLen (ew_name 1 rfl (pv 1))) (ew_globI rfl T.gMost)) (decide_eq_false ?_)
    rw [List.length_map]
    omega
theorem scKEq : FnScope ["self", "other"] ["self", "other"] (defScope sKEq) := ⟨rfl, rfl, rfl, by decide +kernel, rfl, by decide +kernel, by decide +kernel⟩
theorem ok_kEq (T : Tx P K mg d) : FnR P w K mg base CX0 6 d.fKEq (spW (α := List PartD × List PartD) (fun _ z => KGood z.1 ∧ KGood z.2) (fun z => [rKey K d z.1, rKey K d z.2]) (fun z => rD K (.bool (decide (z.1 = z.2))))) := by
  obtain ⟨fd, F⟩ := T.kEq
  refine fn_w F scKEq (F.binds fun _ _ _ _ _ _ us hl => match us, hl with | [_, _], _ => rfl) (fun _ => rfl) fun cdv A outer s H E W z hr hp => ⟨none, bw_one (sw_ret ?_), fun _ e => nomatch e⟩
  obtain ⟨ps, qs⟩ := z
  have e : decide (ps = qs) = (true && decide (ps = qs)) := by simp
  show Ew _ W _ _ (rD K (.bool (decide (ps = qs))))
  rw [e]
  refine ew_and (ew_isi (t := .ref d.cKey) (d := true) rfl T.bIsi (ew_name 1 rfl (pv 1)) (ew_cls rfl T.gKey) (.own d.cKey) (isR_ins T.isiK) T.kK) fun _ => ew_one ?_
  rw [← lists_eq]
  have h := rcW_tup (X := (cxOf CX0 P w K mg base ["self", "other"] "Key.__eq__" (defScope sKEq) d.fKEq cdv A outer s H E).nox) (W := W) (eqw_parts T hp.1.2 hp.2.2)
  rw [List.length_map, List.length_map] at h
  exact ew_rc (fun _ _ => rfl) h hr (ew_fld (ew_name 0 rfl (pv 0)) (f := "_parts") rfl T.isiK.cl T.nKp rfl) (ew_fld (ew_name 1 rfl (pv 1)) (f := "_parts") rfl T.isiK.cl T.nKp rfl) rfl
theorem scKLen : FnScope ["self"] ["self"] (defScope sKLen) := ⟨rfl, rfl, rfl, by decide +kernel, rfl, by decide +kernel, by decide +kernel⟩
theorem ok_kLen (T : Tx P K mg d) : FnR P w K mg base CX0 1 d.fKLen (spW (α := List PartD) (fun _ z => True) (fun z => [rKey K d z]) (fun z => rD K (.int z.length))) := by
  obtain ⟨fd, F⟩ := T.kLen
  refine fn_w F scKLen (F.binds fun _ _ _ _ _ _ us hl => match us, hl with | [_], _ => rfl) (fun _ => rfl) fun cdv A outer s H E W z hr hp => ⟨none, bw_one (sw_ret ?_), fun _ e => nomatch e⟩
  show Ew _ W _ _ (rD K (.int z.length))
  rw [← List.length_map (f := rPart K d)]
  exact ew_lenTup rfl T.bLen (ew_fld (ew_name 0 rfl (pv 0)) (f := "_parts") rfl T.isiK.cl T.nKp rfl)
theorem scKAdd : FnScope ["self", "other", "parts"] ["self", "other"] (defScope sKAdd) := ⟨rfl, rfl, rfl, by decide +kernel, rfl, by decide +kernel, by decide +kernel⟩
theorem ok_kAdd (T : Tx P K mg d) : FnR P w K mg base CX0 3 d.fKAdd (spW (α := List PartD × List PartD) (fun _ z => (z.1 ++ z.2).length ≤ 6) (fun z => [rKey K d z.1, rKey K d z.2]) (fun z => rKey K d (z.1 ++ z.2))) := by
  obtain ⟨fd, F⟩ := T.kAdd
  refine fn_w F scKAdd (F.binds fun _ _ _ _ _ _ us hl => match us, hl with | [_, _], _ => rfl) (fun _ => rfl) fun cdv A outer s H E W z hr hp => ⟨none, ?_, fun _ e => nomatch e⟩
  refine bw_cons (N := [some (rKey K d z.1), some (rKey K d z.2), none]) (sw_if (d := false) (tw_not (c := true) (tw_val (ew_isi (t := .ref d.cKey) (d := true) rfl T.bIsi (ew_name 1 rfl (pv 1)) (ew_cls rfl T.gKey) (.own d.cKey) (isR_ins T.isiK) T.kK) (by intro _; rfl))) (fun e => nomatch e) fun _ => bw_nil) ?_
  refine bw_cons (N := [some (rKey K d z.1), some (rKey K d z.2), some (rTup K ((z.1 ++ z.2).map (rPart K d)))]) (sw_set (r := rTup K ((z.1 ++ z.2).map (rPart K d))) 2 ?_ scKAdd.nd rfl (by first | exact .inl rfl | exact .inr rfl)) (bw_one (sw_ret ?_))
  · rw [List.map_append]
    have hp' : z.1.length + z.2.length ≤ 6 := by simpa using hp
    exact ew_catT (ew_fld (ew_name 0 rfl (pv 0)) (f := "_parts") rfl T.isiK.cl T.nKp rfl) (ew_fld (ew_name 1 rfl (pv 1)) (f := "_parts") rfl T.isiK.cl T.nKp rfl) (by rw [List.length_map, List.length_map]; omega)
  · show Ew _ W _ _ (rIns d.cKey (fsKey K d (z.1 ++ z.2)))
    exact ew_makeST (fs := fsKey K d) (z.1 ++ z.2) T.mkKey (ok_kInit T) hr rfl T.gKey (ew_name 2 rfl (pv 2)) hp
/-! ### == and in, len, items of a key -/
theorem scKNeg : FnScope ["self", "parts", "part"] ["self"] (defScope sKNeg) := ⟨rfl, rfl, rfl, by decide +kernel, rfl, by decide +kernel, by decide +kernel⟩
theorem ok_kNeg (T : Tx P K mg d) : FnR P w K mg base CX0 5 d.fKNeg (spW (α := List PartD) (fun _ z => z.length ≤ 6) (fun z => [rKey K d z]) (fun z => rKey K d (z.map negP))) := by
  obtain ⟨fd, F⟩ := T.kNeg
  refine fn_w F scKNeg (F.binds fun _ _ _ _ _ _ us hl => match us, hl with | [_], _ => rfl) (fun _ => rfl) fun cdv A outer s H E W z hr hp => ⟨none, ?_, fun _ e => nomatch e⟩
  refine bw_cons (N := [some (rKey K d z), some (rLst ((z.map negP).map (rPart K d))), none]) ?_ (bw_one (sw_ret ?_))
  · rw [List.map_map, ← range_map _ (fun i => rPart K d (negP (z.getD i ⟨.plain "", false⟩))) z (fun i hi => by rw [List.getD_eq_getElem?_getD, List.getElem?_eq_getElem hi]; rfl)]
    refine sw_lcAll 1 2 (x := "part") _ rfl scKNeg.nd (n := z.length) (item := fun i => (z.map (rPart K d)).getD i rNon) (iw_tupM (ew_fld (ew_name 0 rfl (pv 0)) (f := "_parts") rfl T.isiK.cl T.nKp rfl)) (blkOk_by (N := ["self", "parts", "part"]) (sc := defScope sKNeg) (by decide +kernel)) (by omega) rfl rfl rfl (fun _ _ _ _ _ => pg_name scKNeg.nd rfl (.inl rfl)) ?_
    intro s' H' C cl fp D o i hi
    rw [getD_map hi, List.getD_eq_getElem?_getD, List.getElem?_eq_getElem hi]
    exact ew_negOwn (ra := rPart K d z[i]) (ew_name 2 rfl (pv 2)) (hasM (m := "__neg__") z[i] T.isiP.cl T.mPNeg (ok_pNeg T) hr trivial rfl rfl rfl)
  · show Ew _ W _ _ (rIns d.cKey (fsKey K d (z.map negP)))
    exact ew_makeSL (fs := fsKey K d) (z.map negP) T.mkKey (ok_kInit T) (hr.mono (by decide)) rfl T.gKey (ew_sub (ew_name 1 rfl (pv 1)) fun _ _ => lst_seq) (by simpa using hp)
theorem scKCont : FnScope ["self", "x"] ["self", "x"] (defScope sKCont) := ⟨rfl, rfl, rfl, by decide +kernel, rfl, by decide +kernel, by decide +kernel⟩
theorem any_mem (ps : List PartD) (p : PartD) : anyB (fun i => decide (ps[i]? = some p)) ps.length = decide (p ∈ ps) := by
  by_cases h : p ∈ ps
  · obtain ⟨i, hi, e⟩ := List.getElem_of_mem h
    rw [decide_eq_true h]
    unfold anyB
    rw [List.any_eq_true]
    exact ⟨i, List.mem_range.mpr hi, by rw [List.getElem?_eq_getElem hi, e]; simp⟩
  · rw [decide_eq_false h]
    refine anyB_false fun j hj => decide_eq_false fun e => h (List.mem_of_getElem? e)
theorem ok_kCont (T : Tx P K mg d) : FnR P w K mg base CX0 6 d.fKCont (spW (α := List PartD × PartD) (fun _ z => KGood z.1 ∧ PGood z.2) (fun z => [rKey K d z.1, rPart K d z.2]) (fun z => rD K (.bool (decide (z.2 ∈ z.1))))) := by
  obtain ⟨fd, F⟩ := T.kCont
  refine fn_w F scKCont (F.binds fun _ _ _ _ _ _ us hl => match us, hl with | [_, _], _ => rfl) (fun _ => rfl) fun cdv A outer s H E W z hr hp => ⟨none, bw_one (sw_ret ?_), fun _ e => nomatch e⟩
  obtain ⟨ps, p⟩ := z
  show Ew _ W _ _ (rD K (.bool (decide (p ∈ ps))))
  rw [← any_mem, ← List.length_map (f := rPart K d)]
  refine ew_inTup (n := 4) (fun i q e => ?_) hr (ew_name 1 rfl (pv 1)) (ew_fld (ew_name 0 rfl (pv 0)) (f := "_parts") rfl T.isiK.cl T.nKp rfl) rfl
  rw [List.getElem?_map] at e
  cases e' : ps[i]? with
  | none => rw [e'] at e; cases e
  | some p' =>
    rw [e'] at e
    cases e
    exact (eqw_part T (hp.1.2 p' (List.mem_of_getElem? e')) hp.2).eq (by simp)
theorem scKGet : FnScope ["self", "at"] ["self", "at"] (defScope sKGet) := ⟨rfl, rfl, rfl, by decide +kernel, rfl, by decide +kernel, by decide +kernel⟩
theorem ok_kGet (T : Tx P K mg d) : FnR P w K mg base CX0 3 d.fKGet (spW (α := List PartD × Nat × PartD) (fun _ z => z.1[z.2.1]? = some z.2.2) (fun z => [rKey K d z.1, rD K (.int z.2.1)]) (fun z => rPart K d z.2.2)) := by
  obtain ⟨fd, F⟩ := T.kGet
  obtain ⟨fd', F'⟩ := T.isBetween
  refine fn_w F scKGet (F.binds fun _ _ _ _ _ _ us hl => match us, hl with | [_, _], _ => rfl) (fun _ => rfl) fun cdv A outer s H E W z hr hp => ⟨none, ?_, fun _ e => nomatch e⟩
  obtain ⟨ps, i, p⟩ := z
  have hi : i < ps.length := (List.getElem?_eq_some_iff.mp hp).1
  refine bw_cons (N := [some (rKey K d ps), some (rD K (.int i))]) (sw_if (d := false) (tw_eq (tw_not (tw_val (ew_call ((i : Int), 0, ((ps.map (rPart K d)).length : Int) - 1) (ok_isBetween T) hr F'.kp rfl T.gIsBetween (aw_cons (ew_name 1 rfl (pv 1)) (aw_cons ew_int (aw_cons (ew_subI (ew_lenTup rfl T.bLen (ew_fld (ew_name 0 rfl (pv 0)) (f := "_parts") rfl T.isiK.cl T.nKp rfl)) ew_int) aw_nil))) trivial) (by intro _; rfl))) ?_) (fun e => nomatch e) fun _ => bw_nil) (bw_one (sw_ret ?_))
  · show (!(decide ((0 : Int) ≤ i) && decide ((i : Int) ≤ ((ps.map (rPart K d)).length : Int) - 1))) = false
    rw [List.length_map, decide_eq_true (by omega), decide_eq_true (by omega)] <;> rfl
  · exact ew_ixT i (ew_fld (ew_name 0 rfl (pv 0)) (f := "_parts") rfl T.isiK.cl T.nKp rfl) (ew_name 1 rfl (pv 1)) rfl (by rw [List.getElem?_map, hp]; rfl) (by intro _ _; rfl)
theorem scKParts : FnScope ["self"] ["self"] (defScope sKParts) := ⟨rfl, rfl, rfl, by decide +kernel, rfl, by decide +kernel, by decide +kernel⟩
theorem ok_kParts (T : Tx P K mg d) : FnR P w K mg base CX0 1 d.fKParts (spW (α := List PartD) (fun _ z => True) (fun z => [rKey K d z]) (fun z => rLst (z.map (rPart K d)))) := by
  obtain ⟨fd, F⟩ := T.kParts
  refine fn_w F scKParts (F.binds fun _ _ _ _ _ _ us hl => match us, hl with | [_], _ => rfl) (fun _ => rfl) fun cdv A outer s H E W z hr hp => ⟨none, bw_one (sw_ret ?_), fun _ e => nomatch e⟩
  exact ew_listT rfl T.bList (ew_fld (ew_name 0 rfl (pv 0)) (f := "_parts") rfl T.isiK.cl T.nKp rfl)
theorem rc_key {X : Cx} (T : Tx X.prog X.K X.mg d) {W : Py.World} {p p' : List PartD} (g1 : KGood p) (g2 : KGood p') : RcW X .Eq W 7 (rKey X.K d p) (rKey X.K d p') (decide (p = p')) := by
  refine rcW_own .Eq (fun _ _ => rfl) fun x y H k p1 q1 => ?_
  obtain ⟨a, dx, gs, ex, hi, fl⟩ := p1
  obtain ⟨c, dy, gs', ey, hj, fl'⟩ := q1
  exact ⟨a, c, d.cKey, d.cKey, dx, dy, d.fKEq, gs, gs', _, ex, ey, hi, hj, T.nfK, T.mKEq, ok_kEq T, fun Q n => ⟨W, (p, p'), ⟨g1, g2⟩, k, ⟨⟨a, dx, gs, ex, hi, fl⟩, ⟨c, dy, gs', ey, hj, fl'⟩, trivial⟩, fun v H' k' e' pv => by rw [rD_bl.mp pv]; exact n H' k' e'⟩⟩
end
end K11
namespace K11
open PySem L2 Py NdefX
section
variable {P : Program} {w : PySem.World} {K : PySem.W.Frag} {mg : Str → Option Value} {base : Heap} {d : Ad}
theorem scRInit : NScope ["self", "name", "divisor", "__class__"] ["self", "name", "divisor"] ["__class__"] (defScope sRInit) := nscope_by (by decide +kernel)
abbrev fsRest (K : PySem.W.Frag) (z : Str × Int) : List (Str × Rep) := [("_name", rD K (.str z.1)), ("_divisor", rD K (.int z.2))]
theorem ok_rInit (T : Tx P K mg d) : FnR P w K mg base CX0 3 d.fRInit (spI d.cRest (fun z : Str × Int => Good z.1 ∧ 2 ≤ z.2 ∧ z.2 ≤ 9) (fun z => [rD K (.str z.1), rD K (.int z.2)]) (fsRest K)) := by
  obtain ⟨cda, cc, S⟩ := T.rInit
  obtain ⟨fd', F'⟩ := T.isBetween
  refine fn_super (self := "self") (ps := ["name", "divisor"]) rfl S scRInit (by decide +kernel) rfl rfl rfl (by decide) (fun _ _ _ _ us hl => match us, hl with | [_, _, _], _ => rfl) T.rSup (ok_mInit T (T.isi (.rest "" 0)).cl (T.nName (.rest "" 0))) (fun _ => rfl) (fun _ => rfl) (fun _ => rfl) ?_
  rintro A outer s H vs Q E hr ⟨W, z, x, dx, ws, ev, hp, kH, pr, q⟩
  subst ev
  have hl : ws.length = 2 := pr.len.symm
  refine ⟨x, dx, [], ws, _, _, rfl, hl, kH.2.2, (aw_cons (W := W.hold x (.ins d.cRest dx [])) (rs := [some (rRef x), some (rD K (.str z.1)), some (rD K (.int z.2)), none]) (ew_name 1 rfl (pv 1)) aw_nil),
    (ib_if (W := W) (C := d.cRest) (x := x) (dx := dx) (rs := [some (rRef x), some (rD K (.str z.1)), some (rD K (.int z.2)), none]) (fr := [("_name", rD K (.str z.1))]) (out := fsRest K z)
      (fun gs => tw_eq (tw_not (tw_val (ew_call (z.2, 2, 9) (ok_isBetween T) (hr.mono (by decide)) F'.kp rfl T.gIsBetween (aw_cons (ew_name 2 rfl (pv 2)) (aw_cons ew_int (aw_cons ew_int aw_nil))) trivial) (by intro _; rfl))) ?_)
      (ib_set (i := 0) (pv 0) rfl (fun gs => ew_name 2 rfl (pv 2)) (T.isi (.rest "" 0)).cl (T.nDiv (.rest "" 0)) rfl (by simp) ib_nil rfl)), ?_⟩
  · show (!(decide ((2 : Int) ≤ z.2) && decide (z.2 ≤ 9))) = false
    rw [decide_eq_true hp.2.1, decide_eq_true hp.2.2] <;> rfl
  · have hsg : Sg [some (rRef x), some (rD K (.str z.1)), some (rD K (.int z.2)), none] (startF ["self", "name", "divisor", "__class__"] (.ref x :: ws) [none]) ((W.hold x (.ins d.cRest dx [])).vis H) := by
      match ws, hl, pr with
      | [w1, w2], _, pr => exact ⟨⟨_, rfl, rfl⟩, ⟨_, rfl, pr.1⟩, ⟨_, rfl, pr.2.1⟩, trivial⟩
    refine ⟨kH, hsg, fun vs H' k' e' p' => ⟨W, z.1, x, dx, vs, rfl, hp.1, k', p', fun gs H2 k2 e2 fl2 => ?_⟩⟩
    have e3 : Ex ((W.hold x (.ins d.cRest dx [])).vis H) ((W.hold x (.ins d.cRest dx gs)).vis H2) := e'.trans e2
    exact ⟨gs, k2, fl2, hsg.mono e3, fun gs' H'' σ' k'' e'' fl => q gs' H'' k'' (e3.trans (by rw [hold_any (o := .ins d.cRest dx gs') (o' := .ins d.cRest dx gs)]; exact e'')) fl⟩
end
end K11
namespace Py
open PySem L2
/-! ### the state that numbers are drawn from -/
structure Draws (K : PySem.W.Frag) (W : World) (p l : Addr) (zs : List Int) : Prop where
  hid : W.hd p
  seq : ∀ H, W.ok H → SqL K H l (zs.map V.int)
  rd : ∀ H, W.ok H → ∃ b n : Int, 0 ≤ b ∧ 0 ≤ n ∧ H p = some (.lst [.ref l, .int b, .int n])
  wr : ∀ H (b n : Int), W.ok H → 0 ≤ b → 0 ≤ n → W.ok (upd H p (.lst [.ref l, .int b, .int n]))
section
variable {K : PySem.W.Frag} {W : World} {p l : Addr} {zs : List Int}
theorem Draws.hold (d : Draws K W p l zs) (D : Addr) (o : HO) : Draws K (W.hold D o) p l zs := ⟨.inl d.hid, fun H k => d.seq H k.1, fun H k => d.rd H k.1, fun H b n k hb hn => ⟨d.wr H b n k.1 hb hn, k.2.1, by
  rw [upd_ne (show D ≠ p from fun e => k.2.1 (e ▸ d.hid))]
  exact k.2.2⟩⟩
theorem vis_hid {o : HO} {H : Hp} (h : W.hd p) : W.vis (upd H p o) = W.vis H := by
  funext a
  unfold World.vis upd
  by_cases z : W.hd a
  · rw [if_pos z, if_pos z]
  · rw [if_neg z, if_neg z, if_neg (fun e : a = p => z (by rw [e]; exact h))]
end
/-- an int that is at least 0 -/
abbrev rNN (K : PySem.W.Frag) : Rep := rEx (α := {i : Int // 0 ≤ i}) fun i => rD K (.int i.1)
/-- an int from 0 on, below b -/
abbrev rBel (K : PySem.W.Frag) (b : Int) : Rep := rEx (α := {i : Int // 0 ≤ i ∧ i < b}) fun i => rD K (.int i.1)
abbrev rAnyI (K : PySem.W.Frag) : Rep := rEx (α := Int) fun i => rD K (.int i)
section
variable {X : Cx} {W : World} {rs : Rs} {a b e o tg it : Expr} {r ra rb rc : Rep} {pos pos' : Pos} {O : Outs} {n : Nat} {p l : Addr} {zs : List Int} {s0 : Expr}
theorem ew_st0 (d : Draws X.K W p l zs) (h : Ew X W rs a (rRef p)) (hb : Ew X W rs b (rD X.K (.int 0))) (hs : PlainIx b) : Ew X W rs (.Subscript a b pos) (rRef l) :=
  ew_ix ix_list h hb (fun x y H k px py Q q => by
    obtain ⟨b', n', _, _, e⟩ := d.rd H k
    exact ⟨p, _, 0, .ref l, px, rD_int.mp py, .inl (.inl e), rfl, q _ H k (Ex.refl _) rfl⟩) hs
theorem ew_st1 (d : Draws X.K W p l zs) (h : Ew X W rs a (rRef p)) (hb : Ew X W rs b (rD X.K (.int 1))) (hs : PlainIx b) : Ew X W rs (.Subscript a b pos) (rNN X.K) :=
  ew_ix ix_list h hb (fun x y H k px py Q q => by
    obtain ⟨b', n', hb, hn, e⟩ := d.rd H k
    exact ⟨p, _, 1, .int b', px, rD_int.mp py, .inl (.inl e), rfl, q _ H k (Ex.refl _) ⟨⟨b', hb⟩, Dp.int _⟩⟩) hs
theorem ew_st2 (d : Draws X.K W p l zs) (h : Ew X W rs a (rRef p)) (hb : Ew X W rs b (rD X.K (.int 2))) (hs : PlainIx b) : Ew X W rs (.Subscript a b pos) (rNN X.K) :=
  ew_ix ix_list h hb (fun x y H k px py Q q => by
    obtain ⟨b', n', hb, hn, e⟩ := d.rd H k
    exact ⟨p, _, 2, .int n', px, rD_int.mp py, .inl (.inl e), rfl, q _ H k (Ex.refl _) ⟨⟨n', hn⟩, Dp.int _⟩⟩) hs
theorem sw_st2 (d : Draws X.K W p l zs) (h : Ew X W rs a (rRef p)) (hb : Ew X W rs b (rD X.K (.int 2))) (he : Ew X W rs e (rNN X.K))
    (ha : ∀ v, assign (.Subscript a b pos') X.env v = (do
      let ov ← holding [v] (eval a X.env)
      let iv ← holding [v, ov] (eval b X.env)
      standAt pos'
      holding [v, ov, iv] (setItem ov iv v)
      release [v, ov, iv] []) := by intro _; rfl)
    (hs : swapsWithSole [.Subscript a b pos'] e pos.line X.env = pure false := by rfl) (hw : swappedStores [.Subscript a b pos'] e X.env = pure none := by rfl)
    (h1 : (assignEach [.Subscript a b pos'] X.env).map (·.2) = [assign (.Subscript a b pos') X.env] := by rfl) : Sw X W rs (.Assign [.Subscript a b pos'] e pos) (O.to rs) := by
  refine ps_cs (ps_asg he (pg_sub h hb set_list ha) hs hw h1) fun D σ H ⟨k, g, _, n, _⟩ => ⟨k, g, fun v H1 k1 e1 ⟨i, p1⟩ => ⟨k1, g.mono e1, fun x H2 k2 e2 p2 => ⟨k2, g.mono (e1.trans e2), fun y H3 k3 e3 p3 => ?_⟩⟩⟩
  obtain ⟨b', n', hb', hn, e⟩ := d.rd H3 k3
  refine ⟨p, _, 2, 2, p2, rD_int.mp p3, e, rfl, ?_⟩
  rw [rD_int.mp p1]
  have ev : W.vis (upd H3 p (.lst [.ref l, .int b', .int i.1])) = W.vis H3 := vis_hid d.hid
  refine n rs rfl σ _ (d.wr H3 b' i.1 k3 hb' i.2) ?_ ?_
  · show Ex (W.vis H) (W.vis (upd H3 p (.lst [.ref l, .int b', .int i.1])))
    rw [ev]
    exact (e1.trans e2).trans e3
  · show Sg rs σ (W.vis (upd H3 p (.lst [.ref l, .int b', .int i.1])))
    rw [ev]
    exact g.mono ((e1.trans e2).trans e3)
/-- len(script), script[k], the script set apart or not -/
theorem ew_lenH {p0 : Pos} {xs : List V} (hs : ∀ H, W.ok H → SqL X.K H l xs) (hg : Gl X "len") (hm : X.mg "len" = none) (ha : Ew X W rs a (rRef l)) (he : starEach [a] X.env = (false, eval a X.env) :: starEach [] X.env := by rfl) (hpl : (backTo pos (starEach [] X.env)).any (·.1) = false := by rfl) : Ew X W rs (.Call (.Name "len" p0) [a] [] pos) (rD X.K (.int xs.length)) :=
  ew_callB call_len_seq hg hm PySem.boot_len ha (fun v H k pv Q q => ⟨l, xs, by rw [show v = .ref l from pv], .inl (hs H k), q _ H k (Ex.refl _) (Dp.int _)⟩) (by decide) (by decide) he hpl
theorem ew_ixH {zs : List Int} {i : Int} (hs : ∀ H, W.ok H → SqL X.K H l (zs.map V.int)) (ha : Ew X W rs a (rRef l)) (hb : Ew X W rs b (rD X.K (.int i))) (h0 : 0 ≤ i) (h1 : i < zs.length) (hx : PlainIx b) : Ew X W rs (.Subscript a b pos) (rAnyI X.K) :=
  ew_ix ix_list ha hb (fun x y H k px py Q q => by
    have e : (zs.map V.int)[i.toNat]? = some (.int (zs[i.toNat]'(by omega))) := by rw [List.getElem?_map, List.getElem?_eq_getElem (by omega)]; rfl
    refine ⟨l, zs.map V.int, i, .int (zs[i.toNat]'(by omega)), px, rD_int.mp py, hs H k, ?_, q _ H k (Ex.refl _) ⟨zs[i.toNat]'(by omega), Dp.int _⟩⟩
    exact at_nat (by omega) e) hx
/-! ### values that are not told -/
theorem R2w.exr2 {α β : Type} {f : R2} {g : α → Rep} {h : β → Rep} (q : ∀ c c', R2w W f (g c) (h c') rc) : R2w W f (rEx g) (rEx h) rc := R2w.exl fun c => R2w.exr fun c' => q c c'
theorem R2w.in {α : Type} {f : R2} {g : α → Rep} (c : α) (h : R2w W f ra rb (g c)) : R2w W f ra rb (rEx g) := fun x y H k p q Q n => h x y H k p q Q fun v H' k' e' pv => n v H' k' e' ⟨c, pv⟩
/-- an expression whose reading is told under a value that is not -/
theorem ew_exCall {α : Type} {x : Str} {es : List Expr} {p0 : Pos} {k : Nat} {f : Addr} {ι : Type} {pre : World → α → Prop} {args : α → List Rep} {res : α → Rep} {rl : List Rep} (z : ι → α) (hz : ∀ vs H, Reps rl vs H → ∃ i, Reps (args (z i)) vs H) (F : FnC X k f (spW pre args res)) (hr : Room k X.A) (hk : PySem.W.keepIn X.K (.ref f) = true) (hg : Gl X x) (hm : X.mg x = some (.ref f))
    (ha : Aw X W rs (e :: es) rl) (hp : ∀ i, pre W (z i)) (hrc : ∀ i v H, (res (z i)).p v H → rc.p v H) (hdb : (x == ("__debug__" : Str)) = false := by decide) (he : starEach (e :: es) X.env = (false, eval e X.env) :: starEach es X.env := by rfl) (hpl : (backTo pos (starEach es X.env)).any (·.1) = false := by rfl) :
    Ew X W rs (.Call (.Name x p0) (e :: es) [] pos) rc :=
  pe_cs (pe_callR F hr hk hg hm ha hdb he hpl) fun σ H Q ⟨k, g, q⟩ => ⟨k, g, fun vs H1 k1 e1 p1 => let ⟨i, p2⟩ := hz vs _ p1; ⟨W, z i, hp i, k1, p2, fun v H2 k2 e2 p2 => q v H2 k2 (e1.trans e2) (hrc i _ _ p2)⟩⟩
/-- how often is not told -/
def iWe {α : Type} (W : World) (rs : Rs) (n : α → Nat) (item : Nat → Rep) : TI := fun σ H R => W.ok H ∧ Sg rs σ (W.vis H) ∧ ∀ (c : α) (J : It) (G : Hp → Prop) (Y : Nat → Hp → V → Hp → Prop) (H1 : Hp), Walk J (n c) G Y → W.ok H1 → Ex (W.vis H) (W.vis H1) →
  (∀ H2, W.ok H2 → Ex (W.vis H1) (W.vis H2) → G H2) → (∀ i x H2 H3, i < n c → Y i H2 x H3 → (H3 = H2 ∧ ∀ G2, Ex (W.vis H1) G2 → Ex G2 H2 → (item i).p x G2) ∨ ∃ T o, H2 T = none ∧ H3 = upd H2 T o ∧ ∀ G2, Ex (W.vis H1) G2 → Ex G2 H2 → (item i).p x (upd G2 T o)) → R J H1
theorem ie_range1 {α : Type} {p : Pos} {j : α → Int} (hg : Gl X "range") (hm : X.mg "range" = none) (h : Ew X W rs a (rEx fun c => rD X.K (.int (j c)))) (hj : ∀ c, -(2 ^ 62) ≤ j c ∧ j c < 2 ^ 62) (hs : starEach [a] X.env = [(false, eval a X.env)] := by rfl) :
    PI X tg (.Call (.Name "range" p) [a] [] pos) (iWe W rs (fun c => (j c).toNat) (fun i => rD X.K (.int i))) := by
  refine pi_cs (pi_range1 hg hm (aw_cons h aw_nil hs) hs) ?_
  rintro σ H R ⟨k, g, q⟩
  refine ⟨k, g, ?_⟩
  intro vs H1 k1 e1 hp
  obtain ⟨x, rfl, c, p⟩ := reps1 hp
  refine ⟨j c, by rw [rD_int.mp p], (hj c).1, (hj c).2, q c (Itr 0 (j c).toNat) (fun _ => True) _ H1 walk_range k1 e1 (fun _ _ _ => trivial) ?_⟩
  rintro i x H2 H3 hi ⟨eH, hx⟩
  exact .inl ⟨eH, fun G2 _ _ => rD_int.mpr (hx.trans (congrArg V.int (Int.zero_add _)))⟩
theorem lc_readE {α : Type} {N : α → Nat} {B : Nat} {item : Nat → Rep} {ifs : List Expr} {vs : List Nat} {g : TG} (f : Nat → Rep) (Ms : Nat → Rs) (hB : ∀ c, N c ≤ B) (hn : B ≤ 1000) (hown : ∀ i, i < B → OwnG X.K g vs (wipeR rs vs) (item i) (Ms i)) {σ : St} {H : Hp} {Q : VK} (h : tW W rs (rEx fun c => rLst ((List.range (N c)).map f)) σ H Q) :
    tLc (iWe W rs N item) g (fun σ H Q => ∃ D o i, i < B ∧ tWT (W.hold D o) (Ms i) true σ H Q) (fun σ H Q => ∃ D o i, i < B ∧ tW (W.hold D o) (Ms i) (f i) σ H Q) vs σ H Q := by
  obtain ⟨k, g0, q⟩ := h
  refine ⟨k, g0, ?_⟩
  intro c J G Y H1 w k1 e1 hGk hY D hD
  have hB := hB c
  have nd : ¬ W.hd D := World.free k1 hD
  have vD : W.vis H1 D = none := World.visNone hD
  refine lc_it (D := D) (g := g) (tt := fun σ H Q => ∃ D o i, i < B ∧ tWT (W.hold D o) (Ms i) true σ H Q) (te := fun σ H Q => ∃ D o i, i < B ∧ tW (W.hold D o) (Ms i) (f i) σ H Q) (vs := vs) (Qd := fun H => Q (.ref D) H) w
    (fun i H' => W.ok H' ∧ Ex (W.vis H1) (W.vis H') ∧ ∃ acc, H' D = some (.lst acc) ∧ Reps (takes f (fun _ => true) i) acc ((W.hold D (.lst [])).vis H')) ?_ ?_ ?_ ?_
  · exact ⟨World.okNew k1 hD, World.visEx k1 (Ex.new hD), [], upd_same, trivial⟩
  · intro i H' _ p
    exact hGk H' p.1 p.2.1
  · rintro i x H' H'' hi' ⟨k', e', acc, hDa, hR⟩ hy
    have kW : (W.hold D (.lst acc)).ok H' := ⟨k', nd, hDa⟩
    have eG : Ex (W.vis H1) ((W.hold D (.lst acc)).vis H') := hold_of vD e'
    have hR : Reps (takes f (fun _ => true) i) acc ((W.hold D (.lst acc)).vis H') := by rw [hold_any (o' := .lst [])]; exact hR
    obtain ⟨k2, e2, p2⟩ : (W.hold D (.lst acc)).ok H'' ∧ Ex ((W.hold D (.lst acc)).vis H') ((W.hold D (.lst acc)).vis H'') ∧ (item i).p x ((W.hold D (.lst acc)).vis H'') := by
      rcases hY i x H' H'' hi' hy with ⟨rfl, hp2⟩ | ⟨T, o, hT, rfl, hp2⟩
      · exact ⟨kW, Ex.refl _, hp2 _ eG (World.sub _ _)⟩
      · exact ⟨World.okNew kW hT, World.visEx kW (Ex.new hT), by rw [World.visNew kW hT]; exact hp2 _ eG (World.sub _ _)⟩
    have hiB : i < B := Nat.lt_of_lt_of_le hi' hB
    refine (hown i hiB).run x σ H'' _ ((g0.mono (e1.trans (eG.trans e2))).wipe) (World.sub _ _) p2 _ fun σ2 hw g2 => ⟨hw, D, .lst acc, i, hiB, k2, g2, fun H3 k3 e3 => ?_⟩
    refine iteT ⟨D, .lst acc, i, hiB, k3, g2.mono e3, fun y H4 k4 e4 p4 => ⟨acc, k4.2.2, small1000 ?_, ?_, ?_, acc ++ [y], upd_same, ?_⟩⟩
    · rw [← hR.len]
      have := takes_len f (fun _ => true) i
      omega
    · exact W.keep k4.1 fun a z => upd_ne (fun q => nd (q ▸ z))
    · refine (eG.trans (((e2.trans e3).trans e4).trans ?_))
      rw [← hold_upd (o := .lst []) (u := .lst (acc ++ [y]))]
      exact hold_sub
    · rw [takes_yes rfl, hold_upd (o' := .lst acc)]
      exact (hR.mono ((e2.trans e3).trans e4)).snoc p4
  · rintro H' ⟨k', e', acc, hDa, hR⟩
    rw [takes_all] at hR
    exact q _ H' k' (e1.trans e') ⟨c, D, acc, rfl, by rw [World.seen nd]; exact hDa, hR.mono hold_sub⟩
/-- y = [e for x in range(..)], how often is not told -/
theorem sw_lcE {α : Type} {N : α → Nat} {elt : Expr} {item : Nat → Rep} {scope : Scope} {spos py : Pos} (jy j : Nat) {y x : Str} (B : Nat) (f : Nat → Rep) (hc : X.calm = true) (hN : X.N.Nodup) (hi : PI X tg it (iWe W rs N item)) (hB : ∀ c, N c ≤ B) (ok : BlkOk X.N X.env.scope scope [(x, j)]) (hn : B ≤ 1000)
    (hy : X.N[jy]? = some y) (hyl : X.env.scope.names.lookup y = some .local) (hsw : swapsWith (.ListComp elt [⟨tg, it, [], 0⟩] scope pos) (some (.Name y py)) spos.line X.env = pure true)
    (hg : ∀ (s : Shared) (H : Hp) (C : Addr) (cl : List (Str × Addr)) (fp : List Addr), PG (X.blk s H scope (compEnvC scope cl C X.env) fp) tg (gName j))
    (he : ∀ (s : Shared) (H : Hp) (C : Addr) (cl : List (Str × Addr)) (fp : List Addr) (D : Addr) (o : HO) (i : Nat), i < B → Ew (X.blk s H scope (compEnvC scope cl C X.env) fp) (W.hold D o) ((wipeR rs [j]).set j (some (item i))) elt (f i))
    (hs : ∀ x, foldedSetIterable it X.env x = pure x := by intro _; rfl) : Sw X W rs (.Assign [.Name y py] (.ListComp elt [⟨tg, it, [], 0⟩] scope pos) spos) (O.to (rs.set jy (some (rEx fun c => rLst ((List.range (N c)).map f))))) :=
  ps_cs (ps_setLc hc hN hy hyl hsw hi ok hg (tt := fun σ H Q => ∃ D o i, i < B ∧ tWT (W.hold D o) ((wipeR rs [j]).set j (some (item i))) true σ H Q) (fun s H C cl fp => ⟨fun pins s' σ H' Q I ⟨D, o, i, hi, q⟩ => pts_yes.run pins s' σ H' Q I q⟩)
    (te := fun σ H Q => ∃ D o i, i < B ∧ tW (W.hold D o) ((wipeR rs [j]).set j (some (item i))) (f i) σ H Q) (fun s H C cl fp => ⟨fun pins s' σ H' Q I ⟨D, o, i, hi, q⟩ => (he s H C cl fp D o i hi).run pins s' σ H' Q I q⟩) hs) fun D σ H ⟨k, g, r, nx, _⟩ =>
    lc_readE (X := X) (ifs := []) f (fun i => (wipeR rs [j]).set j (some (item i))) hB hn (fun i hi => own_name) ⟨k, g, fun v H' k' e' p' => nx _ rfl _ H' k' e' ((g.mono e').set p')⟩
/-- a list of such things that are not told -/
theorem reps_ex {α : Type} {g : α → Rep} : ∀ {n : Nat} {xs : List V} {H : Hp}, Reps (List.replicate n (rEx g)) xs H → ∃ qs : List α, qs.length = n ∧ Reps (qs.map g) xs H
  | 0, [], _, _ => ⟨[], rfl, trivial⟩
  | n + 1, x :: xs, H, h => by
    obtain ⟨⟨q, hq⟩, h2⟩ := h
    obtain ⟨qs, e, h3⟩ := reps_ex h2
    exact ⟨q :: qs, by rw [List.length_cons, e], hq, h3⟩
  | 0, _ :: _, _, h => h.elim
  | _ + 1, [], _, h => h.elim
theorem lst_ex {α : Type} {g : α → Rep} {n : Nat} {v : V} {H : Hp} (h : (rLst ((List.range n).map fun _ => rEx g)).p v H) : ∃ qs : List α, qs.length = n ∧ (rLst (qs.map g)).p v H := by
  obtain ⟨a, xs, e, h1, h2⟩ := h
  rw [List.map_const', List.length_range] at h2
  obtain ⟨qs, e2, h3⟩ := reps_ex h2
  exact ⟨qs, e2, a, xs, e, h1, h3⟩
theorem bw_nilN {X : Cx} {W : World} {rs : Rs} {O : Outs} (h : O.nx = some rs) : Bw X W rs [] O := pss_cs pss_nil fun D σ H ⟨k, g, _, n, _⟩ => n rs h σ H k (Ex.refl _) g
theorem sg_wipe : ∀ {rs : Rs} {σ : St} {H : Hp} {i : Nat}, Sg rs σ H → Sg (rs.set i none) σ H
  | [], [], _, _, _ => trivial
  | some _ :: _, _ :: _, _, 0, h => h.2
  | none :: _, _ :: _, _, 0, h => h
  | some _ :: _, _ :: _, _, i + 1, h => ⟨h.1, sg_wipe (i := i) h.2⟩
  | none :: rs, _ :: σ, H, i + 1, h => sg_wipe (rs := rs) (σ := σ) (H := H) (i := i) h
  | [], _ :: _, _, _, h => h.elim
  | some _ :: _, [], _, _, h => h.elim
  | none :: _, [], _, _, h => h.elim
/-- a slot is forgotten -/
theorem bw_wipe {X : Cx} {W : World} {rs : Rs} {sts : List Stmt} {O : Outs} (i : Nat) (h : Bw X W (rs.set i none) sts O) : Bw X W rs sts O := pss_cs h fun D σ H ⟨k, g, q⟩ => ⟨k, sg_wipe g, q⟩
end
end Py
namespace K11
open PySem L2 Py
/-! ### the law's helpers -/
abbrev sCellAt : Stmt := top 55
abbrev sDraw : Stmt := top 56
abbrev sNumber : Stmt := top 57
abbrev sNext : Stmt := top 58
abbrev sPick : Stmt := top 59
abbrev sCell : Stmt := top 60
abbrev sMeasured : Stmt := top 61
abbrev sMade : Stmt := top 62
abbrev sCands : Stmt := top 63
abbrev sOutcome : Stmt := top 64
abbrev sLPart : Stmt := top 65
abbrev sSorted : Stmt := top 66
abbrev sDrawn : Stmt := top 67
abbrev sLTable : Stmt := top 68
abbrev sLKey : Stmt := top 69
abbrev sTurns : Stmt := top 70
abbrev sIsSteady : Stmt := top 71
abbrev sIsFall : Stmt := top 72
abbrev sOfSize : Stmt := top 73
abbrev sSets : Stmt := top 74
abbrev sAscends : Stmt := top 75
abbrev sShown : Stmt := top 76
abbrev sLPlaces : Stmt := top 77
abbrev sOneRight : Stmt := top 78
abbrev sLaw : Stmt := top 79
structure Ld where
  (fCellAt fDraw fNumber fNext fPick fCell fMeasured fMade fCands fOutcome fLPart fSorted fDrawn fLTable fLKey fTurns fIsSteady fIsFall fOfSize fSets fAscends fShown fLPlaces fOneRight : Addr)
structure Lx (P : Program) (K : PySem.W.Frag) (mg : Str → Option Value) (d : Ad) (e : Ld) : Prop where
  T : Tx P K mg d
  bRange : mg "range" = none
  bMax : mg "max" = none
  bMin : mg "min" = none
  bEnum : mg "enumerate" = none
  gCellAt : mg "_law_cell_at" = some (.ref e.fCellAt)
  lCellAt : ∃ fd, Fun K "_law_cell_at" "_law_cell_at" sCellAt e.fCellAt fd
  gDraw : mg "_law_draw" = some (.ref e.fDraw)
  lDraw : ∃ fd, Fun K "_law_draw" "_law_draw" sDraw e.fDraw fd
  gNumber : mg "_law_number" = some (.ref e.fNumber)
  lNumber : ∃ fd, Fun K "_law_number" "_law_number" sNumber e.fNumber fd
  gNext : mg "_law_next" = some (.ref e.fNext)
  lNext : ∃ fd, Fun K "_law_next" "_law_next" sNext e.fNext fd
  gPick : mg "_law_pick" = some (.ref e.fPick)
  lPick : ∃ fd, Fun K "_law_pick" "_law_pick" sPick e.fPick fd
  gCell : mg "_law_cell" = some (.ref e.fCell)
  lCell : ∃ fd, Fun K "_law_cell" "_law_cell" sCell e.fCell fd
  gMeasured : mg "_law_measured" = some (.ref e.fMeasured)
  lMeasured : ∃ fd, Fun K "_law_measured" "_law_measured" sMeasured e.fMeasured fd
  gMade : mg "_law_made" = some (.ref e.fMade)
  lMade : ∃ fd, Fun K "_law_made" "_law_made" sMade e.fMade fd
  gCands : mg "_law_candidates" = some (.ref e.fCands)
  lCands : ∃ fd, Fun K "_law_candidates" "_law_candidates" sCands e.fCands fd
  gOutcome : mg "_law_outcome" = some (.ref e.fOutcome)
  lOutcome : ∃ fd, Fun K "_law_outcome" "_law_outcome" sOutcome e.fOutcome fd
  gLPart : mg "_law_part" = some (.ref e.fLPart)
  lLPart : ∃ fd, Fun K "_law_part" "_law_part" sLPart e.fLPart fd
  gSorted : mg "_law_sorted" = some (.ref e.fSorted)
  lSorted : ∃ fd, Fun K "_law_sorted" "_law_sorted" sSorted e.fSorted fd
  gDrawn : mg "_law_drawn" = some (.ref e.fDrawn)
  lDrawn : ∃ fd, Fun K "_law_drawn" "_law_drawn" sDrawn e.fDrawn fd
  gLTable : mg "_law_table" = some (.ref e.fLTable)
  lLTable : ∃ fd, Fun K "_law_table" "_law_table" sLTable e.fLTable fd
  gLKey : mg "_law_key" = some (.ref e.fLKey)
  lLKey : ∃ fd, Fun K "_law_key" "_law_key" sLKey e.fLKey fd
  gTurns : mg "_law_turns" = some (.ref e.fTurns)
  lTurns : ∃ fd, Fun K "_law_turns" "_law_turns" sTurns e.fTurns fd
  gIsSteady : mg "_law_is_steady" = some (.ref e.fIsSteady)
  lIsSteady : ∃ fd, Fun K "_law_is_steady" "_law_is_steady" sIsSteady e.fIsSteady fd
  gIsFall : mg "_law_is_fall" = some (.ref e.fIsFall)
  lIsFall : ∃ fd, Fun K "_law_is_fall" "_law_is_fall" sIsFall e.fIsFall fd
  gOfSize : mg "_law_of_size" = some (.ref e.fOfSize)
  lOfSize : ∃ fd, Fun K "_law_of_size" "_law_of_size" sOfSize e.fOfSize fd
  gSets : mg "_law_sets" = some (.ref e.fSets)
  lSets : ∃ fd, Fun K "_law_sets" "_law_sets" sSets e.fSets fd
  gAscends : mg "_law_ascends" = some (.ref e.fAscends)
  lAscends : ∃ fd, Fun K "_law_ascends" "_law_ascends" sAscends e.fAscends fd
  gShown : mg "_law_shown" = some (.ref e.fShown)
  lShown : ∃ fd, Fun K "_law_shown" "_law_shown" sShown e.fShown fd
  gLPlaces : mg "_law_places" = some (.ref e.fLPlaces)
  lLPlaces : ∃ fd, Fun K "_law_places" "_law_places" sLPlaces e.fLPlaces fd
  gOneRight : mg "_law_one_right" = some (.ref e.fOneRight)
  lOneRight : ∃ fd, Fun K "_law_one_right" "_law_one_right" sOneRight e.fOneRight fd
theorem r2_ixL' {W : Py.World} {K : PySem.W.Frag} {rl : List Rep} {r : Rep} {z : Int} {i : Nat} (hz : z = (i : Int)) (hr : rl[i]? = some r) : R2w W (rIxL K) (rSeq K rl) (rD K (.int z)) r := fun x y H k ⟨p, xs, ex, hs, h⟩ q Q n => by
  obtain ⟨v, h1, h2⟩ := h.get hr
  exact ⟨p, xs, z, v, ex, rD_int.mp q, sqL_mono (W.sub H) hs, at_nat hz h1, n _ H k (Ex.refl _) h2⟩
theorem r2_eqDK {W : Py.World} {K : PySem.W.Frag} {d d' : PyData} (h1 : SeqAt.shaped d = true) (h2 : SeqAt.shaped d' = true) : R2w W (rEqD K) (rD K d) (rD K d') (rD K (.bool (PyData.eqv d d'))) := fun x y H k p q Q h =>
  ⟨d, d', dp_mono (W.sub H) p, dp_mono (W.sub H) q, h1, h2, h _ H k (Ex.refl _) (Dp.bl _)⟩
theorem r2_inDK {W : Py.World} {K : PySem.W.Frag} {d : PyData} {ds : List PyData} (h1 : SeqAt.shaped d = true) (h2 : SeqAt.shaped (.list ds) = true) : R2w W (rInD K) (rD K d) (rD K (.list ds)) (rD K (.bool (ds.any fun z => PyData.eqv z d))) := fun x y H k p q Q h => by
  exact ⟨d, ds, dp_mono (W.sub H) p, dp_mono (W.sub H) q, h1, h2, h _ H k (Ex.refl _) (Dp.bl _)⟩
theorem r2_IKc {W : Py.World} {K : PySem.W.Frag} {C : Int → Int → Prop} {g : Int → Int → V} {i j : Int} {d : PyData} (hc : C i j) (hd : ∀ H, Dp K H (g i j) d) : R2w W (rI C g) (rD K (.int i)) (rD K (.int j)) (rD K d) := fun x y H k p q Q h => ⟨i, j, rD_int.mp p, rD_int.mp q, hc, h _ H k (Ex.refl _) (hd _)⟩
section
variable {P : Program} {w : PySem.World} {K : PySem.W.Frag} {mg : Str → Option Value} {base : Heap} {d : Ad} {e : Ld}
theorem scCellAt : FnScope ["_law_script", "_law_k"] ["_law_script", "_law_k"] (defScope sCellAt) := ⟨rfl, rfl, rfl, by decide +kernel, rfl, by decide +kernel, by decide +kernel⟩
theorem ok_cellAt (L : Lx P K mg d e) : FnR P w K mg base CX0 1 e.fCellAt (spW (α := Addr × List Int × Int) (fun W z => (∀ H, W.ok H → SqL K H z.1 (z.2.1.map V.int)) ∧ 0 ≤ z.2.2) (fun z => [rRef z.1, rD K (.int z.2.2)]) (fun _ => rAnyI K)) := by
  obtain ⟨fd, F⟩ := L.lCellAt
  refine fn_w F scCellAt (F.binds fun _ _ _ _ _ _ us hl => match us, hl with | [_, _], _ => rfl) (fun _ => rfl) fun cdv A outer s H E W z hr hp => ⟨none, ?_, fun _ e => nomatch e⟩
  obtain ⟨l, zs, k⟩ := z
  refine bw_cons (N := [some (rRef l), some (rD K (.int k))]) (sw_if (tw_lt (ew_name 1 rfl (pv 1)) (ew_lenH hp.1 rfl L.T.bLen (ew_name 0 rfl (pv 0)))) (fun h => bw_one (sw_nx (sw_ret ?_))) fun _ => bw_nil) (bw_one (sw_ret (ew_in 0 ew_int)))
  exact ew_ixH (zs := zs) hp.1 (ew_name 0 rfl (pv 0)) (ew_name 1 rfl (pv 1)) hp.2 (by simpa using h) (by intro _ _; rfl)
theorem scDraw : FnScope ["_law_cell_here", "_law_k", "_law_below", "_law_primes"] ["_law_cell_here", "_law_k", "_law_below"] (defScope sDraw) := ⟨rfl, rfl, rfl, by decide +kernel, rfl, by decide +kernel, by decide +kernel⟩
def primes : List Int := [1000003, 1000033, 1000037, 1000039, 1000081, 1000099, 1000117, 1000121, 1000133, 1000151, 1000159, 1000171, 1000183, 1000187, 1000193, 1000199]
theorem ok_draw (L : Lx P K mg d e) : FnR P w K mg base CX0 1 e.fDraw (spW (α := Int × Int × Int) (fun W z => (-(2 ^ 64) < z.1 ∧ z.1 < 2 ^ 64) ∧ (-(2 ^ 64) < z.2.1 ∧ z.2.1 < 2 ^ 64) ∧ 0 < z.2.2) (fun z => [rD K (.int z.1), rD K (.int z.2.1), rD K (.int z.2.2)]) (fun z => rBel K z.2.2)) := by
  obtain ⟨fd, F⟩ := L.lDraw
  refine fn_w F scDraw (F.binds fun _ _ _ _ _ _ us hl => match us, hl with | [_, _, _], _ => rfl) (fun _ => rfl) fun cdv A outer s H E W z hr hp => ⟨none, ?_, fun _ e => nomatch e⟩
  obtain ⟨c, k, b⟩ := z
  obtain ⟨h1, h2, h3⟩ := hp
  refine bw_cons (N := [some (rD K (.int c)), some (rD K (.int k)), some (rD K (.int b)), some (rD K (.tuple (primes.map .int)))]) (sw_set (r := rD K (.tuple (primes.map .int))) 3 (ew_tupD (aw_cons ew_int (aw_cons ew_int (aw_cons ew_int (aw_cons ew_int (aw_cons ew_int (aw_cons ew_int (aw_cons ew_int (aw_cons ew_int (aw_cons ew_int (aw_cons ew_int (aw_cons ew_int (aw_cons ew_int (aw_cons ew_int (aw_cons ew_int (aw_cons ew_int (aw_cons ew_int aw_nil)))))))))))))))) (by decide)) scDraw.nd rfl (.inl rfl)) (bw_one (sw_ret ?_))
  have hk : 0 ≤ k % 16 ∧ k % 16 < 16 := by omega
  have hq : ∃ q, primes[(k % 16).toNat]? = some q ∧ 0 < q := by
    have hl : (k % 16).toNat < primes.length := by show (k % 16).toNat < 16; omega
    refine ⟨primes[(k % 16).toNat], List.getElem?_eq_getElem hl, ?_⟩
    have : ∀ q ∈ primes, 0 < q := by decide
    exact this _ (List.getElem_mem hl)
  obtain ⟨q, hq1, hq2⟩ := hq
  exact ew_in (α := {i : Int // 0 ≤ i ∧ i < b}) ⟨_, Int.emod_nonneg _ (Int.ne_of_gt h3), Int.emod_lt_of_pos _ h3⟩ (ew_mod (ew_mod (ew_add (ew_mul (ew_name 0 rfl (pv 0)) ew_int (.inl h1)) (ew_mul (ew_name 1 rfl (pv 1)) ew_int (.inl h2))) (ew_ixTD (d := .int q) (k % 16).toNat (ew_name 3 rfl (pv 3)) (ew_mod (ew_name 1 rfl (pv 1)) ew_int (by decide)) (by omega) (by rw [List.getElem?_map, hq1]; rfl) (by intro _ _; rfl)) hq2) (ew_name 2 rfl (pv 2)) h3)
theorem scNumber : FnScope ["_law_cell_here", "_law_k", "_law_below", "_law_power", "_law_times", "_law_remains", "_law_small"] ["_law_cell_here", "_law_k", "_law_below"] (defScope sNumber) := ⟨rfl, rfl, rfl, by decide +kernel, rfl, by decide +kernel, by decide +kernel⟩
theorem ok_number (L : Lx P K mg d e) : FnR P w K mg base CX0 2 e.fNumber (spW (α := Int × Int × Int) (fun W z => (0 ≤ z.2.1 ∧ z.2.1 < 24) ∧ 0 < z.2.2) (fun z => [rD K (.int z.1), rD K (.int z.2.1), rD K (.int z.2.2)]) (fun z => rBel K z.2.2)) := by
  obtain ⟨fd, F⟩ := L.lNumber
  obtain ⟨fd', F'⟩ := L.lDraw
  refine fn_w F scNumber (F.binds fun _ _ _ _ _ _ us hl => match us, hl with | [_, _, _], _ => rfl) (fun _ => rfl) fun cdv A outer s H E W z hr hp => ⟨none, ?_, fun _ e => nomatch e⟩
  obtain ⟨c, k, b⟩ := z
  obtain ⟨h1, h2⟩ := hp
  change 0 ≤ k ∧ k < 24 at h1
  change 0 < b at h2
  have hkk : 0 ≤ k % 24 ∧ k % 24 < 24 := by omega
  refine bw_cons (N := [some (rD K (.int c)), some (rD K (.int k)), some (rD K (.int b)), some (rD K (.int 1)), none, none, none]) (sw_set 3 ew_int scNumber.nd rfl (.inl rfl)) ?_
  refine bw_cons (N := [some (rD K (.int c)), some (rD K (.int k)), some (rD K (.int b)), some (rD K (.int (1009 ^ (k % 24).toNat))), none, none, none]) (sw_for (fun i => [some (rD K (.int c)), some (rD K (.int k)), some (rD K (.int b)), some (rD K (.int (1009 ^ i))), none, none, none]) (fun i => [some (rD K (.int c)), some (rD K (.int k)), some (rD K (.int b)), some (rD K (.int (1009 ^ i))), some (rD K (.int i)), none, none]) rfl rfl (iw_range1 rfl L.bRange (ew_mod (ew_name 1 rfl (pv 1)) ew_int (by decide)) (by omega)) (fun i hi => gw_name 4 (pg_name scNumber.nd rfl (.inl rfl))) (fun i hi => ?_) .never rfl) ?_
  · refine bw_cons (N := [some (rD K (.int c)), some (rD K (.int k)), some (rD K (.int b)), some (rD K (.int (1009 ^ i * 1009))), some (rD K (.int i)), none, none]) (sw_set (r := rD K (.int (1009 ^ i * 1009))) 3 (ew_mul (ew_name 3 rfl (pv 3)) ew_int (.inr (by decide))) scNumber.nd rfl (.inl rfl)) (bw_wipe 4 (bw_nilN ?_))
    show some [some (rD K (.int c)), some (rD K (.int k)), some (rD K (.int b)), some (rD K (.int (1009 ^ (i + 1)))), none, none, none] = _
    rw [Int.pow_succ] <;> rfl
  have hpw : CDivW (c - 10 ^ (18 : Int).toNat) (1009 ^ (k % 24).toNat) := by
    have : ∀ j : Nat, j < 24 → (0 : Int) < 1009 ^ j ∧ ((1009 : Int) ^ j).natAbs.log2 < 9000 := by decide +kernel
    exact this _ (by omega)
  refine bw_cons (N := [some (rD K (.int c)), some (rD K (.int k)), some (rD K (.int b)), some (rD K (.int (1009 ^ (k % 24).toNat))), none, some (rD K (.int ((c - 10 ^ (18 : Int).toNat) / 1009 ^ (k % 24).toNat))), none]) (sw_set 5 (ew_fdivW (ew_subI (ew_name 0 rfl (pv 0)) (ew_pow ew_int ew_int ⟨by decide, by decide, by decide⟩)) (ew_name 3 rfl (pv 3)) hpw) scNumber.nd rfl (.inl rfl)) ?_
  refine bw_cons (N := [some (rD K (.int c)), some (rD K (.int k)), some (rD K (.int b)), some (rD K (.int (1009 ^ (k % 24).toNat))), none, some (rD K (.int ((c - 10 ^ (18 : Int).toNat) / 1009 ^ (k % 24).toNat))), none]) (sw_if (tw_gt (ew_name 5 rfl (pv 5)) ew_int) (fun h => bw_one (sw_nx (sw_ret ?_))) fun _ => bw_nil) ?_
  · exact ew_in (α := {i : Int // 0 ≤ i ∧ i < b}) ⟨_, Int.emod_nonneg _ (Int.ne_of_gt h2), Int.emod_lt_of_pos _ h2⟩ (ew_mod (ew_mod (ew_name 5 rfl (pv 5)) ew_int (by decide)) (ew_name 2 rfl (pv 2)) h2)
  refine bw_cons (N := [some (rD K (.int c)), some (rD K (.int k)), some (rD K (.int b)), some (rD K (.int (1009 ^ (k % 24).toNat))), none, some (rD K (.int ((c - 10 ^ (18 : Int).toNat) / 1009 ^ (k % 24).toNat))), some (rD K (.int (c % 1000003)))]) (sw_set 6 (ew_mod (ew_name 0 rfl (pv 0)) ew_int (by decide)) scNumber.nd rfl (.inl rfl)) (bw_one (sw_ret ?_))
  have hs : 0 ≤ c % 1000003 ∧ c % 1000003 < 1000003 := ⟨Int.emod_nonneg _ (by decide), Int.emod_lt_of_pos _ (by decide)⟩
  generalize c % 1000003 = s0 at hs
  have hm : 0 ≤ (s0 + 977 * k) * (s0 + 31 * k + 5) ∧ (s0 + 977 * k) * (s0 + 31 * k + 5) ≤ 2000000 * 2000000 := ⟨Int.mul_nonneg (by omega) (by omega), Int.mul_le_mul (by omega) (by omega) (by omega) (by omega)⟩
  refine ew_op op_mod (ew_call ((s0 + 977 * k) * (s0 + 31 * k + 5), k % 9 + 1, 999983) (ok_draw L) hr F'.kp rfl L.gDraw (aw_cons (ew_mul (ew_add (ew_name 6 rfl (pv 6)) (ew_mul ew_int (ew_name 1 rfl (pv 1)) (.inl (by decide)))) (ew_add (ew_add (ew_name 6 rfl (pv 6)) (ew_mul ew_int (ew_name 1 rfl (pv 1)) (.inl (by decide)))) ew_int) (.inl (by omega))) (aw_cons (ew_add (ew_mod (ew_name 1 rfl (pv 1)) ew_int (by decide)) ew_int) (aw_cons ew_int aw_nil))) ⟨⟨by show -(2 ^ 64) < (s0 + 977 * k) * (s0 + 31 * k + 5); omega, by show (s0 + 977 * k) * (s0 + 31 * k + 5) < 2 ^ 64; omega⟩, ⟨by show -(2 ^ 64) < k % 9 + 1; omega, by show k % 9 + 1 < 2 ^ 64; omega⟩, by show (0 : Int) < 999983; decide⟩) (ew_name 2 rfl (pv 2)) (R2w.exl fun i => R2w.in (α := {i : Int // 0 ≤ i ∧ i < b}) ⟨_, Int.emod_nonneg _ (Int.ne_of_gt h2), Int.emod_lt_of_pos _ h2⟩ (r2_IKc h2 fun _ => Dp.int _))
theorem scNext : FnScope ["_law_state", "_law_below", "_law_at", "_law_cell_here"] ["_law_state", "_law_below"] (defScope sNext) := ⟨rfl, rfl, rfl, by decide +kernel, rfl, by decide +kernel, by decide +kernel⟩
structure DZ where
  p : Addr
  l : Addr
  zs : List Int
theorem ok_next (L : Lx P K mg d e) : FnR P w K mg base CX0 3 e.fNext (spW (α := DZ × Int) (fun W z => Draws K W z.1.p z.1.l z.1.zs ∧ 0 < z.2) (fun z => [rRef z.1.p, rD K (.int z.2)]) (fun z => rBel K z.2)) := by
  obtain ⟨fd, F⟩ := L.lNext
  obtain ⟨fd1, F1⟩ := L.lCellAt
  obtain ⟨fd2, F2⟩ := L.lNumber
  refine fn_w F scNext (F.binds fun _ _ _ _ _ _ us hl => match us, hl with | [_, _], _ => rfl) (fun _ => rfl) fun cdv A outer s H E W z hr hp => ⟨none, ?_, fun _ e => nomatch e⟩
  obtain ⟨⟨p, l, zs⟩, b⟩ := z
  obtain ⟨D, hb⟩ := hp
  change 0 < b at hb
  refine bw_cons (N := [some (rRef p), some (rD K (.int b)), none, none]) (sw_st2 D (ew_name 0 rfl (pv 0)) ew_int (ew_op op_add (ew_st2 D (ew_name 0 rfl (pv 0)) ew_int (by intro _ _; rfl)) ew_int (R2w.exl fun i => R2w.in (α := {i : Int // 0 ≤ i}) ⟨i.1 + 1, by have := i.2; omega⟩ (r2_IK fun _ => Dp.int _)))) ?_
  refine bw_cons (N := [some (rRef p), some (rD K (.int b)), some (rNN K), none]) (sw_set 2 (ew_op op_fdiv (ew_st2 D (ew_name 0 rfl (pv 0)) ew_int (by intro _ _; rfl)) ew_int (R2w.exl fun i => R2w.in (α := {i : Int // 0 ≤ i}) ⟨i.1 / 12, Int.ediv_nonneg i.2 (by decide)⟩ (r2_IKc (C := CDiv) ⟨by decide, by decide⟩ fun _ => Dp.int _))) scNext.nd rfl (.inl rfl)) ?_
  refine bw_ex 2 rfl fun at_ => ?_
  refine bw_cons (N := [some (rRef p), some (rD K (.int b)), some (rD K (.int at_.1)), some (rAnyI K)]) (sw_set 3 (ew_op op_add (ew_exCall (rl := [rRef l, rNN K]) (ι := {i : Int // 0 ≤ i}) (fun i => (l, zs, i.1)) (fun vs H h => ?_) (ok_cellAt L) (hr.mono (by decide)) F1.kp rfl L.gCellAt (aw_cons (ew_st0 D (ew_name 0 rfl (pv 0)) ew_int (by intro _ _; rfl)) (aw_cons (ew_op op_add (ew_st1 D (ew_name 0 rfl (pv 0)) ew_int (by intro _ _; rfl)) (ew_name 2 rfl (pv 2)) (R2w.exl fun i => R2w.in (α := {i : Int // 0 ≤ i}) ⟨i.1 + at_.1, by have := i.2; have := at_.2; omega⟩ (r2_IK fun _ => Dp.int _))) aw_nil)) (fun i => ⟨D.seq, i.2⟩) (fun i v H h => h)) (ew_mul ew_int (ew_name 2 rfl (pv 2)) (.inl (by decide))) (R2w.exl fun i => R2w.in (i + 31 * at_.1) (r2_IK fun _ => Dp.int _))) scNext.nd rfl (.inl rfl)) ?_
  · match vs, h with
    | [v, x], h => obtain ⟨h1, ⟨i, h2⟩, _⟩ := h; exact ⟨i, h1, h2, trivial⟩
  refine bw_ex 3 rfl fun c => bw_one (sw_ret ?_)
  refine ew_exCall (rl := [rD K (.int c), rEx (α := {i : Int // 0 ≤ i ∧ i < 24}) (fun i => rD K (.int i.1)), rD K (.int b)]) (ι := {i : Int // 0 ≤ i ∧ i < 24}) (fun i => (c, i.1, b)) (fun vs H h => ?_) (ok_number L) (hr.mono (by decide)) F2.kp rfl L.gNumber (aw_cons (ew_name 3 rfl (pv 3)) (aw_cons (ew_op op_add (ew_op op_mod (ew_st2 D (ew_name 0 rfl (pv 0)) ew_int (by intro _ _; rfl)) ew_int (R2w.exl fun i => R2w.in (α := {i : Int // 0 ≤ i ∧ i < 12}) ⟨i.1 % 12, Int.emod_nonneg _ (by decide), Int.emod_lt_of_pos _ (by decide)⟩ (r2_IKc (by decide) fun _ => Dp.int _))) ew_int (R2w.exl fun i => R2w.in (α := {i : Int // 0 ≤ i ∧ i < 24}) ⟨i.1 + 1, by have := i.2; omega⟩ (r2_IK fun _ => Dp.int _))) (aw_cons (ew_name 1 rfl (pv 1)) aw_nil))) (fun i => ⟨i.2, hb⟩) (fun i v H h => h)
  match vs, h with
  | [v, x, y], h => obtain ⟨h1, ⟨i, h2⟩, h3, _⟩ := h; exact ⟨i, h1, h2, h3, trivial⟩
end
end K11
namespace Py
open PySem L2
section
variable {X : Cx} {W : World} {rs : Rs} {a b c e o tg it : Expr} {r ra rb rc : Rep} {pos p apos : Pos} {C f : Addr} {k : Nat} {α : Type} {pre : World → α → Prop} {args : α → List Rep} {res : α → Rep} {fs : List (Str × Rep)}
theorem ew_boolOwn {m : Nat} (z : α) (hm' : m < 2 ^ 63) (hg : Gl X "bool") (hmm : X.mg "bool" = none) (ha : Ew X W rs a (rIns C fs)) (hn : PySem.W.findIn X.K (.ref C) "__bool__" = some none) (hM : Meth X.K C "__len__" f) (F : FnC X k f (spW pre args res)) (hr : Room (k + 3) X.A) (hp : pre W z) (haz : args z = [rIns C fs]) (hrz : res z = rD X.K (.int m))
    (he : starEach [a] X.env = (false, eval a X.env) :: starEach [] X.env := by rfl) (hpl : (backTo pos (starEach [] X.env)).any (·.1) = false := by rfl) : Ew X W rs (.Call (.Name "bool" p) [a] [] pos) (rD X.K (.bool (m != 0))) :=
  ew_callTy call_boolOwn hg hmm (by decide +kernel) ha (fun v H kk pv Q q => by
    obtain ⟨a', dx, gs, ev, hi, fl⟩ := pv
    have hi' := W.sub H _ _ hi
    refine ⟨v, rfl, ⟨a', C, dx, gs, ev, hi', hn⟩, hr.mono (by omega), a', C, dx, f, gs, k, _, ev, hi', hM, F, hr, W, z, hp, kk, by rw [haz]; exact ⟨⟨a', dx, gs, ev, hi, fl⟩, trivial⟩, fun w H' k' e' pw => ⟨m, ?_, hm', q _ H' k' e' (Dp.bl _)⟩⟩
    rw [hrz] at pw
    exact rD_int.mp pw) (by decide) (by decide) he hpl
theorem ew_ixOwn (z : α) (ha : Ew X W rs a (rIns C fs)) (hb : Ew X W rs b rb) (hM : Meth X.K C "__getitem__" f) (hf : PySem.W.fnIn X.K f = true) (F : FnC X k f (spW pre args res)) (hr : Room (k + 1) X.A) (hp : pre W z) (haz : args z = [rIns C fs, rb])
    (hsl : ∀ (x : Addr) (i : Value), subscripted b true (.ref x) i = runValue (.builtin "lifetime.subscript" ⟨[.ref x, i], []⟩)) : Ew X W rs (.Subscript a b pos) (res z) :=
  pe_cs (pe_ixOwn ha hb hsl) fun σ H Q ⟨kk, g, q⟩ => ⟨kk, g, fun v H1 k1 e1 p1 => ⟨k1, g.mono e1, fun y H2 k2 e2 p2 => by
    obtain ⟨a', dx, gs, ev, hi, fl⟩ := (rIns C fs).mono e2 p1
    have hi' := W.sub H2 _ _ hi
    exact ⟨⟨a', C, dx, f, gs, k, _, ev, hi', hM, F, hr, W, z, hp, k2, by rw [haz]; exact ⟨⟨a', dx, gs, ev, hi, fl⟩, p2, trivial⟩, fun w H3 k3 e3 p3 => q w H3 k3 ((e1.trans e2).trans e3) p3⟩, f, ⟨C, hM.at_, a', dx, gs, ev, hi'⟩, hf⟩⟩⟩
end
end Py
namespace Py
open PySem L2
/-! ### what is raised -/
/-- called with such values, it raises an error of class B, and only makes objects -/
def spR {α : Type} (B : Addr) (pre : World → α → Prop) (args : α → List Rep) : Sp := fun vs H _ E => ∃ (W : World) (z : α), pre W z ∧ W.ok H ∧ Reps (args z) vs (W.vis H) ∧ ∀ H', W.ok H' → Ex (W.vis H) (W.vis H') → E (.ref B) none H'
/-- an __init__ that raises -/
def spIR {α : Type} (C B : Addr) (pre : α → Prop) (args : α → List Rep) : Sp := fun vs H _ E => ∃ (W : World) (z : α) (x dx : Addr) (ws : List V), vs = .ref x :: ws ∧ pre z ∧ (W.hold x (.ins C dx [])).ok H ∧ Reps (args z) ws ((W.hold x (.ins C dx [])).vis H) ∧
  ∀ H', (W.hold x (.ins C dx [])).ok H' → Ex ((W.hold x (.ins C dx [])).vis H) ((W.hold x (.ins C dx [])).vis H') → E (.ref B) none H'
section
variable {P : Program} {w : PySem.World} {K : PySem.W.Frag} {mg : Str → Option Value} {base : Heap} {C B f : Addr} {α : Type} {k : Nat}
/-- a def that raises -/
theorem fn_r {x qual : Str} {st : Stmt} {fd : FuncData} {N ps : List Str} {pre : World → α → Prop} {args : α → List Rep} (F : Fun K x qual st f fd) (S : FnScope N ps (defScope st)) (hb : Binds K fd ps []) (hl : ∀ z, (args z).length = ps.length)
    (h : ∀ (cdv : Value) (A : Around) (outer : List Env) (s : Shared) (H : Hp) (E : XK) (W : World) (z : α), Room k (A.deeper (PyProof.Rows.envOfC qual (defScope st) s.heap.objs.size f cdv)) → pre W z →
      PSs (cxOf (L2.CX P w) P w K mg base N qual (defScope st) f cdv A outer s H E) (defBody st) (fun D σ H => W.ok H ∧ Sg ((args z).map some ++ List.replicate (N.length - ps.length) none) σ (W.vis H) ∧ ∀ H', W.ok H' → Ex (W.vis H) (W.vis H') → E (.ref B) none H')) : FnR P w K mg base (L2.CX P w) (k + 1) f (spR B pre args) := by
  have G : FnOk P w K mg base (L2.CX P w) (k + 1) f fd ps (spR B pre args) := by
    refine F.okX S (fun vs H Q E ⟨W, z, _, _, pr, _⟩ => by rw [← hl z, pr.len]) ?_
    rintro cdv A outer s H vs Q E hr ⟨W, z, hp, kH, pr, q⟩
    refine ⟨_, h cdv A outer s H E W z hr hp, kH, ?_, q⟩
    have e : N.length - ps.length = N.length - vs.length := by rw [← pr.len, hl z]
    rw [e]
    exact Sg.of _ pr
  exact (G.raw hb .nil).imp fun vs H Q E q => by rw [List.append_nil]; exact q
/-- an __init__ with a star parameter that raises -/
theorem fn_isR {nm qual pv : Str} {st : Stmt} {fd : FuncData} {N : List Str} {pre : α → Prop} {args : α → List Rep} (F : Fun K nm qual st f fd) (S : FnScope N ["self", pv] (defScope st)) (hz : ∀ z, pre z → (args z).length ≤ 1000)
    (hb : ∀ (kV doc pm : Value) (an : Option Addr) (cdv ct : Value) (us rest : List Value), us.length = ["self"].length → bindArgs (PySem.W.fnOf nm qual (defArgs st) (defBody st) (defScope st) .none kV doc pm an cdv ct) ⟨us ++ rest, []⟩ = (newTuple rest >>= fun t => pure ((["self"] : List Str).zip us ++ [(pv, t)])))
    (h : ∀ (cdv : Value) (A : Around) (outer : List Env) (s : Shared) (H : Hp) (E : XK) (W : World) (x dx : Addr) (z : α), Room k (A.deeper (PyProof.Rows.envOfC qual (defScope st) s.heap.objs.size f cdv)) → pre z →
      PSs (cxOf (L2.CX P w) P w K mg base N qual (defScope st) f cdv A outer s H E) (defBody st) (fun D σ H => (W.hold x (.ins C dx [])).ok H ∧ Sg (some (rRef x) :: some (rTup K (args z)) :: List.replicate (N.length - 2) none) σ ((W.hold x (.ins C dx [])).vis H) ∧ ∀ H', (W.hold x (.ins C dx [])).ok H' → Ex ((W.hold x (.ins C dx [])).vis H) ((W.hold x (.ins C dx [])).vis H') → E (.ref B) none H')) : FnR P w K mg base (L2.CX P w) (k + 1) f (spIR C B pre args) := by
  obtain ⟨oc, od, kV, doc, pm, an, cdv, ct, osl, rfl, lk, hcd⟩ := F.ex
  have G := StX.fn_star (P := P) (w := w) (mg := mg) (base := base) (CX := L2.CX P w) (k := k) (ps := ["self"]) (pv := pv) (N := N) lk hcd S StX.cxUp (hb kV doc pm an cdv ct)
    (sp := fun vs H Q E => ∃ (W : World) (z : α) (x dx p : Addr), vs = [.ref x, .ref p] ∧ pre z ∧ (W.hold x (.ins C dx [])).ok H ∧ (rTup K (args z)).p (.ref p) ((W.hold x (.ins C dx [])).vis H) ∧
      ∀ H', (W.hold x (.ins C dx [])).ok H' → Ex ((W.hold x (.ins C dx [])).vis H) ((W.hold x (.ins C dx [])).vis H') → E (.ref B) none H') ?_
  · refine G.imp ?_
    rintro vs H Q E ⟨W, z, x, dx, ws, ev, hp, kH, pr, q⟩
    refine ⟨[.ref x], ws, ev, rfl, Nat.le_of_lt (small1000 (pr.len ▸ hz z hp)), fun t ht => ⟨W, z, x, dx, t, rfl, hp, World.okNew kH ht, ⟨t, ws, rfl, .inl (.inl (by rw [World.visNew kH ht, upd_same])), pr.mono (World.visEx kH (Ex.new ht))⟩, fun H' k' e' => q H' k' ((World.visEx kH (Ex.new ht)).trans e')⟩⟩
  · rintro A outer s H vs Q E hr ⟨W, z, x, dx, t, ev, hp, kH, pt, q⟩
    subst ev
    exact ⟨_, h cdv A outer s H E W x dx z hr hp, kH, ⟨⟨_, rfl, rfl⟩, ⟨_, rfl, pt⟩, Sg.nones⟩, q⟩
end
section
variable {X : Cx} {W : World} {rs : Rs} {a b c e o tg it : Expr} {r ra rb rc : Rep} {pos p apos : Pos} {C B f : Addr} {k : Nat} {α : Type}
/-- C( *xs) that raises -/
theorem pe_makeSR {sp : Sp} {nm : Str} {te : TE} {q : Pos} {E : XK} (M : Mk X.K C f) (F : FnR X.prog X.w X.K X.mg X.base (L2.CX X.prog X.w) k f sp) (hx : Passes (L2.CX X.prog X.w) X E) (hr : Room (k + 1) X.A) (hg : Gl X nm) (hm : X.mg nm = some (.ref C)) (he : PE X e te) (hdb : (nm == ("__debug__" : Str)) = false := by decide) (hst : starEach [.Starred e q] X.env = [(true, eval e X.env)] := by rfl) :
    PE X (.Call (.Name nm p) [.Starred e q] [] pos) (StX.tMakeR C sp E (fun σ H Q => te σ H fun y H1 => ∃ a xs, y = V.ref a ∧ (SqT X.K H1 a xs ∨ SqL X.K H1 a xs) ∧ Q xs H1)) := by
  refine ⟨fun pins s σ H Q I h => ?_⟩
  refine wpAny_Call_Name_kw (ld_glob I hg hm ?_ hdb)
  refine PySem.W.callWith_S (h₀ := X.base) I.ok.mod.kin M.kp (thn (he.run pins s σ H _ I h) fun v s1 ⟨y, H1, I1, ry, a, xs, ey, hxs, q⟩ => ?_) hst
  subst ey
  obtain rfl : v = Value.ref a := ry
  exact StX.star_any I1 hxs fun us s2 I2 rv => ⟨I2.kIn, StX.run_makeR M F hr hx I2 rv q⟩
theorem pe_makeSRT {nm : Str} {q : Pos} {E : XK} {pre : α → Prop} {args : α → List Rep} (z : α) (M : Mk X.K C f) (F : FnR X.prog X.w X.K X.mg X.base (L2.CX X.prog X.w) k f (spIR C B pre args)) (hx : Passes (L2.CX X.prog X.w) X E) (hr : Room (k + 1) X.A) (hg : Gl X nm) (hm : X.mg nm = some (.ref C)) (he : Ew X W rs e (rTup X.K (args z))) (hp : pre z) (hdb : (nm == ("__debug__" : Str)) = false := by decide) (hst : starEach [.Starred e q] X.env = [(true, eval e X.env)] := by rfl) :
    PE X (.Call (.Name nm p) [.Starred e q] [] pos) (fun σ H Q => W.ok H ∧ Sg rs σ (W.vis H) ∧ ∀ H', W.ok H' → Ex (W.vis H) (W.vis H') → E (.ref B) none H') :=
  pe_cs (pe_makeSR M F hx hr hg hm he hdb hst) fun σ H Q ⟨kk, g, h⟩ => ⟨kk, g, fun v H1 k1 e1 ⟨a, xs, ev, hs, hrr⟩ => ⟨a, xs, ev, .inl (sqT_mono (W.sub H1) hs), fun x dx hx hdx hne => by
    have hdx2 : (upd H1 dx (.own x)) x = none := by rw [upd_ne (Ne.symm hne)]; exact hx
    have k2 := hold_new (o := .ins C dx []) (World.okNew (o := .own x) k1 hdx) hdx2
    have eh : Ex (W.vis H1) ((W.hold x (.ins C dx [])).vis (upd (upd H1 dx (.own x)) x (.ins C dx []))) := hold_of (World.visNone hx) ((World.visEx k1 (Ex.new hdx)).trans (World.visEx (World.okNew k1 hdx) (Ex.new hdx2)))
    exact ⟨W, z, x, dx, xs, rfl, hp, k2, hrr.mono eh, fun H' k' e' => h H' k'.1 (e1.trans ((eh.trans e').trans hold_sub))⟩⟩⟩
/-- an own operator that raises -/
theorem run_atX {pins : List (Addr × Obj)} {σ : St} {H : Hp} {s : Shared} {A : Around} {Q : VK} {sp : Sp} {us : List Value} {ws : List V} {E : XK} (F : FnR X.prog X.w X.K X.mg X.base (L2.CX X.prog X.w) k f sp) (hx : Passes (L2.CX X.prog X.w) X E) (hr : Room k A) (e0 : Env0 X.prog X.w X.K X.mg X.base A X.stack s H) (I : Inv X pins σ H s) (r : Vals ws us) (h : sp ws H Q E) :
    codeAny (model X.prog X.w) A (.call (.ref f) ⟨us, []⟩) (fun r s' => match r with | .ok (.ret v) => EP X pins σ Q v s' | .ok _ => False | .error e => X.xe e s') s := by
  refine codeAny_mono (F A X.stack s H us ws Q E hr e0 r h) fun r s' hq => ?_
  cases r with
  | error e => exact hx pins σ H s e s' I hq
  | ok fl =>
    cases fl with
    | ret u => exact I.after hq
    | next => exact False.elim hq
    | brk => exact False.elim hq
    | cont => exact False.elim hq
theorem op_ownR (op : Operator) {E : XK} {sp : Sp} (hx : Passes (L2.CX X.prog X.w) X E) (hc : PySem.W.selfFirst X.K C = true) (hm : Meth X.K C (PySem.dunder op.info.2) f) (F : FnR X.prog X.w X.K X.mg X.base (L2.CX X.prog X.w) k f sp) (hr : Room (k + 1) X.A) : OpR X (binaryOp op) (fun x y H Q => ∃ a b dx dy fs gs, x = .ref a ∧ y = .ref b ∧ H a = some (.ins C dx fs) ∧ H b = some (.ins C dy gs) ∧ sp [x, y] H Q E) := by
  intro pins s σ H x y v u Q I rx ry ⟨a, b, dx, dy, fs, gs, ex, ey, hi, hj, q⟩
  subst ex
  subst ey
  obtain rfl : v = Value.ref a := rx
  obtain rfl : u = Value.ref b := ry
  obtain ⟨m, hF⟩ := I.fr
  obtain ⟨od, J⟩ := inst_of I hi
  obtain ⟨od', J'⟩ := inst_of I hj
  refine PySem.W.binop_K hF I.ok.mod.kin J J'.type hc hm.at_ hm.fn (thn (wpAny_call (run_atX (us := [.ref a, .ref b]) (ws := [.ref a, .ref b]) F hx (hr.mono (Nat.le_succ _)) I.env0 I (.cons rfl (.cons rfl .nil)) q)) fun w s' h => ?_)
  obtain ⟨z, H', I', rz, qz⟩ := h
  exact cmpback rz ⟨z, H', I', rz, qz⟩
end
end Py
namespace Py
open PySem L2
section
variable {X : Cx} {W : World} {rs : Rs} {a b c e o tg it : Expr} {r r1 r2 ra rb rc : Rep} {pos p apos : Pos} {O : Outs} {sts : List Stmt}
/-- a slot's value is told in other words, with what was not told made known -/
theorem bw_open {α : Type} (i : Nat) {f : α → Rep} (hi : rs[i]? = some (some r)) (cv : ∀ v H, r.p v H → ∃ c, (f c).p v H) (h : ∀ c, Bw X W (rs.set i (some (f c))) sts O) : Bw X W rs sts O :=
  pss_cs (t := fun D σ H => ∃ c, sW W (rs.set i (some (f c))) O D σ H) ⟨fun pins s σ H D I ⟨c, q⟩ => (h c).run pins s σ H D I q⟩ fun D σ H ⟨k, g, q'⟩ => by
    obtain ⟨v, e, p⟩ := g.get hi
    obtain ⟨c, p⟩ := cv v _ p
    refine ⟨c, k, ?_, q'⟩
    have z := g.set (i := i) p
    have hs : σ.set i (some v) = σ := by
      obtain ⟨hlt, hv⟩ := List.getElem?_eq_some_iff.mp e
      rw [← hv]
      exact List.set_getElem_self hlt
    rw [hs] at z
    exact z
/-- x, y = a, b -/
theorem sw_par (i j : Nat) {x y : Str} {px py pt : Pos} {kt k2 pt2} (hc : X.calm = true) (hN : X.N.Nodup) (hi : X.N[i]? = some x) (hj : X.N[j]? = some y) (hij : i ≠ j) (hx : X.env.scope.names.lookup x = some .local) (hy : X.env.scope.names.lookup y = some .local)
    (ha : Aw X W rs [a, b] [r1, r2]) (hw : swappedStores [.Tuple [.Name x px, .Name y py] kt pt] (.Tuple [a, b] k2 pt2) X.env = pure (some [x, y]))
    (hs : swapsWithSole [.Tuple [.Name x px, .Name y py] kt pt] (.Tuple [a, b] k2 pt2) pos.line X.env = pure false := by rfl) :
    Sw X W rs (.Assign [.Tuple [.Name x px, .Name y py] kt pt] (.Tuple [a, b] k2 pt2) pos) (O.to ((rs.set i (some r1)).set j (some r2))) :=
  ps_cs (ps_par hc hN hi hj hij hx hy ha hw hs) fun D σ H ⟨k, g, _, n, _⟩ => ⟨k, g, fun vs H' k' e' p' => by
    obtain ⟨v, w, rfl, pv, pw⟩ := reps2 p'
    exact ⟨v, w, rfl, n _ rfl _ H' k' e' (((g.mono e').set pv).set pw)⟩⟩
theorem ew_catL {rl rl' : List Rep} (ha : Ew X W rs a (rLst rl)) (hb : Ew X W rs b (rLst rl')) (hl : rl.length + rl'.length ≤ 1000) : Ew X W rs (.BinOp a .Add b pos) (rLst (rl ++ rl')) := by
  refine ew_op op_cat ha hb ?_
  rintro x y H k ⟨a, xs, ex, hs, hr⟩ ⟨a', ys, ey, hs', hr'⟩ Q q
  exact ⟨a, a', xs, ys, ex, ey, W.sub H _ _ hs, W.sub H _ _ hs', Nat.le_of_lt (small1000 (by rw [← hr.len, ← hr'.len]; exact hl)), fun z hz => q _ _ (World.okNew k hz) (World.visEx k (Ex.new hz)) ⟨z, xs ++ ys, rfl, by rw [World.visNew k hz, upd_same], (hr.mono (World.visEx k (Ex.new hz))).app (hr'.mono (World.visEx k (Ex.new hz)))⟩⟩
end
end Py
namespace Py
open PySem L2
/-! ### a new state to draw from -/
def World.draw (W : World) (p l : Addr) : World where
  hd := fun a => W.hd a ∨ a = p
  ok := fun H => W.ok H ∧ ¬ W.hd p ∧ ∃ b n : Int, 0 ≤ b ∧ 0 ≤ n ∧ H p = some (.lst [.ref l, .int b, .int n])
  there := fun {H a} k h => by
    rcases h with h | h
    · exact W.there k.1 h
    · subst h
      obtain ⟨_, _, b, n, _, _, e⟩ := k
      rw [e]
      exact fun z => nomatch z
  keep := fun {H H'} k h => ⟨W.keep k.1 fun a z => h a (.inl z), k.2.1, by rw [h p (.inr rfl)]; exact k.2.2⟩
section
variable {K : PySem.W.Frag} {W : World} {p l : Addr} {zs : List Int}
theorem draw_draws (hs : ∀ H, W.ok H → SqL K H l (zs.map V.int)) : Draws K (W.draw p l) p l zs := by
  refine ⟨.inr rfl, fun H k => hs H k.1, fun H k => k.2.2, fun H b n k hb hn => ⟨W.keep k.1 fun a z => upd_ne (fun q => k.2.1 (q ▸ z)), k.2.1, b, n, hb, hn, upd_same⟩⟩
theorem draw_vis {H : Hp} : (W.draw p l).vis H = fun a => if a = p then none else W.vis H a := by
  funext a
  by_cases z : a = p
  · subst z
    rw [if_pos rfl]
    exact if_pos (.inr rfl)
  · rw [if_neg z]
    unfold World.vis
    by_cases y : W.hd a
    · rw [if_pos (show (W.draw p l).hd a from .inl y), if_pos y]
    · rw [if_neg (show ¬ (W.draw p l).hd a from fun q => q.elim y z), if_neg y]
theorem draw_sub {H : Hp} : Ex ((W.draw p l).vis H) (W.vis H) := fun a u e => by
  rw [draw_vis] at e
  dsimp only at e
  split at e
  · cases e
  · exact e
theorem draw_of {G H : Hp} (hG : G p = none) (e : Ex G (W.vis H)) : Ex G ((W.draw p l).vis H) := fun a u q => by
  rw [draw_vis]
  dsimp only
  rw [if_neg (ne_of_none q hG)]
  exact e a u q
end
section
variable {X : Cx} {W : World} {rs : Rs} {a b c e : Expr} {r ra rb rc : Rep} {pos p0 lpos : Pos} {l f : Addr} {zs : List Int} {k : Nat} {i : Int}
/-- f([script, by, 0]) -/
theorem ew_drawCall {α : Type} {x : Str} {res : Rep} (mk : Addr → α) {pre : World → α → Prop} {args : α → List Rep} (F : FnC X k f (spW pre args (fun _ => res))) (hs : ∀ H, W.ok H → SqL X.K H l (zs.map V.int)) (hpre : ∀ p W', Draws X.K W' p l zs → pre W' (mk p)) (harg : ∀ p, args (mk p) = [rRef p]) (hr : Room k X.A) (hk : PySem.W.keepIn X.K (.ref f) = true) (hg : Gl X x) (hm : X.mg x = some (.ref f))
    (ha : Aw X W rs [a, b, c] [rRef l, rD X.K (.int i), rD X.K (.int 0)]) (hi : 0 ≤ i) (hdb : (x == ("__debug__" : Str)) = false := by decide) (he : starEach [Expr.List [a, b, c] lpos] X.env = (false, eval (.List [a, b, c] lpos) X.env) :: starEach [] X.env := by rfl) (hpl : (backTo pos (starEach [] X.env)).any (·.1) = false := by rfl) :
    Ew X W rs (.Call (.Name x p0) [.List [a, b, c] lpos] [] pos) res :=
  pe_cs (pe_callR F hr hk hg hm (pa_cons (pe_lst ha) pa_nil he) hdb he hpl) fun σ H Q ⟨kk, g, q⟩ => ⟨kk, g, fun vs H1 k1 e1 p1 => by
    obtain ⟨x1, x2, x3, rfl, h1, h2, h3⟩ := reps3 p1
    refine ⟨by show 3 ≤ sizeLine; exact Nat.le_of_lt (small1000 (by decide)), fun p hp => ?_⟩
    rw [show x1 = .ref l from h1, rD_int.mp h2, rD_int.mp h3]
    have nd : ¬ W.hd p := World.free k1 hp
    have kd : (W.draw p l).ok (upd H1 p (.lst [.ref l, .int i, .int 0])) := ⟨World.okNew k1 hp, nd, i, 0, hi, by decide, upd_same⟩
    have eh : Ex (W.vis H1) ((W.draw p l).vis (upd H1 p (.lst [.ref l, .int i, .int 0]))) := draw_of (World.visNone hp) (World.visEx k1 (Ex.new hp))
    exact ⟨W.draw p l, mk p, hpre p _ (draw_draws hs), kd, by rw [harg]; exact ⟨rfl, trivial⟩, fun v H' k' e' pv => q v H' k'.1 (e1.trans ((eh.trans e').trans draw_sub)) (res.mono draw_sub pv)⟩⟩
theorem ew_max2 {i j : Int} (hc : X.calm = true) (hg : Gl X "max") (hm : X.mg "max" = none) (ha : Aw X W rs [a, b] [rD X.K (.int i), rD X.K (.int j)]) (he : starEach [a, b] X.env = (false, eval a X.env) :: starEach [b] X.env := by rfl) (hpl : (backTo pos (starEach [b] X.env)).any (·.1) = false := by rfl) : Ew X W rs (.Call (.Name "max" p0) [a, b] [] pos) (rD X.K (.int (if j > i then j else i))) :=
  pe_cs (pe_callB (call_max2 hc) hg hm (by decide +kernel) ha (by decide) (by decide) he hpl) fun σ H Q ⟨k, g, q⟩ => ⟨k, g, fun vs H1 k1 e1 p1 => by
    obtain ⟨x, y, rfl, h1, h2⟩ := reps2 p1
    exact ⟨i, j, by rw [rD_int.mp h1, rD_int.mp h2], q _ H1 k1 e1 (Dp.int _)⟩⟩
theorem ew_min2 {i j : Int} (hc : X.calm = true) (hg : Gl X "min") (hm : X.mg "min" = none) (ha : Aw X W rs [a, b] [rD X.K (.int i), rD X.K (.int j)]) (he : starEach [a, b] X.env = (false, eval a X.env) :: starEach [b] X.env := by rfl) (hpl : (backTo pos (starEach [b] X.env)).any (·.1) = false := by rfl) : Ew X W rs (.Call (.Name "min" p0) [a, b] [] pos) (rD X.K (.int (if j < i then j else i))) :=
  pe_cs (pe_callB (call_min2 hc) hg hm (by decide +kernel) ha (by decide) (by decide) he hpl) fun σ H Q ⟨k, g, q⟩ => ⟨k, g, fun vs H1 k1 e1 p1 => by
    obtain ⟨x, y, rfl, h1, h2⟩ := reps2 p1
    exact ⟨i, j, by rw [rD_int.mp h1, rD_int.mp h2], q _ H1 k1 e1 (Dp.int _)⟩⟩
end
end Py
namespace Py
open PySem L2
/-! ### a dict set apart, and walked -/
structure DictAt (W : World) (D : Addr) (kvs : List (L2.Key × V)) : Prop where
  hid : W.hd D
  at_ : ∀ H, W.ok H → H D = some (.dK kvs)
theorem DictAt.hold {W : World} {D : Addr} {kvs : List (L2.Key × V)} (d : DictAt W D kvs) (E : Addr) (o : HO) : DictAt (W.hold E o) D kvs := ⟨.inl d.hid, fun H k => d.at_ H k.1⟩
theorem DictAt.draw {W : World} {D : Addr} {kvs : List (L2.Key × V)} (d : DictAt W D kvs) (p l : Addr) : DictAt (W.draw p l) D kvs := ⟨.inl d.hid, fun H k => d.at_ H k.1⟩
theorem dict_hold {W : World} {D : Addr} {kvs : List (L2.Key × V)} : DictAt (W.hold D (.dK kvs)) D kvs := ⟨.inr rfl, fun H k => k.2.2⟩
/-- the same world while the dict is locked -/
def World.lockw (W : World) (D : Addr) (od : Obj) (kvs : List (L2.Key × V)) (hid : W.hd D) : World where
  hd := W.hd
  ok := fun H => W.ok (upd H D (.dK kvs)) ∧ H D = some (.frz od (.dK kvs))
  there := fun {H a} k h => by
    by_cases z : a = D
    · subst z
      rw [k.2]
      exact fun z => nomatch z
    · have := W.there k.1 h
      rw [upd_ne z] at this
      exact this
  keep := fun {H H'} k h => ⟨W.keep k.1 fun a z => by
    by_cases y : a = D
    · subst y
      rw [upd_same, upd_same]
    · rw [upd_ne y, upd_ne y]
      exact h a z, by rw [h D hid]; exact k.2⟩
section
variable {W : World} {D : Addr} {od : Obj} {kvs : List (L2.Key × V)} {hid : W.hd D}
theorem lockw_vis {H : Hp} : (W.lockw D od kvs hid).vis H = W.vis H := rfl
theorem lockw_in {H : Hp} (d : DictAt W D kvs) (k : W.ok H) : (W.lockw D od kvs hid).ok (upd H D (.frz od (.dK kvs))) := by
  refine ⟨?_, upd_same⟩
  rw [upd_upd]
  exact W.keep k fun a z => by
    by_cases y : a = D
    · subst y
      rw [upd_same, d.at_ _ k]
    · rw [upd_ne y]
theorem lockw_out {H : Hp} (k : (W.lockw D od kvs hid).ok H) : W.ok (upd H D (.dK kvs)) := k.1
end
section
variable {X : Cx} {W : World} {rs : Rs} {a b c e o tg it : Expr} {r ra rb rc : Rep} {pos p apos cpos : Pos} {O : Outs} {D : Addr} {kvs : List (L2.Key × V)} {st : Stmt}
/-- an expression that walks the dict -/
theorem ew_lock (d : DictAt W D kvs) (h : ∀ od, Ew X (W.lockw D od kvs d.hid) rs e r) : Ew X W rs e r := by
  have h' : PE X e (fun σ H Q => ∃ od, tW (W.lockw D od kvs d.hid) rs r σ H Q) := ⟨fun pins s σ H Q I ⟨od, q⟩ => (h od).run pins s σ H Q I q⟩
  refine pe_cs (pe_lock h') ?_
  rintro σ H Q ⟨k, g, q⟩
  refine ⟨D, .dK kvs, d.at_ H k, trivial, fun od => ⟨od, lockw_in d k, ?_, fun v H' k' e' pv => ⟨k'.2, q v _ (lockw_out k') ?_ ?_⟩⟩⟩
  · rw [lockw_vis, vis_hid d.hid]
    exact g
  · rw [lockw_vis, lockw_vis, vis_hid d.hid] at e'
    rw [vis_hid d.hid]
    exact e'
  · rw [lockw_vis] at pv
    rw [vis_hid d.hid]
    exact pv
/-- a statement that walks the dict -/
theorem sw_lock (d : DictAt W D kvs) (h : ∀ od, Sw X (W.lockw D od kvs d.hid) rs st O) : Sw X W rs st O := by
  have h' : PS X st (fun DD σ H => ∃ od, sW (W.lockw D od kvs d.hid) rs O DD σ H) := ⟨fun pins s σ H DD I ⟨od, q⟩ => (h od).run pins s σ H DD I q⟩
  refine ps_cs (ps_lock h') ?_
  rintro DD σ H ⟨k, g, q, n, b, c⟩
  have ev : ∀ H' od, (W.lockw D od kvs d.hid).vis H' = W.vis (upd H' D (.dK kvs)) := fun H' od => by rw [lockw_vis, vis_hid d.hid]
  have e0 : ∀ od, (W.lockw D od kvs d.hid).vis (upd H D (.frz od (.dK kvs))) = W.vis H := fun od => by rw [lockw_vis, vis_hid d.hid]
  refine ⟨D, .dK kvs, d.at_ H k, trivial, fun od => ⟨od, lockw_in d k, by rw [e0]; exact g, fun v H' k' e' pv => ⟨k'.2, q v _ (lockw_out k') (by rw [← ev H' od, ← e0 od]; exact e') (by rw [← ev H' od]; exact pv)⟩, ?_, ?_, ?_⟩⟩
  · exact fun N z σ' H' k' e' g' => ⟨k'.2, n N z σ' _ (lockw_out k') (by rw [← ev H' od, ← e0 od]; exact e') (by rw [← ev H' od]; exact g')⟩
  · exact fun N z σ' H' k' e' g' => ⟨k'.2, b N z σ' _ (lockw_out k') (by rw [← ev H' od, ← e0 od]; exact e') (by rw [← ev H' od]; exact g')⟩
  · exact fun N z σ' H' k' e' g' => ⟨k'.2, c N z σ' _ (lockw_out k') (by rw [← ev H' od, ← e0 od]; exact e') (by rw [← ev H' od]; exact g')⟩
/-- what is walked of a locked dict -/
structure LockAt (W : World) (D : Addr) (od : Obj) (kvs : List (L2.Key × V)) : Prop where
  at_ : ∀ H, W.ok H → H D = some (.frz od (.dK kvs))
theorem lockw_at {od : Obj} {hid : W.hd D} : LockAt (W.lockw D od kvs hid) D od kvs := ⟨fun H k => k.2⟩
theorem LockAt.hold {od : Obj} (l : LockAt W D od kvs) (E : Addr) (o : HO) : LockAt (W.hold E o) D od kvs := ⟨fun H k => l.at_ H k.1⟩
theorem iw_keys {od : Obj} (l : LockAt W D od kvs) (h : Ew X W rs it (rRef D)) (item : Nat → Rep) (hi : ∀ (i : Nat) (k : L2.Key) (v : V) (H : Hp), kvs[i]? = some (k, v) → (item i).p (kV k) H) : Iw X W rs tg it kvs.length item := by
  refine pi_cs (pi_keys h) ?_
  rintro σ H R ⟨k, g, q⟩
  refine ⟨k, g, fun v H1 k1 e1 pv => ⟨D, od, pv, .inl ⟨kvs, l.at_ H1 k1, q (Itk D od kvs) (fun H => H D = some (.frz od (.dK kvs))) _ H1 walk_keys k1 e1 (fun H2 k2 _ => l.at_ H2 k2) ?_⟩⟩⟩
  rintro i x H2 H3 hlt ⟨eH, k', v', hk, hx⟩
  exact .inl ⟨eH, fun G2 _ _ => by rw [hx]; exact hi i k' v' G2 hk⟩
theorem iw_values {od : Obj} (l : LockAt W D od kvs) (h : Ew X W rs e (rRef D)) (item : Nat → Rep) (hi : ∀ (i : Nat) (k : L2.Key) (v : V) (H : Hp), kvs[i]? = some (k, v) → (item i).p v H)
    (hbase : attributeBase e "values" X.env (eval e X.env) = eval e X.env := by rfl) (hline : (apos.endLine == cpos.line) = true := by rfl) : Iw X W rs tg (.Call (.Attribute e "values" apos) [] [] cpos) kvs.length item := by
  refine pi_cs (pi_values h hbase hline) ?_
  rintro σ H R ⟨k, g, q⟩
  refine ⟨k, g, fun v H1 k1 e1 pv => ⟨D, od, kvs, pv, l.at_ H1 k1, q (Itd D od kvs) (fun H => H D = some (.frz od (.dK kvs))) _ H1 walk_values k1 e1 (fun H2 k2 _ => l.at_ H2 k2) ?_⟩⟩
  rintro i x H2 H3 hlt ⟨eH, k', hk⟩
  exact .inl ⟨eH, fun G2 _ _ => hi i k' x G2 hk⟩
theorem iw_items {od : Obj} {elts : List Expr} {kk : Nat} {tpos : Pos} (l : LockAt W D od kvs) (h : Ew X W rs e (rRef D)) (i1 i2 : Nat → Rep) (hi : ∀ (i : Nat) (k : L2.Key) (v : V) (H : Hp), kvs[i]? = some (k, v) → (i1 i).p (kV k) H ∧ (i2 i).p v H)
    (hbase : attributeBase e "items" X.env (eval e X.env) = eval e X.env := by rfl) (hline : (apos.endLine == cpos.line) = true := by rfl) : Iw X W rs (.Tuple elts kk tpos) (.Call (.Attribute e "items" apos) [] [] cpos) kvs.length (fun i => rTup X.K [i1 i, i2 i]) := by
  refine pi_cs (pi_items h hbase hline) ?_
  rintro σ H R ⟨k, g, q⟩
  refine ⟨k, g, fun v H1 k1 e1 pv => ⟨D, od, kvs, pv, l.at_ H1 k1, q (Iti D od kvs) (fun H => H D = some (.frz od (.dK kvs))) _ H1 walk_items k1 e1 (fun H2 k2 _ => l.at_ H2 k2) ?_⟩⟩
  intro i x H2 H3 hlt y
  refine .inr (pair_new (G := W.vis H1) y (fun x hx => ?_) (fun x hx => ?_))
  · cases e' : kvs[i]? with
    | none => rw [e'] at hx; cases hx
    | some kv => rw [e'] at hx; cases hx; exact (hi i kv.1 kv.2 _ e').1
  · cases e' : kvs[i]? with
    | none => rw [e'] at hx; cases hx
    | some kv => rw [e'] at hx; cases hx; exact (hi i kv.1 kv.2 _ e').2
end
end Py
namespace Py
open PySem L2
section
variable {X : Cx} {e : Expr} {te : TE} {p apos cpos pos : Pos}
theorem vals_snd {F : L2.Key × V → L2.Key × Value → Prop} (hF : ∀ a b, F a b → RelV a.2 b.2) : ∀ {kvs : List (L2.Key × V)} {vs : List (L2.Key × Value)}, Paired F kvs vs → Vals (kvs.map (·.2)) (vs.map (·.2))
  | _, _, .nil => .nil
  | _, _, .cons r t => .cons (hF _ _ r) (vals_snd hF t)
/-- list(e.values()) -/
theorem pe_listVals (hc : X.calm = true) (he : PE X e te) (hg : Gl X "list") (hm : X.mg "list" = none) (hbase : attributeBase e "values" X.env (eval e X.env) = eval e X.env := by rfl) (hline : (apos.endLine == cpos.line) = true := by rfl)
    (hs : starEach [.Call (.Attribute e "values" apos) [] [] cpos] X.env = (false, eval (.Call (.Attribute e "values" apos) [] [] cpos) X.env) :: starEach [] X.env := by rfl) :
    PE X (.Call (.Name "list" p) [.Call (.Attribute e "values" apos) [] [] cpos] [] pos) (fun σ H Q => te σ H fun x H1 => ∃ (d : Addr) (kvs : List (L2.Key × V)), x = .ref d ∧ H1 d = some (.dK kvs) ∧ ∀ l, H1 l = none → Q (.ref l) (upd H1 l (.lst (kvs.map (·.2))))) := by
  refine ⟨fun pins s σ H Q I hq => ?_⟩
  refine wpAny_Call_Name_kw (ld_blt (u := .type "list") I hg hm (by decide +kernel) ?_)
  refine PyProof.Rows.callWith_type1 ?_ hs rfl
  rw [hs]
  show wpAny _ _ (spliced ((false, eval (.Call (.Attribute e "values" apos) [] [] cpos) X.env) :: backTo pos (starEach [] X.env))) _ _ s
  refine Calls.spliced_cons ?_
  refine wpAny_Call_method (T := "dict") (id := "dict.values") hbase rfl hline F.plainAttrs_dict F.slot_dict_values F.type_dict_values (thn (he.run pins s σ H _ I hq) fun u s1 ⟨x, H1, I1, rx, d, kvs, ex, hd, q⟩ => ?_)
  subst ex
  obtain rfl : u = Value.ref d := rx
  obtain ⟨hz, hs0, vs, kv, hdo⟩ := I1.hok d _ hd
  obtain ⟨ep, hat⟩ := hdo.dictAt
  have lk : kvs.length = vs.length := Paired.length kv
  have I2 : Inv X pins σ H1 { s1 with heap := s1.heap.push { cls := .type "dict_values", data := .fields #[.ref d] } } := I1.kept (t' := s1.toks) fun b ob q => Heap.get?_push_of_some _ q
  refine ⟨hdo.typeIs, hdo.mapOf.noDict, ?_⟩
  show wpAny _ _ (callWith cpos (.builtin "dict.values") [.ref d] [] []) _ X.xe s1
  refine method_meetsIn F.slot_dict_values F.entry_dict_values rfl (PySem.evalArgs_none ⟨rfl, hdo.typeIs, F.args_dict_values_1 _, _, meets_dict_values (mixKind X.prog X.w) d hs0, ⟨vs, hdo⟩, ?_⟩)
  refine Calls.spliced_nil ?_
  refine PySem.W.kdl_call (T := "dict_values") (r := s1.heap.objs.size) (d := d) (OK := fun h => h.IsValuesView s1.heap.objs.size d ∧ h.DictAt (mixKind X.prog X.w) d vs ep) PySem.W.kdl_values (I1.ok.hd hc) ⟨⟨_, Heap.get?_push_size _ rfl, rfl, rfl⟩, hat.push _⟩ (by omega) fun h' tk acc c hk hS hacc => ?_
  have hv : acc.toList = vs.map (·.2) := PySem.W.kdl_vals_eq acc.toList (by rw [Array.length_toList]; exact hacc.1) fun j v e => hacc.2 j v (by rw [← Array.getElem?_toList]; exact e)
  have hvals : Vals (kvs.map (·.2)) acc.toList := by
    rw [hv]
    exact vals_snd (fun _ _ h => h.2) kv
  refine ⟨.ref _, _, I2.laid (o := .lst (kvs.map (·.2))) (t' := tk) hk (Nat.le_refl _) ⟨by rw [List.length_map]; exact hz, acc.toList, c, hvals, by rw [Array.toArray_toList]; exact hS⟩, rfl, q _ (I2.hok.fresh (Nat.le_refl _))⟩
variable {W : World} {rs : Rs} {kvs : List (L2.Key × V)} {D : Addr} {rl : List Rep}
theorem ew_listVals (hc : X.calm = true) (hg : Gl X "list") (hm : X.mg "list" = none) (he : Ew X W rs e (rDict kvs)) (hr : ∀ H, Reps rl (kvs.map (·.2)) H) (hbase : attributeBase e "values" X.env (eval e X.env) = eval e X.env := by rfl) (hline : (apos.endLine == cpos.line) = true := by rfl)
    (hs : starEach [.Call (.Attribute e "values" apos) [] [] cpos] X.env = (false, eval (.Call (.Attribute e "values" apos) [] [] cpos) X.env) :: starEach [] X.env := by rfl) : Ew X W rs (.Call (.Name "list" p) [.Call (.Attribute e "values" apos) [] [] cpos] [] pos) (rLst rl) :=
  pe_cs (pe_listVals hc he hg hm hbase hline hs) fun σ H Q ⟨k, g, q⟩ => ⟨k, g, fun v H1 k1 e1 ⟨a, ev, h⟩ => ⟨a, kvs, ev, W.sub H1 _ _ h, fun l hl => q _ _ (World.okNew k1 hl) (e1.trans (World.visEx k1 (Ex.new hl))) ⟨l, _, rfl, by rw [World.visNew k1 hl, upd_same], hr _⟩⟩⟩
theorem ew_listValsA (d : DictAt W D kvs) (hc : X.calm = true) (hg : Gl X "list") (hm : X.mg "list" = none) (he : Ew X W rs e (rRef D)) (hr : ∀ H, Reps rl (kvs.map (·.2)) H) (hbase : attributeBase e "values" X.env (eval e X.env) = eval e X.env := by rfl) (hline : (apos.endLine == cpos.line) = true := by rfl)
    (hs : starEach [.Call (.Attribute e "values" apos) [] [] cpos] X.env = (false, eval (.Call (.Attribute e "values" apos) [] [] cpos) X.env) :: starEach [] X.env := by rfl) : Ew X W rs (.Call (.Name "list" p) [.Call (.Attribute e "values" apos) [] [] cpos] [] pos) (rLst rl) :=
  pe_cs (pe_listVals hc he hg hm hbase hline hs) fun σ H Q ⟨k, g, q⟩ => ⟨k, g, fun v H1 k1 e1 ev => ⟨D, kvs, ev, d.at_ H1 k1, fun l hl => q _ _ (World.okNew k1 hl) (e1.trans (World.visEx k1 (Ex.new hl))) ⟨l, _, rfl, by rw [World.visNew k1 hl, upd_same], hr _⟩⟩⟩
/-- list(d), len(d), d[k] of a dict set apart -/
theorem ew_listDictA {ds : List PyData} (d : DictAt W D kvs) (hc : X.calm = true) (hg : Gl X "list") (hm : X.mg "list" = none) (ha : Ew X W rs e (rRef D)) (hd : ∀ H, Reps (ds.map (rD X.K)) (kvs.map fun kv => kV kv.1) H) (he : starEach [e] X.env = (false, eval e X.env) :: starEach [] X.env := by rfl) (hpl : (backTo pos (starEach [] X.env)).any (·.1) = false := by rfl) :
    Ew X W rs (.Call (.Name "list" p) [e] [] pos) (rD X.K (.list ds)) :=
  ew_callTy (call_listD hc) hg hm (by decide +kernel) ha (fun v H k ev Q q => ⟨D, kvs, by rw [show v = .ref D from ev], .inl (d.at_ H k), fun l hl => q _ _ (World.okNew k hl) (World.visEx k (Ex.new hl)) (rD_lst.mpr ⟨l, _, rfl, .inl (.inl (by rw [World.visNew k hl, upd_same])), hd _⟩)⟩) (by decide) (by decide) he hpl
theorem ew_lenDictA (d : DictAt W D kvs) (hg : Gl X "len") (hm : X.mg "len" = none) (ha : Ew X W rs e (rRef D)) (he : starEach [e] X.env = (false, eval e X.env) :: starEach [] X.env := by rfl) (hpl : (backTo pos (starEach [] X.env)).any (·.1) = false := by rfl) : Ew X W rs (.Call (.Name "len" p) [e] [] pos) (rD X.K (.int kvs.length)) :=
  ew_callB call_lenD hg hm PySem.boot_len ha (fun v H k ev Q q => ⟨D, kvs, by rw [show v = .ref D from ev], d.at_ H k, q _ H k (Ex.refl _) (Dp.int _)⟩) (by decide) (by decide) he hpl
theorem ew_dgetA {a : Expr} {z : Str} {v : V} {r : PyData} (d : DictAt W D kvs) (hu : X.A.units + 1 < cLine) (ho : Ew X W rs e (rRef D)) (hi : Ew X W rs a (rD X.K (.str z))) (hv : valV kvs (Sum.inr z) = some v) (hd : ∀ H, Dp X.K H v r) (hs : NoSl a) : Ew X W rs (.Subscript e a pos) (rD X.K r) := by
  refine pe_cs (pe_dget hu ho hi hs) ?_
  rintro σ H Q ⟨k, g, q⟩
  refine ⟨k, g, fun x H1 k1 e1 p1 => ⟨k1, g.mono e1, fun y H2 k2 e2 p2 => ?_⟩⟩
  refine ⟨D, v, p1, ?_, q v H2 k2 (e1.trans e2) (hd _)⟩
  rw [rD_str.mp p2, ← hv]
  exact DGet.k (k := Sum.inr z) (d.at_ H2 k2)
/-- tuple(x) of a list -/
theorem ew_tupOf (hg : Gl X "tuple") (hm : X.mg "tuple" = none) (ha : Ew X W rs e (rSeq X.K rl)) (na : starEach [e] X.env = (false, eval e X.env) :: starEach [] X.env := by rfl) : Ew X W rs (.Call (.Name "tuple" p) [e] [] pos) (rTup X.K rl) :=
  pe_cs (pe_tupleOf hg hm ha na) fun σ H Q ⟨k, g, q⟩ => ⟨k, g, fun v H1 k1 e1 ⟨a, xs, ev, hs, hr⟩ => .inl ⟨a, xs, ev, sqL_mono (W.sub H1) hs, fun l hl => q _ _ (World.okNew k1 hl) (e1.trans (World.visEx k1 (Ex.new hl))) ⟨l, xs, rfl, .inl (.inl (by rw [World.visNew k1 hl, upd_same])), hr.mono (World.visEx k1 (Ex.new hl))⟩⟩⟩
theorem ew_tupOfT (hg : Gl X "tuple") (hm : X.mg "tuple" = none) (ha : Ew X W rs e (rTup X.K rl)) (na : starEach [e] X.env = (false, eval e X.env) :: starEach [] X.env := by rfl) : Ew X W rs (.Call (.Name "tuple" p) [e] [] pos) (rTup X.K rl) :=
  pe_cs (pe_tupleOf hg hm ha na) fun σ H Q ⟨k, g, q⟩ => ⟨k, g, fun v H1 k1 e1 ⟨a, xs, ev, hs, hr⟩ => .inr ⟨a, xs, ev, sqT_mono (W.sub H1) hs, q _ H1 k1 e1 ⟨a, xs, rfl, hs, hr⟩⟩⟩
end
end Py
namespace Py
open PySem L2
section
variable {X : Cx} {W : World} {rs : Rs} {a b c e o tg it : Expr} {r ra rb rc : Rep} {pos p apos cpos : Pos} {O : Outs} {D : Addr} {kvs : List (L2.Key × V)} {st : Stmt} {sts : List Stmt}
/-! ### a text in a tuple of texts, tuples of ints in order -/
theorem ew_inStrT {z : Str} {zs : List Str} (ha : Ew X W rs a (rD X.K (.str z))) (hb : Ew X W rs b (rTup X.K (zs.map fun z => rD X.K (.str z)))) (hm : behindInMarks .In b = false) : Ew X W rs (.Compare a [.In] [b] pos) (rD X.K (.bool (inV (.str z) (zs.map V.str)))) :=
  ew_cmp op_in_seq ha hb (fun x y H k px ⟨p, xs, ey, hs, hr⟩ Q q => by
    have e : ∀ (zs : List Str) (xs : List V), Reps (zs.map fun z => rD X.K (.str z)) xs (W.vis H) → xs = zs.map V.str := by
      intro zs
      induction zs with
      | nil => intro xs hr; cases xs with
        | nil => rfl
        | cons _ _ => exact hr.elim
      | cons z zs ih => intro xs hr; cases xs with
        | nil => exact hr.elim
        | cons x xs => rw [List.map_cons, rD_str.mp hr.1, ih xs hr.2]
    rw [e zs xs hr] at hs
    refine ⟨p, zs.map V.str, ey, .inr (sqT_mono (W.sub H) hs), ?_, ?_, ?_⟩
    · rw [rD_str.mp px] <;> rfl
    · rw [List.all_map, List.all_eq_true]
      exact fun _ _ => rfl
    · rw [rD_str.mp px]
      exact q _ H k (Ex.refl _) (Dp.bl _)) hm
theorem ew_ltT {ns ms : List Int} (hu : X.A.units < cLine) (ha : Ew X W rs a (rTup X.K (ns.map fun z => rD X.K (.int z)))) (hb : Ew X W rs b (rTup X.K (ms.map fun z => rD X.K (.int z)))) : Ew X W rs (.Compare a [.Lt] [b] pos) (rD X.K (.bool (HT.lexLt ns ms))) :=
  ew_cmp (op_ltT hu) ha hb (fun x y H k ⟨p, xs, ex, hs, hr⟩ ⟨p', ys, ey, hs', hr'⟩ Q q => by
    have e : ∀ (ns : List Int) (xs : List V), Reps (ns.map fun z => rD X.K (.int z)) xs (W.vis H) → xs = ns.map V.int := by
      intro ns
      induction ns with
      | nil => intro xs hr; cases xs with
        | nil => rfl
        | cons _ _ => exact hr.elim
      | cons z zs ih => intro xs hr; cases xs with
        | nil => exact hr.elim
        | cons x xs => rw [List.map_cons, rD_int.mp hr.1, ih xs hr.2]
    rw [e ns xs hr] at hs
    rw [e ms ys hr'] at hs'
    exact ⟨p, p', ns, ms, ex, ey, sqT_mono (W.sub H) hs, sqT_mono (W.sub H) hs', q _ H k (Ex.refl _) (Dp.bl _)⟩) (nomark _)
/-! ### a new dict, set apart from its making on -/
/-- what is told in a world with D apart holds without -/
theorem bw_apart {DD : Ends} {σ : St} {H : Hp} {oo : HO} {rs' : Rs} (k : (W.hold D oo).ok H) (g : Sg rs' σ ((W.hold D oo).vis H)) (q : ∀ v H', W.ok H' → Ex ((W.hold D oo).vis H) (W.vis H') → r.p v (W.vis H') → DD.rt v H') : sW (W.hold D oo) rs' ⟨r, none, none, none⟩ DD σ H :=
  ⟨k, g, fun v H' k' e' pv => q v H' k'.1 (e'.trans hold_sub) (r.mono hold_sub pv), (fun N z => nomatch z), (fun N z => nomatch z), (fun N z => nomatch z)⟩
/-- x = {k: v, ..}: the rest in the world with the dict apart -/
theorem bw_disp (i : Nat) {x : Str} {pos' dpos : Pos} {keys : List (Option Expr)} {values : List Expr} {trs : List (TE × TE)} (h : PPs X dpos keys values trs) (hall : keys.all (·.isSome) = true) (hl : keys.length = values.length) (h0 : keys ≠ []) (h15 : keys.length ≤ 15)
    (ht : ∀ σ H Q, Q (kvs.map (fun kv => (kV kv.1, kv.2))) H → tPairs trs σ H Q) (hk : kvs.length ≤ 15) (hN : X.N.Nodup) (hi : X.N[i]? = some x) (hx : Loc X.env.scope x)
    (hb : ∀ D, Bw X (W.hold D (.dK (mergeK [] kvs))) (rs.set i (some (rRef D))) sts ⟨r, none, none, none⟩)
    (hs : swapsWith (.Dict keys values dpos) (some (.Name x pos')) pos.line X.env = pure false := by rfl)
    (hf : X.fn x = true ∨ X.env.scope.names.lookup x = some .local := by first | exact .inl rfl | exact .inr rfl | assumption) : Bw X W rs (.Assign [.Name x pos'] (.Dict keys values dpos) pos :: sts) ⟨r, none, none, none⟩ := by
  have hB : PSs X sts (fun DD σ H => ∃ D, sW (W.hold D (.dK (mergeK [] kvs))) (rs.set i (some (rRef D))) ⟨r, none, none, none⟩ DD σ H) := ⟨fun pins s σ H DD I ⟨D, q⟩ => (hb D).run pins s σ H DD I q⟩
  refine pss_cs (pss_cons (ps_set hN hi hx (pe_disp h hall hl h0 h15) hs hf) hB) ?_
  rintro DD σ H ⟨k, g, q, _⟩ l hl'
  refine ht σ _ _ ⟨upd_same, kvs, rfl, hk, ?_⟩
  rw [upd_upd]
  have kn := hold_new (o := .dK (mergeK [] kvs)) k hl'
  have eh : Ex (W.vis H) ((W.hold l (.dK (mergeK [] kvs))).vis (upd H l (.dK (mergeK [] kvs)))) := hold_of (World.visNone hl') (World.visEx k (Ex.new hl'))
  exact ⟨l, bw_apart kn ((g.mono eh).set rfl) fun v H' k' e' pv => q v H' k' (eh.trans e') pv⟩
end
end Py
namespace Py
open PySem L2
/-! ### an object set apart that is written: a world that tells what it may hold -/
def World.obj (W : World) (D : Addr) (P : HO → Prop) : World where
  hd := fun a => W.hd a ∨ a = D
  ok := fun H => W.ok H ∧ ¬ W.hd D ∧ ∃ o, P o ∧ H D = some o
  there := fun {H a} k h => by
    rcases h with h | h
    · exact W.there k.1 h
    · subst h
      obtain ⟨_, _, o, _, e⟩ := k
      rw [e]
      exact fun z => nomatch z
  keep := fun {H H'} k h => ⟨W.keep k.1 fun a z => h a (.inl z), k.2.1, by rw [h D (.inr rfl)]; exact k.2.2⟩
section
variable {W : World} {D : Addr} {P P' : HO → Prop} {H H' : Hp} {o : HO}
theorem obj_vis : (W.obj D P).vis H = (W.hold D o).vis H := by
  funext a
  unfold World.vis
  rfl
theorem obj_sub : Ex ((W.obj D P).vis H) (W.vis H) := by
  rw [obj_vis (o := .lst [])]
  exact hold_sub
theorem obj_upd (k : (W.obj D P).ok H) {u : HO} (h : P' u) : (W.obj D P').ok (upd H D u) := ⟨W.keep k.1 fun a z => upd_ne (fun q => k.2.1 (q ▸ z)), k.2.1, u, h, upd_same⟩
theorem obj_updVis {u : HO} : (W.obj D P').vis (upd H D u) = (W.obj D P).vis H := by
  rw [obj_vis (o := u), obj_vis (o := u)]
  exact hold_upd
theorem obj_any : (W.obj D P').vis H = (W.obj D P).vis H := rfl
theorem obj_weak (k : (W.obj D P).ok H) (h : ∀ o, P o → P' o) : (W.obj D P').ok H := ⟨k.1, k.2.1, let ⟨o, p, e⟩ := k.2.2; ⟨o, h o p, e⟩⟩
theorem hold_obj (k : (W.hold D o).ok H) (h : P o) : (W.obj D P).ok H := ⟨k.1, k.2.1, o, h, k.2.2⟩
end
/-! ### statements that lead from one world to another -/
def sWx (W W' : World) (rs N : Rs) : TS := fun D σ H => W.ok H ∧ Sg rs σ (W.vis H) ∧ ∀ σ' H', W'.ok H' → Ex (W.vis H) (W'.vis H') → Sg N σ' (W'.vis H') → D.nx σ' H'
abbrev Sx (X : Cx) (W W' : World) (rs : Rs) (st : Stmt) (N : Rs) : Prop := PS X st (sWx W W' rs N)
abbrev Bx (X : Cx) (W W' : World) (rs : Rs) (sts : List Stmt) (N : Rs) : Prop := PSs X sts (sWx W W' rs N)
/-- no value at all -/
def rNo : Rep := ⟨fun _ _ => False, fun _ h => h⟩
section
variable {X : Cx} {W W' W1 : World} {rs N N1 : Rs} {tg it e : Expr} {r : Rep} {pos : Pos} {D : Addr} {P : HO → Prop} {st : Stmt} {sts : List Stmt}
theorem sx_of (h : Sw X W rs st ⟨rNo, some N, none, none⟩) : Sx X W W rs st N := ps_cs h fun DD σ H ⟨k, g, q⟩ => ⟨k, g, fun _ _ _ _ p => p.elim, (fun N' z σ' H' k' e' g' => by cases z; exact q σ' H' k' e' g'), (fun N z => nomatch z), (fun N z => nomatch z)⟩
theorem bx_of (h : Bw X W rs sts ⟨rNo, some N, none, none⟩) : Bx X W W rs sts N := pss_cs h fun DD σ H ⟨k, g, q⟩ => ⟨k, g, fun _ _ _ _ p => p.elim, (fun N' z σ' H' k' e' g' => by cases z; exact q σ' H' k' e' g'), (fun N z => nomatch z), (fun N z => nomatch z)⟩
theorem bx_nil : Bx X W W rs [] rs := pss_cs pss_nil fun DD σ H ⟨k, g, q⟩ => q σ H k (Ex.refl _) g
theorem bx_cons (h : Sx X W W1 rs st N1) (h2 : Bx X W1 W' N1 sts N) : Bx X W W' rs (st :: sts) N := pss_cs (pss_cons h h2) fun DD σ H ⟨k, g, q⟩ => ⟨k, g, fun σ1 H1 k1 e1 g1 => ⟨k1, g1, fun σ2 H2 k2 e2 g2 => q σ2 H2 k2 (e1.trans e2) g2⟩⟩
/-- what is behind lies in the new world; its answer holds in the old one -/
theorem bw_x (h : Sx X W W' rs st N) (h2 : Bw X W' N sts ⟨r, none, none, none⟩) (ho : ∀ H, W'.ok H → W.ok H) (hv : ∀ H, Ex (W'.vis H) (W.vis H)) : Bw X W rs (st :: sts) ⟨r, none, none, none⟩ :=
  pss_cs (pss_cons h h2) fun DD σ H ⟨k, g, q, _⟩ => ⟨k, g, fun σ1 H1 k1 e1 g1 => ⟨k1, g1, fun v H2 k2 e2 p2 => q v H2 (ho H2 k2) ((e1.trans e2).trans (hv H2)) (r.mono (hv H2) p2), (fun N z => nomatch z), (fun N z => nomatch z), (fun N z => nomatch z)⟩⟩
/-- what the object holds is looked at -/
theorem bw_learn (h : ∀ o, P o → Bw X (W.hold D o) rs sts ⟨r, none, none, none⟩) : Bw X (W.obj D P) rs sts ⟨r, none, none, none⟩ :=
  pss_cs (t := fun DD σ H => ∃ o, P o ∧ sW (W.hold D o) rs ⟨r, none, none, none⟩ DD σ H) ⟨fun pins s σ H DD I ⟨o, p, q⟩ => (h o p).run pins s σ H DD I q⟩ fun DD σ H ⟨k, g, q, _⟩ => by
    obtain ⟨o, p, e⟩ := k.2.2
    refine ⟨o, p, ⟨k.1, k.2.1, e⟩, by rw [← obj_vis (P := P)]; exact g, fun v H' k' e' pv => q v H' (hold_obj k' p) (by rw [obj_vis (o := o), obj_vis (o := o)]; exact e') (by rw [obj_vis (o := o)]; exact pv), (fun N z => nomatch z), (fun N z => nomatch z), (fun N z => nomatch z)⟩
/-- what an iterable gives, told in one world, walked in another -/
def iW2 (W Wg : World) (rs : Rs) (n : Nat) (item : Nat → Rep) : TI := fun σ H R => W.ok H ∧ Sg rs σ (W.vis H) ∧ ∀ (J : It) (G : Hp → Prop) (Y : Nat → Hp → V → Hp → Prop) (H1 : Hp), Walk J n G Y → W.ok H1 → Ex (W.vis H) (W.vis H1) →
  (∀ H2, Wg.ok H2 → Ex (W.vis H1) (Wg.vis H2) → G H2) → (∀ i x H2 H3, i < n → Y i H2 x H3 → (H3 = H2 ∧ ∀ G2, Ex (W.vis H1) G2 → Ex G2 H2 → (item i).p x G2) ∨ ∃ T o, H2 T = none ∧ H3 = upd H2 T o ∧ ∀ G2, Ex (W.vis H1) G2 → Ex G2 H2 → (item i).p x (upd G2 T o)) → R J H1
abbrev Iw2 (X : Cx) (W Wg : World) (rs : Rs) (tg it : Expr) (n : Nat) (item : Nat → Rep) : Prop := PI X tg it (iW2 W Wg rs n item)
theorem i2_seq {Wg : World} {rl : List Rep} (h : Ew X W rs it (rSeq X.K rl)) : Iw2 X W Wg rs tg it rl.length (fun i => rl.getD i rNon) := by
  refine pi_cs (pi_list h) ?_
  rintro σ H R ⟨k, g, q⟩
  refine ⟨k, g, ?_⟩
  rintro v H1 k1 e1 ⟨p, xs, ev, hs, hr⟩
  refine ⟨p, ev, ⟨xs, sqL_mono (W.sub H1) hs⟩, q (Itl X.K p) (fun H => SqL X.K H p xs) (YAt xs) H1 (hr.len ▸ walk_list) k1 e1 (fun H2 _ e2 => sqL_mono (e2.trans (Wg.sub H2)) hs) ?_⟩
  rintro i x H2 H3 hi ⟨eH, hx⟩
  obtain ⟨r, h1, h2⟩ := hr.get' hx
  refine .inl ⟨eH, fun G2 e2 _ => ?_⟩
  show (rl.getD i rNon).p x G2
  rw [getD_of h1]
  exact r.mono e2 h2
theorem i2_range1 {Wg : World} {a : Expr} {p : Pos} {j : Int} (hg : Gl X "range") (hm : X.mg "range" = none) (h : Ew X W rs a (rD X.K (.int j))) (hj : -(2 ^ 62) ≤ j ∧ j < 2 ^ 62) (hs : starEach [a] X.env = [(false, eval a X.env)] := by rfl) :
    Iw2 X W Wg rs tg (.Call (.Name "range" p) [a] [] pos) j.toNat (fun i => rD X.K (.int i)) := by
  refine pi_cs (pi_range1 hg hm (aw_cons h aw_nil hs) hs) ?_
  rintro σ H R ⟨k, g, q⟩
  refine ⟨k, g, ?_⟩
  intro vs H1 k1 e1 hp
  obtain ⟨x, rfl, p⟩ := reps1 hp
  refine ⟨j, by rw [rD_int.mp p], hj.1, hj.2, q (Itr 0 j.toNat) (fun _ => True) _ H1 walk_range k1 e1 (fun _ _ _ => trivial) ?_⟩
  rintro i x H2 H3 hi ⟨eH, hx⟩
  exact .inl ⟨eH, fun G2 _ _ => rD_int.mpr (hx.trans (congrArg V.int (Int.zero_add _)))⟩
/-- a loop that writes the object: what it holds at each turn -/
theorem sx_for {n : Nat} {item : Nat → Rep} {body : List Stmt} (Q : Nat → HO → Prop) (Ns Ms : Nat → Rs) (hi : Iw2 X (W.obj D (Q 0)) (W.obj D fun _ => True) (Ns 0) tg it n item) (hg : ∀ i, i < n → Gw X (W.obj D (Q i)) (Ns i) tg (item i) (Ms i))
    (hb : ∀ i, i < n → Bx X (W.obj D (Q i)) (W.obj D (Q (i + 1))) (Ms i) body (Ns (i + 1))) (hp : PassesOwn (model X.prog X.w) X.A X.env X.xe) (hc : X.calm = true)
    (hs : ∀ x, foldedSetIterable it X.env x = pure x := by intro _; rfl) : Sx X (W.obj D (Q 0)) (W.obj D (Q n)) (Ns 0) (.For tg it body [] pos) (Ns n) := by
  have hG : PG X tg (fun v σ H R => ∃ i, i < n ∧ gW (W.obj D (Q i)) (Ns i) (item i) (Ms i) v σ H R) := ⟨fun pins s σ H v u R I rv ⟨i, hi, q⟩ => (hg i hi).run pins s σ H v u R I rv q⟩
  have hB : PSs X body (fun DD σ H => ∃ i, i < n ∧ sWx (W.obj D (Q i)) (W.obj D (Q (i + 1))) (Ms i) (Ns (i + 1)) DD σ H) := ⟨fun pins s σ H DD I ⟨i, hi, q⟩ => (hb i hi).run pins s σ H DD I q⟩
  refine ps_cs (ps_for hp hc hi hG hB hs) ?_
  rintro DD σ H ⟨k, g, q⟩
  refine ⟨k, g, ?_⟩
  intro J G Y H1 w k1 e1 hGk hY
  refine for_it (D := DD) (g := fun v σ H R => ∃ i, i < n ∧ gW (W.obj D (Q i)) (Ns i) (item i) (Ms i) v σ H R) (tb := fun DD σ H => ∃ i, i < n ∧ sWx (W.obj D (Q i)) (W.obj D (Q (i + 1))) (Ms i) (Ns (i + 1)) DD σ H) w
    (fun i σ' H' => (W.obj D (Q i)).ok H' ∧ Ex ((W.obj D (Q 0)).vis H1) ((W.obj D (Q 0)).vis H') ∧ Sg (Ns i) σ' ((W.obj D (Q 0)).vis H')) ⟨k1, Ex.refl _, g.mono e1⟩ (fun i σ' H' _ p => hGk H' (obj_weak p.1 fun _ _ => trivial) p.2.1) ?_ ?_
  · rintro i x σ' H' H'' hi' ⟨k', e', g'⟩ hy
    obtain ⟨k2, e2, p2⟩ : (W.obj D (Q i)).ok H'' ∧ Ex ((W.obj D (Q 0)).vis H') ((W.obj D (Q 0)).vis H'') ∧ (item i).p x ((W.obj D (Q 0)).vis H'') := by
      rcases hY i x H' H'' hi' hy with ⟨rfl, hp2⟩ | ⟨T, o, hT, rfl, hp2⟩
      · exact ⟨k', Ex.refl _, hp2 _ e' (World.sub _ _)⟩
      · exact ⟨World.okNew k' hT, World.visEx (W := W.obj D (Q i)) k' (Ex.new hT), by
          have hv := World.visNew (o := o) (W := W.obj D (Q i)) k' hT
          have hv' : (W.obj D (Q 0)).vis (upd H' T o) = upd ((W.obj D (Q 0)).vis H') T o := hv
          rw [hv']
          exact hp2 _ e' (World.sub _ _)⟩
    exact ⟨i, hi', k2, g'.mono e2, p2, fun σ3 H3 k3 e3 g3 => ⟨i, hi', k3, g3, fun σ4 H4 k4 e4 g4 => ⟨k4, ((e'.trans e2).trans e3).trans e4, g4⟩⟩⟩
  · rintro σ' H' ⟨k', e', g'⟩
    exact q σ' H' k' (e1.trans e') g'
end
end Py
namespace Py
open PySem L2
/-! ### statements whose doing picks the world behind them -/
def sWz {α : Type} (W : World) (rs : Rs) (W' : α → World) (N : α → Rs) : TS := fun D σ H => W.ok H ∧ Sg rs σ (W.vis H) ∧ ∀ a σ' H', (W' a).ok H' → Ex (W.vis H) ((W' a).vis H') → Sg (N a) σ' ((W' a).vis H') → D.nx σ' H'
abbrev Sz {α : Type} (X : Cx) (W : World) (rs : Rs) (st : Stmt) (W' : α → World) (N : α → Rs) : Prop := PS X st (sWz W rs W' N)
abbrev Bz {α : Type} (X : Cx) (W : World) (rs : Rs) (sts : List Stmt) (W' : α → World) (N : α → Rs) : Prop := PSs X sts (sWz W rs W' N)
/-- what answers, in a world that it picks -/
def sWr {α : Type} (W : World) (rs : Rs) (W' : α → World) (r : α → Rep) : TS := fun D σ H => W.ok H ∧ Sg rs σ (W.vis H) ∧ ∀ a v H', (W' a).ok H' → Ex (W.vis H) ((W' a).vis H') → (r a).p v ((W' a).vis H') → D.rt v H'
abbrev Br {α : Type} (X : Cx) (W : World) (rs : Rs) (sts : List Stmt) (W' : α → World) (r : α → Rep) : Prop := PSs X sts (sWr W rs W' r)
/-- the object D, a list that is held apart, with what its items stand for -/
def rAtL (D : Addr) (rl : List Rep) (xs : List V) : Rep := ⟨fun v H => v = .ref D ∧ Reps rl xs H, fun e h => ⟨h.1, h.2.mono e⟩⟩
/-- what a slot holds stands for something else as well -/
theorem Sg.re : ∀ {rs : Rs} {σ : St} {H : Hp} {i : Nat} {r r' : Rep}, Sg rs σ H → rs[i]? = some (some r) → (∀ v, r.p v H → r'.p v H) → Sg (rs.set i (some r')) σ H
  | [], _, _, i, _, _, _, e, _ => by simp at e
  | some r :: _, x :: _, _, 0, _, _, h, e, f => by
    simp at e
    subst e
    obtain ⟨⟨v, q, p⟩, g⟩ := h
    exact ⟨⟨v, q, f v p⟩, g⟩
  | none :: _, _ :: _, _, 0, _, _, _, e, _ => by simp at e
  | some _ :: rs, _ :: σ, _, i + 1, _, _, h, e, f => ⟨h.1, Sg.re (rs := rs) (i := i) h.2 (by simpa using e) f⟩
  | none :: rs, _ :: σ, _, i + 1, _, _, h, e, f => Sg.re (rs := rs) (i := i) h (by simpa using e) f
  | some _ :: _, [], _, _, _, _, h, _, _ => h.elim
  | none :: _, [], _, _, _, _, h, _, _ => h.elim
section
variable {α β : Type} {X : Cx} {W W1 : World} {W' : α → World} {N : α → Rs} {rr : α → Rep} {V1 : β → World} {N1 : β → Rs} {rs M : Rs} {tg it e c : Expr} {r : Rep} {pos apos cpos : Pos} {D : Addr} {st : Stmt} {sts sts' : List Stmt}
theorem sz_ofx (a : α) (h : Sx X W (W' a) rs st (N a)) : Sz X W rs st W' N := ps_cs h fun DD σ H ⟨k, g, q⟩ => ⟨k, g, fun σ' H' k' e' g' => q a σ' H' k' e' g'⟩
theorem bz_nil (a : α) : Bz X (W' a) (N a) [] W' N := pss_cs pss_nil fun DD σ H ⟨k, g, q⟩ => q a σ H k (Ex.refl _) g
theorem bz_cons (h : Sz X W rs st V1 N1) (h2 : ∀ b, Bz X (V1 b) (N1 b) sts W' N) : Bz X W rs (st :: sts) W' N := by
  have hB : PSs X sts (fun DD σ H => ∃ b, sWz (V1 b) (N1 b) W' N DD σ H) := ⟨fun pins s σ H DD I ⟨b, q⟩ => (h2 b).run pins s σ H DD I q⟩
  exact pss_cs (pss_cons h hB) fun DD σ H ⟨k, g, q⟩ => ⟨k, g, fun b σ1 H1 k1 e1 g1 => ⟨b, k1, g1, fun a σ2 H2 k2 e2 g2 => q a σ2 H2 k2 (e1.trans e2) g2⟩⟩
theorem bz_consx (h : Sx X W W1 rs st M) (h2 : Bz X W1 M sts W' N) : Bz X W rs (st :: sts) W' N :=
  pss_cs (pss_cons h h2) fun DD σ H ⟨k, g, q⟩ => ⟨k, g, fun σ1 H1 k1 e1 g1 => ⟨k1, g1, fun a σ2 H2 k2 e2 g2 => q a σ2 H2 k2 (e1.trans e2) g2⟩⟩
theorem bz_consw (h : Sw X W rs st ⟨rNo, some M, none, none⟩) (h2 : Bz X W M sts W' N) : Bz X W rs (st :: sts) W' N := bz_consx (sx_of h) h2
theorem br_of (a : α) (h : Bw X (W' a) rs sts ⟨rr a, none, none, none⟩) : Br X (W' a) rs sts W' rr := pss_cs h fun DD σ H ⟨k, g, q⟩ => ⟨k, g, fun v H' k' e' p => q a v H' k' e' p, (fun N z => nomatch z), (fun N z => nomatch z), (fun N z => nomatch z)⟩
theorem br_cons (h : Sz X W rs st V1 N1) (h2 : ∀ b, Br X (V1 b) (N1 b) sts W' rr) : Br X W rs (st :: sts) W' rr := by
  have hB : PSs X sts (fun DD σ H => ∃ b, sWr (V1 b) (N1 b) W' rr DD σ H) := ⟨fun pins s σ H DD I ⟨b, q⟩ => (h2 b).run pins s σ H DD I q⟩
  exact pss_cs (pss_cons h hB) fun DD σ H ⟨k, g, q⟩ => ⟨k, g, fun b σ1 H1 k1 e1 g1 => ⟨b, k1, g1, fun a v H2 k2 e2 p2 => q a v H2 k2 (e1.trans e2) p2⟩⟩
theorem br_consx (h : Sx X W W1 rs st M) (h2 : Br X W1 M sts W' rr) : Br X W rs (st :: sts) W' rr :=
  pss_cs (pss_cons h h2) fun DD σ H ⟨k, g, q⟩ => ⟨k, g, fun σ1 H1 k1 e1 g1 => ⟨k1, g1, fun a v H2 k2 e2 p2 => q a v H2 k2 (e1.trans e2) p2⟩⟩
theorem br_consw (h : Sw X W rs st ⟨rNo, some M, none, none⟩) (h2 : Br X W M sts W' rr) : Br X W rs (st :: sts) W' rr := br_consx (sx_of h) h2
/-- xs.append(e), xs held apart -/
theorem sz_append (i : Nat) {o : Expr} {rl : List Rep} {xs : List V} (hi : rs[i]? = some (some (rAtL D rl xs))) (ho : Ew X (W.hold D (.lst xs)) rs o (rAtL D rl xs)) (he : Ew X (W.hold D (.lst xs)) rs e r) (hl : rl.length ≤ 1000)
    (hbase : attributeBase o "append" X.env (eval o X.env) = eval o X.env := by rfl)
    (hfew : ((backTo cpos (starEach [e] X.env)).all (fun x => !x.1) && (backToKw cpos (keywordEach [] X.env)).all (fun x => x.1.isSome) && decide ([e].length + ([] : List Keyword).length + (if ([] : List Keyword).isEmpty then 0 else 1) < 30)) = true := by rfl)
    (hline : (apos.endLine == cpos.line) = true := by rfl) (hs : starEach [e] X.env = (false, eval e X.env) :: starEach [] X.env := by rfl) (hplain : (backTo cpos (starEach [] X.env)).any (·.1) = false := by rfl)
    (hw : swapsWith (.Call (.Attribute o "append" apos) [e] [] cpos) none pos.line X.env = pure false := by rfl) :
    Sz X (W.hold D (.lst xs)) rs (.Expr (.Call (.Attribute o "append" apos) [e] [] cpos) pos) (fun a : V => W.hold D (.lst (xs ++ [a]))) (fun a => rs.set i (some (rAtL D (rl ++ [r]) (xs ++ [a])))) := by
  refine ps_cs (ps_expr (pe_bm PySem.F.plainAttrs_list PySem.F.slot_list_append PySem.F.type_list_append mt_append ho (pa_cons he pa_nil (hs := hs)) hbase hfew hline hs hplain) hw) ?_
  rintro DD σ H ⟨k, g, q⟩
  refine ⟨k, g, ?_⟩
  rintro v H1 k1 e1 ⟨rfl, p1⟩
  refine ⟨.inl ⟨rfl, xs, .of k1.2.2⟩, k1, g.mono e1, ?_⟩
  intro y H2 k2 e2 p2
  refine ⟨D, xs, y, rfl, rfl, k2.2.2, small1000 (by rw [← p1.len]; exact hl), ?_⟩
  have hv : (W.hold D (.lst (xs ++ [y]))).vis (upd H2 D (.lst (xs ++ [y]))) = (W.hold D (.lst xs)).vis H2 := hold_upd
  refine q y σ _ (hold_okUpd k2) (by rw [hv]; exact e1.trans e2) ?_
  rw [hv]
  exact (g.mono (e1.trans e2)).re hi fun v p => ⟨p.1, (p.2).app ⟨p2, trivial⟩⟩
/-- a loop that writes an object held apart -/
theorem sz_for {n : Nat} {item : Nat → Rep} {body : List Stmt} (f : β → HO) (Ns Ms : Nat → β → Rs) (b0 : β) (hi : Iw2 X (W.hold D (f b0)) (W.obj D fun _ => True) (Ns 0 b0) tg it n item) (hg : ∀ i b, i < n → Gw X (W.hold D (f b)) (Ns i b) tg (item i) (Ms i b))
    (hb : ∀ i b, i < n → Bz X (W.hold D (f b)) (Ms i b) body (fun b => W.hold D (f b)) (Ns (i + 1))) (hp : PassesOwn (model X.prog X.w) X.A X.env X.xe) (hc : X.calm = true)
    (hs : ∀ x, foldedSetIterable it X.env x = pure x := by intro _; rfl) : Sz X (W.hold D (f b0)) (Ns 0 b0) (.For tg it body [] pos) (fun b => W.hold D (f b)) (Ns n) := by
  have hG : PG X tg (fun v σ H R => ∃ i b, i < n ∧ gW (W.hold D (f b)) (Ns i b) (item i) (Ms i b) v σ H R) := ⟨fun pins s σ H v u R I rv ⟨i, b, hi, q⟩ => (hg i b hi).run pins s σ H v u R I rv q⟩
  have hB : PSs X body (fun DD σ H => ∃ i b, i < n ∧ sWz (W.hold D (f b)) (Ms i b) (fun b => W.hold D (f b)) (Ns (i + 1)) DD σ H) := ⟨fun pins s σ H DD I ⟨i, b, hi, q⟩ => (hb i b hi).run pins s σ H DD I q⟩
  refine ps_cs (ps_for hp hc hi hG hB hs) ?_
  rintro DD σ H ⟨k, g, q⟩
  refine ⟨k, g, ?_⟩
  intro J G Y H1 w k1 e1 hGk hY
  have va : ∀ b H, (W.hold D (f b)).vis H = (W.hold D (f b0)).vis H := fun b H => hold_any
  have vo : ∀ H, (W.obj D fun _ => True).vis H = (W.hold D (f b0)).vis H := fun H => obj_vis
  refine for_it (D := DD) (g := fun v σ H R => ∃ i b, i < n ∧ gW (W.hold D (f b)) (Ns i b) (item i) (Ms i b) v σ H R) (tb := fun DD σ H => ∃ i b, i < n ∧ sWz (W.hold D (f b)) (Ms i b) (fun b => W.hold D (f b)) (Ns (i + 1)) DD σ H) w
    (fun i σ' H' => ∃ b, (W.hold D (f b)).ok H' ∧ Ex ((W.hold D (f b0)).vis H1) ((W.hold D (f b0)).vis H') ∧ Sg (Ns i b) σ' ((W.hold D (f b0)).vis H')) ⟨b0, k1, Ex.refl _, g.mono e1⟩
    (fun i σ' H' _ ⟨b, p, e', _⟩ => hGk H' (hold_obj p trivial) (by rw [vo]; exact e')) ?_ ?_
  · rintro i x σ' H' H'' hi' ⟨b, k', e', g'⟩ hy
    obtain ⟨k2, e2, p2⟩ : (W.hold D (f b)).ok H'' ∧ Ex ((W.hold D (f b0)).vis H') ((W.hold D (f b0)).vis H'') ∧ (item i).p x ((W.hold D (f b0)).vis H'') := by
      rcases hY i x H' H'' hi' hy with ⟨rfl, hp2⟩ | ⟨T, o, hT, rfl, hp2⟩
      · exact ⟨k', Ex.refl _, hp2 _ e' (World.sub _ _)⟩
      · have hv := World.visNew (o := o) k' hT
        rw [va, va] at hv
        refine ⟨World.okNew k' hT, ?_, ?_⟩
        · rw [← va b, ← va b]
          exact World.visEx k' (Ex.new hT)
        · rw [hv]
          exact hp2 _ e' (World.sub _ _)
    refine ⟨i, b, hi', k2, by rw [va]; exact g'.mono e2, by rw [va]; exact p2, fun σ3 H3 k3 e3 g3 => ⟨i, b, hi', k3, g3, fun b4 σ4 H4 k4 e4 g4 => ⟨b4, k4, ?_, ?_⟩⟩⟩
    · rw [va] at e3 e4
      rw [va] at e3 e4
      exact ((e'.trans e2).trans e3).trans e4
    · rw [va] at g4
      exact g4
  · rintro σ' H' ⟨b, k', e', g'⟩
    exact q b σ' H' k' (by rw [va]; exact e1.trans e') (by rw [va]; exact g')
theorem reps_drop : ∀ {rl : List Rep} {xs : List V} {H : Hp} (m : Nat), Reps rl xs H → Reps (rl.drop m) (xs.drop m) H
  | [], [], _, m, _ => by simp only [List.drop_nil]; exact trivial
  | r :: rl, x :: xs, H, 0, h => h
  | r :: rl, x :: xs, H, m + 1, h => by
    rw [List.drop_succ_cons, List.drop_succ_cons]
    exact reps_drop m h.2
  | [], _ :: _, _, _, h => h.elim
  | _ :: _, [], _, _, h => h.elim
/-- an if within such statements -/
theorem sz_if {d : Bool} (h : Tw X W rs c d) (h1 : d = true → Bz X W rs sts W' N) (h2 : d = false → Bz X W rs sts' W' N) : Sz X W rs (.If c sts sts' pos) W' N := by
  cases d with
  | true => exact ps_cs (ps_if h (h1 rfl) pss_never) fun DD σ H ⟨k, g, q⟩ => ⟨k, g, fun H1 k1 e1 => iteT ⟨k1, g.mono e1, fun a σ2 H2 k2 e2 g2 => q a σ2 H2 k2 (e1.trans e2) g2⟩⟩
  | false => exact ps_cs (ps_if h pss_never (h2 rfl)) fun DD σ H ⟨k, g, q⟩ => ⟨k, g, fun H1 k1 e1 => iteF ⟨k1, g.mono e1, fun a σ2 H2 k2 e2 g2 => q a σ2 H2 k2 (e1.trans e2) g2⟩⟩
/-- xs.insert(j, e), xs held apart -/
theorem sz_insert (i : Nat) {o a : Expr} {rl : List Rep} {xs : List V} {j : Nat} (hi : rs[i]? = some (some (rAtL D rl xs))) (ho : Ew X (W.hold D (.lst xs)) rs o (rAtL D rl xs)) (ha : Ew X (W.hold D (.lst xs)) rs a (rD X.K (.int j))) (he : Ew X (W.hold D (.lst xs)) rs e r) (hl : rl.length ≤ 1000) (hj : j ≤ rl.length)
    (hbase : attributeBase o "insert" X.env (eval o X.env) = eval o X.env := by rfl)
    (hfew : ((backTo cpos (starEach [a, e] X.env)).all (fun x => !x.1) && (backToKw cpos (keywordEach [] X.env)).all (fun x => x.1.isSome) && decide ([a, e].length + ([] : List Keyword).length + (if ([] : List Keyword).isEmpty then 0 else 1) < 30)) = true := by rfl)
    (hline : (apos.endLine == cpos.line) = true := by rfl) (hs : starEach [a, e] X.env = (false, eval a X.env) :: starEach [e] X.env := by rfl) (hs2 : starEach [e] X.env = (false, eval e X.env) :: starEach [] X.env := by rfl) (hplain : (backTo cpos (starEach [e] X.env)).any (·.1) = false := by rfl)
    (hw : swapsWith (.Call (.Attribute o "insert" apos) [a, e] [] cpos) none pos.line X.env = pure false := by rfl) :
    Sz X (W.hold D (.lst xs)) rs (.Expr (.Call (.Attribute o "insert" apos) [a, e] [] cpos) pos) (fun y : V => W.hold D (.lst (xs.take j ++ [y] ++ xs.drop j))) (fun y => rs.set i (some (rAtL D (rl.take j ++ [r] ++ rl.drop j) (xs.take j ++ [y] ++ xs.drop j)))) := by
  refine ps_cs (ps_expr (pe_bm PySem.F.plainAttrs_list PySem.F.slot_list_insert PySem.F.type_list_insert mt_insert ho (pa_cons ha (pa_cons he pa_nil (hs := hs2)) (hs := hs)) hbase hfew hline hs hplain) hw) ?_
  rintro DD σ H ⟨k, g, q⟩
  refine ⟨k, g, ?_⟩
  rintro v H1 k1 e1 ⟨rfl, p1⟩
  refine ⟨.inl ⟨rfl, xs, .of k1.2.2⟩, k1, g.mono e1, ?_⟩
  intro z H2 k2 e2 p2
  refine ⟨k2, g.mono (e1.trans e2), ?_⟩
  intro y H3 k3 e3 p3
  have hz : xs.length < sizeLine := small1000 (by rw [← p1.len]; exact hl)
  refine ⟨D, xs, j, y, rfl, by rw [rD_int.mp p2], k3.2.2, hz, Int.natCast_nonneg j, ?_, ?_⟩
  · have : j ≤ 1000 := Nat.le_trans hj hl
    omega
  rw [show ((j : Int)).toNat = j from Int.toNat_natCast j]
  have hv : (W.hold D (.lst (xs.take j ++ [y] ++ xs.drop j))).vis (upd H3 D (.lst (xs.take j ++ [y] ++ xs.drop j))) = (W.hold D (.lst xs)).vis H3 := hold_upd
  refine q y σ _ (hold_okUpd k3) (by rw [hv]; exact (e1.trans e2).trans e3) ?_
  rw [hv]
  exact (g.mono ((e1.trans e2).trans e3)).re hi fun v p => ⟨p.1, ((reps_take j p.2).app (show Reps [r] [y] _ from ⟨p3, trivial⟩)).app (reps_drop j p.2)⟩
/-- x = [], and what follows writes it and gives it back, or what it reads off it -/
theorem bw_grow (i : Nat) {x : Str} {pos' : Pos} {dpos : Pos} {r' : Addr → List V → Rep} (hN : X.N.Nodup) (hi : X.N[i]? = some x) (hx : Loc X.env.scope x) (h : ∀ D, Br X (W.hold D (.lst [])) (rs.set i (some (rAtL D [] []))) sts (fun xs => W.hold D (.lst xs)) (r' D))
    (hr : ∀ D xs v H, W.vis H D = some (.lst xs) → (r' D xs).p v (W.vis H) → r.p v (W.vis H))
    (hs : swapsWith (.List [] dpos) (some (.Name x pos')) pos.line X.env = pure false := by rfl)
    (hf : X.fn x = true ∨ X.env.scope.names.lookup x = some .local := by first | exact .inl rfl | exact .inr rfl | assumption) : Bw X W rs (.Assign [.Name x pos'] (.List [] dpos) pos :: sts) ⟨r, none, none, none⟩ := by
  have hB : PSs X sts (fun DD σ H => ∃ D, sWr (W.hold D (.lst [])) (rs.set i (some (rAtL D [] []))) (fun xs => W.hold D (.lst xs)) (r' D) DD σ H) := ⟨fun pins s σ H DD I ⟨D, q⟩ => (h D).run pins s σ H DD I q⟩
  refine pss_cs (pss_cons (ps_set hN hi hx (pe_lst pa_nil) hs hf) hB) ?_
  rintro DD σ H ⟨k, g, q, _⟩
  refine ⟨Nat.zero_le _, ?_⟩
  intro l hl'
  have kn := hold_new (o := .lst []) k hl'
  have eh : Ex (W.vis H) ((W.hold l (.lst [])).vis (upd H l (.lst []))) := hold_of (World.visNone hl') (World.visEx k (Ex.new hl'))
  refine ⟨l, kn, (g.mono eh).set ⟨rfl, trivial⟩, ?_⟩
  intro xs v H' k' e' p'
  rw [hold_any (o' := .lst xs)] at e' eh
  exact q v H' k'.1 ((eh.trans e').trans hold_sub) (hr l xs v H' (hold_seen k') ((r' l xs).mono hold_sub p'))
end
end Py
namespace Py
open PySem PySem.Spec PyProof.Rows L2
/-! ### zip of a tuple and a list -/
section
variable {prog : Program} {w : PySem.World} {A : Around} {E : Value → Shared → Prop} {s : Shared}
abbrev mixH1 (h : Heap) (t : Addr) : Heap := h.push { cls := .type "tuple_iterator", data := .fields #[.ref t, .int 0 0] }
abbrev mixH2 (h : Heap) (t l : Addr) : Heap := (mixH1 h t).push { cls := .type "list_iterator", data := .fields #[.ref l, .int 0 0] }
abbrev mixH3 (h : Heap) (t l : Addr) : Heap := (mixH2 h t l).push { cls := .type "tuple", data := .seq #[.ref h.objs.size, .ref (mixH1 h t).objs.size] }
abbrev mixH4 (h : Heap) (t l : Addr) : Heap := (mixH3 h t l).push { cls := .type "tuple", data := .seq #[.none, .none] }
abbrev mixH5 (h : Heap) (t l : Addr) : Heap := (mixH4 h t l).push { cls := .type "zip", data := .fields #[.none, .bool false, .bool false, .ref (mixH2 h t l).objs.size, .ref (mixH3 h t l).objs.size] }
theorem mix_new (t l : Addr) (xs ys : Array Value) :
    Meets (Builtin.«zip.__new__» ⟨[.type "zip", .ref t, .ref l], []⟩) (fun _ R s => s.heap.IsTuple t xs ∧ s.heap.IsList l ys ∧ R (.ok (.ret (.ref (mixH4 s.heap t l).objs.size))) { s with heap := mixH5 s.heap t l }) :=
  .of_wp fun prog w A R s h => by
    obtain ⟨hp, g, d, tk, os⟩ := s
    obtain ⟨h1, h2, h⟩ := h
    have hsub := sub_zip
    have a1 : Heap.IsTuple (Shared.heap ⟨hp, g, d, tk, os⟩) t xs := h1
    have a2 : Heap.IsList (Shared.heap ⟨hp.push { cls := .type "tuple_iterator", data := .fields #[.ref t, .int 0 0] }, g, d, tk, os⟩) l ys := Heap.IsList.push h2 _
    wp_walk using wpAny_pyIter_tuple a1, wpAny_pyIter_list a2
    exact ⟨_, rfl, h⟩
theorem call_zipM {t l : Addr} {xs ys : Array Value} {Q : Value → Shared → Prop} (h1 : s.heap.IsTuple t xs) (h2 : s.heap.IsList l ys)
    (h : ∀ h', IsZip h' (s.heap.objs.size + 4) (s.heap.objs.size + 2) (s.heap.objs.size + 3) .none → IsPair h' (s.heap.objs.size + 2) (.ref s.heap.objs.size) (.ref (s.heap.objs.size + 1)) →
      IsPair h' (s.heap.objs.size + 3) .none .none → h'.IsTupleIter s.heap.objs.size t 0 → h'.IsListIter (s.heap.objs.size + 1) l 0 → (∀ c o, s.heap.get? c = some o → h'.get? c = some o) → Q (.ref (s.heap.objs.size + 4)) { s with heap := h' }) :
    wpAny (model prog w) A (call (.type "zip") [.ref t, .ref l]) Q E s := by
  refine callType_new F.called_zip (by decide) (F.typeCall_zip_2 _ _) (F.newCall_zip_2 _ _) (fun obj => F.args_object_init_3 obj _ _) F.entry_zip_new (mix_new t l xs ys) ⟨h1, h2, ?_⟩
  have z1 : (mixH1 s.heap t).objs.size = s.heap.objs.size + 1 := Heap.size_push ..
  have z2 : (mixH2 s.heap t l).objs.size = s.heap.objs.size + 2 := by rw [Heap.size_push, z1]
  have z3 : (mixH3 s.heap t l).objs.size = s.heap.objs.size + 3 := by rw [Heap.size_push, z2]
  have z4 : (mixH4 s.heap t l).objs.size = s.heap.objs.size + 4 := by rw [Heap.size_push, z3]
  have up : ∀ {h : Heap} {o u : Obj} {c : Addr}, h.get? c = some o → (h.push u).get? c = some o := fun e => Heap.get?_push_of_some _ e
  have g5 : (mixH5 s.heap t l).get? (mixH4 s.heap t l).objs.size = some _ := Heap.get?_push_size _ rfl
  have g4 : (mixH5 s.heap t l).get? (mixH3 s.heap t l).objs.size = some _ := up (Heap.get?_push_size _ rfl)
  have g3 : (mixH5 s.heap t l).get? (mixH2 s.heap t l).objs.size = some _ := up (up (Heap.get?_push_size _ rfl))
  have g2 : (mixH5 s.heap t l).get? (mixH1 s.heap t).objs.size = some _ := up (up (up (Heap.get?_push_size _ rfl)))
  have g1 : (mixH5 s.heap t l).get? s.heap.objs.size = some _ := up (up (up (up (Heap.get?_push_size _ rfl))))
  show _ ∧ _
  rw [z2, z3, z4] at g5
  rw [z1, z2] at g3
  rw [z3] at g4
  rw [z1] at g2
  rw [z4]
  exact ⟨⟨_, g5, rfl⟩, h _ g5 g3 g4 ⟨_, g1, rfl, rfl⟩ ⟨_, g2, rfl, rfl⟩ fun c o x => up (up (up (up (up x))))⟩
end
/-- the tuple at a and the list at b as they stand at each turn, the items in new pairs -/
def ItzM (K : PySem.W.Frag) (a b : Addr) : It :=
  ⟨fun i H => ∃ (xs ys : List V) (x y : V), SqT K H a xs ∧ SqL K H b ys ∧ xs[i]? = some x ∧ ys[i]? = some y,
    fun i H v H' => ∃ T x y, v = .ref T ∧ H T = none ∧ H' = upd H T (.tup [x, y]) ∧ (∀ xs, SqT K H a xs → xs[i]? = some x) ∧ ∀ ys, SqL K H b ys → ys[i]? = some y,
    fun i H => ∃ xs ys : List V, SqT K H a xs ∧ SqL K H b ys ∧ (xs.length = i ∧ i ≤ ys.length ∨ ys.length = i ∧ i ≤ xs.length)⟩
theorem apart2 {a b z TI TO i1 i2 : Addr} (D : ZipApart z TI TO i1 i2 a b) : ZipSep2 z TI TO i1 i2 [i1, a] [i2, b] where
  TIz := D.TIz
  TOz := D.TOz
  TITO := D.TITO
  TIi1 := D.TIi1
  mem1 := by simp
  zf1 := by simp [D.i1z.symm, D.l1z.symm]
  Tf1 := by simp [D.TOi1, D.l1TO.symm]
  TIi2 := D.TIi2
  mem2 := by simp
  zf2 := by simp [D.i2z.symm, D.l2z.symm]
  Tf2 := by simp [D.TOi2, D.l2TO.symm]
  sep1_2 := by simp [D.i12, D.l2i1.symm]
  sep2_1 := by simp [D.i12.symm, D.l1i2.symm]
theorem turn_zipM {P : Program} {w : PySem.World} {K : PySem.W.Frag} {elts : List Expr} {kk : Nat} {tpos : Pos} {a b z TI TO i1 i2 : Addr} (D : ZipApart z TI TO i1 i2 a b) :
    Turn P w K (.Tuple elts kk tpos) (ItzM K a b) [z, TI, TO, i1, i2] z (fun i h => IsZip h z TI TO .none ∧ IsPair h TI (.ref i1) (.ref i2) ∧ (∃ x y, IsPair h TO x y) ∧ h.IsTupleIter i1 a i ∧ h.IsListIter i2 b i) where
  mem := by simp
  obj := fun i h st c hc => by
    obtain ⟨hz, hTI, ⟨x, y, hTO⟩, ⟨o1, e1, _, d1⟩, ⟨o2, e2, _, d2⟩⟩ := st
    have e' : c = z ∨ c = TI ∨ c = TO ∨ c = i1 ∨ c = i2 := by simpa using hc
    rcases e' with q | q | q | q | q
    · rw [q]; exact ⟨_, hz, fun v q => nomatch q⟩
    · rw [q]; exact ⟨_, hTI, fun v q => nomatch q⟩
    · rw [q]; exact ⟨_, hTO, fun v q => nomatch q⟩
    · rw [q]; exact ⟨o1, e1, fun v q => by rw [d1] at q; cases q⟩
    · rw [q]; exact ⟨o2, e2, fun v q => by rw [d2] at q; cases q⟩
  keep := fun i h h' st k => by
    obtain ⟨hz, hTI, ⟨x, y, hTO⟩, h1, h2⟩ := st
    exact ⟨k z (by simp) _ hz, k TI (by simp) _ hTI, ⟨x, y, k TO (by simp) _ hTO⟩, h1.at fun o q => k i1 (by simp) o q, h2.at fun o q => k i2 (by simp) o q⟩
  item := by
    intro X hP hw hK hc i pins s σ H E I hf st hg
    subst hP hw hK
    obtain ⟨hz, hTI, ⟨x0, y0, hTO⟩, h1, h2⟩ := st
    obtain ⟨xs, ys, x, y, hqx, hqy, hx, hy⟩ := hg
    obtain ⟨its, rv, p, _⟩ := I.tuple hqx
    obtain ⟨its2, rv2, p2, _⟩ := I.list hqy
    obtain ⟨u, hu, ru⟩ := rv.get hx
    obtain ⟨u2, hu2, ru2⟩ := rv2.get hy
    have hzl : z < s.heap.objs.size := Heap.lt_size hz
    have hd := I.ok.hd hc
    refine wpAny_pyNext_zipD2_item (apart2 D) (Draws.tuple (by exact hd) i1 a D.l1i1 its.toArray) (Draws.list (by exact hd) i2 b D.l2i2 its2.toArray) hz hTI hTO ⟨h1, p⟩ ⟨h2, p2.isList⟩
      (by have := (List.getElem?_eq_some_iff.mp hu).1; simpa using this) (by have := (List.getElem?_eq_some_iff.mp hu2).1; simpa using this) fun w1 w2 h' tk e1 e2 z' TO' s1 s2 hT hsz hk => ?_
    have hu' : its.toArray[i]? = some u := by simpa using hu
    have hu2' : its2.toArray[i]? = some u2 := by simpa using hu2
    rw [hu'] at e1
    rw [hu2'] at e2
    cases e1
    cases e2
    refine ⟨_, rfl, wpAny_letOwnedTupleGo_zip (s := { s with heap := h', toks := tk }) z' fun h'' z'' sb => ?_⟩
    have hT2 : h''.get? s.heap.objs.size = some { cls := .type "tuple", data := .seq #[u, u2] } := (sb.2 _ (Nat.ne_of_gt hzl)).trans hT
    have new : ObjOk X.prog X.w (upd H s.heap.objs.size (.tup [x, y])) h'' s.heap.objs.size (.tup [x, y]) :=
      ⟨by show 2 ≤ sizeLine; decide, [u, u2], .cons ru (.cons ru2 .nil), ⟨_, hT2, rfl, _, rfl⟩⟩
    have I1 : Inv X pins σ (upd H s.heap.objs.size (.tup [x, y])) { s with heap := h'', toks := tk } :=
      I.turnedNew (t' := tk) (ch := [z, TI, TO, i1, i2]) (fun c o hb q => (sb.2 c (fun q' => hb (by simp [q']))).trans (hk c o (fun q' => hb (by simp [q'])) (fun q' => hb (by simp [q'])) (fun q' => hb (by simp [q'])) (fun q' => hb (by simp [q'])) q)) hf (Nat.le_refl _) new
    refine ⟨.ref s.heap.objs.size, _, I1, rfl, ⟨_, x, y, rfl, I.hok.fresh (Nat.le_refl _), rfl, fun l hl => by rw [I.tuple_inj hl hqx]; exact hx, fun l hl => by rw [I.list_inj hl hqy]; exact hy⟩, ⟨z'', ?_, ⟨u, u2, ?_⟩, ?_, ?_⟩, fun c hcm => ?_⟩
    · exact (sb.2 _ D.TIz).trans (hk _ _ D.TIz D.TITO D.TIi1 D.TIi2 hTI)
    · exact (sb.2 _ D.TOz).trans TO'
    · exact s1.1.at fun o q => (sb.2 _ D.i1z).trans q
    · exact s2.1.at fun o q => (sb.2 _ D.i2z).trans q
    · have hlt : c < s.heap.objs.size := by
        have e' : c = z ∨ c = TI ∨ c = TO ∨ c = i1 ∨ c = i2 := by simpa using hcm
        rcases e' with q | q | q | q | q
        · rw [q]; exact hzl
        · rw [q]; exact Heap.lt_size hTI
        · rw [q]; exact Heap.lt_size hTO
        · rw [q]; obtain ⟨_, e1, _⟩ := h1; exact Heap.lt_size e1
        · rw [q]; obtain ⟨_, e2, _⟩ := h2; exact Heap.lt_size e2
      rw [upd_ne (Nat.ne_of_lt hlt)]
      exact (hf c hcm).1
  done := by
    intro X hP hw hK hc i pins s σ H E I hf st hg
    subst hP hw hK
    obtain ⟨hz, hTI, ⟨x0, y0, hTO⟩, h1, h2⟩ := st
    obtain ⟨xs, ys, hqx, hqy, hend⟩ := hg
    obtain ⟨its, rv, p, _⟩ := I.tuple hqx
    obtain ⟨its2, rv2, p2, _⟩ := I.list hqy
    have l1 := rv.length
    have l2 := rv2.length
    have hd := I.ok.hd hc
    refine wpAny_pyNext_zipD2_end (apart2 D) (Draws.tuple (by exact hd) i1 a D.l1i1 its.toArray) (Draws.list (by exact hd) i2 b D.l2i2 its2.toArray) hz hTI hTO ⟨h1, p⟩ ⟨h2, p2.isList⟩ (by simp; omega) (by simp; omega) (by simp; omega)
      fun h' tk hk => ⟨rfl, I.turnedL (t' := tk) (ch := [z, TI, TO, i1, i2]) (fun c o hb q => hk c o (fun q' => hb (by simp [q'])) (fun q' => hb (by simp [q'])) (fun q' => hb (by simp [q'])) (fun q' => hb (by simp [q'])) q) hf⟩
  self := fun A i s Q E st h => wpAny_pyIter_zip st.1 h
end Py
namespace Py
open PySem PySem.Spec PyProof.Rows L2
def iZipM (K : PySem.W.Frag) (ta : TA) : TI := fun σ H R => ta σ H fun vs H1 => ∃ a b xs ys, vs = [.ref a, .ref b] ∧ SqT K H1 a xs ∧ SqL K H1 b ys ∧ R (ItzM K a b) H1
theorem pi_zipM {X : Cx} {e e2 : Expr} {ta : TA} {p pos tpos : Pos} {elts : List Expr} {kk : Nat} (hg : Gl X "zip") (hm : X.mg "zip" = none) (ha : PA X [e, e2] ta)
    (hs : starEach [e, e2] X.env = (false, eval e X.env) :: starEach [e2] X.env := by rfl) (hpl : (backTo pos (starEach [e2] X.env)).any (·.1) = false := by rfl) :
    PI X (.Tuple elts kk tpos) (.Call (.Name "zip" p) [e, e2] [] pos) (iZipM X.K ta) := by
  refine ⟨fun pins s σ H R I h => ?_⟩
  refine Call_ (ld_blt I hg hm PyProof.Rows.boot_zip (PyProof.Rows.callWith_type1 (thn (ha.run pos pins s σ H _ I h) fun us s1 ⟨vs, H1, I1, r1, q1⟩ => ?_) hs hpl))
  obtain ⟨a, b, xs, ys, ex, hqx, hqy, q⟩ := q1
  subst ex
  cases r1 with
  | cons r rr =>
    cases rr with
    | cons r' rr =>
      cases rr
      cases r
      cases r'
      have fresh5 : ∀ c, c ∈ [s1.heap.objs.size + 4, s1.heap.objs.size + 2, s1.heap.objs.size + 3, s1.heap.objs.size, s1.heap.objs.size + 1] → FpOk X pins H1 c := fun c hcm => by
        have hle : s1.heap.objs.size ≤ c := by
          simp only [List.mem_cons, List.not_mem_nil, or_false] at hcm
          rcases hcm with z | z | z | z | z <;> rw [z] <;> first | exact Nat.le_add_right _ _ | exact Nat.le_refl _
        exact I1.fpOk hle (I1.hok.fresh hle)
      obtain ⟨its, rv, p1, _⟩ := I1.tuple hqx
      obtain ⟨its2, rv2, p2, _⟩ := I1.list hqy
      obtain ⟨o1, ho1, _⟩ := id p1
      refine call_zipM (show s1.heap.IsTuple a its.toArray from p1) p2.isList fun h' hz hTI hTO h1 h2 hk => wpAny_pyIter_zip hz ?_
      have I2 : Inv X pins σ H1 { s1 with heap := h' } := I1.kept (t' := s1.toks) hk
      exact ⟨s1.heap.objs.size + 4, [s1.heap.objs.size + 4, s1.heap.objs.size + 2, s1.heap.objs.size + 3, s1.heap.objs.size, s1.heap.objs.size + 1], _, _, H1, rfl, I2, turn_zipM (PySem.W.ktu_apart s1.heap.objs.size a b (Heap.lt_size ho1) p2.lt), ⟨hz, hTI, ⟨_, _, hTO⟩, h1, h2⟩, fresh5, q⟩
theorem walk_zipM {K : PySem.W.Frag} {a b : Addr} {xs ys : List V} {n : Nat} (hn : n = min xs.length ys.length) : Walk (ItzM K a b) n (fun H => SqT K H a xs ∧ SqL K H b ys) (YPair (fun i => xs[i]?) (fun i => ys[i]?)) := by
  subst hn
  refine ⟨fun i _ hi q => ?_, fun _ q => ⟨xs, ys, q.1, q.2, by omega⟩, fun i H v H' _ q y => ?_⟩
  · exact ⟨xs, ys, xs[i]'(by omega), ys[i]'(by omega), q.1, q.2, List.getElem?_eq_getElem _, List.getElem?_eq_getElem _⟩
  · obtain ⟨T, x, z, h1, h2, h3, h4, h5⟩ := y
    exact ⟨T, x, z, h1, h2, h3, h4 xs q.1, h5 ys q.2⟩
section
variable {X : Cx} {W : World} {rs : Rs} {a b : Expr} {pos : Pos}
theorem iw_zipM {rl rl' : List Rep} {p tpos : Pos} {elts : List Expr} {kk : Nat} (hg : Gl X "zip") (hm : X.mg "zip" = none) (h : Ew X W rs a (rTup X.K rl)) (h' : Ew X W rs b (rSeq X.K rl'))
    (hs : starEach [a, b] X.env = (false, eval a X.env) :: starEach [b] X.env := by rfl) (hs' : starEach [b] X.env = (false, eval b X.env) :: starEach [] X.env := by rfl) (hpl : (backTo pos (starEach [b] X.env)).any (·.1) = false := by rfl) :
    Iw X W rs (.Tuple elts kk tpos) (.Call (.Name "zip" p) [a, b] [] pos) (min rl.length rl'.length) (fun i => rTup X.K [rl.getD i rNon, rl'.getD i rNon]) := by
  refine pi_cs (pi_zipM hg hm (aw_cons h (aw_cons h' aw_nil hs') hs) hs hpl) ?_
  rintro σ H R ⟨k, g, q⟩
  refine ⟨k, g, ?_⟩
  intro vs H1 k1 e1 hp
  obtain ⟨v, v', rfl, ⟨p, xs, ev, hsq, hr⟩, p', xs', ev', hsq', hr'⟩ := reps2 hp
  subst ev
  subst ev'
  refine ⟨p, p', xs, xs', rfl, sqT_mono (W.sub H1) hsq, sqL_mono (W.sub H1) hsq', q (ItzM X.K p p') _ _ H1 (walk_zipM (by rw [hr.len, hr'.len])) k1 e1 (fun H2 _ e2 => ⟨sqT_mono (e2.trans (W.sub H2)) hsq, sqL_mono (e2.trans (W.sub H2)) hsq'⟩) ?_⟩
  intro i x H2 H3 hi y
  refine .inr (pair_new (G := W.vis H1) y (fun x hx => ?_) (fun x hx => ?_))
  · obtain ⟨r, h1, h2⟩ := hr.get' hx
    rw [getD_of h1]
    exact h2
  · obtain ⟨r, h1, h2⟩ := hr'.get' hx
    rw [getD_of h1]
    exact h2
end
end Py
namespace Py
open PySem L2
/-- a new tuple, told as the object that it is -/
def rTupN (rl : List Rep) : Rep := ⟨fun v H => ∃ a xs, v = .ref a ∧ H a = some (.tup xs) ∧ Reps rl xs H, fun e ⟨a, xs, h1, h2, h3⟩ => ⟨a, xs, h1, e _ _ h2, h3.mono e⟩⟩
section
variable {X : Cx} {W : World} {rs : Rs} {a : Expr} {ra : Rep} {pos p : Pos}
theorem ew_tupN {es : List Expr} {rl : List Rep} {x1 : Nat} (h : Aw X W rs es rl) (hl : rl.length ≤ 1000) : Ew X W rs (.Tuple es x1 pos) (rTupN rl) :=
  pe_cs (pe_tup h) fun σ H Q ⟨k, g, q⟩ => ⟨k, g, fun vs H1 k1 e1 p1 => ⟨Nat.le_of_lt (small1000 (p1.len ▸ hl)), fun p hp => q _ _ (World.okNew k1 hp) (e1.trans (World.visEx k1 (Ex.new hp)))
    ⟨p, vs, rfl, by rw [World.visNew k1 hp, upd_same], p1.mono (World.visEx k1 (Ex.new hp))⟩⟩⟩
theorem isR_lst {K : PySem.W.Frag} {rl : List Rep} : IsR K (rLst rl) (.type "list") := fun v H ⟨a, xs, h1, h2, _⟩ => h1 ▸ .base (.lst h2)
theorem isR_tupN {K : PySem.W.Frag} {rl : List Rep} : IsR K (rTupN rl) (.type "tuple") := fun v H ⟨a, xs, h1, h2, _⟩ => h1 ▸ .base (.tup h2)
theorem isR_tup {K : PySem.W.Frag} {rl : List Rep} : IsR K (rTup K rl) (.type "tuple") := fun v H ⟨a, xs, h1, h2, _⟩ => by
  subst h1
  rcases h2 with (h | ⟨o, h⟩) | ⟨o, its, n, h, c, _⟩
  · exact .base (.tup h)
  · exact .fTuple h
  · exact .kTuple h c
theorem isR_seq {K : PySem.W.Frag} {rl : List Rep} : IsR K (rSeq K rl) (.type "list") := fun v H ⟨a, xs, h1, h2, _⟩ => by
  subst h1
  rcases h2 with (h | ⟨o, h⟩) | ⟨o, its, n, h, c, _⟩
  · exact .base (.lst h)
  · exact .base (.frz h)
  · exact .kList h c
/-- isinstance(x, (A, B, ..)) -/
theorem ew_isiT {es : List Expr} {cs : List V} {us : List Value} {t : Value} {d : Bool} {x1 : Nat} {tpos : Pos} (hg : Gl X "isinstance") (hm : X.mg "isinstance" = none) (ha : Ew X W rs a ra) (hc : Aw X W rs es (cs.map rV)) (hl : cs.length ≤ 1000) (k : Paired ClsV cs us) (ht : IsR X.K ra t) (hk : PySem.W.kitAny X.K t us = some d)
    (he : starEach [a, .Tuple es x1 tpos] X.env = (false, eval a X.env) :: starEach [.Tuple es x1 tpos] X.env := by rfl) (he' : starEach [.Tuple es x1 tpos] X.env = (false, eval (.Tuple es x1 tpos) X.env) :: starEach [] X.env := by rfl) (hpl : (backTo pos (starEach [.Tuple es x1 tpos] X.env)).any (·.1) = false := by rfl) : Ew X W rs (.Call (.Name "isinstance" p) [a, .Tuple es x1 tpos] [] pos) (rD X.K (.bool d)) := by
  refine pe_cs (pe_callB call_isiT hg hm (by decide +kernel) (aw_cons ha (aw_cons (ew_tupN hc (by rw [List.length_map]; exact hl)) aw_nil he') he) (by decide) (by decide) he hpl) ?_
  rintro σ H Q ⟨k', g, q⟩
  refine ⟨k', g, fun vs H1 k1 e1 pr => ?_⟩
  obtain ⟨x, y, rfl, px, ⟨T, ys, rfl, hT, pT⟩⟩ := reps2 pr
  have e : ∀ (cs ys : List V) (G : Hp), Reps (cs.map rV) ys G → ys = cs := by
    intro cs
    induction cs with
    | nil => intro ys G h; exact reps0 h
    | cons c cs ih =>
      intro ys G h
      cases ys with
      | nil => exact h.elim
      | cons y ys => rw [show y = c from h.1, ih ys G h.2]
  rw [e cs ys _ pT] at hT
  exact ⟨x, T, cs, t, us, d, rfl, W.sub H1 _ _ hT, k, ht x H1 (ra.mono (W.sub H1) px), hk, q _ H1 k1 e1 (Dp.bl d)⟩
end
end Py
namespace Py
open PySem PySem.Spec PyProof.Rows GenW L2
section
variable {M : Model} {A : Around} {R : GenEnd} {Y : Protocol} {n : Nat} {s₀ : Shared} {c : Code} {fs : List Frame} {s : Shared} {env : Env}
  {K : Flow → Sem PySem.Fin} {J : Value → Sem PySem.Fin} {gd : Bool → Bool} {lv : List Value → List Value}
/-- a for within a generator: what is walked, then the loop's code -/
theorem seg_For {tg iter : Expr} {body : List Stmt} {pos : Pos}
    (h : wpAny M (A.over c fs) (eval iter env) (fun v s1 => wpAny M (A.over c fs) (pyIter v) (fun it s2 => ∀ p, Seg M A R Y n s₀ (.forLoop tg it body [] env) (M.den (.forLoop tg it body [] env))
      (.ret (fun r => ((match r with | .ok f => (.pure f : Sem Flow) | .error e => .raise e).onRaise (cameBack env)).wrap K J gd lv) none (gd false) (lv []) c p [] :: fs) s2) (fun x s' => Seg M A R Y n s₀ c (J x) fs s') s1) (fun x s' => Seg M A R Y n s₀ c (J x) fs s') s)
    (hs : ∀ x, foldedSetIterable iter env x = pure x := by intro _; rfl) :
    Seg M A R Y n s₀ c ((exec (.For tg iter body [] pos) env).wrap K J gd lv) fs s := by
  rw [exec_For]
  refine seg_bind_wrap (wpAny_standAt ?_)
  refine seg_bind_wrap (wpAny_mono h (fun v s1 h1 => ?_) fun _ _ h' => h')
  refine seg_bind_wrap (wpAny_of_eq (hs v) ?_)
  refine seg_bind_wrap (wpAny_standAt ?_)
  refine seg_bind_wrap (wpAny_holding (wpAny_mono h1 (fun it s2 h2 => ?_) fun _ _ h' => h'))
  exact seg_call h2
end
section
variable {prog : Program} {w : PySem.World} {A : Around} {R : GenEnd} {Y : Protocol} {n : Nat} {s₀ : Shared} {fs : List Frame} {s : Shared} {env : Env}
/-- what the loop's code does with an exception -/
def gone (prog : Program) (w : PySem.World) (A : Around) (R : GenEnd) (Y : Protocol) (n : Nat) (s₀ : Shared) (c : Code) (fs : List Frame) (env : Env) : Value → Shared → Prop :=
  fun x s' => Seg (model prog w) A R Y n s₀ c ((do noteFrame x env; theTreesLotGoes x : Sem Unit).wrap (fun _ => .raise x) .raise id id) fs s'
theorem seg_forLoop {tg : Expr} {it : Value} {body : List Stmt}
    (h : wpAny (model prog w) (A.over (.forLoop tg it body [] env) fs) (pyNext it) (fun r s1 => match r with
      | none => Seg (model prog w) A R Y n s₀ (.block [] env) (leafOf (.ok .next)) fs s1
      | some v => wpAny (model prog w) (A.over (.forLoop tg it body [] env) fs) (letOwnedTupleGo tg it v) (fun _ s2 => wpAny (model prog w) (A.over (.forLoop tg it body [] env) fs) (assign tg env v) (fun _ s3 =>
          Seg (model prog w) A R Y n s₀ (.forLoop tg it body [] env) ((execs body env).wrap (fun f => match f with
            | .next | .cont => .pure (.again (.forLoop tg it body [] env))
            | .brk => .pure (.done .next)
            | .ret v => .pure (.done (.ret v))) (fun e => (do noteFrame e env; theTreesLotGoes e : Sem Unit).wrap (fun _ => .raise e) .raise id id) id id) fs s3)
          (gone prog w A R Y n s₀ (.forLoop tg it body [] env) fs env) s2) (gone prog w A R Y n s₀ (.forLoop tg it body [] env) fs env) s1)
      (gone prog w A R Y n s₀ (.forLoop tg it body [] env) fs env) s) :
    Seg (model prog w) A R Y n s₀ (.forLoop tg it body [] env) ((model prog w).den (.forLoop tg it body [] env)) fs s := by
  show Seg _ A R Y n s₀ _ ((forTurn tg it body [] env).onRaise (fun x => do noteFrame x env; theTreesLotGoes x)) fs s
  have ex : ∀ x s', gone prog w A R Y n s₀ (.forLoop tg it body [] env) fs env x s' → Seg (model prog w) A R Y n s₀ (.forLoop tg it body [] env) ((do noteFrame x env; theTreesLotGoes x : Sem Unit).bind fun _ => .raise x) fs s' := fun x s' hx => by
    rw [Sem.bind_eq_wrap]
    exact hx
  unfold forTurn
  rw [Sem.onRaise_eq_wrap]
  refine seg_bind_wrap (wpAny_standAt ?_)
  refine seg_bind_wrap (wpAny_onRaise (wpAny_mono h (fun r s1 h1 => ?_) fun x s' hx => wpAny_standAt (ex x s' hx)))
  cases r with
  | none => exact seg_again rfl h1
  | some v =>
    refine seg_bind_wrap (wpAny_mono h1 (fun _ s2 h2 => ?_) ex)
    refine seg_bind_wrap (wpAny_mono h2 (fun _ s3 h3 => ?_) ex)
    rw [Sem.bind_eq_wrap', Sem.wrap_wrap]
    rw [Sem.wrap_congr (execs body env) _ _ (K' := fun f => match f with
            | .next | .cont => .pure (.again (.forLoop tg it body [] env))
            | .brk => .pure (.done .next)
            | .ret v => .pure (.done (.ret v))) (H' := (fun e => (do noteFrame e env; theTreesLotGoes e : Sem Unit).wrap (fun _ => .raise e) .raise id id))
        (fun f => by cases f <;> rfl)
        (fun e => by first | exact Sem.bind_eq_wrap _ _ | (show (do noteFrame e env; theTreesLotGoes e : Sem Unit).bind (fun _ => .raise e) = _; rw [Sem.bind_eq_wrap]))]
    exact h3
end
end Py
namespace Py
open PySem PySem.Spec PyProof.Rows GenW L2
/-- a for whose body hands out: ys is what is out so far -/
def tGFor (wi : TI) (g : TG) (tb : TGn) : TGn := fun D ys σ H => wi σ H fun J H1 => ∃ W : Nat → Nat → List V → L2.St → Hp → Prop, (∃ m, W 0 m ys σ H1) ∧ ∀ i m ys σ H, W i m ys σ H →
  (J.stop i H ∧ D.nx ys σ H) ∨ (J.go i H ∧ ∃ N : List V → L2.St → Hp → Prop, (∀ ys' σ' H', N ys' σ' H' → ∃ m', m' < m ∧ W (i + 1) m' ys' σ' H') ∧ ∀ x H', J.yld i H x H' → g x σ H' fun σ2 H2 => tb { D with nx := N, ct := N, bk := D.nx } ys σ2 H2)
section
variable {X : Cx}
/-- another record of the consumer's list -/
theorem fpOther {ip : List (Addr × Obj)} {S b : Addr} {o o' : Obj} {H H' : Hp} (f : FpOk X ((S, o) :: ip) H b) (h : H' b = none) : FpOk X ((S, o') :: ip) H' b := by
  obtain ⟨_, f1, f2, f3, f4, f5⟩ := f
  refine ⟨h, f1, f2, f3, f4, fun p hp => ?_⟩
  rcases List.mem_append.mp hp with hp | hp
  · exact f5 p (List.mem_append_left _ hp)
  · rcases List.mem_cons.mp hp with hp | hp
    · rw [hp]
      exact f5 (S, o) (List.mem_append_right _ List.mem_cons_self)
    · exact f5 p (List.mem_append_right _ (List.mem_cons_of_mem _ hp))
theorem gs_for {tg iter : Expr} {body : List Stmt} {wi : TI} {g : TG} {tb : TGn} {pos : Pos} (hp : PassesOwn (model X.prog X.w) X.A X.env X.xe) (hc : X.calm = true) (hi : PI X tg iter wi) (hg : PG X tg g) (hb : GSs X body tb)
    (hs : ∀ x, foldedSetIterable iter X.env x = pure x := by intro _; rfl) : GS X (.For tg iter body [] pos) (tGFor wi g tb) := by
  refine ⟨fun A S ip R n ys s₀ c fs K J gd lv s σ H D gc hn k hI ht => ?_⟩
  obtain ⟨acc, cc, r, I⟩ := hI
  refine seg_For ?_ hs
  rw [gc.over]
  refine wpAny_mono (hi.run _ s σ H _ I ht) (fun v s1 h1 => wpAny_mono h1 (fun itv s2 h2 => ?_) fun x s' hx => k.exc n s₀ x s' hx) fun x s' hx => k.exc n s₀ x s' hx
  obtain ⟨it, fp, tn, JJ, H2, e, I2, T, st2, f2, W, ⟨m0, w0⟩, turn⟩ := h2
  subst e
  intro p
  have gl := fun (kk : Result → Sem PySem.Fin) => gc_loop (k := kk) (c' := .forLoop tg (.ref it) body [] X.env) (l := lv []) (kp := []) (p := p) gc rfl rfl
  have loop : ∀ (m n i : Nat) (ys : List V) (s₀ s : Shared) (σ : L2.St) (H : Hp) (acc : Array Value) (cc : Nat), n + ys.length = sizeLine → Vals ys acc.toList → Inv X ((S, lstObj acc cc) :: ip) σ H s → tn i s.heap → (∀ b ∈ fp, H b = none) → W i m ys σ H →
      Seg (model X.prog X.w) A R (GY X S) n s₀ (.forLoop tg (.ref it) body [] X.env) ((model X.prog X.w).den (.forLoop tg (.ref it) body [] X.env))
        (.ret (fun r => ((match r with | .ok f => (.pure f : Sem Flow) | .error e => .raise e).onRaise (cameBack X.env)).wrap K J gd lv) none (gd false) (lv []) c p [] :: fs) s := by
    intro m
    induction m using Nat.strongRecOn with
    | ind m ih =>
      intro n i ys s₀ s σ H acc cc hn r I st fr w
      have ee : ∀ (n : Nat) (s₀ : Shared) (x : Value) (s' : Shared), X.xe x s' → gone X.prog X.w A R (GY X S) n s₀ (.forLoop tg (.ref it) body [] X.env)
          (.ret (fun r => ((match r with | .ok f => (.pure f : Sem Flow) | .error e => .raise e).onRaise (cameBack X.env)).wrap K J gd lv) none (gd false) (lv []) c p [] :: fs) X.env x s' := fun n s₀ x s' hx => by
        refine seg_wrap ?_
        rw [(gl _).over]
        refine wpAny_bind (wpAny_mono (hp x s' hx) (fun _ s'' hcb => wpAny_theTreesLotGoes ?_) fun y s'' hcb => ?_)
        · exact seg_leaf (.error x) (seg_cameBack gc k hcb)
        · exact seg_leaf (.error y) (seg_cameBack gc k hcb)
      have fp0 : ∀ {H' : Hp}, (∀ b ∈ fp, H' b = none) → ∀ b ∈ fp, FpOk X ((S, lstObj acc cc) :: ip) H' b := fun hn b hb => fpOther (f2 b hb) (hn b hb)
      refine seg_forLoop ?_
      rw [(gl _).over]
      rcases turn i m ys σ H w with ⟨stop, qn⟩ | ⟨go, N, hN, step⟩
      · refine wpAny_mono (T.done X rfl rfl rfl hc i _ s σ H X.xe I (fp0 fr) st stop) (fun r4 s4 h4 => ?_) fun x s' hx => ee n s₀ x s' hx
        obtain ⟨hr, I4⟩ := h4
        subst hr
        exact seg_leaf (.ok .next) (k.ok n ys s₀ s4 .next hn ⟨σ, H, ⟨acc, cc, r, I4⟩, qn⟩)
      · refine wpAny_mono (T.item X rfl rfl rfl hc i _ s σ H X.xe I (fp0 fr) st go) (fun r4 s4 h4 => ?_) fun x s' hx => ee n s₀ x s' hx
        obtain ⟨u, hr, h4⟩ := h4
        subst hr
        refine wpAny_mono h4 (fun _ s5 h5 => ?_) fun x s' hx => ee n s₀ x s' hx
        obtain ⟨x, H5, I5, r5, y5, st5, fr5⟩ := h5
        have I5' := I5.pinned (fp0 fr5) (T.obj _ _ st5)
        refine wpAny_mono (hg.run _ s5 σ H5 x u _ I5' r5 (step x H5 y5)) (fun _ s6 h6 => ?_) fun x s' hx => ee n s₀ x s' hx
        obtain ⟨σ6, H6, I6, q6⟩ := h6
        have gb := gl (fun r => ((match r with | .ok f => (.pure f : Sem Flow) | .error e => .raise e).onRaise (cameBack X.env)).wrap K J gd lv)
        have hip : ∀ q ∈ ip ++ pinsAt fp s5.heap, q.1 ≠ S := fun q hq => by
          rcases List.mem_append.mp hq with hq | hq
          · exact gc.ip q hq
          · obtain ⟨hb, _⟩ := of_pinsAt hq
            exact fun z => (fp0 fr5 q.1 hb).2.2.2.2.2 (S, lstObj acc cc) (List.mem_append_right _ List.mem_cons_self) z.symm
        have gip : GC X S (ip ++ pinsAt fp s5.heap) A (.forLoop tg (.ref it) body [] X.env) (.ret (fun r => ((match r with | .ok f => (.pure f : Sem Flow) | .error e => .raise e).onRaise (cameBack X.env)).wrap K J gd lv) none (gd false) (lv []) c p [] :: fs) id :=
          ⟨gb.pn, hip, gb.apart, gb.over, gb.split, gb.guard, gb.gd⟩
        have back : ∀ {ys' : List V} {σ7 : L2.St} {H7 : Hp} {s7 : Shared} {n' : Nat} {s₀' : Shared}, n' + ys'.length = sizeLine → GI X S (ip ++ pinsAt fp s5.heap) ys' σ7 H7 s7 → N ys' σ7 H7 →
            Seg (model X.prog X.w) A R (GY X S) n' s₀' (.forLoop tg (.ref it) body [] X.env) ((model X.prog X.w).den (.forLoop tg (.ref it) body [] X.env)) (.ret (fun r => ((match r with | .ok f => (.pure f : Sem Flow) | .error e => .raise e).onRaise (cameBack X.env)).wrap K J gd lv) none (gd false) (lv []) c p [] :: fs) s7 := fun {ys' σ7 H7 s7 n' s₀'} hn' h7 n7 => by
          obtain ⟨acc7, cc7, r7, I7⟩ := h7
          obtain ⟨m', hm, w7⟩ := hN ys' σ7 H7 n7
          have I7' : Inv X (((S, lstObj acc7 cc7) :: ip) ++ pinsAt fp s5.heap) σ7 H7 s7 := I7
          refine ih m' hm n' (i + 1) ys' s₀' s7 σ7 H7 acc7 cc7 hn' r7 I7'.unpinned (T.keep _ _ _ st5 fun b hb o e => (I7'.pin (b, o) (List.mem_append_right _ (List.mem_append_right _ (mem_pinsAt hb e)))).1) (fun b hb => ?_) w7
          obtain ⟨o, e, d⟩ := T.obj _ _ st5 b hb
          exact (I7'.pin (b, o) (List.mem_append_right _ (List.mem_append_right _ (mem_pinsAt hb e)))).2.1
        have less : ∀ {ys' : List V} {σ7 : L2.St} {H7 : Hp} {s7 : Shared}, GI X S (ip ++ pinsAt fp s5.heap) ys' σ7 H7 s7 → GI X S ip ys' σ7 H7 s7 := fun {ys' σ7 H7 s7} h7 => by
          obtain ⟨acc7, cc7, r7, I7⟩ := h7
          have I7' : Inv X (((S, lstObj acc7 cc7) :: ip) ++ pinsAt fp s5.heap) σ7 H7 s7 := I7
          exact ⟨acc7, cc7, r7, I7'.unpinned⟩
        refine hb.run A S (ip ++ pinsAt fp s5.heap) R n ys s₀ _ _ _ _ id id s6 σ6 H6 { D with nx := N, ct := N, bk := D.nx } gip hn ⟨fun n' ys' s₀' s7 f hn' h7 => ?_, fun n' s₀' x s7 hx => ee n' s₀' x s7 hx⟩ ⟨acc, cc, r, I6⟩ q6
        cases f with
        | next =>
          obtain ⟨σ7, H7, I7, n7⟩ := h7
          exact seg_again rfl (back hn' I7 n7)
        | cont =>
          obtain ⟨σ7, H7, I7, n7⟩ := h7
          exact seg_again rfl (back hn' I7 n7)
        | brk =>
          obtain ⟨σ7, H7, I7, q7⟩ := h7
          exact seg_leaf (.ok .next) (k.ok n' ys' s₀' s7 .next hn' ⟨σ7, H7, less I7, q7⟩)
        | ret v =>
          obtain ⟨x7, σ7, H7, I7, r7, q7⟩ := h7
          exact seg_leaf (.ok (.ret v)) (k.ok n' ys' s₀' s7 (.ret v) hn' ⟨x7, σ7, H7, less I7, r7, q7⟩)
  exact loop m0 n 0 ys s₀ s2 σ H2 acc cc hn r I2 st2 (fun b hb => (f2 b hb).1) w0
end
end Py
namespace Py
open PySem L2
/-! ### a generator's statements, by what is out so far -/
def sGw (W : World) (rs : Rs) (rl : List Rep) (N : Rs) (rl' : List Rep) : TGn := fun D ys σ H => W.ok H ∧ Sg rs σ (W.vis H) ∧ Reps rl ys (W.vis H) ∧ ∀ ys' σ' H', W.ok H' → Ex (W.vis H) (W.vis H') → Sg N σ' (W.vis H') → Reps rl' ys' (W.vis H') → D.nx ys' σ' H'
abbrev Yw (X : Cx) (W : World) (rs : Rs) (rl : List Rep) (st : Stmt) (N : Rs) (rl' : List Rep) : Prop := GS X st (sGw W rs rl N rl')
abbrev Yws (X : Cx) (W : World) (rs : Rs) (rl : List Rep) (sts : List Stmt) (N : Rs) (rl' : List Rep) : Prop := GSs X sts (sGw W rs rl N rl')
section
variable {X : Cx} {W : World} {rs N M : Rs} {rl rl1 rl2 : List Rep} {st : Stmt} {sts : List Stmt} {tg it e : Expr} {r : Rep} {pos yp : Pos}
theorem gs_cs {t t' : TGn} (h : GS X st t) (f : ∀ D ys σ H, t' D ys σ H → t D ys σ H) : GS X st t' := ⟨fun A S ip R n ys s₀ c fs K J gd lv s σ H D g hn k hI ht => h.run A S ip R n ys s₀ c fs K J gd lv s σ H D g hn k hI (f D ys σ H ht)⟩
theorem gss_cs {t t' : TGn} (h : GSs X sts t) (f : ∀ D ys σ H, t' D ys σ H → t D ys σ H) : GSs X sts t' := ⟨fun A S ip R n ys s₀ c fs K J gd lv s σ H D g hn k hI ht => h.run A S ip R n ys s₀ c fs K J gd lv s σ H D g hn k hI (f D ys σ H ht)⟩
theorem yws_nil : Yws X W rs rl [] rs rl := gss_cs gss_nil fun D ys σ H ⟨k, g, p, q⟩ => q ys σ H k (Ex.refl _) g p
theorem yws_cons (h : Yw X W rs rl st M rl1) (h2 : Yws X W M rl1 sts N rl2) : Yws X W rs rl (st :: sts) N rl2 :=
  gss_cs (gss_cons h h2) fun D ys σ H ⟨k, g, p, q⟩ => ⟨k, g, p, fun ys1 σ1 H1 k1 e1 g1 p1 => ⟨k1, g1, p1, fun ys2 σ2 H2 k2 e2 g2 p2 => q ys2 σ2 H2 k2 (e1.trans e2) g2 p2⟩⟩
/-- a statement that hands out nothing -/
theorem yw_of (h : Sw X W rs st ⟨rNo, some N, none, none⟩) : Yw X W rs rl st N rl :=
  gs_cs (gs_ps h) fun D ys σ H ⟨k, g, p, q⟩ => ⟨k, g, fun _ _ _ _ z => z.elim, (fun N' z σ' H' k' e' g' => by cases z; exact q ys σ' H' k' e' g' (p.mono e')), (fun N z => nomatch z), (fun N z => nomatch z)⟩
/-- yield e -/
theorem yw_yield (he : Ew X W rs e r) (hl : rl.length ≤ 1000) (hco : X.env.scope.isCoroutine = false := by rfl) (hi : interactive X.env = false := by rfl) : Yw X W rs rl (.Expr (.Yield (some e) yp) pos) rs (rl ++ [r]) :=
  gs_cs (gs_yield he hco hi) fun D ys σ H ⟨k, g, p, q⟩ => ⟨small1000 (by rw [← p.len]; exact hl), k, g, fun v H1 k1 e1 p1 => q _ σ H1 k1 e1 (g.mono e1) ((p.mono e1).app (show Reps [r] [v] _ from ⟨p1, trivial⟩))⟩
/-- a for whose body hands out: what is out at each turn -/
theorem yw_for {n : Nat} {item : Nat → Rep} {body : List Stmt} (Ns Ms : Nat → Rs) (out : Nat → List Rep) (hi : Iw X W (Ns 0) tg it n item) (hg : ∀ i, i < n → Gw X W (Ns i) tg (item i) (Ms i)) (hb : ∀ i, i < n → Yws X W (Ms i) (out i) body (Ns (i + 1)) (out (i + 1)))
    (hp : PassesOwn (model X.prog X.w) X.A X.env X.xe) (hc : X.calm = true) (hs : ∀ x, foldedSetIterable it X.env x = pure x := by intro _; rfl) : Yw X W (Ns 0) (out 0) (.For tg it body [] pos) (Ns n) (out n) := by
  have hG : PG X tg (fun v σ H R => ∃ i, i < n ∧ gW W (Ns i) (item i) (Ms i) v σ H R) := ⟨fun pins s σ H v u R I rv ⟨i, hi, q⟩ => (hg i hi).run pins s σ H v u R I rv q⟩
  have hB : GSs X body (fun D ys σ H => ∃ i, i < n ∧ sGw W (Ms i) (out i) (Ns (i + 1)) (out (i + 1)) D ys σ H) := ⟨fun A S ip R m ys s₀ c fs K J gd lv s σ H D g hn k hI ⟨i, hi, q⟩ => (hb i hi).run A S ip R m ys s₀ c fs K J gd lv s σ H D g hn k hI q⟩
  refine gs_cs (gs_for hp hc hi hG hB hs) ?_
  rintro D ys σ H ⟨k, g, p, q⟩
  refine ⟨k, g, ?_⟩
  intro J G Y H1 w k1 e1 hGk hY
  refine ⟨fun i m ys' σ' H' => m = n - i ∧ i ≤ n ∧ W.ok H' ∧ Ex (W.vis H1) (W.vis H') ∧ Sg (Ns i) σ' (W.vis H') ∧ Reps (out i) ys' (W.vis H'), ⟨n, by simp, Nat.zero_le _, k1, Ex.refl _, g.mono e1, p.mono e1⟩, ?_⟩
  rintro i m ys' σ' H' ⟨rfl, hle, k', e', g', p'⟩
  have hG' : G H' := hGk H' k' e'
  by_cases hlt : i < n
  · refine .inr ⟨w.goes i H' hlt hG', _, fun ys2 σ2 H2 z => ⟨n - (i + 1), by omega, rfl, hlt, z⟩, fun x H2 hy => ?_⟩
    obtain ⟨k2, e2, p2⟩ : W.ok H2 ∧ Ex (W.vis H') (W.vis H2) ∧ (item i).p x (W.vis H2) := by
      rcases hY i x H' H2 hlt (w.yields i H' x H2 hlt hG' hy) with ⟨rfl, hp2⟩ | ⟨T, o, hT, rfl, hp2⟩
      · exact ⟨k', Ex.refl _, hp2 _ e' (World.sub _ _)⟩
      · refine ⟨World.okNew k' hT, World.visEx k' (Ex.new hT), ?_⟩
        rw [World.visNew k' hT]
        exact hp2 _ e' (World.sub _ _)
    exact ⟨i, hlt, k2, g'.mono e2, p2, fun σ3 H3 k3 e3 g3 => ⟨i, hlt, k3, g3, p'.mono (e2.trans e3), fun ys4 σ4 H4 k4 e4 g4 p4 => ⟨k4, ((e'.trans e2).trans e3).trans e4, g4, p4⟩⟩⟩
  · have e : i = n := by omega
    subst e
    exact .inl ⟨w.stops H' hG', q ys' σ' H' k' (e1.trans e') g' p'⟩
end
end Py
namespace Py
open PySem L2
/-- a generator def: called with such values in a world, it hands out such values, and only makes objects there -/
def spGw {α : Type} (pre : World → α → Prop) (args : α → List Rep) (outs : α → List Rep) : SpG := fun vs H Q _ => ∃ (W : World) (z : α), pre W z ∧ W.ok H ∧ Reps (args z) vs (W.vis H) ∧ ∀ ys H', W.ok H' → Ex (W.vis H) (W.vis H') → Reps (outs z) ys (W.vis H') → Q ys H'
section
variable {P : Program} {w : PySem.World} {K : PySem.W.Frag} {mg : Str → Option Value} {base : Heap}
theorem gfn_w {x qual : Str} {st : Stmt} {f : Addr} {fd : FuncData} {N ps : List Str} {k : Nat} {α : Type} {pre : World → α → Prop} {args : α → List Rep} {outs : α → List Rep} (F : Fun K x qual st f fd) (S : GScope N ps (defScope st)) (hl : ∀ z, (args z).length = ps.length)
    (h : ∀ (cdv : Value) (A : Around) (outer : List Env) (s : Shared) (H : Hp) (E : XK) (pn : List (Addr × Obj)) (W : World) (z : α), Room k (A.deeper (PyProof.Rows.envOfC qual (defScope st) s.heap.objs.size f cdv)) → pre W z →
      ∃ N', Yws (gcxOf P w K mg base N qual (defScope st) f cdv A outer s H E pn) W ((args z).map some ++ List.replicate (N.length - ps.length) none) [] (defBody st) N' (outs z)) : GFn P w K mg base (k + 1) f fd ps (spGw pre args outs) := by
  obtain ⟨oc, od, kV, doc, pm, an, cdv, ct, osl, rfl, lk, hcd⟩ := F.ex
  refine gfn_of lk hcd S (fun vs H Q E ⟨W, z, _, _, pr, _⟩ => by rw [← hl z, pr.len]) ?_
  rintro A outer s H vs Q E pn hr ⟨W, z, hp, kH, pr, q⟩
  obtain ⟨N', hB⟩ := h cdv A outer s H E pn W z hr hp
  refine ⟨_, hB, kH, ?_, trivial, fun ys σ' H' k' e' _ p' => q ys H' k' e' p'⟩
  have e : N.length - ps.length = N.length - vs.length := by rw [← pr.len, hl z]
  rw [e]
  exact Sg.of _ pr
end
section
variable {X : Cx} {W : World} {rs : Rs} {o : Expr} {p pos pos' apos : Pos}
theorem passG : Passes (CX X.prog X.w) X E0 := fun _ _ _ _ _ _ _ h => by
  obtain ⟨a, B, H', cls, d, z1, fl, z2, ub, z3, z4, z5, z6⟩ := h
  exact False.elim z6
/-- list(o.m()), m a generator -/
theorem ew_listM {C f : Addr} {fd : FuncData} {ps : List Str} {fs : List (Str × Rep)} {m : Str} {k : Nat} {α : Type} {pre : World → α → Prop} {args : α → List Rep} {outs : α → List Rep} {pl : Sem Bool} (z : α) (c : Cls X.K C) (hm : Meth X.K C m f) (F : GFn X.prog X.w X.K X.mg X.base k f fd ps (spGw pre args outs)) (hr : Room (k + 3) X.A) (hb : Binds X.K fd ps [])
    (hp : pre W z) (ha : args z = [rIns C fs]) (hl : fs.lookup m = none) (ho : Ew X W rs o (rIns C fs)) (hg : Gl X "list") (hmg : X.mg "list" = none)
    (ht : eval (.Call (.Attribute o m apos) [] [] pos') X.env = (do
      let ov ← eval o X.env
      standAt apos.atName
      let (f, first) ← holding [ov] (getMethod ov m pl)
      callWith pos' f first (backTo pos' (starEach [] X.env)) (backToKw pos' (keywordEach [] X.env))) := by rfl)
    (he : starEach [.Call (.Attribute o m apos) [] [] pos'] X.env = (false, eval (.Call (.Attribute o m apos) [] [] pos') X.env) :: starEach [] X.env := by rfl) :
    Ew X W rs (.Call (.Name "list" p) [.Call (.Attribute o m apos) [] [] pos'] [] pos) (rLst (outs z)) := by
  refine pe_cs (pe_listG (pgen_meth0 (E := E0) ho c hm F (hr.mono (by omega)) hb .nil ht) passG (fun _ _ _ z => z.elim) hr hg hmg (by decide +kernel) (by decide) (by decide) he) ?_
  rintro σ H Q ⟨k', g, q⟩
  refine ⟨k', g, ?_⟩
  rintro v H1 k1 e1 ⟨a, dx, gs, ev, hi, fl⟩
  refine ⟨a, dx, gs, ev, W.sub H1 _ _ hi, fl.no hl, W, z, hp, k1, ?_, ?_⟩
  · rw [ha, List.append_nil]
    exact ⟨⟨a, dx, gs, ev, hi, fl⟩, trivial⟩
  · intro ys H2 k2 e2 p2 l hl2
    exact q _ _ (World.okNew k2 hl2) ((e1.trans e2).trans (World.visEx k2 (Ex.new hl2))) ⟨l, ys, rfl, by rw [World.visNew k2 hl2, upd_same], p2.mono (World.visEx k2 (Ex.new hl2))⟩
end
end Py
namespace Py
open PySem L2
section
variable {X : Cx} {W : World} {rs : Rs} {r : Rep} {pos pos' : Pos} {D : Addr} {sts : List Stmt}
/-- d[k] = v, d held apart, its texts for keys, its values told as they are -/
theorem sx_dput {o i value : Expr} {kvs : List (L2.Key × V)} {z : Str} {v : V} (hu : X.A.units + 1 < cLine) (ho : Ew X (W.hold D (.dK kvs)) rs o (rRef D)) (hi : Ew X (W.hold D (.dK kvs)) rs i (rD X.K (.str z))) (hv : Ew X (W.hold D (.dK kvs)) rs value r) (hr : ∀ x H, r.p x H → x = v) (hl : kvs.length < sizeLine)
    (hs : swapsWith value (some (.Subscript o i pos')) pos.line X.env = pure false := by rfl) :
    Sx X (W.hold D (.dK kvs)) (W.hold D (.dK (putK kvs (Sum.inr z) v))) rs (.Assign [.Subscript o i pos'] value pos) rs := by
  refine ps_cs (ps_dput hu ho hi hv hs) ?_
  rintro DD σ H ⟨k, g, q⟩
  refine ⟨k, g, ?_⟩
  intro x H1 k1 e1 p1
  refine ⟨k1, g.mono e1, ?_⟩
  intro d H2 k2 e2 p2
  refine ⟨k2, g.mono (e1.trans e2), ?_⟩
  intro y H3 k3 e3 p3
  refine ⟨D, upd H3 D (.dK (putK kvs (Sum.inr z) v)), p2, ?_, ?_⟩
  · rw [rD_str.mp p3, hr x _ p1]
    exact DPut.k (k := Sum.inr z) k3.2.2 hl
  · have hv : (W.hold D (.dK (putK kvs (Sum.inr z) v))).vis (upd H3 D (.dK (putK kvs (Sum.inr z) v))) = (W.hold D (.dK kvs)).vis H3 := hold_upd
    exact q σ _ (hold_okUpd k3) (by rw [hv]; exact (e1.trans e2).trans e3) (by rw [hv]; exact g.mono ((e1.trans e2).trans e3))
/-- len(xs), xs[i], list(xs) of a list held apart -/
theorem ew_lenA {o : Expr} {rl : List Rep} {xs : List V} {p : Pos} (hg : Gl X "len") (hm : X.mg "len" = none) (ha : Ew X (W.hold D (.lst xs)) rs o (rAtL D rl xs)) (he : starEach [o] X.env = (false, eval o X.env) :: starEach [] X.env := by rfl) (hpl : (backTo pos (starEach [] X.env)).any (·.1) = false := by rfl) : Ew X (W.hold D (.lst xs)) rs (.Call (.Name "len" p) [o] [] pos) (rD X.K (.int rl.length)) :=
  ew_callB call_len_seq hg hm PySem.boot_len ha (fun v H k ⟨ev, hr⟩ Q q => ⟨D, xs, by rw [ev], .inl (.of k.2.2), by rw [← hr.len]; exact q _ H k (Ex.refl _) (Dp.int _)⟩) (by decide) (by decide) he hpl
theorem ew_ixA {o a : Expr} {rl : List Rep} {xs : List V} {z : Int} (i : Nat) (ha : Ew X (W.hold D (.lst xs)) rs o (rAtL D rl xs)) (hb : Ew X (W.hold D (.lst xs)) rs a (rD X.K (.int z))) (hz : z = (i : Int)) (hr : rl[i]? = some r) (hs : PlainIx a) : Ew X (W.hold D (.lst xs)) rs (.Subscript o a pos) r :=
  ew_ix ix_list ha hb (fun x y H k ⟨ev, h⟩ q Q n => by
    obtain ⟨v, hv, pv⟩ := h.get hr
    exact ⟨D, xs, z, v, ev, rD_int.mp q, .of k.2.2, at_nat hz hv, n v H k (Ex.refl _) pv⟩) hs
/-- while, its turns counted -/
theorem sw_while {c : Expr} {body : List Stmt} {n : Nat} (Ns : Nat → Rs) (hp : PassesOwn (model X.prog X.w) X.A X.env X.xe) (hc : ∀ i, i ≤ n → Tw X W (Ns i) c (decide (i < n))) (hb : ∀ i, i < n → Bw X W (Ns i) body ⟨rNo, some (Ns (i + 1)), none, none⟩) : Sw X W (Ns 0) (.While c body [] pos) ⟨rNo, some (Ns n), none, none⟩ := by
  have hC : PT X c (fun σ H Q => ∃ i, i ≤ n ∧ tWT W (Ns i) (decide (i < n)) σ H Q) := ⟨fun pins s σ H Q I ⟨i, hi, q⟩ => (hc i hi).run pins s σ H Q I q⟩
  have hB : PSs X body (fun DD σ H => ∃ i, i < n ∧ sW W (Ns i) ⟨rNo, some (Ns (i + 1)), none, none⟩ DD σ H) := ⟨fun pins s σ H DD I ⟨i, hi, q⟩ => (hb i hi).run pins s σ H DD I q⟩
  refine ps_cs (ps_while hp hC hB) ?_
  rintro DD σ H ⟨k, g, _, q, _⟩
  refine ⟨fun m σ' H' => ∃ i, i ≤ n ∧ m = n - i ∧ W.ok H' ∧ Ex (W.vis H) (W.vis H') ∧ Sg (Ns i) σ' (W.vis H'), ⟨n, 0, Nat.zero_le _, rfl, k, Ex.refl _, g⟩, ?_⟩
  rintro m σ' H' ⟨i, hi, rfl, k', e', g'⟩
  refine ⟨i, hi, k', g', ?_⟩
  intro H2 k2 e2
  by_cases hlt : i < n
  · rw [decide_eq_true hlt, if_pos rfl]
    refine ⟨_, fun σ3 H3 z => ⟨n - (i + 1), by omega, i + 1, hlt, rfl, z⟩, i, hlt, k2, g'.mono e2, fun _ _ _ _ z => z.elim, (fun N' z σ4 H4 k4 e4 g4 => by cases z; exact ⟨k4, (e'.trans e2).trans e4, g4⟩), (fun N z => nomatch z), (fun N z => nomatch z)⟩
  · rw [decide_eq_false hlt, if_neg Bool.false_ne_true]
    have e : i = n := by omega
    subst e
    exact q _ rfl σ' H2 k2 (e'.trans e2) (g'.mono e2)
end
end Py
namespace Py
open PySem L2
section
variable {X : Cx} {W : World} {rs : Rs} {r : Rep} {pos pos' dpos : Pos} {sts : List Stmt}
/-- x = {}, and what follows writes it and gives it back, or what it reads off it -/
theorem bw_growD (i : Nat) {x : Str} {r' : Addr → List (L2.Key × V) → Rep} (hN : X.N.Nodup) (hi : X.N[i]? = some x) (hx : Loc X.env.scope x) (h : ∀ D, Br X (W.hold D (.dK [])) (rs.set i (some (rRef D))) sts (fun kvs => W.hold D (.dK kvs)) (r' D))
    (hr : ∀ D kvs v H, W.vis H D = some (.dK kvs) → (r' D kvs).p v (W.vis H) → r.p v (W.vis H))
    (hs : swapsWith (.Dict [] [] dpos) (some (.Name x pos')) pos.line X.env = pure false := by rfl)
    (hf : X.fn x = true ∨ X.env.scope.names.lookup x = some .local := by first | exact .inl rfl | exact .inr rfl | assumption) : Bw X W rs (.Assign [.Name x pos'] (.Dict [] [] dpos) pos :: sts) ⟨r, none, none, none⟩ := by
  have hB : PSs X sts (fun DD σ H => ∃ D, sWr (W.hold D (.dK [])) (rs.set i (some (rRef D))) (fun kvs => W.hold D (.dK kvs)) (r' D) DD σ H) := ⟨fun pins s σ H DD I ⟨D, q⟩ => (h D).run pins s σ H DD I q⟩
  refine pss_cs (pss_cons (ps_set hN hi hx pe_dnewK hs hf) hB) ?_
  rintro DD σ H ⟨k, g, q, _⟩
  intro l hl'
  have kn := hold_new (o := .dK []) k hl'
  have eh : Ex (W.vis H) ((W.hold l (.dK [])).vis (upd H l (.dK []))) := hold_of (World.visNone hl') (World.visEx k (Ex.new hl'))
  refine ⟨l, kn, (g.mono eh).set rfl, ?_⟩
  intro kvs v H' k' e' p'
  rw [hold_any (o' := .dK kvs)] at e' eh
  exact q v H' k'.1 ((eh.trans e').trans hold_sub) (hr l kvs v H' (hold_seen k') ((r' l kvs).mono hold_sub p'))
end
end Py
namespace Py
open PySem L2
section
variable {α : Type} {X : Cx} {W W0 : World} {W' : α → World} {rr : α → Rep} {rs N : Rs} {r : Rep} {pos pos' dpos : Pos} {st : Stmt} {sts : List Stmt} {D : Addr}
/-- x = [], and what follows writes it and answers in a world of its own -/
theorem br_grow {β : Type} {V' : Addr → β → World} (i : Nat) {x : Str} {r' : Addr → β → Rep} (f : Addr → β → α) (hN : X.N.Nodup) (hi : X.N[i]? = some x) (hx : Loc X.env.scope x) (h : ∀ D, Br X (W.hold D (.lst [])) (rs.set i (some (rAtL D [] []))) sts (V' D) (r' D))
    (ho : ∀ D b H, (V' D b).ok H → (W' (f D b)).ok H) (hv : ∀ D b H, Ex ((V' D b).vis H) ((W' (f D b)).vis H)) (hr : ∀ D b v H, (V' D b).ok H → (r' D b).p v ((V' D b).vis H) → (rr (f D b)).p v ((W' (f D b)).vis H))
    (hs : swapsWith (.List [] dpos) (some (.Name x pos')) pos.line X.env = pure false := by rfl)
    (hf : X.fn x = true ∨ X.env.scope.names.lookup x = some .local := by first | exact .inl rfl | exact .inr rfl | assumption) : Br X W rs (.Assign [.Name x pos'] (.List [] dpos) pos :: sts) W' rr := by
  have hB : PSs X sts (fun DD σ H => ∃ D, sWr (W.hold D (.lst [])) (rs.set i (some (rAtL D [] []))) (V' D) (r' D) DD σ H) := ⟨fun pins s σ H DD I ⟨D, q⟩ => (h D).run pins s σ H DD I q⟩
  refine pss_cs (pss_cons (ps_set hN hi hx (pe_lst pa_nil) hs hf) hB) ?_
  rintro DD σ H ⟨k, g, q⟩
  refine ⟨Nat.zero_le _, ?_⟩
  intro l hl'
  have kn := hold_new (o := (.lst [])) k hl'
  have eh : Ex (W.vis H) ((W.hold l (.lst [])).vis (upd H l (.lst []))) := hold_of (World.visNone hl') (World.visEx k (Ex.new hl'))
  refine ⟨l, kn, (g.mono eh).set ⟨rfl, trivial⟩, ?_⟩
  rintro b v H' k' e' p'
  exact q (f l b) v H' (ho l b H' k') ((eh.trans e').trans (hv l b H')) (hr l b v H' k' p')
/-- x = {}, and what follows writes it and answers in a world of its own -/
theorem br_growD {β : Type} {V' : Addr → β → World} (i : Nat) {x : Str} {r' : Addr → β → Rep} (f : Addr → β → α) (hN : X.N.Nodup) (hi : X.N[i]? = some x) (hx : Loc X.env.scope x) (h : ∀ D, Br X (W.hold D (.dK [])) (rs.set i (some (rRef D))) sts (V' D) (r' D))
    (ho : ∀ D b H, (V' D b).ok H → (W' (f D b)).ok H) (hv : ∀ D b H, Ex ((V' D b).vis H) ((W' (f D b)).vis H)) (hr : ∀ D b v H, (V' D b).ok H → (r' D b).p v ((V' D b).vis H) → (rr (f D b)).p v ((W' (f D b)).vis H))
    (hs : swapsWith (.Dict [] [] dpos) (some (.Name x pos')) pos.line X.env = pure false := by rfl)
    (hf : X.fn x = true ∨ X.env.scope.names.lookup x = some .local := by first | exact .inl rfl | exact .inr rfl | assumption) : Br X W rs (.Assign [.Name x pos'] (.Dict [] [] dpos) pos :: sts) W' rr := by
  have hB : PSs X sts (fun DD σ H => ∃ D, sWr (W.hold D (.dK [])) (rs.set i (some (rRef D))) (V' D) (r' D) DD σ H) := ⟨fun pins s σ H DD I ⟨D, q⟩ => (h D).run pins s σ H DD I q⟩
  refine pss_cs (pss_cons (ps_set hN hi hx pe_dnewK hs hf) hB) ?_
  rintro DD σ H ⟨k, g, q⟩
  intro l hl'
  have kn := hold_new (o := (.dK [])) k hl'
  have eh : Ex (W.vis H) ((W.hold l (.dK [])).vis (upd H l (.dK []))) := hold_of (World.visNone hl') (World.visEx k (Ex.new hl'))
  refine ⟨l, kn, (g.mono eh).set rfl, ?_⟩
  rintro b v H' k' e' p'
  exact q (f l b) v H' (ho l b H' k') ((eh.trans e').trans (hv l b H')) (hr l b v H' k' p')
/-- a list held apart is let go: from then on it is read only -/
theorem br_out (i : Nat) {rl : List Rep} {xs : List V} (hi : rs[i]? = some (some (rAtL D rl xs))) (h : Br X W (rs.set i (some (rLst rl))) sts W' rr) : Br X (W.hold D (.lst xs)) rs sts W' rr := by
  refine pss_cs h ?_
  rintro DD σ H ⟨k, g, q⟩
  refine ⟨k.1, (g.mono hold_sub).re hi fun v p => ⟨D, xs, p.1, hold_seen k, p.2⟩, ?_⟩
  intro a v H' k' e' p'
  exact q a v H' k' (hold_sub.trans e') p'
theorem bw_out (i : Nat) {rl : List Rep} {xs : List V} (hi : rs[i]? = some (some (rAtL D rl xs))) (h : Bw X W (rs.set i (some (rLst rl))) sts ⟨r, none, none, none⟩) : Br X (W.hold D (.lst xs)) rs sts (fun _ : Unit => W) (fun _ => r) := br_out i hi (br_of (W' := fun _ : Unit => W) (rr := fun _ => r) () h)
/-- a dict held apart is let go -/
theorem br_outD (i : Nat) {kvs : List (L2.Key × V)} (hi : rs[i]? = some (some (rRef D))) (h : Br X W (rs.set i (some (rDict kvs))) sts W' rr) : Br X (W.hold D (.dK kvs)) rs sts W' rr := by
  refine pss_cs h ?_
  rintro DD σ H ⟨k, g, q⟩
  refine ⟨k.1, (g.mono hold_sub).re hi fun v p => ⟨D, p, hold_seen k⟩, ?_⟩
  intro a v H' k' e' p'
  exact q a v H' k' (hold_sub.trans e') p'
end
end Py
namespace Py
open PySem L2
/-! ### tuple(d.items()), dict(t) of such a tuple: the tuple is told with its whole object -/
def rTupF (rl : List Rep) : Rep := ⟨fun v H => ∃ a o xs, v = .ref a ∧ H a = some (.frz o (.tup xs)) ∧ o.cls = .type "tuple" ∧ o.dict = none ∧ Reps rl xs H, fun e ⟨a, o, xs, h1, h2, h3, h4, h5⟩ => ⟨a, o, xs, h1, e _ _ h2, h3, h4, h5.mono e⟩⟩
theorem tupF_tup {K : PySem.W.Frag} {rl : List Rep} {v : V} {H : Hp} (h : (rTupF rl).p v H) : (rTup K rl).p v H := by
  obtain ⟨a, o, xs, h1, h2, _, _, h5⟩ := h
  exact ⟨a, xs, h1, .inl (.inr ⟨o, h2⟩), h5⟩
section
variable {prog : Program} {w : PySem.World} {A : Around} {E : Value → Shared → Prop} {s : Shared} {κ : Type} [DecidableEq κ] {knd : KeyKind prog w κ} {ps : List (κ × Value)} {ep : Nat} {r d : Addr}
theorem call_tupItems {Q : Value → Shared → Prop} (hh : A.handled = none) (hv : s.heap.IsItemsView r d) (hm : s.heap.DictAt knd d ps ep) (hn : ps.length ≤ sizeLine)
    (hQ : ∀ (g : Heap) (tk : Nat) (as : List Addr), (∀ b o, s.heap.get? b = some o → g.get? b = some o) → as.length = ps.length → PySem.W.KdxG knd ps s.heap.objs.size g as → Q (.ref g.objs.size) { s with heap := g.push { cls := .type "tuple", data := .seq (as.map Value.ref).toArray }, toks := tk }) :
    wpAny (model prog w) A (call (.type "tuple") [.ref r]) Q E s := by
  refine callType_codes (Q₁ := fun obj s₁ => s₁.TypeIs obj "tuple" ∧ Q obj s₁) F.called_tuple (F.typeCall_tuple_1 _) F.entry_object_init ?_ fun obj s₁ y => ?_
  · refine codeAny_of_tree ?_
    show wpAny _ A.in1.in1 (do checkBuiltinCall "tuple.__new__" ⟨[.type "tuple", .ref r], []⟩; again (.builtin "tuple.__new__" ⟨[.type "tuple", .ref r], []⟩)) _ _ s
    refine wpAny_bind (wpAny_of_eq (F.newCall_tuple_1 _) (wpAny_pure ⟨plainId_quiet F.plain_tuple_new _, codeAny_builtin F.entry_tuple_new ?_⟩))
    rw [Around.under_plainId F.plain_tuple_new _]
    have q1 := sub_tuple_self
    have q2 := init_tuple_lookup
    have q3 := madeHere_tuple
    have q4 : s.TypeIs (.ref r) "dict_items" := hv.typeIs
    wp_walk using wpAny_typeOf q4, PySem.W.kdx_collect (show A.in1.in1.handled = none from hh) hv hm hn
    intro g tk as hk hl hG
    show wpAny _ _ (Builtin.Tuple.tupleExact (as.map Value.ref).toArray >>= fun v => ret v) _ _ _
    unfold Builtin.Tuple.tupleExact
    refine wpAny_bind (wpAny_newObj_type ?_ (by show (as.map Value.ref).toArray.size ≤ sizeLine; simp only [List.size_toArray, List.length_map]; rw [hl]; exact hn))
    exact wpAny_pure ⟨⟨_, Heap.get?_push_size _ rfl, rfl⟩, hQ g tk as hk hl hG⟩
  · exact ⟨y.1, F.args_object_init_2 obj _, object_init_meets F.called_tuple.init.lookup F.called_tuple.made (by decide) prog w A.in1 _ s₁ ⟨y.1, rfl, y.2⟩⟩
end
section
variable {X : Cx} {e : Expr} {te : TE} {p apos cpos pos : Pos}
/-- the pairs of such a walk, tracked -/
theorem tups_laid {pins : List (Addr × Obj)} {σ : L2.St} {H : Hp} {s : Shared} {g : Heap} {tk : Nat} {kvs : List (L2.Key × V)} {vs : List (L2.Key × Value)} {as : List Addr} (I : Inv X pins σ H s) (kv : KV kvs vs)
    (hk : ∀ b o, s.heap.get? b = some o → g.get? b = some o) (hl : as.length = vs.length) (hG : PySem.W.KdxG (mixKind X.prog X.w) vs s.heap.objs.size g as) :
    ∃ G : Hp, (∀ b o, H b = some o → G b = some o) ∧ (∀ t ∈ as, H t = none) ∧ Paired (fun (t : Addr) (q : L2.Key × V) => G t = some (.tup [kV q.1, q.2])) as kvs ∧ Inv X pins σ G { s with heap := g, toks := tk } := by
  have lk := Paired.length kv
  have nd : as.Nodup := hG.rise.imp fun z => Nat.ne_of_lt z
  have fresh : ∀ t ∈ as, H t = none := fun t z => I.hok.fresh (Nat.le_of_lt (hG.above t z))
  have atP := LiI.putT_at as kvs H (by omega) nd
  have off : ∀ b, b ∉ as → LiI.putT H as kvs b = H b := fun b z => LiI.putT_off as kvs H z
  have kp : ∀ b u, H b = some u → (LiI.putT H as kvs) b = some u := fun b u z => by
    rw [off b fun y => by rw [fresh b y] at z; cases z]
    exact z
  refine ⟨_, kp, fresh, atP, I.call' (ch := []) rfl ⟨fun b o z _ _ _ => hk b o z, fun b o z _ _ _ => ⟨o.slots, hk b o z⟩, fun b o z n _ => ?_, fun b o z _ => ⟨o, hk b o z⟩, fun b xs z => kp b _ z, fun b o u z => kp b _ z, fun b ps z => ⟨#[], by rw [kp b _ z]; simp⟩⟩ (fun b u z => ?_) I.bare fun b z => by simp at z⟩
  · rw [off b fun y => absurd (Heap.lt_size z) (Nat.not_lt.mpr (Nat.le_of_lt (hG.above b y)))]
    exact n
  · by_cases hb : b ∈ as
    · obtain ⟨j, pk, e1, e2, e3⟩ := LiI.paired_ix atP hb
      cases e3.symm.trans z
      obtain ⟨key, k, x, f1, f2, f3⟩ := hG.pairs j b e1
      obtain ⟨qv, g1, g2, g3⟩ := LiI.paired_get kv e2
      cases f1.symm.trans g1
      exact ⟨by show 2 ≤ sizeLine; decide, [key, x], .cons (by rw [g2]; exact relV_key f2) (.cons g3 .nil), ⟨_, f3, rfl, _, rfl⟩⟩
    · rw [off b hb] at z
      exact (I.hok b u z).stay (fun d v _ y => hk d v y) (fun d y => kp d _ y) fun d xs y => kp d _ y
/-- tuple(e.items()) -/
theorem pe_tupItems (hc : X.calm = true) (he : PE X e te) (hg : Gl X "tuple") (hm : X.mg "tuple" = none) (hbase : attributeBase e "items" X.env (eval e X.env) = eval e X.env := by rfl) (hline : (apos.endLine == cpos.line) = true := by rfl)
    (hs : starEach [.Call (.Attribute e "items" apos) [] [] cpos] X.env = (false, eval (.Call (.Attribute e "items" apos) [] [] cpos) X.env) :: starEach [] X.env := by rfl) :
    PE X (.Call (.Name "tuple" p) [.Call (.Attribute e "items" apos) [] [] cpos] [] pos) (fun σ H Q => te σ H fun x H1 => ∃ (d : Addr) (kvs : List (L2.Key × V)), x = .ref d ∧ H1 d = some (.dK kvs) ∧
      ∀ (G : Hp) (q : Addr) (o : Obj) (as : List Addr), (∀ b u, H1 b = some u → G b = some u) → (∀ t ∈ as, H1 t = none) → G q = none → o.cls = .type "tuple" → o.dict = none → Paired (fun (t : Addr) (q : L2.Key × V) => G t = some (.tup [kV q.1, q.2])) as kvs → Q (.ref q) (upd G q (.frz o (.tup (as.map V.ref))))) := by
  refine ⟨fun pins s σ H Q I hq => ?_⟩
  refine wpAny_Call_Name_kw (ld_blt (u := .type "tuple") I hg hm (by decide +kernel) ?_)
  refine PyProof.Rows.callWith_type1 ?_ hs rfl
  rw [hs]
  show wpAny _ _ (spliced ((false, eval (.Call (.Attribute e "items" apos) [] [] cpos) X.env) :: backTo pos (starEach [] X.env))) _ X.xe s
  refine Calls.spliced_cons (wpAny_Call_method (T := "dict") (id := "dict.items") hbase rfl hline F.plainAttrs_dict F.slot_dict_items F.type_dict_items (thn (he.run pins s σ H _ I hq) fun u s1 ⟨x, H1, I1, rx, d, kvs, ex, hd, q⟩ => ?_))
  subst ex
  obtain rfl : u = Value.ref d := rx
  obtain ⟨hz, hs0, vs, kv, hdo⟩ := I1.hok d _ hd
  obtain ⟨ep, hat⟩ := hdo.dictAt
  have lk : kvs.length = vs.length := Paired.length kv
  have I2 : Inv X pins σ H1 { s1 with heap := s1.heap.push { cls := .type "dict_items", data := .fields #[.ref d] } } := I1.kept (t' := s1.toks) fun b ob z => Heap.get?_push_of_some _ z
  refine ⟨hdo.typeIs, hdo.mapOf.noDict, ?_⟩
  show wpAny _ X.A (callWith cpos (.builtin "dict.items") [.ref d] [] []) _ X.xe s1
  refine method_meetsIn F.slot_dict_items F.entry_dict_items rfl (PySem.evalArgs_none ⟨rfl, hdo.typeIs, F.args_dict_items_1 _, _, meets_dict_items (mixKind X.prog X.w) d hs0, ⟨vs, hdo⟩, Calls.spliced_nil ?_⟩)
  refine call_tupItems (knd := mixKind X.prog X.w) (ps := vs) (ep := ep) (I1.ok.hd hc) ⟨_, Heap.get?_push_size _ rfl, rfl, rfl⟩ (hat.push _) (by omega) fun g tk as hk hl hG => ?_
  obtain ⟨G, k1, kf, k2, J⟩ := tups_laid (tk := tk) I2 kv hk hl hG
  have hfr : G g.objs.size = none := J.hok.fresh (Nat.le_refl _)
  refine ⟨.ref _, _, J.laid (o := .frz { cls := .type "tuple", data := .seq (as.map Value.ref).toArray } (.tup (as.map V.ref))) (t' := tk) (fun b u z => Heap.get?_push_of_some _ z) (Nat.le_refl _) ⟨Heap.get?_push_size _ rfl, by rw [List.length_map]; omega, _, LiI.vals_refs as, ⟨_, Heap.get?_push_size _ rfl, rfl, _, rfl⟩⟩, rfl, q G _ _ as k1 kf hfr rfl rfl k2⟩
end
section
variable {X : Cx} {W : World} {rs : Rs} {e : Expr} {p apos cpos pos : Pos} {kvs : List (L2.Key × V)} {rl : List Rep}
theorem reps_pairs {K : PySem.W.Frag} {H : Hp} : ∀ {as : List Addr} {kvs : List (L2.Key × V)} {fs : List (List Rep)}, Paired (fun (t : Addr) (q : L2.Key × V) => H t = some (.tup [kV q.1, q.2])) as kvs → (∀ (i : Nat) (q : L2.Key × V), kvs[i]? = some q → ∃ f, fs[i]? = some f ∧ Reps f [kV q.1, q.2] H) → fs.length = kvs.length → Reps (fs.map (rTup K)) (as.map V.ref) H
  | _, _, [], .nil, _, _ => trivial
  | _, _, _ :: _, .nil, _, h => by simp at h
  | _, _, [], .cons _ _, _, h => by simp at h
  | _, _, f :: fs, .cons (a := a) (b := q) r t, h, hl => by
    obtain ⟨f', e1, e2⟩ := h 0 q rfl
    cases e1
    exact ⟨⟨a, _, rfl, .inl (.inl r), e2⟩, reps_pairs t (fun i q' z => by simpa using h (i + 1) q' (by simpa using z)) (by simpa using hl)⟩
theorem paired_vis {G : Hp} : ∀ {as : List Addr} {kvs : List (L2.Key × V)}, Paired (fun (t : Addr) (q : L2.Key × V) => G t = some (.tup [kV q.1, q.2])) as kvs → (∀ t ∈ as, ¬ W.hd t) → Paired (fun (t : Addr) (q : L2.Key × V) => W.vis G t = some (.tup [kV q.1, q.2])) as kvs
  | _, _, .nil, _ => .nil
  | _, _, .cons r t, h => .cons (by rw [World.seen (h _ List.mem_cons_self)]; exact r) (paired_vis t fun a z => h a (List.mem_cons_of_mem _ z))
theorem ew_tupItems {fs : List (List Rep)} (hc : X.calm = true) (he : Ew X W rs e (rDict kvs)) (hg : Gl X "tuple") (hm : X.mg "tuple" = none) (hf : ∀ (i : Nat) (q : L2.Key × V), kvs[i]? = some q → ∃ f, fs[i]? = some f ∧ ∀ H, Reps f [kV q.1, q.2] H) (hlen : fs.length = kvs.length) (hbase : attributeBase e "items" X.env (eval e X.env) = eval e X.env := by rfl) (hline : (apos.endLine == cpos.line) = true := by rfl)
    (hs : starEach [.Call (.Attribute e "items" apos) [] [] cpos] X.env = (false, eval (.Call (.Attribute e "items" apos) [] [] cpos) X.env) :: starEach [] X.env := by rfl) : Ew X W rs (.Call (.Name "tuple" p) [.Call (.Attribute e "items" apos) [] [] cpos] [] pos) (rTupF (fs.map (rTup X.K))) := by
  refine pe_cs (pe_tupItems hc he hg hm hbase hline hs) ?_
  rintro σ H Q ⟨k, g, q⟩
  refine ⟨k, g, fun v H1 k1 e1 ⟨a, ev, hd⟩ => ⟨a, kvs, ev, W.sub H1 _ _ hd, fun G y o as hk hf1 hn hc1 hd1 hp => ?_⟩⟩
  have k2 : W.ok G := World.okEx k1 hk
  have e2 := World.visEx k1 hk
  have kG := World.okNew (o := .frz o (.tup (as.map V.ref))) k2 hn
  have eG : Ex (W.vis G) (W.vis (upd G y (.frz o (.tup (as.map V.ref))))) := World.visEx k2 (Ex.new hn)
  refine q _ _ kG ((e1.trans e2).trans eG) ⟨y, o, _, rfl, by rw [World.visNew k2 hn, upd_same], hc1, hd1, ?_⟩
  refine Reps.mono eG (reps_pairs ?_ (fun i q' z => let ⟨f, e3, e4⟩ := hf i q' z; ⟨f, e3, e4 _⟩) hlen)
  exact paired_vis hp fun t z => World.free k1 (hf1 t z)
end
end Py
namespace Py
open PySem L2
/-! ### dict(t), t a tuple of pairs that is told with its object -/
section
variable {X : Cx}
theorem pairs_of2 {pins : List (Addr × Obj)} {σ : L2.St} {H : Hp} {s : Shared} (I : Inv X pins σ H s) : ∀ {ps : List Addr} {kvs : List (L2.Key × V)}, Paired (fun p kv => SqT X.K H p [kV kv.1, kv.2]) ps kvs →
    ∃ (prs : List (L2.Key × Value)) (pv : List (Value × Value)), KV kvs prs ∧ prs.length = ps.length ∧ pv.length = ps.length ∧ ∀ (j : Nat) (b : Addr), ps[j]? = some b → ∃ k u v, prs[j]? = some (k, v) ∧ pv[j]? = some (u, v) ∧ s.heap.IsTuple b #[u, v] ∧ keyIs k u = true
  | _, _, .nil => ⟨[], [], .nil, rfl, rfl, fun j b e => by simp at e⟩
  | _, _, .cons (a := p) (b := kv) r t => by
    obtain ⟨prs, pv, rel, l1, l2, hp⟩ := pairs_of2 I t
    obtain ⟨its, rv, ht, _⟩ := I.tuple r
    obtain ⟨u, y, ei, ru, ry⟩ := vals2 rv
    cases ei
    refine ⟨(kv.1, y) :: prs, (u, y) :: pv, .cons ⟨rfl, ry⟩ rel, congrArg Nat.succ l1, congrArg Nat.succ l2, fun j b e => ?_⟩
    cases j with
    | zero =>
      cases Option.some.inj e
      exact ⟨_, u, y, rfl, rfl, ht, kV_is (P := X.prog) (w := X.w) ru⟩
    | succ j =>
      obtain ⟨k, u', v, e1, e2, e3⟩ := hp j b (by simpa using e)
      exact ⟨k, u', v, by simpa using e1, by simpa using e2, e3⟩
theorem call_dictTup (hcalm : X.calm = true) : CallR X (.type "dict") (fun xs H Q => ∃ (a : Addr) (o : Obj) (ps : List Addr) (kvs : List (L2.Key × V)), xs = [.ref a] ∧ H a = some (.frz o (.tup (ps.map V.ref))) ∧ o.cls = .type "tuple" ∧ o.dict = none ∧ Paired (fun p kv => SqT X.K H p [kV kv.1, kv.2]) ps kvs ∧
    ∀ p, H p = none → Q (.ref p) (upd H p (.dK (mergeK [] kvs)))) := by
  intro pins s σ H xs us Q I r ⟨a, o, ps, kvs, ex, ha, hc, hd, hp, q⟩
  subst ex
  obtain ⟨u, eu, rx⟩ := vals1 r
  subst eu
  cases rx
  obtain ⟨ho, hz, its, rv, o', ho', _, n, hdat⟩ := I.hok a _ ha
  cases ho.symm.trans ho'
  have ei := refs_at rv
  subst ei
  obtain ⟨prs, pv, rel, l1, l2, hq⟩ := pairs_of2 I hp
  rw [List.length_map] at hz
  have hP := PairArg.tuple (prog := X.prog) (w := X.w) a (ps.map Value.ref).toArray (fun j => ps.getD j 0) pv
  refine call_dict_pairs (knd := mixKind X.prog X.w) (kvs := prs) hP (I.ok.hd hcalm) ⟨⟨o, n, ho, hc, hd, hdat⟩, by simp [l2], fun j k v e => ?_⟩ ⟨by rw [l1, l2], fun j k v e => ?_⟩ (by omega) fun h' tk hd' k => ?_
  · obtain ⟨hj, _⟩ := List.getElem?_eq_some_iff.mp e
    have hb : ps[j]? = some ps[j] := List.getElem?_eq_getElem (by omega)
    obtain ⟨k', u, v', e1, e2, e3, e4⟩ := hq j _ hb
    cases e2.symm.trans e
    refine ⟨by simp [hb], .inl ?_⟩
    show s.heap.IsTuple (ps.getD j 0) #[k, v]
    rw [List.getD_eq_getElem?_getD, hb]
    exact e3
  · have e : pv[j]? = some (k, v) := e
    obtain ⟨hj, _⟩ := List.getElem?_eq_some_iff.mp e
    have hb : ps[j]? = some ps[j] := List.getElem?_eq_getElem (by omega)
    obtain ⟨k', u, v', e1, e2, e3, e4⟩ := hq j _ hb
    cases e2.symm.trans e
    exact ⟨k', e1, e4⟩
  · have hm : (s.heap.objs.size == sysModules) = false := beq_eq_false_iff_ne.mpr (Nat.ne_of_gt I.big)
    have hlen : (mergeK [] kvs).length ≤ sizeLine := Nat.le_trans (length_mergeK kvs []) (by rw [List.length_nil, rel.length, l1]; omega)
    exact ⟨.ref _, _, I.laid (t' := tk) (o := .dK (mergeK [] kvs)) (fun b u z => k b u (by simp) z) (Nat.le_refl _) ⟨hlen, hm, merged [] prs, KV.merge rel .nil, hd'⟩, rfl, q _ (I.hok.fresh (Nat.le_refl _))⟩
variable {W : World} {rs : Rs} {e a : Expr} {p pos : Pos} {kvs : List (L2.Key × V)} {D : Addr}
/-- a dict from texts to texts -/
def dictS (kvs : List (Str × Str)) : List (L2.Key × V) := kvs.map fun q => (Sum.inr q.1, V.str q.2)
abbrev rPairS (K : PySem.W.Frag) (q : Str × Str) : Rep := rTup K [rD K (.str q.1), rD K (.str q.2)]
theorem pairs_reps {K : PySem.W.Frag} {H : Hp} : ∀ {kvs : List (Str × Str)} {xs : List V}, Reps (kvs.map (rPairS K)) xs H → ∃ as : List Addr, xs = as.map V.ref ∧ Paired (fun (t : Addr) (q : L2.Key × V) => SqT K H t [kV q.1, q.2]) as (dictS kvs)
  | [], xs, h => by
    rw [reps0 h]
    exact ⟨[], rfl, .nil⟩
  | kv :: kvs, [], h => h.elim
  | kv :: kvs, x :: xs, h => by
    obtain ⟨⟨t, ys, e1, e2, e3⟩, h2⟩ := h
    obtain ⟨as, e4, e5⟩ := pairs_reps h2
    obtain ⟨y, z, e6, e7, e8⟩ := reps2 e3
    subst e6
    rw [rD_str.mp e7, rD_str.mp e8] at e2
    exact ⟨t :: as, by rw [e1, e4]; rfl, .cons e2 e5⟩
theorem paired_sub {K : PySem.W.Frag} {H H' : Hp} (e : Ex H H') {as : List Addr} {kvs : List (L2.Key × V)} (h : Paired (fun (t : Addr) (q : L2.Key × V) => SqT K H t [kV q.1, q.2]) as kvs) : Paired (fun (t : Addr) (q : L2.Key × V) => SqT K H' t [kV q.1, q.2]) as kvs := Paired.mapP h fun _ _ z => sqT_mono e z
theorem ew_dictTup {kvs : List (Str × Str)} (hc : X.calm = true) (hg : Gl X "dict") (hm : X.mg "dict" = none) (ha : Ew X W rs e (rTupF (kvs.map (rPairS X.K)))) (hd : mergeK [] (dictS kvs) = dictS kvs) (he : starEach [e] X.env = (false, eval e X.env) :: starEach [] X.env := by rfl) (hpl : (backTo pos (starEach [] X.env)).any (·.1) = false := by rfl) :
    Ew X W rs (.Call (.Name "dict" p) [e] [] pos) (rDict (dictS kvs)) :=
  ew_callTy (call_dictTup hc) hg hm (by decide +kernel) ha (fun v H k ⟨a, o, xs, ev, h, h2, h3, h4⟩ Q q => by
    obtain ⟨as, e1, e2⟩ := pairs_reps h4
    subst e1
    refine ⟨a, o, as, dictS kvs, by rw [ev], W.sub H _ _ h, h2, h3, paired_sub (W.sub H) e2, fun l hl => ?_⟩
    rw [hd]
    exact q _ _ (World.okNew k hl) (World.visEx k (Ex.new hl)) ⟨l, rfl, by rw [World.visNew k hl, upd_same]⟩) (by decide) (by decide) he hpl
theorem merge_nodup : ∀ (kvs acc : List (L2.Key × V)), ((acc ++ kvs).map (·.1)).Nodup → mergeK acc kvs = acc ++ kvs
  | [], acc, _ => by simp [mergeK]
  | kv :: kvs, acc, h => by
    have h0 : (acc.any fun q => decide (q.1 = kv.1)) = false := by
      rw [List.any_eq_false]
      intro q hq
      have z := h
      rw [List.map_append, List.nodup_append] at z
      have h3 := z.2.2 q.1 (List.mem_map_of_mem hq) kv.1 (by simp)
      simpa using h3
    have e : putK acc kv.1 kv.2 = acc ++ [kv] := by
      unfold putK
      rw [h0]
      rfl
    show mergeK (putK acc kv.1 kv.2) kvs = acc ++ kv :: kvs
    rw [e, merge_nodup kvs (acc ++ [kv]) (by simpa using h)]
    simp
theorem merge_dictS {kvs : List (Str × Str)} (h : (kvs.map (·.1)).Nodup) : mergeK [] (dictS kvs) = dictS kvs := by
  have := merge_nodup (dictS kvs) [] (by
    rw [List.nil_append]
    have e : (dictS kvs).map (·.1) = (kvs.map (·.1)).map Sum.inr := by rw [dictS, List.map_map, List.map_map]; rfl
    rw [e]
    exact List.Pairwise.map _ (fun a b z q => z (Sum.inr.inj q)) h)
  simpa using this
theorem valV_dictS {kvs : List (Str × Str)} {z y : Str} (hn : (kvs.map (·.1)).Nodup) (h : (z, y) ∈ kvs) : valV (dictS kvs) (Sum.inr z) = some (.str y) := by
  induction kvs with
  | nil => cases h
  | cons q kvs ih =>
    rw [List.map_cons, List.nodup_cons] at hn
    by_cases e : q.1 = z
    · have : q = (z, y) := by
        rcases List.mem_cons.mp h with h | h
        · exact h.symm
        · exact absurd (List.mem_map_of_mem (f := (·.1)) h) (by rw [e] at hn; exact hn.1)
      subst this
      exact valV_pos rfl
    · rcases List.mem_cons.mp h with h' | h'
      · exact absurd (by rw [← h']) e
      · show valV ((Sum.inr q.1, V.str q.2) :: dictS kvs) (Sum.inr z) = _
        rw [valV_neg (by intro c; exact e (Sum.inr.inj c))]
        exact ih hn.2 h'
end
/-! ### a dict is set apart later on: what the slots hold does not lean on dicts -/
noncomputable def hideA (D : Addr) (H : Hp) : Hp := fun a => if a = D then none else H a
def Nd (r : Rep) : Prop := ∀ (v : V) (H : Hp) (D : Addr) (kvs : List (L2.Key × V)), H D = some (.dK kvs) → r.p v H → r.p v (hideA D H)
theorem hide_ne {D a : Addr} {H : Hp} {o : HO} (h : H a = some o) (hD : ∀ kvs, H D = some (.dK kvs) → o ≠ .dK kvs) {kvs} (hd : H D = some (.dK kvs)) : hideA D H a = some o := by
  unfold hideA
  rw [if_neg fun e => hD kvs hd (by subst e; exact Option.some.inj (h.symm.trans hd))]
  exact h
theorem nd_rV {x : V} : Nd (rV x) := fun _ _ _ _ _ h => h
theorem sqT_hide {K : PySem.W.Frag} {H : Hp} {D a : Addr} {xs : List V} {kvs} (hd : H D = some (.dK kvs)) (h : SqT K H a xs) : SqT K (hideA D H) a xs := by
  rcases h with (h | ⟨o, h⟩) | h
  · exact .inl (.inl (hide_ne h (fun _ _ => by intro z; cases z) hd))
  · exact .inl (.inr ⟨o, hide_ne h (fun _ _ => by intro z; cases z) hd⟩)
  · exact .inr h
theorem sqL_hide {K : PySem.W.Frag} {H : Hp} {D a : Addr} {xs : List V} {kvs} (hd : H D = some (.dK kvs)) (h : SqL K H a xs) : SqL K (hideA D H) a xs := by
  rcases h with (h | ⟨o, h⟩) | h
  · exact .inl (.inl (hide_ne h (fun _ _ => by intro z; cases z) hd))
  · exact .inl (.inr ⟨o, hide_ne h (fun _ _ => by intro z; cases z) hd⟩)
  · exact .inr h
mutual
theorem dp_hide {K : PySem.W.Frag} {H : Hp} {D : Addr} {kvs} (hd : H D = some (.dK kvs)) : ∀ {v : V} {d : PyData}, Dp K H v d → Dp K (hideA D H) v d
  | _, _, .non => .non
  | _, _, .bl b => .bl b
  | _, _, .int i => .int i
  | _, _, .str x => .str x
  | _, _, .lst h k => .lst (sqL_hide hd h) (dpAll_hide hd k)
  | _, _, .tup h k => .tup (sqT_hide hd h) (dpAll_hide hd k)
theorem dpAll_hide {K : PySem.W.Frag} {H : Hp} {D : Addr} {kvs} (hd : H D = some (.dK kvs)) : ∀ {vs : List V} {ds : List PyData}, DpAll K H vs ds → DpAll K (hideA D H) vs ds
  | _, _, .nil => .nil
  | _, _, .cons h k => .cons (dp_hide hd h) (dpAll_hide hd k)
end
theorem nd_rD {K : PySem.W.Frag} {d : PyData} : Nd (rD K d) := fun _ _ _ _ hd h => dp_hide hd h
theorem nd_ex {α : Type} {f : α → Rep} (h : ∀ c, Nd (f c)) : Nd (rEx f) := fun v H D kvs hd ⟨c, q⟩ => ⟨c, h c v H D kvs hd q⟩
theorem nd_reps {H : Hp} {D : Addr} {kvs} (hd : H D = some (.dK kvs)) : ∀ {rl : List Rep} {xs : List V}, (∀ r ∈ rl, Nd r) → Reps rl xs H → Reps rl xs (hideA D H)
  | [], [], _, _ => trivial
  | r :: rl, x :: xs, h, q => ⟨h r List.mem_cons_self _ _ _ _ hd q.1, nd_reps hd (fun r' z => h r' (List.mem_cons_of_mem _ z)) q.2⟩
  | [], _ :: _, _, q => q.elim
  | _ :: _, [], _, q => q.elim
theorem nd_tup {K : PySem.W.Frag} {rl : List Rep} (h : ∀ r ∈ rl, Nd r) : Nd (rTup K rl) := fun v H D kvs hd ⟨a, xs, e1, e2, e3⟩ => ⟨a, xs, e1, sqT_hide hd e2, nd_reps hd h e3⟩
theorem nd_seq {K : PySem.W.Frag} {rl : List Rep} (h : ∀ r ∈ rl, Nd r) : Nd (rSeq K rl) := fun v H D kvs hd ⟨a, xs, e1, e2, e3⟩ => ⟨a, xs, e1, sqL_hide hd e2, nd_reps hd h e3⟩
theorem nd_lst {rl : List Rep} (h : ∀ r ∈ rl, Nd r) : Nd (rLst rl) := fun v H D kvs hd ⟨a, xs, e1, e2, e3⟩ => ⟨a, xs, e1, hide_ne e2 (fun _ _ => by intro z; cases z) hd, nd_reps hd h e3⟩
theorem nd_flds {H : Hp} {D : Addr} {kvs} (hd : H D = some (.dK kvs)) : ∀ {fs : List (Str × Rep)} {gs : List (Str × V)}, (∀ r ∈ fs, Nd r.2) → Flds fs gs H → Flds fs gs (hideA D H)
  | [], [], _, _ => trivial
  | (n, r) :: fs, (m, x) :: gs, h, q => ⟨q.1, h (n, r) List.mem_cons_self _ _ _ _ hd q.2.1, nd_flds hd (fun r' z => h r' (List.mem_cons_of_mem _ z)) q.2.2⟩
  | [], _ :: _, _, q => q.elim
  | _ :: _, [], _, q => q.elim
theorem nd_ins {C : Addr} {fs : List (Str × Rep)} (h : ∀ r ∈ fs, Nd r.2) : Nd (rIns C fs) := fun v H D kvs hd ⟨a, dx, gs, e1, e2, e3⟩ => ⟨a, dx, gs, e1, hide_ne e2 (fun _ _ => by intro z; cases z) hd, nd_flds hd h e3⟩
theorem nd_map {α : Type} {f : α → Rep} {xs : List α} (h : ∀ x, Nd (f x)) : ∀ r ∈ xs.map f, Nd r := fun r z => by
  obtain ⟨x, _, rfl⟩ := List.mem_map.mp z
  exact h x
def NdL : Rs → Prop
  | [] => True
  | none :: rs => NdL rs
  | some r :: rs => Nd r ∧ NdL rs
theorem sg_hide {H : Hp} {D : Addr} {kvs} (hd : H D = some (.dK kvs)) : ∀ {rs : Rs} {σ : St}, NdL rs → Sg rs σ H → Sg rs σ (hideA D H)
  | [], [], _, _ => trivial
  | some r :: rs, x :: σ, h, q => ⟨let ⟨v, e, p⟩ := q.1; ⟨v, e, h.1 _ _ _ _ hd p⟩, sg_hide hd h.2 q.2⟩
  | none :: rs, _ :: σ, h, q => sg_hide (rs := rs) (σ := σ) hd h q
  | [], _ :: _, _, q => q.elim
  | some _ :: _, [], _, q => q.elim
  | none :: _, [], _, q => q.elim
theorem sg_put : ∀ {rs : Rs} {σ : St} {H : Hp} {i : Nat} {v : V} {r : Rep}, Sg (rs.set i none) σ H → i < rs.length → σ[i]? = some (some v) → r.p v H → Sg (rs.set i (some r)) σ H
  | [], _, _, _, _, _, _, hi, _, _ => by simp at hi
  | _ :: rs, x :: σ, H, 0, v, r, g, _, e, p => by
    have e' : x = some v := by simpa using e
    exact ⟨⟨v, e', p⟩, g⟩
  | some q :: rs, x :: σ, H, i + 1, v, r, g, hi, e, p => ⟨g.1, sg_put (rs := rs) (i := i) g.2 (by simpa using hi) (by simpa using e) p⟩
  | none :: rs, x :: σ, H, i + 1, v, r, g, hi, e, p => sg_put (rs := rs) (σ := σ) (H := H) (i := i) g (by simpa using hi) (by simpa using e) p
  | some _ :: _, [], _, 0, _, _, g, _, _, _ => g.elim
  | none :: _, [], _, 0, _, _, g, _, _, _ => g.elim
  | some _ :: _, [], _, _ + 1, _, _, g, _, _, _ => g.elim
  | none :: _, [], _, _ + 1, _, _, g, _, _, _ => g.elim
section
variable {X : Cx} {W : World} {rs N : Rs} {e : Expr} {r : Rep} {st : Stmt} {sts : List Stmt} {kvs : List (L2.Key × V)} {D : Addr}
theorem hide_in {i : Nat} {σ : St} {H : Hp} (hi : rs[i]? = some (some (rDict kvs))) (hn : NdL (rs.set i none)) (k : W.ok H) (g : Sg rs σ (W.vis H)) :
    ∃ D, (W.hold D (.dK kvs)).ok H ∧ Sg (rs.set i (some (rRef D))) σ ((W.hold D (.dK kvs)).vis H) ∧ W.vis H D = some (.dK kvs) := by
  obtain ⟨v, e1, D, e2, h⟩ := g.get hi
  subst e2
  have hD : ¬ W.hd D := fun z => by rw [World.vis, if_pos z] at h; cases h
  have hv : (W.hold D (.dK kvs)).vis H = hideA D (W.vis H) := hold_vis
  refine ⟨D, ⟨k, hD, W.sub H _ _ h⟩, ?_, h⟩
  rw [hv]
  exact sg_put (sg_hide h hn (sg_wipe g)) (by exact (List.getElem?_eq_some_iff.mp hi).1) e1 rfl
theorem ex_unhide {o : HO} {H H' : Hp} (k : (W.hold D o).ok H') (h : W.vis H D = some o) (e : Ex ((W.hold D o).vis H) ((W.hold D o).vis H')) : Ex (W.vis H) (W.vis H') := fun a u z => by
  by_cases c : a = D
  · subst c
    rw [← z, h]
    exact hold_seen k
  · refine hold_sub a u (e a u ?_)
    rw [hold_vis]
    show (if a = D then none else W.vis H a) = some u
    rw [if_neg c]
    exact z
/-- a dict that a slot holds is set apart from here on -/
theorem bw_hide (i : Nat) (hi : rs[i]? = some (some (rDict kvs))) (hn : NdL (rs.set i none)) (h : ∀ D, Bw X (W.hold D (.dK kvs)) (rs.set i (some (rRef D))) sts ⟨r, none, none, none⟩) : Bw X W rs sts ⟨r, none, none, none⟩ := by
  have hB : PSs X sts (fun DD σ H => ∃ D, sW (W.hold D (.dK kvs)) (rs.set i (some (rRef D))) ⟨r, none, none, none⟩ DD σ H) := ⟨fun pins s σ H DD I ⟨D, q⟩ => (h D).run pins s σ H DD I q⟩
  refine pss_cs hB ?_
  rintro DD σ H ⟨k, g, q, _⟩
  obtain ⟨D, k1, g1, hD⟩ := hide_in hi hn k g
  exact ⟨D, k1, g1, fun v H' k' e' pv => q v H' k'.1 (ex_unhide k' hD e') (r.mono hold_sub pv), (fun N z => nomatch z), (fun N z => nomatch z), (fun N z => nomatch z)⟩
/-- .. for one expression, one statement -/
theorem ew_hide (i : Nat) (hi : rs[i]? = some (some (rDict kvs))) (hn : NdL (rs.set i none)) (h : ∀ D, Ew X (W.hold D (.dK kvs)) (rs.set i (some (rRef D))) e r) : Ew X W rs e r := by
  have hB : PE X e (fun σ H Q => ∃ D, tW (W.hold D (.dK kvs)) (rs.set i (some (rRef D))) r σ H Q) := ⟨fun pins s σ H Q I ⟨D, q⟩ => (h D).run pins s σ H Q I q⟩
  refine pe_cs hB ?_
  rintro σ H Q ⟨k, g, q⟩
  obtain ⟨D, k1, g1, hD⟩ := hide_in hi hn k g
  exact ⟨D, k1, g1, fun v H' k' e' pv => q v H' k'.1 (ex_unhide k' hD e') (r.mono hold_sub pv)⟩
theorem sw_hide (i : Nat) (hi : rs[i]? = some (some (rDict kvs))) (hn : NdL (rs.set i none)) (hl : i < N.length) (h : ∀ D, Sw X (W.hold D (.dK kvs)) (rs.set i (some (rRef D))) st ⟨r, some (N.set i (some (rRef D))), none, none⟩) : Sw X W rs st ⟨r, some (N.set i (some (rDict kvs))), none, none⟩ := by
  have hB : PS X st (fun DD σ H => ∃ D, sW (W.hold D (.dK kvs)) (rs.set i (some (rRef D))) ⟨r, some (N.set i (some (rRef D))), none, none⟩ DD σ H) := ⟨fun pins s σ H DD I ⟨D, q⟩ => (h D).run pins s σ H DD I q⟩
  refine ps_cs hB ?_
  rintro DD σ H ⟨k, g, q, qn, _⟩
  obtain ⟨D, k1, g1, hD⟩ := hide_in hi hn k g
  refine ⟨D, k1, g1, fun v H' k' e' pv => q v H' k'.1 (ex_unhide k' hD e') (r.mono hold_sub pv), fun N' z σ' H' k' e' g' => ?_, (fun N z => nomatch z), (fun N z => nomatch z)⟩
  cases z
  have g2 := (g'.mono (hold_sub (W := W) (D := D) (o := .dK kvs))).re (i := i) (r := rRef D) (r' := rDict kvs) (by rw [List.getElem?_set_self (by simpa using hl)]) fun v z => ⟨D, z, hold_seen k'⟩
  rw [List.set_set] at g2
  exact qn _ rfl σ' H' k'.1 (ex_unhide k' hD e') g2
end
section
variable {X : Cx} {W : World} {rs : Rs} {e o a : Expr} {r : Rep} {pos apos cpos p : Pos} {kvs : List (L2.Key × V)} {D : Addr} {od : Obj} {K : PySem.W.Frag} {q l : Addr} {zs : List Int}
/-- reads of a locked dict -/
theorem ew_dgetL {z : Str} {v : V} {r : PyData} (d : LockAt W D od kvs) (hu : X.A.units + 1 < cLine) (ho : Ew X W rs e (rRef D)) (hi : Ew X W rs a (rD X.K (.str z))) (hv : valV kvs (Sum.inr z) = some v) (hd : ∀ H, Dp X.K H v r) (hs : NoSl a) : Ew X W rs (.Subscript e a pos) (rD X.K r) := by
  refine pe_cs (pe_dget hu ho hi hs) ?_
  rintro σ H Q ⟨k, g, q⟩
  refine ⟨k, g, fun x H1 k1 e1 p1 => ⟨k1, g.mono e1, fun y H2 k2 e2 p2 => ⟨D, v, p1, .inl ⟨kvs, Sum.inr z, .inr ⟨od, d.at_ H2 k2⟩, rD_str.mp p2, hv.symm⟩, q v H2 k2 (e1.trans e2) (hd _)⟩⟩⟩
theorem Draws.lock {hid : W.hd D} (d : Draws K W q l zs) (hq : q ≠ D) : Draws K (W.lockw D od kvs hid) q l zs := by
  refine ⟨d.hid, fun H k => ?_, fun H k => ?_, fun H b n k hb hn => ⟨?_, ?_⟩⟩
  · have h := d.seq _ k.1
    rcases h with (h | ⟨o, h⟩) | h
    · by_cases c : l = D
      · subst c
        rw [upd_same] at h
        cases h
      · rw [upd_ne c] at h
        exact .inl (.inl h)
    · by_cases c : l = D
      · subst c
        rw [upd_same] at h
        cases h
      · rw [upd_ne c] at h
        exact .inl (.inr ⟨o, h⟩)
    · exact .inr h
  · obtain ⟨b, n, hb, hn, h⟩ := d.rd _ k.1
    rw [upd_ne hq] at h
    exact ⟨b, n, hb, hn, h⟩
  · have h := d.wr _ b n k.1 hb hn
    have e : upd (upd H D (.dK kvs)) q (.lst [.ref l, .int b, .int n]) = upd (upd H q (.lst [.ref l, .int b, .int n])) D (.dK kvs) := by
      funext a
      unfold upd
      by_cases c : a = q
      · subst c
        rw [if_pos rfl, if_neg hq, if_pos rfl]
      · rw [if_neg c]
        by_cases c' : a = D
        · rw [if_pos c', if_pos c']
        · rw [if_neg c', if_neg c', if_neg c]
    rw [e] at h
    exact h
  · rw [upd_ne (Ne.symm hq)]
    exact k.2
theorem Draws.ne (d : Draws K W q l zs) (t : DictAt W D kvs) {H : Hp} (k : W.ok H) : q ≠ D := by
  intro c
  subst c
  obtain ⟨b, n, _, _, h⟩ := d.rd H k
  rw [t.at_ H k] at h
  cases h
/-- e in d, e not in d -/
theorem ew_inDict {z : Str} (hu : X.A.units + 1 < cLine) (ha : Ew X W rs a (rD X.K (.str z))) (ho : Ew X W rs o (rDict kvs)) (hm : behindInMarks .In o = false := by rfl) : Ew X W rs (.Compare a [.In] [o] pos) (rD X.K (.bool (valV kvs (Sum.inr z)).isSome)) := by
  refine pe_cs (pe_cmp (pc_din hu ha ho) hm) ?_
  rintro σ H Q ⟨k, g, q⟩
  refine ⟨k, g, fun y H1 k1 e1 p1 => ⟨k1, g.mono e1, fun x H2 k2 e2 ⟨D, ex, hd⟩ => ⟨D, _, ex, ?_, q _ H2 k2 (e1.trans e2) (Dp.bl _)⟩⟩⟩
  rw [rD_str.mp p1]
  exact DGet.k (k := Sum.inr z) (W.sub H2 _ _ hd)
theorem ew_notInDict {z : Str} (hu : X.A.units + 1 < cLine) (ha : Ew X W rs a (rD X.K (.str z))) (ho : Ew X W rs o (rDict kvs)) (hm : behindInMarks .NotIn o = false := by rfl) : Ew X W rs (.Compare a [.NotIn] [o] pos) (rD X.K (.bool (!(valV kvs (Sum.inr z)).isSome))) := by
  refine pe_cs (pe_cmp (pc_dnotin hu ha ho) hm) ?_
  rintro σ H Q ⟨k, g, q⟩
  refine ⟨k, g, fun y H1 k1 e1 p1 => ⟨k1, g.mono e1, fun x H2 k2 e2 ⟨D, ex, hd⟩ => ⟨D, _, ex, ?_, q _ H2 k2 (e1.trans e2) (Dp.bl _)⟩⟩⟩
  rw [rD_str.mp p1]
  exact DGet.k (k := Sum.inr z) (W.sub H2 _ _ hd)
theorem tw_notInDict {z : Str} (hu : X.A.units + 1 < cLine) (ha : Ew X W rs a (rD X.K (.str z))) (ho : Ew X W rs o (rDict kvs)) (hm : behindInMarks .NotIn o = false := by rfl) : Tw X W rs (.Compare a [.NotIn] [o] pos) (!(valV kvs (Sum.inr z)).isSome) := by
  refine pt_cs (pt_cmp (pc_dnotin hu ha ho) hm) ?_
  rintro σ H Q ⟨k, g, q⟩
  refine ⟨k, g, fun y H1 k1 e1 p1 => ⟨k1, g.mono e1, fun x H2 k2 e2 ⟨D, ex, hd⟩ => ⟨D, _, ex, ?_, _, rfl, q H2 k2 (e1.trans e2)⟩⟩⟩
  rw [rD_str.mp p1]
  exact DGet.k (k := Sum.inr z) (W.sub H2 _ _ hd)
/-- xs.index(e), told by the first place -/
theorem ew_indexD {ds : List PyData} {d z : PyData} {j : Nat} (hu : X.A.units + 65 < cLine) (ho : Ew X W rs o (rD X.K (.list ds))) (he : Ew X W rs e (rD X.K d)) (sl : SeqAt.shaped (.list ds) = true) (sd : SeqAt.shaped d = true) (hz : ds[j]? = some z) (hzj : PyData.eqv z d = true) (hno : ∀ (m : Nat) (z' : PyData), m < j → ds[m]? = some z' → PyData.eqv z' d = false)
    (hbase : attributeBase o "index" X.env (eval o X.env) = eval o X.env := by rfl)
    (hfew : ((backTo cpos (starEach [e] X.env)).all (fun x => !x.1) && (backToKw cpos (keywordEach [] X.env)).all (fun x => x.1.isSome) && decide ([e].length + ([] : List Keyword).length + (if ([] : List Keyword).isEmpty then 0 else 1) < 30)) = true := by rfl)
    (hline : (apos.endLine == cpos.line) = true := by rfl) (hs : starEach [e] X.env = (false, eval e X.env) :: starEach [] X.env := by rfl) (hplain : (backTo cpos (starEach [] X.env)).any (·.1) = false := by rfl) :
    Ew X W rs (.Call (.Attribute o "index" apos) [e] [] cpos) (rD X.K (.int (j : Nat))) := by
  refine pe_cs (pe_bm PySem.F.plainAttrs_list PySem.F.slot_list_index PySem.F.type_list_index (mt_indexD hu) ho (pa_cons he pa_nil (hs := hs)) hbase hfew hline hs hplain) ?_
  rintro σ H Q ⟨k, g, q⟩
  refine ⟨k, g, fun x H1 k1 e1 p1 => ?_⟩
  obtain ⟨l, xs, ex, hl, hr⟩ := rD_lst.mp p1
  subst ex
  refine ⟨.inl ⟨rfl, xs, sqL_mono (W.sub H1) hl⟩, k1, g.mono e1, fun y H2 k2 e2 p2 => ?_⟩
  exact ⟨l, y, d, ds, j, z, rfl, rfl, dp_mono ((World.sub W H2)) (dp_mono e2 p1), dp_mono (World.sub W H2) p2, sl, sd, hz, hzj, hno, q _ H2 k2 (e1.trans e2) (Dp.int _)⟩
end
end Py
namespace Py
open PySem L2
section
variable {X : Cx} {W : World} {rs N : Rs} {a b e o : Expr} {r : Rep} {pos p : Pos} {st : Stmt} {sts : List Stmt} {C x dx : Addr} {fr out : List (Str × Rep)} {kvs : List (L2.Key × V)}
/-- a statement within an __init__ that leaves the instance as it is -/
theorem ib_sw (h : ∀ gs, Sw X (W.hold x (.ins C dx gs)) rs st ((⟨rNo, none, none, none⟩ : Outs).to N)) (h2 : Ib X W C x dx N fr sts out) : Ib X W C x dx rs fr (st :: sts) out := by
  have hA : PS X st (fun D σ H => ∃ gs, sW (W.hold x (.ins C dx gs)) rs ⟨rNo, some N, none, none⟩ D σ H) := ⟨fun pins s σ H D I ⟨gs, q⟩ => (h gs).run pins s σ H D I q⟩
  refine pss_cs (pss_cons hA h2) ?_
  rintro D σ H ⟨gs, k, fl, g, q⟩
  refine ⟨gs, k, g, fun v H' _ _ pv => pv.elim, fun N' z σ' H' k' e' g' => ?_, (fun N z => nomatch z), (fun N z => nomatch z)⟩
  cases z
  refine ⟨gs, k', fl.mono e', g', fun gs' H2 σ2 k2 e2 fl2 => q gs' H2 σ2 k2 ?_ fl2⟩
  exact e'.trans e2
theorem isR_dict {K : PySem.W.Frag} : IsR K (rDict kvs) (.type "dict") := fun v H ⟨a, ev, h⟩ => by
  subst ev
  exact .base (.dK h)
theorem ew_lenDict (hg : Gl X "len") (hm : X.mg "len" = none) (ha : Ew X W rs a (rDict kvs)) (he : starEach [a] X.env = (false, eval a X.env) :: starEach [] X.env := by rfl) (hpl : (backTo pos (starEach [] X.env)).any (·.1) = false := by rfl) : Ew X W rs (.Call (.Name "len" p) [a] [] pos) (rD X.K (.int kvs.length)) :=
  ew_callB call_lenD hg hm (by decide +kernel) ha (fun v H k ⟨D, ev, h⟩ Q q => ⟨D, kvs, by rw [ev], W.sub H _ _ h, q _ H k (Ex.refl _) (Dp.int _)⟩) (by decide) (by decide) he hpl
/-- z.index(y) of texts, where y stands in z -/
theorem ew_sindex {z y : Str} {i : Nat} {rest : List Nat} {apos cpos : Pos} (ho : Ew X W rs o (rD X.K (.str z))) (he : Ew X W rs e (rD X.K (.str y))) (h : Builtin.Str.occurrences z y 0 z.length 1 = i :: rest)
    (hbase : attributeBase o "index" X.env (eval o X.env) = eval o X.env := by rfl)
    (hfew : ((backTo cpos (starEach [e] X.env)).all (fun x => !x.1) && (backToKw cpos (keywordEach [] X.env)).all (fun x => x.1.isSome) && decide ([e].length + ([] : List Keyword).length + (if ([] : List Keyword).isEmpty then 0 else 1) < 30)) = true := by rfl)
    (hline : (apos.endLine == cpos.line) = true := by rfl) (hs : starEach [e] X.env = (false, eval e X.env) :: starEach [] X.env := by rfl) (hplain : (backTo cpos (starEach [] X.env)).any (·.1) = false := by rfl) :
    Ew X W rs (.Call (.Attribute o "index" apos) [e] [] cpos) (rD X.K (.int (i : Nat))) := by
  refine pe_cs (pe_bm PySem.F.plainAttrs_str PySem.F.slot_str_index PySem.F.type_str_index mt_sindex ho (pa_cons he pa_nil (hs := hs)) hbase hfew hline hs hplain) ?_
  rintro σ H Q ⟨k, g, q⟩
  refine ⟨k, g, fun x H1 k1 e1 p1 => ?_⟩
  cases rD_str.mp p1
  exact ⟨rfl, k1, g.mono e1, fun v H2 k2 e2 p2 => by
    cases rD_str.mp p2
    exact ⟨z, y, i, rest, rfl, rfl, h, q _ H2 k2 (e1.trans e2) (Dp.int _)⟩⟩
end
end Py
namespace K11
open PySem L2 Py
/-! ### tables: the data -/
def kindS : Bool → Str | true => "words" | false => "numbers"
inductive Cell | num (i : Int) | word (z : Str) deriving DecidableEq
def Cell.d : Cell → PyData | .num i => .int i | .word z => .str z
def CellOk : Bool → Cell → Prop
  | false, .num i => -99 ≤ i ∧ i ≤ 99
  | true, .word z => Good z
  | _, _ => False
abbrev Cols := List (Str × Bool)
structure ColsOk (cs : Cols) : Prop where
  pos : 1 ≤ cs.length
  le : cs.length ≤ 3
  good : ∀ q ∈ cs, Good q.1
  nd : (cs.map (·.1)).Nodup
def RowOk : Cols → List Cell → Prop
  | [], [] => True
  | q :: cs, c :: row => CellOk q.2 c ∧ RowOk cs row
  | _, _ => False
theorem RowOk.len : ∀ {cs : Cols} {row : List Cell}, RowOk cs row → row.length = cs.length
  | [], [], _ => rfl
  | _ :: _, _ :: _, h => congrArg Nat.succ (RowOk.len h.2)
  | [], _ :: _, h => h.elim
  | _ :: _, [], h => h.elim
theorem RowOk.get : ∀ {cs : Cols} {row : List Cell} (i : Nat) {q : Str × Bool}, RowOk cs row → cs[i]? = some q → ∃ c, row[i]? = some c ∧ CellOk q.2 c
  | _ :: _, c :: _, 0, _, h, e => by
    cases e
    exact ⟨c, rfl, h.1⟩
  | _ :: _, _ :: _, i + 1, _, h, e => by simpa using RowOk.get i h.2 (by simpa using e)
  | [], [], _, _, _, e => by simp at e
  | [], _ :: _, _, _, h, _ => h.elim
  | _ :: _, [], _, _, h, _ => h.elim
abbrev colsS (cs : Cols) : List (Str × Str) := cs.map fun q => (q.1, kindS q.2)
abbrev rCols (K : PySem.W.Frag) (cs : Cols) : Rep := rTupF ((colsS cs).map (rPairS K))
abbrev dCols (cs : Cols) : List (L2.Key × V) := dictS (colsS cs)
abbrev rowD (row : List Cell) : PyData := .tuple (row.map Cell.d)
structure TabD where
  cols : Cols
  rows : List (List Cell)
deriving DecidableEq
structure TabOk (t : TabD) : Prop where
  cols : ColsOk t.cols
  two : 2 ≤ t.rows.length
  most : t.rows.length ≤ 8
  rows : ∀ row ∈ t.rows, RowOk t.cols row
theorem names_nd {cs : Cols} (h : ColsOk cs) : ((colsS cs).map (·.1)).Nodup := by
  rw [List.map_map]
  exact h.nd
theorem kind_at {cs : Cols} (h : ColsOk cs) {n : Str} {b : Bool} (hm : (n, b) ∈ cs) : valV (dCols cs) (Sum.inr n) = some (.str (kindS b)) :=
  valV_dictS (names_nd h) (List.mem_map.mpr ⟨(n, b), hm, rfl⟩)
/-! ### a word's number -/
abbrev letters : Str := "abcdefghijklmnopqrstuvwxyz"
def dig (z : Str) (i : Nat) : Int := if i < z.length then 1 + (letters.cps.toList.idxOf (z.cps.getD i 0) : Int) else 0
def wnum (z : Str) : Nat → Int
  | 0 => 0
  | n + 1 => wnum z n * 27 + dig z n
def asNum : PyData → Int
  | .int i => i
  | .str z => wnum z 8
  | _ => 0
/-- what a measure's value may be -/
def NumOk : PyData → Prop
  | .int _ => True
  | .str z => z.length ≤ 8 ∧ ∀ c ∈ z.cps.toList, c ∈ letters.cps.toList
  | _ => False
def fitsB : Meas → Bool → Bool
  | .plain _, _ => true
  | .size _, _ => true
  | .rest _ _, b => !b
  | .ending _, b => b
def rankI (p : PartD) (c : Cell) : Int := if p.down then -asNum (ofD p.m c.d) else asNum (ofD p.m c.d)
def idx (cs : Cols) (n : Str) : Nat := (cs.map (·.1)).idxOf n
def cellOf (cs : Cols) (row : List Cell) (n : Str) : Cell := row.getD (idx cs n) (.num 0)
def ranks (cs : Cols) (row : List Cell) (ps : List PartD) : List Int := ps.map fun p => rankI p (cellOf cs row p.m.name)
/-- a measure that is possible for columns -/
def MeasOk (cs : Cols) (m : Meas) : Prop := (∃ b, (m.name, b) ∈ cs ∧ fitsB m b = true) ∧ ∀ n k, m = .rest n k → 2 ≤ k ∧ k ≤ 9
structure KeyOk (cs : Cols) (ps : List PartD) : Prop where
  len : ps.length ≤ 6
  ok : ∀ p ∈ ps, MeasOk cs p.m
/-- the candidates -/
def colMeas : Str × Bool → List Meas
  | (n, false) => [.plain n, .size n, .rest n 2, .rest n 3]
  | (n, true) => [.plain n, .size n, .ending n]
def cands (cs : Cols) : List PartD := cs.flatMap fun q => (colMeas q).flatMap fun m => [⟨m, false⟩, ⟨m, true⟩]
end K11
namespace K11
open PySem L2 Py
/-! ### tables: what the top has left -/
abbrev sIsKind : Stmt := top 10
abbrev sAsNum : Stmt := top 29
abbrev sPRank : Stmt := inClass (top 27) 7
abbrev sFitsP : Stmt := inClass (top 23) 1
abbrev sFitsS : Stmt := inClass (top 24) 1
abbrev sFitsR : Stmt := inClass (top 25) 3
abbrev sFitsE : Stmt := inClass (top 26) 1
abbrev sTInit : Stmt := inClass (top 35) 0
abbrev sTEq : Stmt := inClass (top 35) 1
abbrev sTCols : Stmt := inClass (top 35) 2
abbrev sTRows : Stmt := inClass (top 35) 3
abbrev sTRanks : Stmt := inClass (top 35) 8
abbrev sTPoss : Stmt := inClass (top 35) 10
abbrev sTCkRow : Stmt := inClass (top 35) 11
abbrev sTCkKey : Stmt := inClass (top 35) 12
abbrev sTCells : Stmt := inClass (top 35) 13
abbrev sCkTable : Stmt := top 36
abbrev sAreCols : Stmt := top 37
abbrev sIsRow : Stmt := top 38
abbrev sIsCell : Stmt := top 39
structure Ae where
  (cTable cBadTable : Addr)
  (fIsKind fAsNum fPRank fFitsP fFitsS fFitsR fFitsE fTInit fTEq fTCols fTRows fTRanks fTPoss fTCkRow fTCkKey fTCells fCkTable fAreCols fIsRow fIsCell : Addr)
def fFits (t : Ae) : Meas → Addr | .plain _ => t.fFitsP | .size _ => t.fFitsS | .rest _ _ => t.fFitsR | .ending _ => t.fFitsE
structure Ty (P : Program) (K : PySem.W.Frag) (mg : Str → Option Value) (d : Ad) (t : Ae) : Prop where
  T : Tx P K mg d
  gNumbers : ∃ u, mg "NUMBERS" = some (.str "numbers" u)
  gWords : ∃ u, mg "WORDS" = some (.str "words" u)
  gMostC : ∃ u, mg "MOST_COLUMNS" = some (.int 3 u)
  gFewR : ∃ u, mg "FEWEST_ROWS" = some (.int 2 u)
  gMostR : ∃ u, mg "MOST_ROWS" = some (.int 8 u)
  gLargest : ∃ u, mg "LARGEST" = some (.int 99 u)
  bDict : mg "dict" = none
  bTuple : mg "tuple" = none
  bRange : mg "range" = none
  bZip : mg "zip" = none
  bEnum : mg "enumerate" = none
  gTable : mg "Table" = some (.ref t.cTable)
  gIsKind : mg "is_kind" = some (.ref t.fIsKind)
  gAsNum : mg "_as_number" = some (.ref t.fAsNum)
  gCkTable : mg "check_table" = some (.ref t.fCkTable)
  gAreCols : mg "_are_columns" = some (.ref t.fAreCols)
  gIsRow : mg "_is_row" = some (.ref t.fIsRow)
  gIsCell : mg "_is_cell" = some (.ref t.fIsCell)
  lIsKind : ∃ fd, Fun K "is_kind" "is_kind" sIsKind t.fIsKind fd
  lAsNum : ∃ fd, Fun K "_as_number" "_as_number" sAsNum t.fAsNum fd
  lPRank : ∃ fd, Fun K "rank" "Part.rank" sPRank t.fPRank fd
  lFitsP : ∃ fd, Fun K "fits" "Plain.fits" sFitsP t.fFitsP fd
  lFitsS : ∃ fd, Fun K "fits" "Size.fits" sFitsS t.fFitsS fd
  lFitsR : ∃ fd, Fun K "fits" "Rest.fits" sFitsR t.fFitsR fd
  lFitsE : ∃ fd, Fun K "fits" "Ending.fits" sFitsE t.fFitsE fd
  lTInit : ∃ fd, Fun K "__init__" "Table.__init__" sTInit t.fTInit fd
  lTEq : ∃ fd, Fun K "__eq__" "Table.__eq__" sTEq t.fTEq fd
  lTCols : ∃ fd, Fun K "columns" "Table.columns" sTCols t.fTCols fd
  lTRows : ∃ fd, Fun K "rows" "Table.rows" sTRows t.fTRows fd
  lTRanks : ∃ fd, Fun K "ranks" "Table.ranks" sTRanks t.fTRanks fd
  lTPoss : ∃ fd, Fun K "is_possible" "Table.is_possible" sTPoss t.fTPoss fd
  lTCkRow : ∃ fd, Fun K "check_row" "Table.check_row" sTCkRow t.fTCkRow fd
  lTCkKey : ∃ fd, Fun K "check_key" "Table.check_key" sTCkKey t.fTCkKey fd
  lTCells : ∃ fd, Fun K "_cells" "Table._cells" sTCells t.fTCells fd
  lCkTable : ∃ fd, Fun K "check_table" "check_table" sCkTable t.fCkTable fd
  lAreCols : ∃ fd, Fun K "_are_columns" "_are_columns" sAreCols t.fAreCols fd
  lIsRow : ∃ fd, Fun K "_is_row" "_is_row" sIsRow t.fIsRow fd
  lIsCell : ∃ fd, Fun K "_is_cell" "_is_cell" sIsCell t.fIsCell fd
  mFits : ∀ m, Meth K (clsOf d m) "fits" (fFits t m)
  mPRank : Meth K d.cPart "rank" t.fPRank
  isiT : IsiC K t.cTable
  nTc : NoAttr K t.cTable "_columns"
  nTr : NoAttr K t.cTable "_rows"
  mkT : Mk K t.cTable t.fTInit
  nfT : PySem.W.notFirst K t.cTable (.ref t.cTable) = true
  kT : PySem.W.kitOne K (.ref t.cTable) (.ref t.cTable) = some true
  mTEq : Meth K t.cTable "__eq__" t.fTEq
  mTRanks : Meth K t.cTable "ranks" t.fTRanks
  mTPoss : Meth K t.cTable "is_possible" t.fTPoss
  mTCkRow : Meth K t.cTable "check_row" t.fTCkRow
  mTCkKey : Meth K t.cTable "check_key" t.fTCkKey
  mTCells : Meth K t.cTable "_cells" t.fTCells
  qTCols : ∃ q, PropOf K t.cTable "columns" q t.fTCols
  qTRows : ∃ q, PropOf K t.cTable "rows" q t.fTRows

theorem scIsKind : FnScope ["value"] ["value"] (defScope sIsKind) := ⟨rfl, rfl, rfl, by decide +kernel, rfl, by decide +kernel, by decide +kernel⟩
theorem scAsNum : FnScope ["measure", "number", "at", "digit"] ["measure"] (defScope sAsNum) := ⟨rfl, rfl, rfl, by decide +kernel, rfl, by decide +kernel, by decide +kernel⟩
theorem scPRank : FnScope ["self", "cell", "number"] ["self", "cell"] (defScope sPRank) := ⟨rfl, rfl, rfl, by decide +kernel, rfl, by decide +kernel, by decide +kernel⟩
theorem scFitsP : FnScope ["self", "kind"] ["self", "kind"] (defScope sFitsP) := ⟨rfl, rfl, rfl, by decide +kernel, rfl, by decide +kernel, by decide +kernel⟩
theorem scFitsS : FnScope ["self", "kind"] ["self", "kind"] (defScope sFitsS) := ⟨rfl, rfl, rfl, by decide +kernel, rfl, by decide +kernel, by decide +kernel⟩
theorem scFitsR : FnScope ["self", "kind"] ["self", "kind"] (defScope sFitsR) := ⟨rfl, rfl, rfl, by decide +kernel, rfl, by decide +kernel, by decide +kernel⟩
theorem scFitsE : FnScope ["self", "kind"] ["self", "kind"] (defScope sFitsE) := ⟨rfl, rfl, rfl, by decide +kernel, rfl, by decide +kernel, by decide +kernel⟩
theorem scTInit : FnScope ["self", "columns", "rows", "kinds", "at", "row"] ["self", "columns", "rows"] (defScope sTInit) := ⟨rfl, rfl, rfl, by decide +kernel, rfl, by decide +kernel, by decide +kernel⟩
theorem scTEq : FnScope ["self", "other"] ["self", "other"] (defScope sTEq) := ⟨rfl, rfl, rfl, by decide +kernel, rfl, by decide +kernel, by decide +kernel⟩
theorem scTCols : FnScope ["self"] ["self"] (defScope sTCols) := ⟨rfl, rfl, rfl, by decide +kernel, rfl, by decide +kernel, by decide +kernel⟩
theorem scTRows : FnScope ["self"] ["self"] (defScope sTRows) := ⟨rfl, rfl, rfl, by decide +kernel, rfl, by decide +kernel, by decide +kernel⟩
theorem scTRanks : FnScope ["self", "row", "key", "cells", "part", "cell"] ["self", "row", "key"] (defScope sTRanks) := ⟨rfl, rfl, rfl, by decide +kernel, rfl, by decide +kernel, by decide +kernel⟩
theorem scTPoss : FnScope ["self", "row"] ["self", "row"] (defScope sTPoss) := ⟨rfl, rfl, rfl, by decide +kernel, rfl, by decide +kernel, by decide +kernel⟩
theorem scTCkRow : FnScope ["self", "row"] ["self", "row"] (defScope sTCkRow) := ⟨rfl, rfl, rfl, by decide +kernel, rfl, by decide +kernel, by decide +kernel⟩
theorem scTCkKey : FnScope ["self", "key", "kinds", "part", "measure"] ["self", "key"] (defScope sTCkKey) := ⟨rfl, rfl, rfl, by decide +kernel, rfl, by decide +kernel, by decide +kernel⟩
theorem scTCells : FnScope ["self", "row", "key", "names", "part"] ["self", "row", "key"] (defScope sTCells) := ⟨rfl, rfl, rfl, by decide +kernel, rfl, by decide +kernel, by decide +kernel⟩
theorem scCkTable : FnScope ["table"] ["table"] (defScope sCkTable) := ⟨rfl, rfl, rfl, by decide +kernel, rfl, by decide +kernel, by decide +kernel⟩
theorem scAreCols : FnScope ["columns", "name", "kind"] ["columns"] (defScope sAreCols) := ⟨rfl, rfl, rfl, by decide +kernel, rfl, by decide +kernel, by decide +kernel⟩
theorem scIsRow : FnScope ["row", "kinds", "cell", "kind"] ["row", "kinds"] (defScope sIsRow) := ⟨rfl, rfl, rfl, by decide +kernel, rfl, by decide +kernel, by decide +kernel⟩
theorem scIsCell : FnScope ["cell", "kind"] ["cell", "kind"] (defScope sIsCell) := ⟨rfl, rfl, rfl, by decide +kernel, rfl, by decide +kernel, by decide +kernel⟩
end K11
namespace Py
open PySem L2
/-! ### the same rules with what is plain filled in -/
theorem kp {K : PySem.W.Frag} {x q : Str} {st : Stmt} {f : Addr} (h : ∃ fd, Fun K x q st f fd) : PySem.W.keepIn K (.ref f) = true := h.elim fun _ F => F.kp
section
variable {X : Cx} {W : World} {rs : Rs} {o e : Expr} {es : List Expr} {r rc : Rep} {pos p apos : Pos} {k k' : Nat} {f C : Addr} {α : Type} {args : α → List Rep} {res : α → Rep} {fs : List (Str × Rep)} {rl : List Rep} {m x nm q : Str} {st : Stmt}
theorem cl {x : Str} (z : α) {pre : World → α → Prop} (l : ∃ fd, Fun X.K nm q st f fd) (F : FnC X k f (spW pre args res)) (hr : Room k' X.A) (hm : X.mg x = some (.ref f)) (ha : Aw X W rs (e :: es) (args z)) (hp : pre W z) (hk : k ≤ k' := by decide) (hg : Gl X x := by rfl)
    (hdb : (x == ("__debug__" : Str)) = false := by decide) (he : starEach (e :: es) X.env = (false, eval e X.env) :: starEach es X.env := by rfl) (hpl : (backTo pos (starEach es X.env)).any (·.1) = false := by rfl) :
    Ew X W rs (.Call (.Name x p) (e :: es) [] pos) (res z) := ew_call z F (hr.mono hk) (kp l) hg hm ha hp hdb he hpl
theorem mt {fs : List (Str × Rep)} (z : α) {pre : World → α → Prop} {pl : Sem Bool} (ho : Ew X W rs o (rIns C fs)) (c : Cls X.K C) (hm : Meth X.K C m f) (F : FnC X k f (spW pre args res)) (hr : Room k' X.A) (ha : Aw X W rs (e :: es) rl) (hp : pre W z) (hk : k + 1 ≤ k' := by decide) (haz : args z = rIns C fs :: rl := by rfl) (hl : fs.lookup m = none := by rfl)
    (hst : starEach (e :: es) X.env = (false, eval e X.env) :: starEach es X.env := by rfl) (hpl : (backTo pos (starEach es X.env)).any (·.1) = false := by rfl)
    (ht : eval (.Call (.Attribute o m apos) (e :: es) [] pos) X.env = (do
      let ov ← eval o X.env
      standAt apos.atName
      let (f, first) ← holding [ov] (getMethod ov m pl)
      callWith pos f first (backTo pos (starEach (e :: es) X.env)) (backToKw pos (keywordEach [] X.env))) := by rfl) : Ew X W rs (.Call (.Attribute o m apos) (e :: es) [] pos) (res z) :=
  ew_meth ho ha (hasM z c hm F (hr.mono hk) hp haz hl rfl) hst hpl ht
theorem mt0 {fs : List (Str × Rep)} (z : α) {pre : World → α → Prop} {pl : Sem Bool} (ho : Ew X W rs o (rIns C fs)) (c : Cls X.K C) (hm : Meth X.K C m f) (F : FnC X k f (spW pre args res)) (hr : Room k' X.A) (hp : pre W z) (hk : k + 1 ≤ k' := by decide) (haz : args z = [rIns C fs] := by rfl) (hl : fs.lookup m = none := by rfl)
    (ht : eval (.Call (.Attribute o m apos) [] [] pos) X.env = (do
      let ov ← eval o X.env
      standAt apos.atName
      let (f, first) ← holding [ov] (getMethod ov m pl)
      callWith pos f first (backTo pos (starEach [] X.env)) (backToKw pos (keywordEach [] X.env))) := by rfl) : Ew X W rs (.Call (.Attribute o m apos) [] [] pos) (res z) :=
  ew_meth0 ho (hasM z c hm F (hr.mono hk) hp haz hl rfl) ht
theorem pr {fs : List (Str × Rep)} (z : α) {pre : World → α → Prop} (ho : Ew X W rs o (rIns C fs)) (c : Cls X.K C) (hq : ∃ q, PropOf X.K C m q f) (F : FnC X k f (spW pre args res)) (hr : Room k' X.A) (hp : pre W z) (hk : k + 1 ≤ k' := by decide) (haz : args z = [rIns C fs] := by rfl) (hab : attributeBase o m X.env (eval o X.env) = eval o X.env := by rfl) : Ew X W rs (.Attribute o m pos) (res z) := by
  obtain ⟨q, h⟩ := hq
  exact ew_prop ho (hasP z c h F (hr.mono hk) hp haz rfl) hab
theorem mtE {fs : List (Str × Rep)} (z : α) {pre : World → α → Prop} {pl : Sem Bool} (ho : Ew X W rs o (rIns C fs)) (c : Cls X.K C) (hm : Meth X.K C m f) (F : FnC X k f (spW pre args res)) (hr : Room k' X.A) (ha : Aw X W rs (e :: es) rl) (hp : pre W z) (hk : k + 1 ≤ k' := by decide) (haz : args z = rIns C fs :: rl := by rfl) (hl : fs.lookup m = none := by rfl) (hz : res z = rc := by rfl)
    (hst : starEach (e :: es) X.env = (false, eval e X.env) :: starEach es X.env := by rfl) (hpl : (backTo pos (starEach es X.env)).any (·.1) = false := by rfl)
    (ht : eval (.Call (.Attribute o m apos) (e :: es) [] pos) X.env = (do
      let ov ← eval o X.env
      standAt apos.atName
      let (f, first) ← holding [ov] (getMethod ov m pl)
      callWith pos f first (backTo pos (starEach (e :: es) X.env)) (backToKw pos (keywordEach [] X.env))) := by rfl) : Ew X W rs (.Call (.Attribute o m apos) (e :: es) [] pos) rc :=
  hz ▸ ew_meth ho ha (hasM z c hm F (hr.mono hk) hp haz hl rfl) hst hpl ht
theorem clE {x : Str} (z : α) {pre : World → α → Prop} (l : ∃ fd, Fun X.K nm q st f fd) (F : FnC X k f (spW pre args res)) (hr : Room k' X.A) (hm : X.mg x = some (.ref f)) (ha : Aw X W rs (e :: es) (args z)) (hp : pre W z) (hk : k ≤ k' := by decide) (hz : res z = rc := by rfl) (hg : Gl X x := by rfl)
    (hdb : (x == ("__debug__" : Str)) = false := by decide) (he : starEach (e :: es) X.env = (false, eval e X.env) :: starEach es X.env := by rfl) (hpl : (backTo pos (starEach es X.env)).any (·.1) = false := by rfl) :
    Ew X W rs (.Call (.Name x p) (e :: es) [] pos) rc := hz ▸ ew_call z F (hr.mono hk) (kp l) hg hm ha hp hdb he hpl
theorem fl {fs : List (Str × Rep)} (h : Ew X W rs o (rIns C fs)) (c : Cls X.K C) (n : NoAttr X.K C m) (hf : fs.lookup m = some r := by rfl) (hb : attributeBase o m X.env (eval o X.env) = eval o X.env := by rfl) : Ew X W rs (.Attribute o m pos) r := ew_fld h hf c n hb
theorem mk {x : Str} {pre : α → Prop} {fs : α → List (Str × Rep)} (z : α) (M : Mk X.K C f) (F : FnC X k f (spI C pre args fs)) (hr : Room k' X.A) (hm : X.mg x = some (.ref C)) (ha : Aw X W rs (e :: es) (args z)) (hp : pre z) (hk : k + 1 ≤ k' := by decide) (hg : Gl X x := by rfl)
    (hdb : (x == ("__debug__" : Str)) = false := by decide) (he : starEach (e :: es) X.env = (false, eval e X.env) :: starEach es X.env := by rfl) (hpl : (backTo pos (starEach es X.env)).any (·.1) = false := by rfl) : Ew X W rs (.Call (.Name x p) (e :: es) [] pos) (rIns C (fs z)) := ew_make z M F (hr.mono hk) hg hm ha hp hdb he hpl
theorem prE {fs : List (Str × Rep)} (z : α) {pre : World → α → Prop} (ho : Ew X W rs o (rIns C fs)) (c : Cls X.K C) (hq : ∃ q, PropOf X.K C m q f) (F : FnC X k f (spW pre args res)) (hr : Room k' X.A) (hp : pre W z) (hk : k + 1 ≤ k' := by decide) (haz : args z = [rIns C fs] := by rfl) (hz : res z = rc := by rfl) (hab : attributeBase o m X.env (eval o X.env) = eval o X.env := by rfl) : Ew X W rs (.Attribute o m pos) rc := by
  obtain ⟨q, h⟩ := hq
  exact hz ▸ ew_prop ho (hasP z c h F (hr.mono hk) hp haz rfl) hab
theorem a1 (h : Ew X W rs e r) (hs : starEach [e] X.env = (false, eval e X.env) :: starEach [] X.env := by rfl) : Aw X W rs [e] [r] := aw_cons h aw_nil hs
theorem isTrue_val {W : World} {rs : Rs} {c : Bool} (h : Ew X W rs e (rD X.K (.bool c))) (he : ∀ whole, isTrue e X.env whole = (do let v ← whole; standAt e.pos; holding [v] (truthy v)) := by intro _; rfl) : Tw X W rs e c := tw_val h he
theorem iw_n {tg it : Expr} {n n' : Nat} {item : Nat → Rep} (h : Iw X W rs tg it n item) (e : n = n') : Iw X W rs tg it n' item := by
  subst e
  exact h
theorem as_tup {ds : List PyData} (h : Ew X W rs e (rD X.K (.tuple ds))) : Ew X W rs e (rTup X.K (ds.map (rD X.K))) := ew_sub h fun _ _ p => rD_tup.mp p
theorem as_seq {ds : List PyData} (h : Ew X W rs e (rD X.K (.list ds))) : Ew X W rs e (rSeq X.K (ds.map (rD X.K))) := ew_sub h fun _ _ p => rD_lst.mp p
theorem of_tup {ds : List PyData} (h : Ew X W rs e (rTup X.K (ds.map (rD X.K)))) : Ew X W rs e (rD X.K (.tuple ds)) := ew_sub h fun _ _ p => rD_tup.mpr p
theorem of_seq {ds : List PyData} (h : Ew X W rs e (rSeq X.K (ds.map (rD X.K)))) : Ew X W rs e (rD X.K (.list ds)) := ew_sub h fun _ _ p => rD_lst.mpr p
theorem of_lst {ds : List PyData} (h : Ew X W rs e (rLst (ds.map (rD X.K)))) : Ew X W rs e (rD X.K (.list ds)) := ew_sub h fun _ _ p => rD_lst.mpr (lst_seq p)
theorem lst_as {rl : List Rep} (h : Ew X W rs e (rLst rl)) : Ew X W rs e (rSeq X.K rl) := ew_sub h fun _ _ p => lst_seq p
end
/-- a def that gives nothing back -/
theorem fn_n {P : Program} {w : PySem.World} {K : PySem.W.Frag} {mg : Str → Option Value} {base : Heap} {x qual : Str} {st : Stmt} {f : Addr} {fd : FuncData} {N ps : List Str} {k : Nat} {α : Type} {pre : World → α → Prop} {args : α → List Rep} (F : Fun K x qual st f fd) (S : FnScope N ps (defScope st)) (hb : Binds K fd ps []) (hl : ∀ z, (args z).length = ps.length)
    (h : ∀ (cdv : Value) (A : Around) (outer : List Env) (s : Shared) (H : Hp) (E : XK) (W : World) (z : α), Room k (A.deeper (PyProof.Rows.envOfC qual (defScope st) s.heap.objs.size f cdv)) → pre W z →
      ∃ N', Bw (cxOf CX0 P w K mg base N qual (defScope st) f cdv A outer s H E).nox W ((args z).map some ++ List.replicate (N.length - ps.length) none) (defBody st) ((⟨rNon, none, none, none⟩ : Outs).to N')) : FnR P w K mg base CX0 (k + 1) f (spW pre args fun _ => rNon) :=
  fn_w F S hb hl fun cdv A outer s H E W z hr hp => let ⟨N', h'⟩ := h cdv A outer s H E W z hr hp; ⟨some N', h', fun _ _ _ => rfl⟩
theorem ofLst_p {K : PySem.W.Frag} {ds : List PyData} {v : V} {H : Hp} (h : (rLst (ds.map (rD K))).p v H) : (rD K (.list ds)).p v H := rD_lst.mpr (lst_seq h)
end Py
namespace K11
open PySem L2 Py
section
variable {P : Program} {w : PySem.World} {K : PySem.W.Frag} {mg : Str → Option Value} {base : Heap} {d : Ad} {t : Ae}
theorem ok_isKind (T : Ty P K mg d t) : FnR P w K mg base CX0 1 t.fIsKind (spW (α := Bool) (fun _ _ => True) (fun z => [rD K (.str (kindS z))]) (fun _ => rD K (.bool true))) := by
  obtain ⟨fd, F⟩ := T.lIsKind
  refine fn_w F scIsKind (F.binds fun _ _ _ _ _ _ us hl => match us, hl with | [_], _ => rfl) (fun _ => rfl) fun cdv A outer s H E W z hr hp => ⟨none, ?_, fun _ e => nomatch e⟩
  refine bw_one (sw_ret (ew_and (c := true) (d := true) (ew_isi (t := .type "str") (d := true) rfl T.T.bIsi (ew_name 0 rfl (pv 0)) (ew_ty rfl T.T.bStr (by decide +kernel)) (.ty "str") isR_str (kit_ty (by decide +kernel))) fun _ => ew_one ?_))
  have e : inV (.str (kindS z)) ((["numbers", "words"] : List Str).map V.str) = true := by cases z <;> decide +kernel
  rw [← e]
  exact ew_inStrT (ew_name 0 rfl (pv 0)) (ew_tup (rl := (["numbers", "words"] : List Str).map fun z => rD K (.str z)) (aw_cons (ew_globS rfl T.gNumbers) (aw_cons (ew_globS rfl T.gWords) aw_nil)) (by simp)) rfl
theorem eqv_kind (b c : Bool) : PyData.eqv (.str (kindS b)) (.str (kindS c)) = decide (b = c) := by cases b <;> cases c <;> decide +kernel
theorem shk (b : Bool) : SeqAt.shaped (.str (kindS b)) = true := by cases b <;> decide +kernel
theorem ok_isCell (T : Ty P K mg d t) : FnR P w K mg base CX0 3 t.fIsCell (spW (α := Bool × Cell) (fun _ z => CellOk z.1 z.2) (fun z => [rD K z.2.d, rD K (.str (kindS z.1))]) (fun _ => rD K (.bool true))) := by
  obtain ⟨fd, F⟩ := T.lIsCell
  refine fn_w F scIsCell (F.binds fun _ _ _ _ _ _ us hl => match us, hl with | [_, _], _ => rfl) (fun _ => rfl) fun cdv A outer s H E W z hr hp => ⟨none, ?_, fun _ e => nomatch e⟩
  obtain ⟨b, c⟩ := z
  cases b with
  | false =>
    cases c with
    | word _ => exact hp.elim
    | num i =>
      refine bw_last (sw_if (d := true) (tw_eq (tw_eqD hr.units (ew_name 1 rfl (pv 1)) (ew_globS rfl T.gNumbers) (shk false) (shk false)) (eqv_kind false false)) (fun _ => bw_one (sw_nx (sw_ret ?_))) fun h => nomatch h)
      have e : true = (decide ((-99 : Int) ≤ i) && decide (i ≤ 99)) := by rw [decide_eq_true hp.1, decide_eq_true hp.2] <;> rfl
      show Ew _ W _ _ (rD K (.bool true))
      rw [e]
      exact cl (i, -99, 99) T.T.isBetween (ok_isBetween T.T) hr T.T.gIsBetween (aw_cons (ew_name 0 rfl (pv 0)) (aw_cons (ew_negI (ew_globI rfl T.gLargest)) (aw_cons (ew_globI rfl T.gLargest) aw_nil))) trivial
  | true =>
    cases c with
    | num _ => exact hp.elim
    | word z =>
      exact bw_cons (N := [some (rD K (.str z)), some (rD K (.str (kindS true)))]) (sw_if (d := false) (tw_eq (tw_eqD hr.units (ew_name 1 rfl (pv 1)) (ew_globS rfl T.gNumbers) (shk true) (shk false)) (eqv_kind true false)) (fun e => nomatch e) fun _ => bw_nil) (bw_one (sw_ret (cl z T.T.isName (ok_isName T.T) hr T.T.gIsName (a1 (ew_name 0 rfl (pv 0))) hp)))
theorem getD_map' {α β : Type} {f : α → β} {xs : List α} {i : Nat} {x : α} {y : β} (h : xs[i]? = some x) : (xs.map f).getD i y = f x := by rw [List.getD_eq_getElem?_getD, List.getElem?_map, h] <;> rfl
theorem all_true (n : Nat) : ((List.range n).map fun _ => true).all id = true := by
  rw [List.all_eq_true]
  intro x hx
  obtain ⟨_, _, rfl⟩ := List.mem_map.mp hx
  rfl
theorem alls {K : PySem.W.Frag} (n : Nat) : (((List.range n).map fun _ => true).map fun q => rD K (.bool q)) = takes (fun _ => rD K (.bool true)) (fun _ => true) n := by rw [Py.takes_all, List.map_map] <;> rfl
theorem ok_isRow (T : Ty P K mg d t) : FnR P w K mg base CX0 4 t.fIsRow (spW (α := Cols × List Cell) (fun _ z => RowOk z.1 z.2 ∧ z.1.length ≤ 3) (fun z => [rD K (rowD z.2), rD K (.list (z.1.map fun q => .str (kindS q.2)))]) (fun _ => rD K (.bool true))) := by
  obtain ⟨fd, F⟩ := T.lIsRow
  refine fn_w F scIsRow (F.binds fun _ _ _ _ _ _ us hl => match us, hl with | [_, _], _ => rfl) (fun _ => rfl) fun cdv A outer s H E W z hr hp => ⟨none, ?_, fun _ e => nomatch e⟩
  obtain ⟨cs, row⟩ := z
  obtain ⟨hp, h3⟩ := hp
  have hl := hp.len
  refine bw_cons (N := [some (rD K (rowD row)), some (rD K (.list (cs.map fun q => .str (kindS q.2)))), none, none]) (sw_if (d := false) (tw_l (lw_or (c := false) (d := false) (tw_not (c := true) (tw_val (ew_isi (t := .type "tuple") (d := true) rfl T.T.bIsi (ew_sub (ew_name 0 rfl (pv 0)) fun _ _ p => rD_tup.mp p) (ew_ty rfl T.bTuple (by decide +kernel)) (.ty "tuple") isR_tup (kit_ty (by decide +kernel))) (by intro _; rfl)))
    fun _ => lw_one (tw_eq (tw_neD hr.units (ew_lenTup rfl T.T.bLen (ew_sub (ew_name 0 rfl (pv 0)) fun _ _ p => rD_tup.mp p)) (ew_lenD rfl T.T.bLen (ew_name 1 rfl (pv 1))) (shaped_int _) (shaped_int _)) (by rw [eqv_int]; simp [hl])))) (fun e => nomatch e) fun _ => bw_nil) (bw_one (sw_ret ?_))
  show Ew _ W _ _ (rD K (.bool true))
  rw [← all_true cs.length]
  refine ew_all rfl rfl T.T.bAll ?_
  rw [alls]
  refine ew_lc (own := [("cell", 2), ("kind", 3)]) _ _ (fun i => [some (rD K (rowD row)), some (rD K (.list (cs.map fun q => .str (kindS q.2)))), some (((row.map Cell.d).map (rD K)).getD i rNon), some (((cs.map fun q => PyData.str (kindS q.2)).map (rD K)).getD i rNon)]) rfl scIsRow.nd (iw_n (iw_zipM rfl T.bZip (as_tup (ew_name 0 rfl (pv 0))) (as_seq (ew_name 1 rfl (pv 1)))) (by simp [hl])) (blkOk_by (N := ["row", "kinds", "cell", "kind"]) (sc := defScope sIsRow) (by decide +kernel)) (by have : cs.length ≤ 3 := h3; omega) (fun _ _ _ _ _ => pg_tup rfl (pgs_cons (pg_name (i := 2) scIsRow.nd rfl (.inl rfl)) (pgs_cons (pg_name (i := 3) scIsRow.nd rfl (.inl rfl)) pgs_nil))) (fun i _ => own_pair (by decide)) (fun _ _ _ _ _ _ _ _ _ => pts_yes) ?_
  intro s' H' C cl' fp D o i hi _
  have hq : cs[i]? = some cs[i] := List.getElem?_eq_getElem hi
  obtain ⟨c, h1, h2⟩ := hp.get i hq
  rw [List.map_map, List.map_map, getD_map' h1, getD_map' hq]
  exact cl (cs[i].2, c) T.lIsCell (ok_isCell T) hr T.gIsCell (aw_cons (ew_name 2 rfl (pv 2)) (aw_cons (ew_name 3 rfl (pv 3)) aw_nil)) h2
theorem kvs_at {cs : Cols} {i : Nat} {k : L2.Key} {v : V} (h : (dCols cs)[i]? = some (k, v)) : ∃ q, cs[i]? = some q ∧ k = Sum.inr q.1 ∧ v = .str (kindS q.2) := by
  unfold dCols dictS colsS at h
  rw [List.map_map, List.getElem?_map] at h
  cases e : cs[i]? with
  | none => rw [e] at h; cases h
  | some q =>
    rw [e] at h
    cases h
    exact ⟨q, rfl, rfl, rfl⟩
theorem dCols_len (cs : Cols) : (dCols cs).length = cs.length := by simp [dCols, dictS, colsS]
abbrev q0 : Str × Bool := ("", false)
theorem getD_of' {cs : Cols} {i : Nat} {q : Str × Bool} (h : cs[i]? = some q) : cs.getD i q0 = q := by rw [List.getD_eq_getElem?_getD, h] <;> rfl
theorem ok_areCols (T : Ty P K mg d t) : FnR P w K mg base CX0 2 t.fAreCols (spW (α := Cols) (fun _ z => ColsOk z) (fun z => [rDict (dCols z)]) (fun _ => rD K (.bool true))) := by
  obtain ⟨fd, F⟩ := T.lAreCols
  refine fn_w F scAreCols (F.binds fun _ _ _ _ _ _ us hl => match us, hl with | [_], _ => rfl) (fun _ => rfl) fun cdv A outer s H E W z hr hp => ⟨none, ?_, fun _ e => nomatch e⟩
  have h1 := hp.pos
  have h3 := hp.le
  refine bw_cons (N := [some (rDict (dCols z)), none, none]) (sw_if (d := false) (tw_l (lw_or (c := false) (d := false) (tw_not (c := true) (tw_val (ew_isi (t := .type "dict") (d := true) rfl T.T.bIsi (ew_name 0 rfl (pv 0)) (ew_ty rfl T.bDict (by decide +kernel)) (.ty "dict") isR_dict (kit_ty (by decide +kernel))) (by intro _; rfl)))
    fun _ => lw_one (tw_not (c := true) (tw_eq (tw_chain op_le op_le ew_int (ew_lenDict rfl T.T.bLen (ew_name 0 rfl (pv 0))) (ew_globI rfl T.gMostC) (r2_I0 fun _ => Dp.bl _) (fun _ => r2_I0 fun _ => Dp.bl _)) ?_)))) (fun e => nomatch e) fun _ => bw_nil) (bw_one (sw_ret ?_))
  · rw [dCols_len, decide_eq_true (by omega), decide_eq_true (by omega)] <;> rfl
  show Ew _ W _ _ (rD K (.bool true))
  rw [← all_true z.length]
  refine ew_all rfl rfl T.T.bAll ?_
  rw [alls]
  refine ew_hide 0 rfl trivial fun D => ew_lock (dict_hold (kvs := dCols z)) fun od => ?_
  refine ew_lc (own := [("name", 1), ("kind", 2)]) _ _ (fun i => [some (rRef D), some (rD K (.str (z.getD i q0).1)), some (rD K (.str (kindS (z.getD i q0).2)))]) rfl scAreCols.nd (iw_n (iw_items lockw_at (ew_name 0 rfl (pv 0)) (fun i => rD K (.str (z.getD i q0).1)) (fun i => rD K (.str (kindS (z.getD i q0).2))) ?_) (dCols_len z)) (blkOk_by (N := ["columns", "name", "kind"]) (sc := defScope sAreCols) (by decide +kernel)) (by omega) (fun _ _ _ _ _ => pg_tup rfl (pgs_cons (pg_name (i := 1) scAreCols.nd rfl (.inl rfl)) (pgs_cons (pg_name (i := 2) scAreCols.nd rfl (.inl rfl)) pgs_nil))) (fun i _ => own_pair (by decide)) (fun _ _ _ _ _ _ _ _ _ => pts_yes) ?_
  · intro i k v H e
    obtain ⟨q, e1, rfl, rfl⟩ := kvs_at e
    rw [getD_of' e1]
    exact ⟨Dp.str _, Dp.str _⟩
  · intro s' H' C cl' fp D o i hi _
    exact ew_and (c := true) (d := true) (cl (z.getD i q0).1 T.T.isName (ok_isName T.T) hr T.T.gIsName (a1 (ew_name 1 rfl (pv 1))) (by
      have hq : z[i]? = some z[i] := List.getElem?_eq_getElem hi
      rw [getD_of' hq]
      exact hp.good _ (List.getElem_mem hi))) fun _ => ew_one (cl (z.getD i q0).2 T.lIsKind (ok_isKind T) hr T.gIsKind (a1 (ew_name 2 rfl (pv 2))) trivial)
/-! ### Table.__init__ -/
abbrev fsTab (K : PySem.W.Frag) (z : TabD) : List (Str × Rep) := [("_columns", rCols K z.cols), ("_rows", rD K (.tuple (z.rows.map rowD)))]
abbrev rTab (K : PySem.W.Frag) (t : Ae) (z : TabD) : Rep := rIns t.cTable (fsTab K z)
theorem kinds_reps {K : PySem.W.Frag} {H : Hp} : ∀ {cs : Cols}, Reps ((cs.map fun q => PyData.str (kindS q.2)).map (rD K)) ((dCols cs).map (·.2)) H
  | [] => trivial
  | q :: cs => ⟨Dp.str _, kinds_reps (cs := cs)⟩
theorem pair_reps {K : PySem.W.Frag} {cs : Cols} (i : Nat) (q : L2.Key × V) (h : (dCols cs)[i]? = some q) : ∃ f, ((colsS cs).map fun q => [rD K (.str q.1), rD K (.str q.2)])[i]? = some f ∧ ∀ H, Reps f [kV q.1, q.2] H := by
  obtain ⟨k, v⟩ := q
  obtain ⟨q, e1, rfl, rfl⟩ := kvs_at h
  refine ⟨[rD K (.str q.1), rD K (.str (kindS q.2))], ?_, fun H => ⟨Dp.str _, Dp.str _, trivial⟩⟩
  rw [List.getElem?_map, List.getElem?_map, e1] <;> rfl
theorem ok_tInit (T : Ty P K mg d t) : FnR P w K mg base CX0 5 t.fTInit (spI t.cTable (fun z : TabD => TabOk z) (fun z => [rDict (dCols z.cols), rD K (.list (z.rows.map rowD))]) (fsTab K)) := by
  obtain ⟨fd, F⟩ := T.lTInit
  refine fn_i F scTInit (F.binds fun _ _ _ _ _ _ us hl => match us, hl with | [_, _, _], _ => rfl) (fun _ => rfl) fun cdv A outer s H E W x dx z hr hp => ?_
  have h2 := hp.two
  have h8 := hp.most
  refine ib_if (fun gs => tw_not (c := true) (tw_val (cl z.cols T.lAreCols (ok_areCols T) hr T.gAreCols (a1 (ew_name 1 rfl (pv 1))) hp.cols) (by intro _; rfl))) ?_
  refine ib_if (fun gs => tw_l (lw_or (c := false) (d := false) (tw_not (c := true) (tw_val (ew_isiT (t := .type "list") (d := true) (cs := [.ty "list", .ty "tuple"]) (us := [.type "list", .type "tuple"]) rfl T.T.bIsi (as_seq (ew_name 2 rfl (pv 2))) (aw_cons (ew_ty rfl T.T.bList (by decide +kernel)) (aw_cons (ew_ty rfl T.bTuple (by decide +kernel)) aw_nil)) (by decide) (.cons (.ty "list") (.cons (.ty "tuple") .nil)) isR_seq (kitAny_cons (b := true) (kit_ty (by decide +kernel)) (fun e => nomatch e) (fun _ => rfl))) (by intro _; rfl))) fun _ => lw_one (tw_not (c := true) (tw_eq (tw_chain op_le op_le (ew_globI rfl T.gFewR) (ew_lenD rfl T.T.bLen (ew_name 2 rfl (pv 2))) (ew_globI rfl T.gMostR) (r2_I0 fun _ => Dp.bl _) (fun _ => r2_I0 fun _ => Dp.bl _)) (by rw [List.length_map, decide_eq_true (by omega), decide_eq_true (by omega)] <;> rfl))))) ?_
  refine ib_sw (N := [some (rRef x), some (rDict (dCols z.cols)), some (rD K (.list (z.rows.map rowD))), some (rD K (.list (z.cols.map fun q => .str (kindS q.2)))), none, none]) (fun gs => sw_set (r := rD K (.list (z.cols.map fun q => .str (kindS q.2)))) 3 (by exact of_lst (ew_listVals rfl rfl T.T.bList (ew_name 1 rfl (pv 1)) fun H => kinds_reps)) scTInit.nd rfl (.inl rfl)) ?_
  refine ib_sw (N := [some (rRef x), some (rDict (dCols z.cols)), some (rD K (.list (z.rows.map rowD))), some (rD K (.list (z.cols.map fun q => .str (kindS q.2)))), none, none]) (fun gs => sw_for (fun _ => [some (rRef x), some (rDict (dCols z.cols)), some (rD K (.list (z.rows.map rowD))), some (rD K (.list (z.cols.map fun q => .str (kindS q.2)))), none, none]) (fun i => [some (rRef x), some (rDict (dCols z.cols)), some (rD K (.list (z.rows.map rowD))), some (rD K (.list (z.cols.map fun q => .str (kindS q.2)))), some (rD K (.int i)), some (((z.rows.map rowD).map (rD K)).getD i rNon)]) rfl rfl (iw_enum rfl T.bEnum (as_seq (ew_name 2 rfl (pv 2)))) (fun i hi => gw_tup rfl (gws_cons (gw_name 4 (pg_name scTInit.nd rfl (.inl rfl))) (gws_cons (gw_name 5 (pg_name scTInit.nd rfl (.inl rfl))) gws_nil))) (fun i hi => ?_) .never rfl) ?_
  · have hi' : i < z.rows.length := by simpa using hi
    have hq : z.rows[i]? = some z.rows[i] := List.getElem?_eq_getElem hi'
    rw [List.map_map, getD_map' hq]
    refine bw_cons (sw_if (d := false) (tw_not (c := true) (tw_val (cl (z.cols, z.rows[i]) T.lIsRow (ok_isRow T) hr T.gIsRow (aw_cons (ew_name 5 rfl (pv 5)) (aw_cons (ew_name 3 rfl (pv 3)) aw_nil)) ⟨hp.rows _ (List.getElem_mem hi'), hp.cols.le⟩) (by intro _; rfl))) (fun e => nomatch e) fun _ => bw_nil) (bw_wipe 4 (bw_wipe 5 (bw_nilN rfl)))
  refine ib_set (i := 0) (r := rCols K z.cols) (pv 0) rfl (fun gs => ?_) T.isiT.cl T.nTc rfl (by decide) (ib_set (i := 0) (r := rD K (.tuple (z.rows.map rowD))) (pv 0) rfl (fun gs => of_tup (ew_tupOf rfl T.bTuple (as_seq (ew_name 2 rfl (pv 2))))) T.isiT.cl T.nTr rfl (by simp) ib_nil rfl) rfl
  have e : rCols K z.cols = rTupF (((colsS z.cols).map fun q => [rD K (.str q.1), rD K (.str q.2)]).map (rTup K)) := by rw [List.map_map] <;> rfl
  rw [e]
  exact ew_tupItems rfl (ew_name 1 rfl (pv 1)) rfl T.bTuple pair_reps (by simp [dictS])
end
end K11
namespace Py
open PySem L2
/-! ### list(range(n)) -/
section
variable {X : Cx}
theorem cr_range1 : CallR X (.type "range") (fun vs H Q => ∃ j, vs = [V.int j] ∧ ∀ p, H p = none → Q (.ref p) (upd H p (.rng 0 j))) := by
  intro pins s σ H vs us Q I r ⟨j, e, q⟩
  subst e
  obtain ⟨u, rfl, t, rfl⟩ := vals1 r
  exact call_range_1 ⟨.ref _, _, I.laid (t' := s.toks + 1 + 1) (o := .rng 0 j) (fun b o e => Heap.get?_push_of_some _ e) (Nat.le_refl _) ⟨_, _, _, Heap.get?_push_size _ rfl⟩, rfl, q _ (I.hok.fresh (Nat.le_refl _))⟩
theorem size_rng (n : Nat) : Builtin.Range.rangeSize 0 n 1 = n := by
  unfold Builtin.Range.rangeSize
  rw [if_pos (by decide)]
  by_cases h : (0 : Int) < n
  · rw [if_pos h, Int.ediv_one]
    omega
  · rw [if_neg h]
    omega
theorem small_rng {n : Nat} (h : n ≤ 1000) : Builtin.Range.small 0 n 1 = true := by
  unfold Builtin.Range.small
  rw [size_rng]
  have f : ∀ i : Int, 0 ≤ i → i ≤ 1001 → Builtin.Range.rangeFitsLong i = true := fun i h1 h2 => by
    unfold Builtin.Range.rangeFitsLong
    simp
    omega
  rw [f 0 (by omega) (by omega), f n (by omega) (by omega), f 1 (by omega) (by omega), if_pos (by decide), f _ (by omega) (by omega)]
  simp
theorem ints_of {n : Nat} {acc : Array Value} (h : ItemsOf (fun i v => ∃ t, v = Value.int (0 + i * 1) t) acc n) : Vals ((List.range n).map fun i : Nat => V.int i) acc.toList := by
  obtain ⟨h1, h2⟩ := h
  have key : ∀ (vs : List Value) (k : Nat), (∀ (j : Nat) (v : Value), vs[j]? = some v → ∃ t, v = Value.int ((k + j : Nat) : Int) t) → Vals ((List.range vs.length).map fun i => V.int ((k + i : Nat) : Int)) vs := by
    intro vs
    induction vs with
    | nil => intro k _; exact .nil
    | cons v vs ih =>
      intro k h
      rw [List.length_cons, List.range_succ_eq_map, List.map_cons, List.map_map]
      obtain ⟨t, e⟩ := h 0 v rfl
      refine .cons ⟨t, e⟩ ?_
      have z := ih (k + 1) fun j u e => by
        obtain ⟨t, e'⟩ := h (j + 1) u (by simpa using e)
        exact ⟨t, by rw [e']; congr 1; omega⟩
      have e2 : ((List.range vs.length).map ((fun i => V.int ((k + i : Nat) : Int)) ∘ Nat.succ)) = (List.range vs.length).map fun i => V.int ((k + 1 + i : Nat) : Int) := List.map_congr_left fun i _ => by show V.int _ = V.int _; congr 1; omega
      rw [e2]
      exact z
  have z := key acc.toList 0 fun j v e => by
    obtain ⟨t, e'⟩ := h2 j v (by rw [← Array.getElem?_toList]; exact e)
    exact ⟨t, by rw [e']; congr 1; omega⟩
  have e : acc.toList.length = n := by rw [Array.length_toList]; exact h1
  rw [e] at z
  simpa using z
theorem call_listRng (hc : X.calm = true) : CallR X (.type "list") (fun xs H Q => ∃ (a : Addr) (n : Nat), xs = [.ref a] ∧ H a = some (.rng 0 n) ∧ n ≤ 1000 ∧ ∀ p, H p = none → Q (.ref p) (upd H p (.lst ((List.range n).map fun i : Nat => V.int i)))) := by
  intro pins s σ H xs us Q I r ⟨a, n, ex, ha, hn, q⟩
  subst ex
  obtain ⟨u, rfl, rx⟩ := vals1 r
  cases rx
  obtain ⟨t, u, v, hr⟩ := I.hok a _ ha
  refine call_list_range (I.ok.hd hc) hr (small_rng hn) (size_rng n) (Nat.le_trans hn (by decide)) fun g tk acc c hk hS hi => ?_
  refine ⟨.ref _, _, I.laid (t' := tk) (o := .lst ((List.range n).map fun i : Nat => V.int i)) hk (Nat.le_refl _) ⟨by rw [List.length_map, List.length_range]; exact Nat.le_of_lt (small1000 (by omega)), acc.toList, c, ints_of hi, by rw [Array.toArray_toList]; exact hS⟩, rfl, q _ (I.hok.fresh (Nat.le_refl _))⟩
variable {W : World} {rs : Rs} {a : Expr} {pos p : Pos}
def rRng (n : Nat) : Rep := ⟨fun v H => ∃ D, v = .ref D ∧ H D = some (.rng 0 n), fun e ⟨D, h1, h2⟩ => ⟨D, h1, e _ _ h2⟩⟩
theorem ew_range {n : Nat} (hg : Gl X "range") (hm : X.mg "range" = none) (ha : Ew X W rs a (rD X.K (.int n))) (he : starEach [a] X.env = (false, eval a X.env) :: starEach [] X.env := by rfl) (hpl : (backTo pos (starEach [] X.env)).any (·.1) = false := by rfl) : Ew X W rs (.Call (.Name "range" p) [a] [] pos) (rRng n) :=
  ew_callTy cr_range1 hg hm (by decide +kernel) ha (fun v H k pv Q q => ⟨n, by rw [rD_int.mp pv], fun l hl => q _ _ (World.okNew k hl) (World.visEx k (Ex.new hl)) ⟨l, rfl, by rw [World.visNew k hl, upd_same]⟩⟩) (by decide) (by decide) he hpl
theorem reps_ints {K : PySem.W.Frag} {H : Hp} : ∀ {xs : List Nat}, Reps ((xs.map fun i : Nat => PyData.int i).map (rD K)) (xs.map fun i : Nat => V.int i) H
  | [] => trivial
  | _ :: xs => ⟨Dp.int _, reps_ints (xs := xs)⟩
theorem ew_listRng {n : Nat} (hn : n ≤ 1000) (hc : X.calm = true) (hg : Gl X "list") (hm : X.mg "list" = none) (ha : Ew X W rs a (rRng n)) (he : starEach [a] X.env = (false, eval a X.env) :: starEach [] X.env := by rfl) (hpl : (backTo pos (starEach [] X.env)).any (·.1) = false := by rfl) : Ew X W rs (.Call (.Name "list" p) [a] [] pos) (rLst (((List.range n).map fun i : Nat => PyData.int i).map (rD X.K))) :=
  ew_callTy (call_listRng hc) hg hm (by decide +kernel) ha (fun v H k ⟨D, ev, h⟩ Q q => ⟨D, n, by rw [ev], W.sub H _ _ h, hn, fun l hl => q _ _ (World.okNew k hl) (World.visEx k (Ex.new hl)) ⟨l, _, rfl, by rw [World.visNew k hl, upd_same], reps_ints⟩⟩) (by decide) (by decide) he hpl
end
end Py
namespace K11
open PySem L2 Py
section
variable {P : Program} {w : PySem.World} {K : PySem.W.Frag} {mg : Str → Option Value} {base : Heap} {d : Ad} {t : Ae}
theorem ok_tCols (T : Ty P K mg d t) : FnR P w K mg base CX0 1 t.fTCols (spW (α := TabD) (fun _ z => ColsOk z.cols) (fun z => [rTab K t z]) (fun z => rDict (dCols z.cols))) := by
  obtain ⟨fd, F⟩ := T.lTCols
  refine fn_w F scTCols (F.binds fun _ _ _ _ _ _ us hl => match us, hl with | [_], _ => rfl) (fun _ => rfl) fun cdv A outer s H E W z hr hp => ⟨none, ?_, fun _ e => nomatch e⟩
  exact bw_one (sw_ret (ew_dictTup rfl rfl T.bDict (fl (ew_name 0 rfl (pv 0)) T.isiT.cl T.nTc) (merge_dictS (names_nd hp))))
theorem ok_tRows (T : Ty P K mg d t) : FnR P w K mg base CX0 1 t.fTRows (spW (α := TabD) (fun _ z => True) (fun z => [rTab K t z]) (fun z => rLst ((z.rows.map rowD).map (rD K)))) := by
  obtain ⟨fd, F⟩ := T.lTRows
  refine fn_w F scTRows (F.binds fun _ _ _ _ _ _ us hl => match us, hl with | [_], _ => rfl) (fun _ => rfl) fun cdv A outer s H E W z hr hp => ⟨none, ?_, fun _ e => nomatch e⟩
  exact bw_one (sw_ret (ew_listT rfl T.T.bList (as_tup (fl (ew_name 0 rfl (pv 0)) T.isiT.cl T.nTr))))
/-! ### fits, ranks -/
abbrev spFits (K : PySem.W.Frag) (d : Ad) (n : Nat) : Sp := spW (α := Meas × Bool) (fun _ z => kindOf z.1 = n) (fun z => [rMeas K d z.1, rD K (.str (kindS z.2))]) (fun z => rD K (.bool (fitsB z.1 z.2)))
theorem ok_fitsP (T : Ty P K mg d t) : FnR P w K mg base CX0 1 t.fFitsP (spFits K d 0) := by
  obtain ⟨fd, F⟩ := T.lFitsP
  refine fn_w F scFitsP (F.binds fun _ _ _ _ _ _ us hl => match us, hl with | [_, _], _ => rfl) (fun _ => rfl) fun cdv A outer s H E W z hr hp => ⟨none, ?_, fun _ e => nomatch e⟩
  obtain ⟨m, b⟩ := z
  cases m with
  | plain n => exact bw_one (sw_ret ew_bl)
  | _ => cases hp
theorem ok_fitsS (T : Ty P K mg d t) : FnR P w K mg base CX0 1 t.fFitsS (spFits K d 1) := by
  obtain ⟨fd, F⟩ := T.lFitsS
  refine fn_w F scFitsS (F.binds fun _ _ _ _ _ _ us hl => match us, hl with | [_, _], _ => rfl) (fun _ => rfl) fun cdv A outer s H E W z hr hp => ⟨none, ?_, fun _ e => nomatch e⟩
  obtain ⟨m, b⟩ := z
  cases m with
  | size n => exact bw_one (sw_ret ew_bl)
  | _ => cases hp
theorem ok_fitsR (T : Ty P K mg d t) : FnR P w K mg base CX0 1 t.fFitsR (spFits K d 2) := by
  obtain ⟨fd, F⟩ := T.lFitsR
  refine fn_w F scFitsR (F.binds fun _ _ _ _ _ _ us hl => match us, hl with | [_, _], _ => rfl) (fun _ => rfl) fun cdv A outer s H E W z hr hp => ⟨none, ?_, fun _ e => nomatch e⟩
  obtain ⟨m, b⟩ := z
  cases m with
  | rest n k =>
    have e : fitsB (.rest n k) b = PyData.eqv (.str (kindS b)) (.str (kindS false)) := by rw [eqv_kind]; cases b <;> rfl
    show Bw _ W _ _ ⟨rD K (.bool (fitsB (.rest n k) b)), none, none, none⟩
    rw [e]
    exact bw_one (sw_ret (ew_eqD hr.units (ew_name 1 rfl (pv 1)) (ew_globS rfl T.gNumbers) (shk b) (shk false)))
  | _ => cases hp
theorem ok_fitsE (T : Ty P K mg d t) : FnR P w K mg base CX0 1 t.fFitsE (spFits K d 3) := by
  obtain ⟨fd, F⟩ := T.lFitsE
  refine fn_w F scFitsE (F.binds fun _ _ _ _ _ _ us hl => match us, hl with | [_, _], _ => rfl) (fun _ => rfl) fun cdv A outer s H E W z hr hp => ⟨none, ?_, fun _ e => nomatch e⟩
  obtain ⟨m, b⟩ := z
  cases m with
  | ending n =>
    have e : fitsB (.ending n) b = PyData.eqv (.str (kindS b)) (.str (kindS true)) := by rw [eqv_kind]; cases b <;> rfl
    show Bw _ W _ _ ⟨rD K (.bool (fitsB (.ending n) b)), none, none, none⟩
    rw [e]
    exact bw_one (sw_ret (ew_eqD hr.units (ew_name 1 rfl (pv 1)) (ew_globS rfl T.gWords) (shk b) (shk true)))
  | _ => cases hp
theorem ok_fits (T : Ty P K mg d t) (m : Meas) : FnR P w K mg base CX0 1 (fFits t m) (spFits K d (kindOf m)) := by
  cases m with
  | plain _ => exact ok_fitsP T
  | size _ => exact ok_fitsS T
  | rest _ _ => exact ok_fitsR T
  | ending _ => exact ok_fitsE T
theorem e27 : (1 + (letters.length : Int)) = 27 := by decide +kernel
theorem occ_letter : ∀ c ∈ letters.cps.toList, Builtin.Str.occurrences letters ⟨#[c]⟩ 0 letters.length 1 = [letters.cps.toList.idxOf c] := by decide +kernel
theorem ok_asNum (T : Ty P K mg d t) : FnR P w K mg base CX0 1 t.fAsNum (spW (α := PyData) (fun _ z => NumOk z) (fun z => [rD K z]) (fun z => rD K (.int (asNum z)))) := by
  obtain ⟨fd, F⟩ := T.lAsNum
  refine fn_w F scAsNum (F.binds fun _ _ _ _ _ _ us hl => match us, hl with | [_], _ => rfl) (fun _ => rfl) fun cdv A outer s H E W z hr hp => ⟨none, ?_, fun _ e => nomatch e⟩
  cases z with
  | int i =>
    exact bw_last (sw_if (d := true) (tw_val (ew_isi (t := .type "int") (d := true) rfl T.T.bIsi (ew_name 0 rfl (pv 0)) (ew_ty rfl T.T.bInt (by decide +kernel)) (.ty "int") isR_int (kit_ty (by decide +kernel))) (by intro _; rfl)) (fun _ => bw_one (sw_nx (sw_ret (ew_name 0 rfl (pv 0))))) fun e => nomatch e)
  | str y =>
    refine bw_cons (N := [some (rD K (.str y)), none, none, none]) (sw_if (d := false) (tw_val (ew_isi (t := .type "str") (d := false) rfl T.T.bIsi (ew_name 0 rfl (pv 0)) (ew_ty rfl T.T.bInt (by decide +kernel)) (.ty "int") isR_str (kit_ty (by decide +kernel))) (by intro _; rfl)) (fun e => nomatch e) fun _ => bw_nil) ?_
    refine bw_cons (N := [some (rD K (.str y)), some (rD K (.int 0)), none, none]) (sw_set 1 ew_int scAsNum.nd rfl (.inl rfl)) ?_
    refine bw_cons (N := [some (rD K (.str y)), some (rD K (.int (wnum y 8))), none, none]) (sw_for (fun i => [some (rD K (.str y)), some (rD K (.int (wnum y i))), none, none]) (fun i => [some (rD K (.str y)), some (rD K (.int (wnum y i))), some (rD K (.int i)), none]) rfl rfl (by exact iw_n (n := (8 : Int).toNat) (iw_range1 rfl T.bRange (ew_globI rfl T.T.gLongest) (by decide)) rfl) (fun i hi => gw_name 2 (pg_name scAsNum.nd rfl (.inl rfl))) (fun i hi => ?_) .never rfl) (bw_one (sw_ret (ew_name 1 rfl (pv 1))))
    have hl : y.length ≤ sizeLine := Nat.le_of_lt (small1000 (by have := hp.1; omega))
    refine bw_cons (N := [some (rD K (.str y)), some (rD K (.int (wnum y i))), some (rD K (.int i)), some (rD K (.int (dig y i)))]) (sw_set (r := rD K (.int (dig y i))) 3 (ew_if (tw_lt (ew_name 2 rfl (pv 2)) (ew_lenStr hl rfl T.T.bLen (ew_name 0 rfl (pv 0)))) (fun h => ?_) fun h => ?_) scAsNum.nd rfl (.inl rfl)) ?_
    · have h' : i < y.length := by simpa using h
      have hc : y.cps.toList[i]? = some (y.cps.getD i 0) := by
        have hs : i < y.cps.size := h'
        rw [Array.getElem?_toList, Array.getD_eq_getD_getElem?, Array.getElem?_eq_getElem hs] <;> rfl
      have e : dig y i = 1 + (letters.cps.toList.idxOf (y.cps.getD i 0) : Int) := if_pos h'
      rw [e]
      exact ew_add ew_int (ew_sindex (rest := []) (ew_globS rfl T.T.gLetters) (ew_item_str (m := 0) (ew_name 0 rfl (pv 0)) (ew_name 2 rfl (pv 2)) hl (atI_nat hc) (by intro _ _; rfl)) (occ_letter _ (hp.2 _ (List.mem_of_getElem? hc))))
    · have h' : ¬ i < y.length := by simpa using h
      have e : dig y i = 0 := if_neg h'
      rw [e]
      exact ew_int
    · refine bw_cons (N := [some (rD K (.str y)), some (rD K (.int (wnum y (i + 1)))), some (rD K (.int i)), some (rD K (.int (dig y i)))]) (sw_set (r := rD K (.int (wnum y (i + 1)))) 1 (by
        have e : wnum y (i + 1) = wnum y i * (1 + (letters.length : Int)) + dig y i := by rw [e27] <;> rfl
        rw [e]
        exact ew_add (ew_mul (ew_name 1 rfl (pv 1)) (ew_add ew_int (ew_lenStr (by decide +kernel) rfl T.T.bLen (ew_globS rfl T.T.gLetters))) (.inr (by decide +kernel))) (ew_name 3 rfl (pv 3))) scAsNum.nd rfl (.inl rfl)) (bw_wipe 2 (bw_wipe 3 (bw_nilN rfl)))
  | _ => exact hp.elim
end
end K11
namespace K11
open PySem L2 Py
/-! ### a measure of a row's cell -/
theorem idx_at {cs : Cols} {n : Str} {b : Bool} (hm : (n, b) ∈ cs) : idx cs n < cs.length ∧ ∃ c, cs[idx cs n]? = some (n, c) := by
  have h1 : n ∈ cs.map (·.1) := List.mem_map.mpr ⟨_, hm, rfl⟩
  have h2 : idx cs n < (cs.map (·.1)).length := List.idxOf_lt_length_iff.mpr h1
  have h3 : idx cs n < cs.length := by simpa using h2
  refine ⟨h3, cs[idx cs n].2, ?_⟩
  rw [List.getElem?_eq_getElem h3]
  congr 1
  have h4 : (cs.map (·.1))[idx cs n] = n := List.getElem_idxOf h2
  rw [List.getElem_map] at h4
  exact Prod.ext h4 rfl
theorem idx_kind {cs : Cols} (h : ColsOk cs) {n : Str} {b : Bool} (hm : (n, b) ∈ cs) : cs[idx cs n]? = some (n, b) := by
  obtain ⟨h3, c, e⟩ := idx_at hm
  rw [e]
  have h1 : (n, c) ∈ cs := List.mem_of_getElem? e
  have v1 := kind_at h hm
  have v2 := kind_at h h1
  rw [v1] at v2
  cases b <;> cases c <;> first | rfl | (exact absurd (V.str.inj (Option.some.inj v2)) (by decide +kernel))
theorem cell_at {cs : Cols} {row : List Cell} (h : ColsOk cs) (hr : RowOk cs row) {n : Str} {b : Bool} (hm : (n, b) ∈ cs) : row[idx cs n]? = some (cellOf cs row n) ∧ CellOk b (cellOf cs row n) := by
  obtain ⟨c, h1, h2⟩ := hr.get _ (idx_kind h hm)
  have e : cellOf cs row n = c := by unfold cellOf; rw [List.getD_eq_getElem?_getD, h1] <;> rfl
  rw [e]
  exact ⟨h1, h2⟩
theorem good_num {z : Str} (h : Good z) : NumOk (.str z) := ⟨h.2.1, h.2.2⟩
theorem good_last {z : Str} (h : Good z) : NumOk (.str ⟨#[z.cps.getD (z.length - 1) 0]⟩) := by
  refine ⟨by show 1 ≤ 8; decide, fun c hc => ?_⟩
  have hi : z.length - 1 < z.cps.size := by have := h.1; have e : z.length = z.cps.size := rfl; omega
  have e : c = z.cps.getD (z.length - 1) 0 := by simpa using hc
  rw [e]
  refine h.2.2 _ ?_
  rw [Array.getD_eq_getD_getElem?, Array.getElem?_eq_getElem hi]
  simp
theorem meas_cell {m : Meas} {b : Bool} {c : Cell} (hf : fitsB m b = true) (hk : ∀ n k, m = .rest n k → 2 ≤ k ∧ k ≤ 9) (hc : CellOk b c) : ofOk m c.d ∧ NumOk (ofD m c.d) := by
  cases c with
  | num i =>
    cases b with
    | true => exact hc.elim
    | false =>
      cases m with
      | plain n => exact ⟨trivial, trivial⟩
      | size n => exact ⟨trivial, trivial⟩
      | rest n k => exact ⟨by have := hk n k rfl; show 0 < k; omega, trivial⟩
      | ending n => cases hf
  | word z =>
    cases b with
    | false => exact hc.elim
    | true =>
      have hz : z.length ≤ sizeLine := Nat.le_of_lt (small1000 (by have := hc.2.1; omega))
      cases m with
      | plain n => exact ⟨trivial, good_num hc⟩
      | size n => exact ⟨hz, trivial⟩
      | rest n k => cases hf
      | ending n => exact ⟨⟨hc.1, hz⟩, good_last hc⟩
theorem meas_row {cs : Cols} {row : List Cell} (h : ColsOk cs) (hr : RowOk cs row) {m : Meas} (hm : MeasOk cs m) : ofOk m (cellOf cs row m.name).d ∧ NumOk (ofD m (cellOf cs row m.name).d) := by
  obtain ⟨⟨b, h1, h2⟩, h3⟩ := hm
  exact meas_cell h2 h3 (cell_at h hr h1).2
section
variable {P : Program} {w : PySem.World} {K : PySem.W.Frag} {mg : Str → Option Value} {base : Heap} {d : Ad} {t : Ae}
theorem ok_rank (T : Ty P K mg d t) : FnR P w K mg base CX0 3 t.fPRank (spW (α := PartD × Cell) (fun _ z => ofOk z.1.m z.2.d ∧ NumOk (ofD z.1.m z.2.d)) (fun z => [rPart K d z.1, rD K z.2.d]) (fun z => rD K (.int (rankI z.1 z.2)))) := by
  obtain ⟨fd, F⟩ := T.lPRank
  refine fn_w F scPRank (F.binds fun _ _ _ _ _ _ us hl => match us, hl with | [_, _], _ => rfl) (fun _ => rfl) fun cdv A outer s H E W z hr hp => ⟨none, ?_, fun _ e => nomatch e⟩
  obtain ⟨p, c⟩ := z
  refine bw_cons (N := [some (rPart K d p), some (rD K c.d), some (rD K (.int (asNum (ofD p.m c.d))))]) (sw_set (r := rD K (.int (asNum (ofD p.m c.d)))) 2 (cl (ofD p.m c.d) T.lAsNum (ok_asNum T) hr T.gAsNum (a1 (mtE (p.m, c.d) (fl (ew_name 0 rfl (pv 0)) T.T.isiP.cl T.T.nPm) (T.T.isi p.m).cl (T.T.mOf p.m) (ok_of T.T p.m) hr (a1 (ew_name 1 rfl (pv 1))) (by exact ⟨rfl, hp.1⟩) (hl := by cases p.m <;> rfl))) hp.2) scPRank.nd rfl (.inl rfl)) (bw_one (sw_ret ?_))
  refine ew_if (tw_val (fl (ew_name 0 rfl (pv 0)) T.T.isiP.cl T.T.nPd) (by intro _; rfl)) (fun h => ?_) fun h => ?_
  · have e : rankI p c = -asNum (ofD p.m c.d) := by unfold rankI; rw [if_pos h]
    show Ew _ W _ _ (rD K (.int (rankI p c)))
    rw [e]
    exact ew_negI (ew_name 2 rfl (pv 2))
  · have e : rankI p c = asNum (ofD p.m c.d) := by unfold rankI; rw [if_neg (by rw [h]; decide)]
    show Ew _ W _ _ (rD K (.int (rankI p c)))
    rw [e]
    exact (ew_name 2 rfl (pv 2))
/-! ### rows and keys that fit -/
theorem ok_tPoss (T : Ty P K mg d t) : FnR P w K mg base CX0 5 t.fTPoss (spW (α := TabD × List Cell) (fun _ z => ColsOk z.1.cols ∧ RowOk z.1.cols z.2) (fun z => [rTab K t z.1, rD K (rowD z.2)]) (fun _ => rD K (.bool true))) := by
  obtain ⟨fd, F⟩ := T.lTPoss
  refine fn_w F scTPoss (F.binds fun _ _ _ _ _ _ us hl => match us, hl with | [_, _], _ => rfl) (fun _ => rfl) fun cdv A outer s H E W z hr hp => ⟨none, ?_, fun _ e => nomatch e⟩
  exact bw_one (sw_ret (cl (z.1.cols, z.2) T.lIsRow (ok_isRow T) hr T.gIsRow (aw_cons (ew_name 1 rfl (pv 1)) (aw_cons (by exact of_lst (ew_listVals rfl rfl T.T.bList (pr z.1 (ew_name 0 rfl (pv 0)) T.isiT.cl T.qTCols (ok_tCols T) hr hp.1) fun H => kinds_reps)) aw_nil)) ⟨hp.2, hp.1.le⟩))
theorem ok_tCkRow (T : Ty P K mg d t) : FnR P w K mg base CX0 7 t.fTCkRow (spW (α := TabD × List Cell) (fun _ z => ColsOk z.1.cols ∧ RowOk z.1.cols z.2) (fun z => [rTab K t z.1, rD K (rowD z.2)]) (fun _ => rNon)) := by
  obtain ⟨fd, F⟩ := T.lTCkRow
  refine fn_n F scTCkRow (F.binds fun _ _ _ _ _ _ us hl => match us, hl with | [_, _], _ => rfl) (fun _ => rfl) fun cdv A outer s H E W z hr hp => ⟨[some (rTab K t z.1), some (rD K (rowD z.2))], ?_⟩
  exact bw_one (sw_if (d := false) (tw_not (c := true) (tw_val (mt z (ew_name 0 rfl (pv 0)) T.isiT.cl T.mTPoss (ok_tPoss T) hr (a1 (ew_name 1 rfl (pv 1))) hp) (by intro _; rfl))) (fun e => nomatch e) fun _ => bw_nil)
theorem ok_tCkKey (T : Ty P K mg d t) : FnR P w K mg base CX0 3 t.fTCkKey (spW (α := TabD × List PartD) (fun _ z => ColsOk z.1.cols ∧ KeyOk z.1.cols z.2) (fun z => [rTab K t z.1, rKey K d z.2]) (fun _ => rNon)) := by
  obtain ⟨fd, F⟩ := T.lTCkKey
  refine fn_n F scTCkKey (F.binds fun _ _ _ _ _ _ us hl => match us, hl with | [_, _], _ => rfl) (fun _ => rfl) fun cdv A outer s H E W z hr hp => ⟨[some (rTab K t z.1), some (rKey K d z.2), some (rDict (dCols z.1.cols)), none, none], ?_⟩
  obtain ⟨tb, ps⟩ := z
  obtain ⟨hc, hk⟩ := hp
  refine bw_cons (N := [some (rTab K t tb), some (rKey K d ps), none, none, none]) (sw_if (d := false) (tw_not (c := true) (tw_val (ew_isi (t := .ref d.cKey) (d := true) rfl T.T.bIsi (ew_name 1 rfl (pv 1)) (ew_cls rfl T.T.gKey) (.own d.cKey) (isR_ins T.T.isiK) T.T.kK) (by intro _; rfl))) (fun e => nomatch e) fun _ => bw_nil) ?_
  refine bw_cons (N := [some (rTab K t tb), some (rKey K d ps), some (rDict (dCols tb.cols)), none, none]) (sw_set (r := rDict (dCols tb.cols)) 2 (pr tb (ew_name 0 rfl (pv 0)) T.isiT.cl T.qTCols (ok_tCols T) hr hc) scTCkKey.nd rfl (.inl rfl)) ?_
  refine bw_one (sw_for (fun i => [some (rTab K t tb), some (rKey K d ps), some (rDict (dCols tb.cols)), none, none]) (fun i => [some (rTab K t tb), some (rKey K d ps), some (rDict (dCols tb.cols)), some ((ps.map (rPart K d)).getD i rNon), none]) rfl rfl (iw_lst (pr ps (ew_name 1 rfl (pv 1)) T.T.isiK.cl T.T.qKp (ok_kParts T.T) hr trivial)) (fun i hi => gw_name 3 (pg_name scTCkKey.nd rfl (.inl rfl))) (fun i hi => ?_) .never rfl)
  have hi' : i < ps.length := by simpa using hi
  have hq : ps[i]? = some ps[i] := List.getElem?_eq_getElem hi'
  rw [getD_map' hq]
  obtain ⟨⟨b, h1, h2⟩, h3⟩ := hk.ok _ (List.getElem_mem hi')
  refine bw_cons (N := [some (rTab K t tb), some (rKey K d ps), some (rDict (dCols tb.cols)), some (rPart K d ps[i]), some (rMeas K d ps[i].m)]) (sw_set (r := rMeas K d ps[i].m) 4 (pr ps[i] (ew_name 3 rfl (pv 3)) T.T.isiP.cl T.T.qPm (ok_pMeas T.T) hr trivial) scTCkKey.nd rfl (.inl rfl)) ?_
  have hv := kind_at hc h1
  obtain ⟨qn, hqn⟩ := T.T.qName
  refine bw_cons (sw_if (d := false) (tw_l (lw_or (c := false) (d := false) (tw_eq (tw_notInDict (hu_of hr) (pr ps[i].m (ew_name 4 rfl (pv 4)) (T.T.isi ps[i].m).cl ⟨qn, hqn ps[i].m⟩ (ok_mName T.T) hr trivial) (ew_name 2 rfl (pv 2))) (by rw [hv] <;> rfl)) fun _ => lw_one (tw_not (c := true) (tw_eq (tw_val (mtE (ps[i].m, b) (ew_name 4 rfl (pv 4)) (T.T.isi ps[i].m).cl (T.mFits ps[i].m) (ok_fits T ps[i].m) hr (a1 (ew_dget (d := .str (kindS b)) (hu_of hr) (ew_name 2 rfl (pv 2)) (pr ps[i].m (ew_name 4 rfl (pv 4)) (T.T.isi ps[i].m).cl ⟨qn, hqn ps[i].m⟩ (ok_mName T.T) hr trivial) hv (fun _ => Dp.str _) (by intro _ _; rfl))) rfl (hl := by cases ps[i].m <;> rfl)) (by intro _; rfl)) h2)))) (fun e => nomatch e) fun _ => bw_nil) (bw_wipe 3 (bw_wipe 4 (bw_nilN rfl)))
end
end K11
namespace Py
open PySem L2
section
variable {X : Cx} {W : World} {rs : Rs} {a b : Expr} {pos : Pos}
theorem tw_ltT {ns ms : List Int} (hu : X.A.units < cLine) (ha : Ew X W rs a (rTup X.K (ns.map fun z => rD X.K (.int z)))) (hb : Ew X W rs b (rTup X.K (ms.map fun z => rD X.K (.int z)))) : Tw X W rs (.Compare a [.Lt] [b] pos) (HT.lexLt ns ms) :=
  tw_cmp (op_ltT hu) ha hb (fun x y H k ⟨p, xs, ex, hs, hr⟩ ⟨p', ys, ey, hs', hr'⟩ Q q => by
    have e : ∀ (ns : List Int) (xs : List V), Reps (ns.map fun z => rD X.K (.int z)) xs (W.vis H) → xs = ns.map V.int := by
      intro ns
      induction ns with
      | nil => intro xs hr; cases xs with
        | nil => rfl
        | cons _ _ => exact hr.elim
      | cons z zs ih => intro xs hr; cases xs with
        | nil => exact hr.elim
        | cons x xs => rw [List.map_cons, rD_int.mp hr.1, ih xs hr.2]
    rw [e ns xs hr] at hs
    rw [e ms ys hr'] at hs'
    exact ⟨p, p', ns, ms, ex, ey, sqT_mono (W.sub H) hs, sqT_mono (W.sub H) hs', q _ H k (Ex.refl _) (Dp.bl _)⟩) (nomark _)
end
/-- a slot is forgotten, in a generator -/
theorem yws_wipe {X : Cx} {W : World} {rs N : Rs} {rl rl' : List Rep} {sts : List Stmt} (i : Nat) (h : Yws X W (rs.set i none) rl sts N rl') : Yws X W rs rl sts N rl' :=
  gss_cs h fun D ys σ H ⟨k, g, p, q⟩ => ⟨k, sg_wipe g, p, q⟩
theorem yws_nilN {X : Cx} {W : World} {rs N : Rs} {rl rl' : List Rep} (h : N = rs) (h2 : rl' = rl) : Yws X W rs rl [] N rl' := by
  subst h
  subst h2
  exact yws_nil
theorem yws_rl {X : Cx} {W : World} {rs N : Rs} {rl rl0 rl' : List Rep} {sts : List Stmt} (h : Yws X W rs rl sts N rl') (e : rl0 = rl) : Yws X W rs rl0 sts N rl' := by
  subst e
  exact h
/-! ### data that can be compared, and what == gives over it -/
def Shp (k : Nat) (d : PyData) : Prop := d.canLay0 = true ∧ d.depth ≤ k
theorem Shp.ok {k : Nat} {d : PyData} (h : Shp k d) (hk : k ≤ 64 := by decide) : SeqAt.shaped d = true := by
  unfold SeqAt.shaped
  rw [h.1, decide_eq_true (Nat.le_trans h.2 hk)]
  rfl
theorem Shp.mono {k k' : Nat} {d : PyData} (h : Shp k d) (e : k ≤ k') : Shp k' d := ⟨h.1, Nat.le_trans h.2 e⟩
theorem shp_int {i : Int} : Shp 0 (.int i) := ⟨by simp [PyData.canLay0], by simp [PyData.depth]⟩
theorem shp_bl {i : Bool} : Shp 0 (.bool i) := ⟨by simp [PyData.canLay0], by simp [PyData.depth]⟩
theorem shp_non : Shp 0 .none := ⟨by simp [PyData.canLay0], by simp [PyData.depth]⟩
theorem shp_str {z : Str} (h : PyData.strOk z = true) : Shp 0 (.str z) := ⟨by simp [PyData.canLay0, h], by simp [PyData.depth]⟩
theorem shp_all {k : Nat} : ∀ {ds : List PyData}, (∀ d ∈ ds, Shp k d) → PyData.canLayAll0 ds = true ∧ PyData.depthAll ds ≤ k
  | [], _ => ⟨rfl, Nat.zero_le _⟩
  | d :: ds, h => by
    have h1 := h d List.mem_cons_self
    have h2 := shp_all (ds := ds) fun x hx => h x (List.mem_cons_of_mem _ hx)
    refine ⟨?_, ?_⟩
    · show (d.canLay0 && PyData.canLayAll0 ds) = true
      rw [h1.1, h2.1]
      rfl
    · show max d.depth (PyData.depthAll ds) ≤ k
      have := h1.2
      have := h2.2
      omega
theorem shp_tup {k : Nat} {ds : List PyData} (h : ∀ d ∈ ds, Shp k d) : Shp (k + 1) (.tuple ds) := by
  obtain ⟨h1, h2⟩ := shp_all h
  exact ⟨h1, Nat.succ_le_succ h2⟩
theorem shp_lst {k : Nat} {ds : List PyData} (h : ∀ d ∈ ds, Shp k d) : Shp (k + 1) (.list ds) := by
  obtain ⟨h1, h2⟩ := shp_all h
  exact ⟨h1, Nat.succ_le_succ h2⟩
theorem shp_map {α : Type} {k : Nat} {f : α → PyData} {xs : List α} (h : ∀ x ∈ xs, Shp k (f x)) : ∀ d ∈ xs.map f, Shp k d := fun d hd => by
  obtain ⟨x, hx, rfl⟩ := List.mem_map.mp hd
  exact h x hx
theorem eqv_ints {a b : Int} : PyData.eqv (.int a) (.int b) = decide (a = b) := by
  unfold PyData.eqv
  by_cases h : a = b <;> simp [h]
theorem eqv_strs {a b : Str} : PyData.eqv (.str a) (.str b) = decide (a = b) := by
  unfold PyData.eqv
  by_cases h : a = b
  · subst h
    simp
  · simp [h]
theorem eqv_bls {a b : Bool} : PyData.eqv (.bool a) (.bool b) = decide (a = b) := by
  unfold PyData.eqv
  by_cases h : a = b <;> simp [h]
theorem eqvAll_map {α : Type} [DecidableEq α] {f : α → PyData} : ∀ {xs ys : List α}, (∀ x ∈ xs, ∀ y ∈ ys, PyData.eqv (f x) (f y) = decide (x = y)) → PyData.eqvAll (xs.map f) (ys.map f) = decide (xs = ys)
  | [], [], _ => by simp [PyData.eqvAll]
  | [], _ :: _, _ => by simp [PyData.eqvAll]
  | _ :: _, [], _ => by simp [PyData.eqvAll]
  | x :: xs, y :: ys, h => by
    show (PyData.eqv (f x) (f y) && PyData.eqvAll (xs.map f) (ys.map f)) = _
    rw [h x List.mem_cons_self y List.mem_cons_self, eqvAll_map fun a ha b hb => h a (List.mem_cons_of_mem _ ha) b (List.mem_cons_of_mem _ hb)]
    by_cases h1 : x = y <;> by_cases h2 : xs = ys <;> simp [h1, h2]
theorem eqv_tupM {α : Type} [DecidableEq α] {f : α → PyData} {xs ys : List α} (h : ∀ x ∈ xs, ∀ y ∈ ys, PyData.eqv (f x) (f y) = decide (x = y)) : PyData.eqv (.tuple (xs.map f)) (.tuple (ys.map f)) = decide (xs = ys) := by
  rw [← eqvAll_map h]
  unfold PyData.eqv
  rfl
theorem eqv_lstM {α : Type} [DecidableEq α] {f : α → PyData} {xs ys : List α} (h : ∀ x ∈ xs, ∀ y ∈ ys, PyData.eqv (f x) (f y) = decide (x = y)) : PyData.eqv (.list (xs.map f)) (.list (ys.map f)) = decide (xs = ys) := by
  rw [← eqvAll_map h]
  unfold PyData.eqv
  rfl
abbrev intsT (ns : List Int) : PyData := .tuple (ns.map .int)
theorem shp_intsT {ns : List Int} : Shp 1 (intsT ns) := shp_tup (shp_map fun _ _ => shp_int)
theorem eqv_intsT {ns ms : List Int} : PyData.eqv (intsT ns) (intsT ms) = decide (ns = ms) := eqv_tupM fun _ _ _ _ => eqv_ints
end Py
namespace K11
open PySem L2 Py
theorem units65 {k : Nat} {A : Around} (r : Room k A) : A.units + 65 < cLine := by have := r.un; omega
theorem units0 {k : Nat} {A : Around} (r : Room k A) : A.units < cLine := by have := r.un; omega
theorem good_ok {z : Str} (h : Good z) : Shp 0 (.str z) := shp_str h.strOk
theorem cell_shp {b : Bool} {c : Cell} (h : CellOk b c) : Shp 0 c.d := by
  cases c with
  | num i => exact shp_int
  | word z => cases b with
    | true => exact good_ok h
    | false => exact h.elim
theorem eqv_cell {b : Bool} {c c' : Cell} (h : CellOk b c) (h' : CellOk b c') : PyData.eqv c.d c'.d = decide (c = c') := by
  cases b <;> cases c <;> cases c' <;> first | exact h.elim | exact h'.elim | (simp only [Cell.d, eqv_ints, eqv_strs, Cell.num.injEq, Cell.word.injEq])
theorem row_shp : ∀ {cs : Cols} {row : List Cell}, RowOk cs row → ∀ d ∈ row.map Cell.d, Shp 0 d
  | [], [], _, d, hd => by cases hd
  | q :: cs, c :: row, h, d, hd => by
    rcases List.mem_cons.mp hd with rfl | hd
    · exact cell_shp h.1
    · exact row_shp h.2 d hd
  | [], _ :: _, h, _, _ => h.elim
  | _ :: _, [], h, _, _ => h.elim
theorem eqv_rowA : ∀ {cs : Cols} {row row' : List Cell}, RowOk cs row → RowOk cs row' → PyData.eqvAll (row.map Cell.d) (row'.map Cell.d) = decide (row = row')
  | [], [], [], _, _ => by simp [PyData.eqvAll]
  | q :: cs, c :: row, c' :: row', h, h' => by
    show (PyData.eqv c.d c'.d && PyData.eqvAll (row.map Cell.d) (row'.map Cell.d)) = _
    rw [eqv_cell h.1 h'.1, eqv_rowA h.2 h'.2]
    by_cases h1 : c = c' <;> by_cases h2 : row = row' <;> simp [h1, h2]
  | [], _ :: _, _, h, _ => h.elim
  | [], [], _ :: _, _, h => h.elim
  | _ :: _, [], _, h, _ => h.elim
  | _ :: _, _ :: _, [], _, h => h.elim
theorem shp_row {cs : Cols} {row : List Cell} (h : RowOk cs row) : Shp 1 (rowD row) := shp_tup (row_shp h)
theorem eqv_row {cs : Cols} {row row' : List Cell} (h : RowOk cs row) (h' : RowOk cs row') : PyData.eqv (rowD row) (rowD row') = decide (row = row') := by
  rw [← eqv_rowA h h']
  unfold PyData.eqv
  rfl
section
variable {P : Program} {w : PySem.World} {K : PySem.W.Frag} {mg : Str → Option Value} {base : Heap} {d : Ad} {t : Ae}
def rInts (K : PySem.W.Frag) (ns : List Int) : Rep := rTup K (ns.map fun z => rD K (.int z))
theorem ints_tup {X : Cx} {W : Py.World} {rs : Rs} {e : Expr} {ns : List Int} (h : Ew X W rs e (rInts X.K ns)) : Ew X W rs e (rTup X.K (ns.map fun z => rD X.K (.int z))) := h
theorem ints_D {X : Cx} {W : Py.World} {rs : Rs} {e : Expr} {ns : List Int} (h : Ew X W rs e (rInts X.K ns)) : Ew X W rs e (rD X.K (intsT ns)) := by
  have e1 : ns.map (fun z => rD X.K (.int z)) = (ns.map PyData.int).map (rD X.K) := by rw [List.map_map] <;> rfl
  have h' := ints_tup h
  rw [e1] at h'
  exact of_tup h'
theorem names_ds {K : PySem.W.Frag} {H : Hp} : ∀ {cs : Cols}, Reps ((cs.map fun q => PyData.str q.1).map (rD K)) ((dCols cs).map fun kv => kV kv.1) H
  | [] => trivial
  | q :: cs => ⟨Dp.str _, names_ds (cs := cs)⟩
theorem shp_names {cs : Cols} (h : ColsOk cs) : Shp 1 (.list (cs.map fun q => PyData.str q.1)) := shp_lst (shp_map fun q hq => good_ok (h.good q hq))
theorem idx_first {cs : Cols} {n : Str} {b : Bool} (hm : (n, b) ∈ cs) (m : Nat) (z' : PyData) (h : m < idx cs n) (e : (cs.map fun q => PyData.str q.1)[m]? = some z') : PyData.eqv z' (.str n) = false := by
  rw [List.getElem?_map] at e
  cases e1 : cs[m]? with
  | none => rw [e1] at e; cases e
  | some q =>
    rw [e1] at e
    cases e
    rw [eqv_strs, decide_eq_false_iff_not]
    intro c
    have h1 : m < (cs.map (·.1)).length := by have := (idx_at hm).1; rw [List.length_map]; omega
    have h' : m < (cs.map (·.1)).findIdx (· == n) := h
    have h2 := List.not_of_lt_findIdx h'
    have h3 : (cs.map (·.1))[m] = q.1 := by
      rw [List.getElem_map]
      have := List.getElem?_eq_getElem (l := cs) (i := m) (by simpa using h1)
      rw [e1] at this
      rw [← Option.some.inj this]
    rw [h3, c] at h2
    simp at h2
theorem ok_tCells (T : Ty P K mg d t) : FnR P w K mg base CX0 3 t.fTCells (spW (α := TabD × List Cell × List PartD) (fun _ z => ColsOk z.1.cols ∧ RowOk z.1.cols z.2.1 ∧ KeyOk z.1.cols z.2.2) (fun z => [rTab K t z.1, rD K (rowD z.2.1), rKey K d z.2.2]) (fun z => rLst (z.2.2.map fun p => rD K (cellOf z.1.cols z.2.1 p.m.name).d))) := by
  obtain ⟨fd, F⟩ := T.lTCells
  refine fn_w F scTCells (F.binds fun _ _ _ _ _ _ us hl => match us, hl with | [_, _, _], _ => rfl) (fun _ => rfl) fun cdv A outer s H E W z hr hp => ⟨none, ?_, fun _ e => nomatch e⟩
  obtain ⟨tb, row, ps⟩ := z
  obtain ⟨hc, hrow, hk⟩ := hp
  refine bw_cons (N := [some (rTab K t tb), some (rD K (rowD row)), some (rKey K d ps), some (rD K (.list (tb.cols.map fun q => PyData.str q.1))), none]) (sw_set (r := rD K (.list (tb.cols.map fun q => PyData.str q.1))) 3 (by exact ew_listDict rfl rfl T.T.bList (pr tb (ew_name 0 rfl (pv 0)) T.isiT.cl T.qTCols (ok_tCols T) hr hc) fun H => names_ds) scTCells.nd rfl (.inr rfl)) (bw_one (sw_ret ?_))
  show Ew _ W _ _ (rLst (ps.map fun p => rD K (cellOf tb.cols row p.m.name).d))
  rw [← range_map (fun p => rD K (cellOf tb.cols row p.m.name).d) (fun i => rD K (cellOf tb.cols row (ps.getD i ⟨.plain "", false⟩).m.name).d) ps (fun i hi => by rw [List.getD_eq_getElem?_getD, List.getElem?_eq_getElem hi] <;> rfl)]
  refine ew_lcAll 4 (y := "part") _ rfl scTCells.nd (n := ps.length) (item := fun i => (ps.map (rPart K d)).getD i rNon) (iw_n (iw_lst (pr ps (ew_name 2 rfl (pv 2)) T.T.isiK.cl T.T.qKp (ok_kParts T.T) hr trivial)) (by simp)) (blkOk_by (N := ["self", "row", "key", "names", "part"]) (sc := defScope sTCells) (by decide +kernel)) (by have : ps.length ≤ 6 := hk.len; omega) (fun _ _ _ _ _ => pg_name scTCells.nd rfl (.inl rfl)) ?_
  intro s' H' C cl' fp D o i hi
  have hq : ps[i]? = some ps[i] := List.getElem?_eq_getElem hi
  rw [getD_map' hq, List.getD_eq_getElem?_getD, hq]
  obtain ⟨⟨b, h1, h2⟩, h3⟩ := hk.ok _ (List.getElem_mem hi)
  obtain ⟨qn, hqn⟩ := T.T.qName
  have hcell := (cell_at hc hrow h1).1
  exact ew_ixTD (idx tb.cols ps[i].m.name) (ew_name 1 rfl (pv 1)) (ew_indexD (d := .str ps[i].m.name) (z := .str ps[i].m.name) (j := idx tb.cols ps[i].m.name) (units65 hr) (ew_name 3 rfl (pv 3)) (pr ps[i].m (pr ps[i] (ew_name 4 rfl (pv 4)) T.T.isiP.cl T.T.qPm (ok_pMeas T.T) hr trivial) (T.T.isi ps[i].m).cl ⟨qn, hqn ps[i].m⟩ (ok_mName T.T) hr trivial) (shp_names hc).ok (good_ok (hc.good _ h1)).ok (by rw [List.getElem?_map, idx_kind hc h1] <;> rfl) (by rw [eqv_strs]; simp) (idx_first h1)) rfl (by rw [List.getElem?_map, hcell] <;> rfl) (by intro _ _; rfl)
end
end K11
namespace K11
open PySem L2 Py
section
variable {P : Program} {w : PySem.World} {K : PySem.W.Frag} {mg : Str → Option Value} {base : Heap} {d : Ad} {t : Ae}
def rCells (K : PySem.W.Frag) (cs : Cols) (row : List Cell) (ps : List PartD) : Rep := rLst (ps.map fun p => rD K (cellOf cs row p.m.name).d)
theorem cells_seq {X : Cx} {W : Py.World} {rs : Rs} {e : Expr} {cs : Cols} {row : List Cell} {ps : List PartD} (h : Ew X W rs e (rCells X.K cs row ps)) : Ew X W rs e (rSeq X.K (ps.map fun p => rD X.K (cellOf cs row p.m.name).d)) := lst_as h
theorem ok_tRanks (T : Ty P K mg d t) : FnR P w K mg base CX0 5 t.fTRanks (spW (α := TabD × List Cell × List PartD) (fun _ z => ColsOk z.1.cols ∧ RowOk z.1.cols z.2.1 ∧ KeyOk z.1.cols z.2.2) (fun z => [rTab K t z.1, rD K (rowD z.2.1), rKey K d z.2.2]) (fun z => rInts K (ranks z.1.cols z.2.1 z.2.2))) := by
  obtain ⟨fd, F⟩ := T.lTRanks
  refine fn_w F scTRanks (F.binds fun _ _ _ _ _ _ us hl => match us, hl with | [_, _, _], _ => rfl) (fun _ => rfl) fun cdv A outer s H E W z hr hp => ⟨none, ?_, fun _ e => nomatch e⟩
  obtain ⟨tb, row, ps⟩ := z
  obtain ⟨hc, hrow, hk⟩ := hp
  refine bw_cons (N := [some (rTab K t tb), some (rD K (rowD row)), some (rKey K d ps), some (rCells K tb.cols row ps), none, none]) (sw_set (r := rCells K tb.cols row ps) 3 (mtE (tb, row, ps) (ew_name 0 rfl (pv 0)) T.isiT.cl T.mTCells (ok_tCells T) hr (aw_cons (ew_name 1 rfl (pv 1)) (aw_cons (ew_name 2 rfl (pv 2)) aw_nil)) ⟨hc, hrow, hk⟩) scTRanks.nd rfl (.inl rfl)) (bw_one (sw_ret (ew_tupOf rfl T.bTuple (lst_as ?_))))
  have e1 : (ranks tb.cols row ps).map (fun z => rD K (.int z)) = takes (fun i => rD K (.int (rankI (ps.getD i ⟨.plain "", false⟩) (cellOf tb.cols row (ps.getD i ⟨.plain "", false⟩).m.name)))) (fun _ => true) ps.length := by
    rw [Py.takes_all, range_map (fun p => rD K (.int (rankI p (cellOf tb.cols row p.m.name)))) _ ps (fun i hi => by rw [List.getD_eq_getElem?_getD, List.getElem?_eq_getElem hi] <;> rfl)]
    unfold ranks
    rw [List.map_map] <;> rfl
  show Ew _ W _ _ (rLst ((ranks tb.cols row ps).map fun z => rD K (.int z)))
  rw [e1]
  refine ew_lc (own := [("part", 4), ("cell", 5)]) _ _ (fun i => [some (rTab K t tb), some (rD K (rowD row)), some (rKey K d ps), some (rCells K tb.cols row ps), some ((ps.map (rPart K d)).getD i rNon), some ((ps.map fun p => rD K (cellOf tb.cols row p.m.name).d).getD i rNon)]) rfl scTRanks.nd (iw_n (iw_zip rfl T.bZip (lst_as (pr ps (ew_name 2 rfl (pv 2)) T.T.isiK.cl T.T.qKp (ok_kParts T.T) hr trivial)) (cells_seq (ew_name 3 rfl (pv 3)))) (by simp)) (blkOk_by (N := ["self", "row", "key", "cells", "part", "cell"]) (sc := defScope sTRanks) (by decide +kernel)) (by have : ps.length ≤ 6 := hk.len; omega) (fun _ _ _ _ _ => pg_tup rfl (pgs_cons (pg_name (i := 4) scTRanks.nd rfl (.inl rfl)) (pgs_cons (pg_name (i := 5) scTRanks.nd rfl (.inl rfl)) pgs_nil))) (fun i _ => own_pair (by decide)) (fun _ _ _ _ _ _ _ _ _ => pts_yes) ?_
  intro s' H' C cl' fp D o i hi _
  have hq : ps[i]? = some ps[i] := List.getElem?_eq_getElem hi
  rw [getD_map' hq, getD_map' hq, List.getD_eq_getElem?_getD, hq]
  exact mt (ps[i], cellOf tb.cols row ps[i].m.name) (ew_name 4 rfl (pv 4)) T.T.isiP.cl T.mPRank (ok_rank T) hr (a1 (ew_name 5 rfl (pv 5))) (meas_row hc hrow (hk.ok _ (List.getElem_mem hi)))
end
end K11
namespace K11
open PySem L2 Py
section
variable {P : Program} {w : PySem.World} {K : PySem.W.Frag} {mg : Str → Option Value} {base : Heap} {d : Ad} {t : Ae}
/-- -1, 0 or 1 -/
def cmpI (a b : List Int) : Int := if a = b then 0 else if HT.lexLt a b then -1 else 1
end
end K11
namespace K11
open PySem L2 Py
section
variable {P : Program} {w : PySem.World} {K : PySem.W.Frag} {mg : Str → Option Value} {base : Heap} {d : Ad} {t : Ae}
/-- the measures of a row -/
def placeD (cs : Cols) (row : List Cell) (ps : List PartD) : List PyData := ps.map fun p => ofD p.m (cellOf cs row p.m.name).d
end
end K11
namespace K11
open PySem L2 Py
/-! ### equal tables -/
theorem kind_inj {b c : Bool} : (kindS b = kindS c) ↔ b = c := by cases b <;> cases c <;> decide +kernel
abbrev pairD (q : Str × Str) : PyData := .tuple [.str q.1, .str q.2]
theorem eqv_pair (a b : Str × Str) : PyData.eqv (pairD a) (pairD b) = decide (a = b) := by
  obtain ⟨a1, a2⟩ := a
  obtain ⟨b1, b2⟩ := b
  unfold pairD
  rw [PyData.eqv]
  simp only [PyData.eqvAll, eqv_strs, Prod.mk.injEq]
  by_cases h1 : a1 = b1 <;> by_cases h2 : a2 = b2 <;> simp [h1, h2]
def colsD (cs : Cols) : PyData := .tuple ((colsS cs).map pairD)
theorem cols_inj {cs cs' : Cols} : (colsS cs = colsS cs') ↔ cs = cs' := by
  constructor
  · intro h
    induction cs generalizing cs' with
    | nil => cases cs' with
      | nil => rfl
      | cons _ _ => simp [colsS] at h
    | cons q cs ih => cases cs' with
      | nil => simp [colsS] at h
      | cons q' cs' =>
        simp only [colsS, List.map_cons, List.cons.injEq, Prod.mk.injEq, kind_inj] at h
        rw [ih h.2]
        obtain ⟨a, b⟩ := q
        obtain ⟨a', b'⟩ := q'
        simp only at h
        rw [h.1.1, h.1.2]
  · intro h
    rw [h]
theorem eqv_cols (cs cs' : Cols) : PyData.eqv (colsD cs) (colsD cs') = decide (cs = cs') := by
  unfold colsD
  rw [eqv_tupM fun _ _ _ _ => eqv_pair _ _]
  by_cases h : cs = cs'
  · rw [decide_eq_true h, decide_eq_true (cols_inj.mpr h)]
  · rw [decide_eq_false h, decide_eq_false fun z => h (cols_inj.mp z)]
theorem shp_cols {cs : Cols} (h : ColsOk cs) : Shp 2 (colsD cs) := shp_tup (shp_map fun q hq => by
  obtain ⟨q', h1, rfl⟩ := List.mem_map.mp hq
  refine shp_tup fun x hx => ?_
  simp only [List.mem_cons, List.not_mem_nil, or_false] at hx
  rcases hx with rfl | rfl
  · exact good_ok (h.good _ h1)
  · exact shp_str (by cases q'.2 <;> decide +kernel))
theorem cols_data {X : Cx} {W : Py.World} {rs : Rs} {e : Expr} {cs : Cols} (h : Ew X W rs e (rCols X.K cs)) : Ew X W rs e (rD X.K (colsD cs)) := by
  refine ew_sub h fun v H p => ?_
  have p' := tupF_tup (K := X.K) p
  have e1 : (colsS cs).map (rPairS X.K) = (colsS cs).map fun q => rTup X.K ([PyData.str q.1, PyData.str q.2].map (rD X.K)) := rfl
  obtain ⟨a, xs, h1, h2, h3⟩ := p'
  refine rD_tup.mpr ⟨a, xs, h1, h2, ?_⟩
  rw [List.map_map]
  have key : ∀ {l : List (Str × Str)} {xs : List V}, Reps (l.map (rPairS X.K)) xs H → Reps (l.map (rD X.K ∘ pairD)) xs H := by
    intro l
    induction l with
    | nil => intro xs h; exact h
    | cons q l ih =>
      intro xs h
      cases xs with
      | nil => exact h.elim
      | cons x xs => exact ⟨rD_tup.mpr h.1, ih h.2⟩
  exact key h3
def rowsD (rows : List (List Cell)) : PyData := .tuple (rows.map rowD)
theorem shp_rows {cs : Cols} {rows : List (List Cell)} (h : ∀ r ∈ rows, RowOk cs r) : Shp 2 (rowsD rows) := shp_tup (shp_map fun r hr => shp_row (h r hr))
theorem rows_ne {cs cs' : Cols} {row row' : List Cell} (h : RowOk cs row) (h' : RowOk cs' row') (hl : cs = cs') : PyData.eqv (rowD row) (rowD row') = decide (row = row') := by
  subst hl
  exact eqv_row h h'
theorem eqv_rows {cs : Cols} {rows rows' : List (List Cell)} (h : ∀ r ∈ rows, RowOk cs r) (h' : ∀ r ∈ rows', RowOk cs r) : PyData.eqv (rowsD rows) (rowsD rows') = decide (rows = rows') := eqv_tupM fun _ ha _ hb => eqv_row (h _ ha) (h' _ hb)
section
variable {P : Program} {w : PySem.World} {K : PySem.W.Frag} {mg : Str → Option Value} {base : Heap} {d : Ad} {t : Ae}
theorem ok_tEq (T : Ty P K mg d t) : FnR P w K mg base CX0 1 t.fTEq (spW (α := TabD × TabD) (fun _ z => TabOk z.1 ∧ TabOk z.2) (fun z => [rTab K t z.1, rTab K t z.2]) (fun z => rD K (.bool (decide (z.1 = z.2))))) := by
  obtain ⟨fd, F⟩ := T.lTEq
  refine fn_w F scTEq (F.binds fun _ _ _ _ _ _ us hl => match us, hl with | [_, _], _ => rfl) (fun _ => rfl) fun cdv A outer s H E W z hr hp => ⟨none, ?_, fun _ e => nomatch e⟩
  obtain ⟨a, b⟩ := z
  obtain ⟨ha, hb⟩ := hp
  have hab : decide (a = b) = (true && (decide (a.cols = b.cols) && (if a.cols = b.cols then decide (a.rows = b.rows) else false))) := by
    obtain ⟨ac, ar⟩ := a
    obtain ⟨bc, br⟩ := b
    by_cases h1 : ac = bc <;> by_cases h2 : ar = br <;> simp [h1, h2]
  show Bw _ W _ _ ⟨rD K (.bool (decide (a = b))), none, none, none⟩
  rw [hab]
  refine bw_one (sw_ret (ew_and (ew_isi (t := .ref t.cTable) (d := true) rfl T.T.bIsi (ew_name 1 rfl (pv 1)) (ew_cls rfl T.gTable) (.own t.cTable) (isR_ins T.isiT) T.kT) fun _ => ?_))
  rw [← eqv_cols]
  refine ew_and (ew_eqD hr.units (cols_data (fl (ew_name 0 rfl (pv 0)) T.isiT.cl T.nTc)) (cols_data (fl (ew_name 1 rfl (pv 1)) T.isiT.cl T.nTc)) (shp_cols ha.cols).ok (shp_cols hb.cols).ok) fun h => ew_one ?_
  rw [eqv_cols] at h
  have h' : a.cols = b.cols := of_decide_eq_true h
  rw [if_pos h', ← eqv_rows (cs := a.cols) ha.rows (fun r hr => by rw [h']; exact hb.rows r hr)]
  exact ew_eqD hr.units (fl (ew_name 0 rfl (pv 0)) T.isiT.cl T.nTr) (fl (ew_name 1 rfl (pv 1)) T.isiT.cl T.nTr) (shp_rows ha.rows).ok (shp_rows hb.rows).ok
theorem rc_tab {X : Cx} (T : Ty X.prog X.K X.mg d t) {W : Py.World} {a b : TabD} (h1 : TabOk a) (h2 : TabOk b) : RcW X .Eq W 2 (rTab X.K t a) (rTab X.K t b) (decide (a = b)) := by
  refine rcW_own .Eq (fun _ _ => rfl) fun x y H k p1 q1 => ?_
  obtain ⟨p, dx, gs, ex, hi, fl⟩ := p1
  obtain ⟨c, dy, gs', ey, hj, fl'⟩ := q1
  exact ⟨p, c, t.cTable, t.cTable, dx, dy, t.fTEq, gs, gs', _, ex, ey, hi, hj, T.nfT, T.mTEq, ok_tEq T, fun Q n => ⟨W, (a, b), ⟨h1, h2⟩, k, ⟨⟨p, dx, gs, ex, hi, fl⟩, ⟨c, dy, gs', ey, hj, fl'⟩, trivial⟩, fun v H' k' e' pv => by rw [rD_bl.mp pv]; exact n H' k' e'⟩⟩
/-! ### ranked rows -/
theorem ok_ckTable (T : Ty P K mg d t) : FnR P w K mg base CX0 1 t.fCkTable (spW (α := TabD) (fun _ z => True) (fun z => [rTab K t z]) (fun _ => rNon)) := by
  obtain ⟨fd, F⟩ := T.lCkTable
  refine fn_n F scCkTable (F.binds fun _ _ _ _ _ _ us hl => match us, hl with | [_], _ => rfl) (fun _ => rfl) fun cdv A outer s H E W z hr hp => ⟨[some (rTab K t z)], ?_⟩
  exact bw_one (sw_if (d := false) (tw_not (c := true) (tw_val (ew_isi (t := .ref t.cTable) (d := true) rfl T.T.bIsi (ew_name 0 rfl (pv 0)) (ew_cls rfl T.gTable) (.own t.cTable) (isR_ins T.isiT) T.kT) (by intro _; rfl))) (fun e => nomatch e) fun _ => bw_nil)
abbrev fsRk (K : PySem.W.Frag) (z : TabD × List Cell × List PartD) : List (Str × Rep) := [("_row", rD K (rowD z.2.1)), ("_ranks", rInts K (ranks z.1.cols z.2.1 z.2.2))]
end
end K11
namespace K11
open PySem L2 Py
section
variable {P : Program} {w : PySem.World} {K : PySem.W.Frag} {mg : Str → Option Value} {base : Heap} {d : Ad} {t : Ae}
/-! ### the candidates -/
abbrev NCand : List Str := ["self", "name", "kind", "measure"]
def two (m : Meas) : List PartD := [⟨m, false⟩, ⟨m, true⟩]
theorem cands_eq (cs : Cols) : cands cs = cs.flatMap fun q => (colMeas q).flatMap two := rfl
def outC (K : PySem.W.Frag) (d : Ad) (cs : Cols) : List Rep := (cands cs).map (rPart K d)
theorem cands_snoc (cs : Cols) (q : Str × Bool) : cands (cs ++ [q]) = cands cs ++ (colMeas q).flatMap two := by rw [cands_eq, cands_eq]; simp
theorem measL {q : Str × Bool} : (colMeas q).length ≤ 4 := by
  obtain ⟨n, b⟩ := q
  cases b <;> simp [colMeas]
theorem flat_len (ms : List Meas) : (ms.flatMap two).length = 2 * ms.length := by
  induction ms with
  | nil => rfl
  | cons m ms ih =>
    rw [List.flatMap_cons, List.length_append, ih]
    simp [two]
    omega
theorem cands_len : ∀ cs : Cols, (cands cs).length ≤ 8 * cs.length
  | [] => by simp [cands]
  | q :: cs => by
    have := cands_len cs
    have h := flat_len (colMeas q)
    have h4 := measL (q := q)
    have e : cands (q :: cs) = (colMeas q).flatMap two ++ cands cs := by rw [cands_eq, cands_eq, List.flatMap_cons]
    rw [e, List.length_append, List.length_cons]
    omega
end
end K11
namespace K11
open PySem L2 Py
inductive Kd | plain | size | rest | ending deriving DecidableEq
def Kd.s : Kd → Str | .plain => "plain" | .size => "size" | .rest => "rest" | .ending => "ending"
structure QD where
  k : Kd
  name : Str
  div : Int
  dn : Bool
deriving DecidableEq
def QD.t (q : QD) : PyData := .tuple [.str q.k.s, .str q.name, .int q.div, .bool q.dn]
def QD.m (q : QD) : Meas := match q.k with | .plain => .plain q.name | .size => .size q.name | .rest => .rest q.name q.div | .ending => .ending q.name
def QD.part (q : QD) : PartD := ⟨q.m, q.dn⟩
def QD.pl (q : QD) : QD := match q.k with | .rest => q | k => ⟨k, q.name, 0, q.dn⟩
def QOk (q : QD) : Prop := Good q.name ∧ (q.k = .rest → 2 ≤ q.div ∧ q.div ≤ 9)
theorem good_of {z : Str} (h : (decide (1 ≤ z.length) && decide (z.length ≤ 8) && z.cps.toList.all (fun c => decide (c ∈ ("abcdefghijklmnopqrstuvwxyz" : Str).cps.toList))) = true) : Good z := by
  simp only [Bool.and_eq_true, decide_eq_true_eq, List.all_eq_true] at h
  exact ⟨h.1.1, h.1.2, h.2⟩
section
variable {P : Program} {w : PySem.World} {K : PySem.W.Frag} {mg : Str → Option Value} {base : Heap} {d : Ad} {e : Ld}
theorem scPick : FnScope ["_law_state", "_law_things"] ["_law_state", "_law_things"] (defScope sPick) := ⟨rfl, rfl, rfl, by decide +kernel, rfl, by decide +kernel, by decide +kernel⟩
theorem ok_pick (L : Lx P K mg d e) : FnR P w K mg base CX0 4 e.fPick (spW (α := DZ × List Rep) (fun W z => Draws K W z.1.p z.1.l z.1.zs ∧ 0 < z.2.length) (fun z => [rRef z.1.p, rSeq K z.2]) (fun z => rEx (α := Fin z.2.length) fun i => z.2[i])) := by
  obtain ⟨fd, F⟩ := L.lPick
  obtain ⟨fd1, F1⟩ := L.lNext
  refine fn_w F scPick (F.binds fun _ _ _ _ _ _ us hl => match us, hl with | [_, _], _ => rfl) (fun _ => rfl) fun cdv A outer s H E W z hr hp => ⟨none, bw_one (sw_ret ?_), fun _ e => nomatch e⟩
  obtain ⟨q, rl⟩ := z
  refine ew_ix ix_list (ew_name 1 rfl (pv 1)) (ew_call (q, (rl.length : Int)) (ok_next L) hr F1.kp rfl L.gNext (aw_cons (ew_name 0 rfl (pv 0)) (aw_cons (ew_lenSeq rfl L.T.bLen (ew_name 1 rfl (pv 1))) aw_nil)) ⟨hp.1, Int.natCast_pos.mpr hp.2⟩) (R2w.exr fun i => ?_) (by intro _ _; rfl)
  have hi : i.1.toNat < rl.length := by have := i.2; omega
  exact R2w.in (α := Fin rl.length) ⟨i.1.toNat, hi⟩ (r2_ixL' (by have := i.2; omega) (List.getElem?_eq_getElem hi))
theorem scCell : FnScope ["_law_state", "_law_kind"] ["_law_state", "_law_kind"] (defScope sCell) := ⟨rfl, rfl, rfl, by decide +kernel, rfl, by decide +kernel, by decide +kernel⟩
abbrev rI99 (K : PySem.W.Frag) : Rep := rEx (α := {i : Int // -99 ≤ i ∧ i ≤ 99}) fun i => rD K (.int i.1)
theorem ew99 {X : Cx} {W : Py.World} {rs : Rs} {e : Expr} {i : Int} (h : Ew X W rs e (rD X.K (.int i))) (h1 : -99 ≤ i ∧ i ≤ 99 := by decide) : Ew X W rs e (rI99 X.K) := ew_in (α := {i : Int // -99 ≤ i ∧ i ≤ 99}) (f := fun i => rD X.K (.int i.1)) ⟨i, h1⟩ h
def cellR (K : PySem.W.Frag) : Bool → Rep
  | true => rEx (α := {z : Str // Good z}) fun z => rD K (.str z.1)
  | false => rI99 K
theorem ok_cell (L : Lx P K mg d e) : FnR P w K mg base CX0 5 e.fCell (spW (α := DZ × Bool) (fun W z => Draws K W z.1.p z.1.l z.1.zs) (fun z => [rRef z.1.p, rD K (.str (kindS z.2))]) (fun z => cellR K z.2)) := by
  obtain ⟨fd, F⟩ := L.lCell
  obtain ⟨fd1, F1⟩ := L.lNext
  obtain ⟨fd2, F2⟩ := L.lPick
  refine fn_w F scCell (F.binds fun _ _ _ _ _ _ us hl => match us, hl with | [_, _], _ => rfl) (fun _ => rfl) fun cdv A outer s H E W z hr hp => ⟨none, ?_, fun _ e => nomatch e⟩
  obtain ⟨q, b⟩ := z
  have hsh : ∀ b, SeqAt.shaped (.str (kindS b)) = true := fun b => by cases b <;> decide +kernel
  cases b with
  | true =>
    refine bw_last (sw_if (d := true) (tw_eq (tw_eqD hr.units (ew_name 1 rfl (pv 1)) ew_str (hsh true) (hsh true)) (show PyData.eqv (.str (kindS true)) (.str "words") = true by rw [eqv_str]; decide +kernel)) (fun _ => bw_one (sw_ret ?_)) (fun e => nomatch e))
    refine ew_sub (ew_call (q, ([("oak" : Str), "elm", "ash", "a", "b", "yewtree", "abcdefgh", "fir"] : List Str).map fun z => rD K (.str z)) (ok_pick L) hr F2.kp rfl L.gPick (aw_cons (ew_name 0 rfl (pv 0)) (aw_cons (ew_sub (ew_lst (aw_cons ew_str (aw_cons ew_str (aw_cons ew_str (aw_cons ew_str (aw_cons ew_str (aw_cons ew_str (aw_cons ew_str (aw_cons ew_str aw_nil)))))))) (by simp)) fun _ _ => lst_seq) aw_nil)) ⟨hp, by simp⟩) fun v H ⟨i, h⟩ => ?_
    have hall : ∀ z ∈ ([("oak" : Str), "elm", "ash", "a", "b", "yewtree", "abcdefgh", "fir"] : List Str), Good z := by
      intro z hz
      simp only [List.mem_cons, List.not_mem_nil, or_false] at hz
      rcases hz with rfl | rfl | rfl | rfl | rfl | rfl | rfl | rfl <;> exact good_of (by decide +kernel)
    have hi : i.1 < ([("oak" : Str), "elm", "ash", "a", "b", "yewtree", "abcdefgh", "fir"] : List Str).length := by simpa using i.2
    have h' : ((([("oak" : Str), "elm", "ash", "a", "b", "yewtree", "abcdefgh", "fir"] : List Str).map fun z => rD K (.str z))[i.1]'(i.2)).p v H := h
    rw [List.getElem_map] at h'
    exact ⟨⟨_, hall _ (List.getElem_mem hi)⟩, h'⟩
  | false =>
    refine bw_cons (N := [some (rRef q.p), some (rD K (.str (kindS false)))]) (sw_if (d := false) (tw_eq (tw_eqD hr.units (ew_name 1 rfl (pv 1)) ew_str (hsh false) (hsh true)) (show PyData.eqv (.str (kindS false)) (.str "words") = false by rw [eqv_str]; decide +kernel)) (fun e => nomatch e) fun _ => bw_nil) (bw_one (sw_ret ?_))
    refine ew_sub (ew_call (q, List.replicate 10 (rI99 K)) (ok_pick L) hr F2.kp rfl L.gPick (aw_cons (ew_name 0 rfl (pv 0)) (aw_cons (ew_sub (ew_lst (rl := List.replicate 10 (rI99 K)) (aw_cons (ew99 ew_int) (aw_cons (ew99 ew_int) (aw_cons (ew99 (ew_negI ew_int)) (aw_cons (ew99 ew_int) (aw_cons (ew99 ew_int) (aw_cons (ew99 (ew_negI ew_int)) (aw_cons (ew99 ew_int) (aw_cons (ew99 (ew_negI ew_int)) (aw_cons (ew99 ew_int) (aw_cons ?_ aw_nil)))))))))) (by simp)) fun _ _ => lst_seq) aw_nil)) ⟨hp, by simp⟩) fun v H ⟨i, h⟩ => by
      have h' : ((List.replicate 10 (rI99 K))[i.1]'(i.2)).p v H := h
      rw [List.getElem_replicate] at h'
      exact h'
    exact ew_op op_sub (ew_call (q, 199) (ok_next L) (hr.mono (by decide)) F1.kp rfl L.gNext (aw_cons (ew_name 0 rfl (pv 0)) (aw_cons ew_int aw_nil)) ⟨hp, show (0 : Int) < 199 by decide⟩) ew_int (R2w.exl fun i => R2w.in (α := {i : Int // -99 ≤ i ∧ i ≤ 99}) ⟨i.1 - 99, by have := i.2; omega⟩ (r2_IK fun _ => Dp.int _))
theorem cell_open {K : PySem.W.Frag} {b : Bool} {v : V} {H : Hp} (h : (cellR K b).p v H) : ∃ c : {c : Cell // CellOk b c}, (rD K c.1.d).p v H := by
  cases b with
  | true =>
    obtain ⟨⟨z, hz⟩, h⟩ := h
    exact ⟨⟨.word z, hz⟩, h⟩
  | false =>
    obtain ⟨⟨i, hi⟩, h⟩ := h
    exact ⟨⟨.num i, hi⟩, h⟩
theorem strOk_lit {z : Str} (h : PyData.strOk z = true) : SeqAt.shaped (.str z) = true := by simp [SeqAt.shaped, PyData.canLay0, PyData.depth, h]
theorem shkd (k : Kd) : SeqAt.shaped (.str k.s) = true := strOk_lit (by cases k <;> decide +kernel)
theorem tw_kind {X : Cx} {W : Py.World} {rs : Rs} {o i c : Expr} {pos p0 : Pos} {q : QD} (k : Kd) (hu : X.A.units + 64 < cLine) (ho : Ew X W rs o (rD X.K q.t)) (hi : Ew X W rs i (rD X.K (.int 0))) (hc : Ew X W rs c (rD X.K (.str k.s))) (hs : PlainIx i) : Tw X W rs (.Compare (.Subscript o i p0) [.Eq] [c] pos) (decide (q.k = k)) :=
  tw_eq (tw_eqD hu (ew_ixTD 0 ho hi rfl rfl hs) hc (shkd _) (shkd _)) (by rw [eqv_str, beq_str]; cases q.k <;> cases k <;> decide +kernel)
theorem scMeasured : FnScope ["_law_part_here", "_law_cell_here"] ["_law_part_here", "_law_cell_here"] (defScope sMeasured) := ⟨rfl, rfl, rfl, by decide +kernel, rfl, by decide +kernel, by decide +kernel⟩
theorem last_at {z : Str} (h1 : 1 ≤ z.length) : atI z.cps.toList (-1) = some (z.cps.getD (z.length - 1) 0) := by
  have h2 : 1 ≤ z.cps.size := h1
  have hl : z.cps.toList ≠ [] := by
    intro h
    have h1 : z.cps.toList.length = 0 := by rw [h] <;> rfl
    rw [Array.length_toList] at h1
    omega
  have h3 := (List.dropLast_concat_getLast hl).symm
  have h4 : z.cps.getD (z.length - 1) 0 = z.cps.toList.getLast hl := by
    rw [List.getLast_eq_getElem, Array.getD_eq_getD_getElem?, Array.getElem?_eq_getElem (by show z.cps.size - 1 < z.cps.size; omega)]
    rfl
  rw [h4]
  conv => lhs; rw [h3]
  exact atI_last _ _
theorem ok_measured (L : Lx P K mg d e) : FnR P w K mg base CX0 1 e.fMeasured (spW (α := QD × PyData) (fun W z => ofOk z.1.m z.2) (fun z => [rD K z.1.t, rD K z.2]) (fun z => rD K (ofD z.1.m z.2))) := by
  obtain ⟨fd, F⟩ := L.lMeasured
  refine fn_w F scMeasured (F.binds fun _ _ _ _ _ _ us hl => match us, hl with | [_, _], _ => rfl) (fun _ => rfl) fun cdv A outer s H E W z hr hp => ⟨none, ?_, fun _ e => nomatch e⟩
  obtain ⟨⟨k, n, v, u⟩, c⟩ := z
  have pi : ∀ {j : Nat} {pp : Pos} {i : Int}, PlainIx (.Constant (.int i) j pp) := fun _ _ => rfl
  cases k with
  | plain =>
    exact bw_last (sw_if (d := true) (tw_eq (tw_kind .plain hr.units (ew_name 0 rfl (pv 0)) ew_int ew_str pi) rfl) (fun _ => bw_one (sw_ret (ew_name 1 rfl (pv 1)))) (fun e => nomatch e))
  | size =>
    refine bw_cons (N := [some (rD K (QD.t ⟨.size, n, v, u⟩)), some (rD K c)]) (sw_if (d := false) (tw_eq (tw_kind .plain hr.units (ew_name 0 rfl (pv 0)) ew_int ew_str pi) rfl) (fun e => nomatch e) fun _ => bw_nil) ?_
    refine bw_last (sw_if (d := true) (tw_eq (tw_kind .size hr.units (ew_name 0 rfl (pv 0)) ew_int ew_str pi) rfl) (fun _ => bw_one (sw_ret ?_)) (fun e => nomatch e))
    cases c with
    | int i => exact ew_if (d := false) (tw_val (ew_isi (t := .type "int") (d := false) rfl L.T.bIsi (ew_name 1 rfl (pv 1)) (ew_ty rfl L.T.bStr (by decide +kernel)) (.ty "str") isR_int (kit_ty (by decide +kernel))) (by intro _; rfl)) (fun e => nomatch e) fun _ => ew_absI rfl L.T.bAbs (ew_name 1 rfl (pv 1))
    | str z => exact ew_if (d := true) (tw_val (ew_isi (t := .type "str") (d := true) rfl L.T.bIsi (ew_name 1 rfl (pv 1)) (ew_ty rfl L.T.bStr (by decide +kernel)) (.ty "str") isR_str (kit_ty (by decide +kernel))) (by intro _; rfl)) (fun _ => ew_lenStr hp rfl L.T.bLen (ew_name 1 rfl (pv 1))) (fun e => nomatch e)
    | _ => cases hp
  | rest =>
    refine bw_cons (N := [some (rD K (QD.t ⟨.rest, n, v, u⟩)), some (rD K c)]) (sw_if (d := false) (tw_eq (tw_kind .plain hr.units (ew_name 0 rfl (pv 0)) ew_int ew_str pi) rfl) (fun e => nomatch e) fun _ => bw_nil) ?_
    refine bw_cons (N := [some (rD K (QD.t ⟨.rest, n, v, u⟩)), some (rD K c)]) (sw_if (d := false) (tw_eq (tw_kind .size hr.units (ew_name 0 rfl (pv 0)) ew_int ew_str pi) rfl) (fun e => nomatch e) fun _ => bw_nil) (bw_one (sw_ret ?_))
    cases c with
    | int i => exact ew_if (d := true) (tw_eq (tw_kind .rest hr.units (ew_name 0 rfl (pv 0)) ew_int ew_str pi) rfl) (fun _ => ew_mod (ew_name 1 rfl (pv 1)) (ew_ixTD (d := .int v) 2 (ew_name 0 rfl (pv 0)) ew_int rfl rfl (by intro _ _; rfl)) hp) (fun e => nomatch e)
    | _ => cases hp
  | ending =>
    refine bw_cons (N := [some (rD K (QD.t ⟨.ending, n, v, u⟩)), some (rD K c)]) (sw_if (d := false) (tw_eq (tw_kind .plain hr.units (ew_name 0 rfl (pv 0)) ew_int ew_str pi) rfl) (fun e => nomatch e) fun _ => bw_nil) ?_
    refine bw_cons (N := [some (rD K (QD.t ⟨.ending, n, v, u⟩)), some (rD K c)]) (sw_if (d := false) (tw_eq (tw_kind .size hr.units (ew_name 0 rfl (pv 0)) ew_int ew_str pi) rfl) (fun e => nomatch e) fun _ => bw_nil) (bw_one (sw_ret ?_))
    cases c with
    | str z => exact ew_if (d := false) (tw_eq (tw_kind .rest hr.units (ew_name 0 rfl (pv 0)) ew_int ew_str pi) rfl) (fun e => nomatch e) fun _ => ew_item_str (m := 0) (ew_name 1 rfl (pv 1)) (ew_negI ew_int) hp.2 (last_at hp.1) (by intro _ _; rfl)
    | _ => cases hp
/-! ### the part of a tuple -/
theorem scMade : FnScope ["_law_part_here", "_law_scale"] ["_law_part_here"] (defScope sMade) := ⟨rfl, rfl, rfl, by decide +kernel, rfl, by decide +kernel, by decide +kernel⟩
theorem ok_made (L : Lx P K mg d e) : FnR P w K mg base CX0 5 e.fMade (spW (α := QD) (fun W z => QOk z) (fun z => [rD K z.t]) (fun z => rPart K d z.part)) := by
  obtain ⟨fd, F⟩ := L.lMade
  obtain ⟨fd', F'⟩ := L.T.pInit
  obtain ⟨_, hb⟩ := kb_pInit F'
  refine fn_w F scMade (F.binds fun _ _ _ _ _ _ us hl => match us, hl with | [_], _ => rfl) (fun _ => rfl) fun cdv A outer s H E W z hr hp => ⟨none, ?_, fun _ e => nomatch e⟩
  obtain ⟨k, n, v, u⟩ := z
  have pi : ∀ {j : Nat} {pp : Pos} {i : Int}, PlainIx (.Constant (.int i) j pp) := fun _ _ => rfl
  refine bw_cons (N := [some (rD K (QD.t ⟨k, n, v, u⟩)), some (rMeas K d (QD.m ⟨k, n, v, u⟩))]) ?_ (bw_one (sw_ret ?_))
  · cases k with
    | plain =>
      exact sw_if (d := true) (tw_eq (tw_kind .plain hr.units (ew_name 0 rfl (pv 0)) ew_int ew_str pi) rfl) (fun _ => bw_one (sw_set 1 (ew_make (fs := fun z => [("_name", rD K (.str z))]) n L.T.mkPlain (ok_mInit L.T (L.T.isi (.plain n)).cl (L.T.nName (.plain n))) (hr.mono (by decide)) rfl L.T.gPlain (aw_cons (ew_ixTD (d := .str n) 1 (ew_name 0 rfl (pv 0)) ew_int rfl rfl pi) aw_nil) hp.1) scMade.nd rfl (.inl rfl))) (fun e => nomatch e)
    | size =>
      refine sw_if (d := false) (tw_eq (tw_kind .plain hr.units (ew_name 0 rfl (pv 0)) ew_int ew_str pi) rfl) (fun e => nomatch e) fun _ => bw_one ?_
      exact sw_if (d := true) (tw_eq (tw_kind .size hr.units (ew_name 0 rfl (pv 0)) ew_int ew_str pi) rfl) (fun _ => bw_one (sw_set 1 (ew_make (fs := fun z => [("_name", rD K (.str z))]) n L.T.mkSize (ok_mInit L.T (L.T.isi (.size n)).cl (L.T.nName (.size n))) (hr.mono (by decide)) rfl L.T.gSize (aw_cons (ew_ixTD (d := .str n) 1 (ew_name 0 rfl (pv 0)) ew_int rfl rfl pi) aw_nil) hp.1) scMade.nd rfl (.inl rfl))) (fun e => nomatch e)
    | rest =>
      refine sw_if (d := false) (tw_eq (tw_kind .plain hr.units (ew_name 0 rfl (pv 0)) ew_int ew_str pi) rfl) (fun e => nomatch e) fun _ => bw_one ?_
      refine sw_if (d := false) (tw_eq (tw_kind .size hr.units (ew_name 0 rfl (pv 0)) ew_int ew_str pi) rfl) (fun e => nomatch e) fun _ => bw_one ?_
      exact sw_if (d := true) (tw_eq (tw_kind .rest hr.units (ew_name 0 rfl (pv 0)) ew_int ew_str pi) rfl) (fun _ => bw_one (sw_set 1 (ew_make (fs := fsRest K) (n, v) L.T.mkRest (ok_rInit L.T) (hr.mono (by decide)) rfl L.T.gRest (aw_cons (ew_ixTD (d := .str n) 1 (ew_name 0 rfl (pv 0)) ew_int rfl rfl pi) (aw_cons (ew_ixTD (d := .int v) 2 (ew_name 0 rfl (pv 0)) ew_int rfl rfl pi) aw_nil)) ⟨hp.1, hp.2 rfl⟩) scMade.nd rfl (.inl rfl))) (fun e => nomatch e)
    | ending =>
      refine sw_if (d := false) (tw_eq (tw_kind .plain hr.units (ew_name 0 rfl (pv 0)) ew_int ew_str pi) rfl) (fun e => nomatch e) fun _ => bw_one ?_
      refine sw_if (d := false) (tw_eq (tw_kind .size hr.units (ew_name 0 rfl (pv 0)) ew_int ew_str pi) rfl) (fun e => nomatch e) fun _ => bw_one ?_
      exact sw_if (d := false) (tw_eq (tw_kind .rest hr.units (ew_name 0 rfl (pv 0)) ew_int ew_str pi) rfl) (fun e => nomatch e) (fun _ => bw_one (sw_set 1 (ew_make (fs := fun z => [("_name", rD K (.str z))]) n L.T.mkEnding (ok_mInit L.T (L.T.isi (.ending n)).cl (L.T.nName (.ending n))) (hr.mono (by decide)) rfl L.T.gEnding (aw_cons (ew_ixTD (d := .str n) 1 (ew_name 0 rfl (pv 0)) ew_int rfl rfl pi) aw_nil) hp.1) scMade.nd rfl (.inl rfl)))
  · show Ew _ W _ _ (rIns d.cPart (fsPart K d (QD.part ⟨k, n, v, u⟩)))
    refine ew_if (tw_val (ew_ixTD (d := .bool u) 3 (ew_name 0 rfl (pv 0)) ew_int rfl rfl pi) (by intro _; rfl)) (fun h => ?_) fun h => ?_
    · subst h
      exact ew_makeK (fs := fsPart K d) (rl := [rMeas K d (QD.m ⟨k, n, v, true⟩)]) (rk := [rD K (.bool true)]) (QD.part ⟨k, n, v, true⟩) L.T.mkPart (ok_pInitD L.T F') (hr.mono (by decide)) rfl L.T.gPart hb (fun _ _ _ _ _ => rfl) (aw_cons (ew_name 1 rfl (pv 1)) aw_nil) (kw_cons ew_bl kw_nil) trivial rfl rfl rfl
    · subst h
      exact ew_make (fs := fun m => fsPart K d ⟨m, false⟩) (QD.m ⟨k, n, v, false⟩) L.T.mkPart (ok_pInit L.T) (hr.mono (by decide)) rfl L.T.gPart (aw_cons (ew_name 1 rfl (pv 1)) aw_nil) trivial
end
end K11
namespace K11
open PySem L2 Py
/-! ### words and their numbers -/
def Low (c : Nat) : Prop := 97 ≤ c ∧ c ≤ 122
def vl : Nat → List Nat → Int
  | 0, _ => 0
  | _ + 1, [] => 0
  | k + 1, c :: l => ((c : Int) - 96) * 27 ^ k + vl k l
theorem pow_pos27 (k : Nat) : (0 : Int) < 27 ^ k := Int.pow_pos (by decide)
theorem vl_nn : ∀ (k : Nat) {l : List Nat}, (∀ c ∈ l, Low c) → 0 ≤ vl k l
  | 0, _, _ => Int.le_refl _
  | _ + 1, [], _ => Int.le_refl _
  | k + 1, c :: l, h => by
    have h1 := h c List.mem_cons_self
    have h2 := vl_nn k (l := l) fun x hx => h x (List.mem_cons_of_mem _ hx)
    have h3 : 0 ≤ ((c : Int) - 96) * 27 ^ k := Int.mul_nonneg (by have := h1.1; omega) (Int.le_of_lt (pow_pos27 k))
    show 0 ≤ ((c : Int) - 96) * 27 ^ k + vl k l
    omega
theorem vl_lt : ∀ (k : Nat) {l : List Nat}, (∀ c ∈ l, Low c) → vl k l < 27 ^ k
  | 0, _, _ => by show (0 : Int) < 1; decide
  | k + 1, [], _ => pow_pos27 (k + 1)
  | k + 1, c :: l, h => by
    have h1 := h c List.mem_cons_self
    have h2 := vl_lt k (l := l) fun x hx => h x (List.mem_cons_of_mem _ hx)
    have h3 : ((c : Int) - 96) * 27 ^ k ≤ 26 * 27 ^ k := Int.mul_le_mul_of_nonneg_right (by have := h1.2; omega) (Int.le_of_lt (pow_pos27 k))
    have e : (27 : Int) ^ (k + 1) = 27 ^ k * 27 := Int.pow_succ 27 k
    show ((c : Int) - 96) * 27 ^ k + vl k l < 27 ^ (k + 1)
    rw [e]
    omega
theorem step_lt {a b x y p : Int} (hp : 0 < p) (hx : 0 ≤ x) (hx' : x < p) (hy : 0 ≤ y) (hy' : y < p) : (a * p + x < b * p + y) ↔ (a < b ∨ (a = b ∧ x < y)) := by
  constructor
  · intro h
    rcases Int.lt_trichotomy a b with h1 | h1 | h1
    · exact .inl h1
    · subst h1
      exact .inr ⟨rfl, by omega⟩
    · have : (b + 1) * p ≤ a * p := Int.mul_le_mul_of_nonneg_right (by omega) (Int.le_of_lt hp)
      rw [Int.add_mul] at this
      omega
  · rintro (h | ⟨rfl, h⟩)
    · have : (a + 1) * p ≤ b * p := Int.mul_le_mul_of_nonneg_right (by omega) (Int.le_of_lt hp)
      rw [Int.add_mul] at this
      omega
    · omega
theorem vl_cmp : ∀ (k : Nat) {l l' : List Nat}, (∀ c ∈ l, Low c) → (∀ c ∈ l', Low c) → l.length ≤ k → l'.length ≤ k → (l < l' ↔ vl k l < vl k l')
  | 0, [], [], _, _, _, _ => by simp [vl]
  | k + 1, [], [], _, _, _, _ => by simp [vl]
  | k + 1, [], c :: l', _, h', _, _ => by
    have h1 := h' c List.mem_cons_self
    have h2 := vl_nn k (l := l') fun x hx => h' x (List.mem_cons_of_mem _ hx)
    have h3 : 1 * 27 ^ k ≤ ((c : Int) - 96) * 27 ^ k := Int.mul_le_mul_of_nonneg_right (by have := h1.1; omega) (Int.le_of_lt (pow_pos27 k))
    have h4 := pow_pos27 k
    refine ⟨fun _ => ?_, fun _ => List.nil_lt_cons _ _⟩
    show 0 < ((c : Int) - 96) * 27 ^ k + vl k l'
    omega
  | k + 1, c :: l, [], h, _, _, _ => by
    refine ⟨fun z => absurd z (List.not_lt_nil _), fun z => ?_⟩
    have := vl_nn (k + 1) (l := c :: l) h
    exact absurd z (by show ¬ vl (k + 1) (c :: l) < 0; omega)
  | k + 1, c :: l, c' :: l', h, h', hl, hl' => by
    have ih := vl_cmp k (l := l) (l' := l') (fun x hx => h x (List.mem_cons_of_mem _ hx)) (fun x hx => h' x (List.mem_cons_of_mem _ hx)) (Nat.le_of_succ_le_succ hl) (Nat.le_of_succ_le_succ hl')
    have b1 := vl_nn k (l := l) fun x hx => h x (List.mem_cons_of_mem _ hx)
    have b2 := vl_lt k (l := l) fun x hx => h x (List.mem_cons_of_mem _ hx)
    have b3 := vl_nn k (l := l') fun x hx => h' x (List.mem_cons_of_mem _ hx)
    have b4 := vl_lt k (l := l') fun x hx => h' x (List.mem_cons_of_mem _ hx)
    rw [List.cons_lt_cons_iff]
    show _ ↔ ((c : Int) - 96) * 27 ^ k + vl k l < ((c' : Int) - 96) * 27 ^ k + vl k l'
    rw [step_lt (pow_pos27 k) b1 b2 b3 b4, ih]
    constructor
    · rintro (z | ⟨rfl, z⟩)
      · exact .inl (by omega)
      · exact .inr ⟨rfl, z⟩
    · rintro (z | ⟨z, z'⟩)
      · exact .inl (by omega)
      · exact .inr ⟨by omega, z'⟩
theorem vl_inj : ∀ (k : Nat) {l l' : List Nat}, (∀ c ∈ l, Low c) → (∀ c ∈ l', Low c) → l.length ≤ k → l'.length ≤ k → vl k l = vl k l' → l = l' := by
  intro k l l' h h' hl hl' e
  have a1 := vl_cmp k h h' hl hl'
  have a2 := vl_cmp k h' h hl' hl
  rw [e] at a1
  rw [e] at a2
  have n1 : ¬ l < l' := fun z => Int.lt_irrefl _ (a1.mp z)
  have n2 : ¬ l' < l := fun z => Int.lt_irrefl _ (a2.mp z)
  exact List.le_antisymm (List.not_lt.mp n2) (List.not_lt.mp n1)
def dg (l : List Nat) (n : Nat) : Int := if n < l.length then (l.getD n 0 : Int) - 96 else 0
theorem vl_succ : ∀ (n : Nat) (l : List Nat), vl (n + 1) l = vl n l * 27 + dg l n
  | 0, [] => by simp [vl, dg]
  | 0, c :: l => by simp [vl, dg]
  | n + 1, [] => by simp [vl, dg]
  | n + 1, c :: l => by
    have ih := vl_succ n l
    have e : dg (c :: l) (n + 1) = dg l n := by simp [dg]
    rw [e]
    show ((c : Int) - 96) * 27 ^ (n + 1) + vl (n + 1) l = (((c : Int) - 96) * 27 ^ n + vl n l) * 27 + dg l n
    rw [ih, Int.pow_succ, Int.add_mul, Int.mul_assoc]
    omega
theorem low_of : ∀ c ∈ letters.cps.toList, Low c := by unfold Low; decide +kernel
theorem idx_low : ∀ c ∈ letters.cps.toList, (1 : Int) + (letters.cps.toList.idxOf c : Int) = (c : Int) - 96 := by decide +kernel
theorem getD_list (z : Str) (i : Nat) : z.cps.getD i 0 = z.cps.toList.getD i 0 := by
  rw [Array.getD_eq_getD_getElem?, List.getD_eq_getElem?_getD, Array.getElem?_toList]
theorem dig_dg {z : Str} (h : ∀ c ∈ z.cps.toList, c ∈ letters.cps.toList) (i : Nat) : dig z i = dg z.cps.toList i := by
  unfold dig dg
  have e : z.length = z.cps.toList.length := by rw [Array.length_toList] <;> rfl
  rw [e]
  by_cases hi : i < z.cps.toList.length
  · rw [if_pos hi, if_pos hi, getD_list]
    refine idx_low _ (h _ ?_)
    rw [List.getD_eq_getElem?_getD, List.getElem?_eq_getElem hi]
    exact List.getElem_mem hi
  · rw [if_neg hi, if_neg hi]
theorem wnum_vl {z : Str} (h : ∀ c ∈ z.cps.toList, c ∈ letters.cps.toList) : ∀ n, wnum z n = vl n z.cps.toList
  | 0 => rfl
  | n + 1 => by
    rw [vl_succ, ← wnum_vl h n, ← dig_dg h n]
    rfl
theorem str_ext {z z' : Str} (h : z.cps.toList = z'.cps.toList) : z = z' := by
  obtain ⟨a⟩ := z
  obtain ⟨b⟩ := z'
  congr 1
  exact Array.toList_inj.mp h
def ltD : PyData → PyData → Bool
  | .int i, .int j => decide (i < j)
  | .str y, .str z => decide (y.cps.toList < z.cps.toList)
  | _, _ => false
/-- two measures of one kind -/
def Like (a b : PyData) : Prop := (∃ i j, a = .int i ∧ b = .int j) ∨ ∃ y z, a = .str y ∧ b = .str z ∧ NumOk (.str y) ∧ NumOk (.str z)
theorem like_lt {a b : PyData} (h : Like a b) : ltD a b = decide (asNum a < asNum b) := by
  rcases h with ⟨i, j, rfl, rfl⟩ | ⟨y, z, rfl, rfl, h1, h2⟩
  · rfl
  · show decide (y.cps.toList < z.cps.toList) = decide (wnum y 8 < wnum z 8)
    rw [wnum_vl h1.2, wnum_vl h2.2]
    have l1 : y.cps.toList.length ≤ 8 := by rw [Array.length_toList]; exact h1.1
    have l2 : z.cps.toList.length ≤ 8 := by rw [Array.length_toList]; exact h2.1
    exact decide_eq_decide.mpr (vl_cmp 8 (fun c hc => low_of c (h1.2 c hc)) (fun c hc => low_of c (h2.2 c hc)) l1 l2)
theorem like_eq {a b : PyData} (h : Like a b) : asNum a = asNum b ↔ a = b := by
  refine ⟨fun e => ?_, fun e => by rw [e]⟩
  rcases h with ⟨i, j, rfl, rfl⟩ | ⟨y, z, rfl, rfl, h1, h2⟩
  · show PyData.int i = PyData.int j
    have : i = j := e
    rw [this]
  · have e' : wnum y 8 = wnum z 8 := e
    rw [wnum_vl h1.2, wnum_vl h2.2] at e'
    have l1 : y.cps.toList.length ≤ 8 := by rw [Array.length_toList]; exact h1.1
    have l2 : z.cps.toList.length ≤ 8 := by rw [Array.length_toList]; exact h2.1
    rw [str_ext (vl_inj 8 (fun c hc => low_of c (h1.2 c hc)) (fun c hc => low_of c (h2.2 c hc)) l1 l2 e')]
theorem meas_like {m : Meas} {b : Bool} {c c' : Cell} (hf : fitsB m b = true) (hk : ∀ n k, m = .rest n k → 2 ≤ k ∧ k ≤ 9) (hc : CellOk b c) (hc' : CellOk b c') : Like (ofD m c.d) (ofD m c'.d) := by
  have n1 := (meas_cell hf hk hc).2
  have n2 := (meas_cell hf hk hc').2
  cases b <;> cases c <;> cases c' <;> first | exact hc.elim | exact hc'.elim | skip
  · cases m <;> first | exact .inl ⟨_, _, rfl, rfl⟩ | cases hf
  · cases m <;> first | exact .inl ⟨_, _, rfl, rfl⟩ | (exact .inr ⟨_, _, rfl, rfl, n1, n2⟩) | cases hf
theorem eqv_like {a b : PyData} (h : Like a b) : PyData.eqv a b = true ↔ a = b := by
  rcases h with ⟨i, j, rfl, rfl⟩ | ⟨y, z, rfl, rfl, _, _⟩
  · rw [eqv_ints, decide_eq_true_eq]
    exact ⟨fun e => by rw [e], fun e => by cases e; rfl⟩
  · rw [eqv_strs, decide_eq_true_eq]
    exact ⟨fun e => by rw [e], fun e => by cases e; rfl⟩
theorem num_shp {a : PyData} (h : NumOk a) : Shp 0 a := by
  cases a with
  | int i => exact shp_int
  | str z =>
    refine shp_str ?_
    unfold PyData.strOk
    rw [← Array.all_toList, List.all_eq_true]
    intro x hx
    have := low_of x (h.2 x hx)
    exact decide_eq_true (by have := this.2; show x < 0x110000; omega)
  | _ => exact h.elim
/-! ### the outcome of two rows, part by part -/
def outc (cs : Cols) (r o : List Cell) : List PartD → Int
  | [] => 0
  | p :: ps =>
    if PyData.eqv (ofD p.m (cellOf cs r p.m.name).d) (ofD p.m (cellOf cs o p.m.name).d) = true then outc cs r o ps
    else if (ltD (ofD p.m (cellOf cs r p.m.name).d) (ofD p.m (cellOf cs o p.m.name).d)) != p.down then -1 else 1
theorem part_like {cs : Cols} {r o : List Cell} (h : ColsOk cs) (hr : RowOk cs r) (ho : RowOk cs o) {m : Meas} (hm : MeasOk cs m) : Like (ofD m (cellOf cs r m.name).d) (ofD m (cellOf cs o m.name).d) := by
  obtain ⟨⟨b, h1, h2⟩, h3⟩ := hm
  exact meas_like h2 h3 (cell_at h hr h1).2 (cell_at h ho h1).2
theorem cmp_outc {cs : Cols} {r o : List Cell} (h : ColsOk cs) (hr : RowOk cs r) (ho : RowOk cs o) : ∀ {ps : List PartD}, (∀ p ∈ ps, MeasOk cs p.m) → cmpI (ranks cs r ps) (ranks cs o ps) = outc cs r o ps
  | [], _ => rfl
  | p :: ps, hp => by
    have ih := cmp_outc h hr ho (ps := ps) fun q hq => hp q (List.mem_cons_of_mem _ hq)
    have lk := part_like h hr ho (hp p List.mem_cons_self)
    have e1 := like_eq lk
    have e2 := like_lt lk
    have e3 : (rankI p (cellOf cs r p.m.name) = rankI p (cellOf cs o p.m.name)) ↔ ofD p.m (cellOf cs r p.m.name).d = ofD p.m (cellOf cs o p.m.name).d := by
      rw [← e1]
      unfold rankI
      cases p.down <;> simp
    show cmpI (rankI p (cellOf cs r p.m.name) :: ranks cs r ps) (rankI p (cellOf cs o p.m.name) :: ranks cs o ps) = _
    unfold outc
    by_cases c : ofD p.m (cellOf cs r p.m.name).d = ofD p.m (cellOf cs o p.m.name).d
    · rw [if_pos ((eqv_like lk).mpr c), ← ih]
      have c' := e3.mpr c
      rw [c']
      unfold cmpI
      simp [HT.lexLt]
    · rw [if_neg fun z => c ((eqv_like lk).mp z)]
      have c' : ¬ rankI p (cellOf cs r p.m.name) = rankI p (cellOf cs o p.m.name) := fun z => c (e3.mp z)
      have c1 : ¬ asNum (ofD p.m (cellOf cs r p.m.name).d) = asNum (ofD p.m (cellOf cs o p.m.name).d) := fun z => c (e1.mp z)
      have e4 : cmpI (rankI p (cellOf cs r p.m.name) :: ranks cs r ps) (rankI p (cellOf cs o p.m.name) :: ranks cs o ps) = if rankI p (cellOf cs r p.m.name) < rankI p (cellOf cs o p.m.name) then -1 else 1 := by
        unfold cmpI
        rw [if_neg (by intro z; exact c' (List.cons.inj z).1)]
        simp [HT.lexLt, c']
      rw [e4, e2]
      unfold rankI
      cases p.down
      · simp
      · simp
        by_cases q : asNum (ofD p.m (cellOf cs r p.m.name).d) < asNum (ofD p.m (cellOf cs o p.m.name).d)
        · rw [if_neg (by omega), if_neg (by omega)]
        · rw [if_pos (by omega), if_pos (by omega)]
end K11
namespace Py
open PySem L2
/-! ### a slot that also says a fact -/
def rAnd (p : Prop) (r : Rep) : Rep := ⟨fun v H => p ∧ r.p v H, fun e h => ⟨h.1, r.mono e h.2⟩⟩
section
variable {α β : Type} {X : Cx} {W W1 : World} {W' : α → World} {N : α → Rs} {rr : α → Rep} {rs M : Rs} {tg it a b e c o : Expr} {r ra rb : Rep} {pos p : Pos} {D : Addr} {st : Stmt} {sts sts' : List Stmt} {O : Outs} {q : Prop}
theorem ew_and' (h : Ew X W rs e r) (hq : q) : Ew X W rs e (rAnd q r) := ew_sub h fun _ _ p => ⟨hq, p⟩
theorem sg_know {σ : St} {H : Hp} {i : Nat} (g : Sg rs σ H) (hi : rs[i]? = some (some (rAnd q r))) : q ∧ Sg (rs.set i (some r)) σ H := by
  obtain ⟨v, _, h⟩ := g.get hi
  exact ⟨h.1, g.re hi fun _ p => p.2⟩
theorem bw_know (i : Nat) (hi : rs[i]? = some (some (rAnd q r))) (h : q → Bw X W (rs.set i (some r)) sts O) : Bw X W rs sts O := by
  have hB : PSs X sts (fun DD σ H => q ∧ sW W (rs.set i (some r)) O DD σ H) := ⟨fun pins s σ H DD I ⟨hq, z⟩ => (h hq).run pins s σ H DD I z⟩
  refine pss_cs hB fun DD σ H ⟨k, g, z⟩ => ?_
  obtain ⟨hq, g'⟩ := sg_know g hi
  exact ⟨hq, k, g', z⟩
theorem bz_know (i : Nat) (hi : rs[i]? = some (some (rAnd q r))) (h : q → Bz X W (rs.set i (some r)) sts W' N) : Bz X W rs sts W' N := by
  have hB : PSs X sts (fun DD σ H => q ∧ sWz W (rs.set i (some r)) W' N DD σ H) := ⟨fun pins s σ H DD I ⟨hq, z⟩ => (h hq).run pins s σ H DD I z⟩
  refine pss_cs hB fun DD σ H ⟨k, g, z⟩ => ?_
  obtain ⟨hq, g'⟩ := sg_know g hi
  exact ⟨hq, k, g', z⟩
theorem br_know (i : Nat) (hi : rs[i]? = some (some (rAnd q r))) (h : q → Br X W (rs.set i (some r)) sts W' rr) : Br X W rs sts W' rr := by
  have hB : PSs X sts (fun DD σ H => q ∧ sWr W (rs.set i (some r)) W' rr DD σ H) := ⟨fun pins s σ H DD I ⟨hq, z⟩ => (h hq).run pins s σ H DD I z⟩
  refine pss_cs hB fun DD σ H ⟨k, g, z⟩ => ?_
  obtain ⟨hq, g'⟩ := sg_know g hi
  exact ⟨hq, k, g', z⟩
/-- a slot's value told in other words -/
theorem bz_open {γ : Type} (i : Nat) {f : γ → Rep} (hi : rs[i]? = some (some r)) (cv : ∀ v H, r.p v H → ∃ c, (f c).p v H) (h : ∀ c, Bz X W (rs.set i (some (f c))) sts W' N) : Bz X W rs sts W' N := by
  have hB : PSs X sts (fun DD σ H => ∃ c, sWz W (rs.set i (some (f c))) W' N DD σ H) := ⟨fun pins s σ H DD I ⟨c, z⟩ => (h c).run pins s σ H DD I z⟩
  refine pss_cs hB fun DD σ H ⟨k, g, z⟩ => ?_
  obtain ⟨v, e1, pv⟩ := g.get hi
  obtain ⟨c, pc⟩ := cv v _ pv
  exact ⟨c, k, sg_put (sg_wipe g) (List.getElem?_eq_some_iff.mp hi).1 e1 pc, z⟩
theorem br_open {γ : Type} (i : Nat) {f : γ → Rep} (hi : rs[i]? = some (some r)) (cv : ∀ v H, r.p v H → ∃ c, (f c).p v H) (h : ∀ c, Br X W (rs.set i (some (f c))) sts W' rr) : Br X W rs sts W' rr := by
  have hB : PSs X sts (fun DD σ H => ∃ c, sWr W (rs.set i (some (f c))) W' rr DD σ H) := ⟨fun pins s σ H DD I ⟨c, z⟩ => (h c).run pins s σ H DD I z⟩
  refine pss_cs hB fun DD σ H ⟨k, g, z⟩ => ?_
  obtain ⟨v, e1, pv⟩ := g.get hi
  obtain ⟨c, pc⟩ := cv v _ pv
  exact ⟨c, k, sg_put (sg_wipe g) (List.getElem?_eq_some_iff.mp hi).1 e1 pc, z⟩
theorem bz_wipe (i : Nat) (h : Bz X W (rs.set i none) sts W' N) : Bz X W rs sts W' N := pss_cs h fun DD σ H ⟨k, g, z⟩ => ⟨k, sg_wipe g, z⟩
theorem br_wipe (i : Nat) (h : Br X W (rs.set i none) sts W' rr) : Br X W rs sts W' rr := pss_cs h fun DD σ H ⟨k, g, z⟩ => ⟨k, sg_wipe g, z⟩
/-! ### tests whose answer is not told -/
def tWTe (W : World) (rs : Rs) : TT := fun σ H Q => W.ok H ∧ Sg rs σ (W.vis H) ∧ ∀ b H', W.ok H' → Ex (W.vis H) (W.vis H') → Q b H'
abbrev Twe (X : Cx) (W : World) (rs : Rs) (e : Expr) : Prop := PT X e (tWTe W rs)
theorem twe_cmp {op : CmpOp} {f : R2} (ho : OpR X (compareOp op) f) (ha : Ew X W rs a ra) (hb : Ew X W rs b rb) (hf : R2w W f ra rb (rEx fun u : Bool => rD X.K (.bool u))) (hm : behindInMarks op b = false := by rfl) : Twe X W rs (.Compare a [op] [b] pos) := by
  refine pt_cs (pt_cmpR ho ha hb hm) ?_
  rintro σ H Q ⟨k, g, q⟩
  refine two ha hb hf (rs := rs) (W := W) ⟨k, g, fun v H' k' e' ⟨u, pv⟩ => ⟨u, rD_bl.mp pv, q u H' k' e'⟩⟩
theorem sw_ifE {as bs : List Stmt} (h : Twe X W rs c) (h1 : Bw X W rs as O) (h2 : Bw X W rs bs O) : Sw X W rs (.If c as bs pos) O := by
  refine ps_cs (ps_if h h1 h2) fun DD σ H z => ⟨z.1, z.2.1, fun b H1 k1 e1 => ?_⟩
  cases b with
  | true => exact iteT (sW_mono z k1 e1 (z.2.1.mono e1))
  | false => exact iteF (sW_mono z k1 e1 (z.2.1.mono e1))
theorem sz_ifE (h : Twe X W rs c) (h1 : Bz X W rs sts W' N) (h2 : Bz X W rs sts' W' N) : Sz X W rs (.If c sts sts' pos) W' N := by
  refine ps_cs (ps_if h h1 h2) fun DD σ H ⟨k, g, q⟩ => ⟨k, g, fun b H1 k1 e1 => ?_⟩
  cases b with
  | true => exact iteT ⟨k1, g.mono e1, fun a σ2 H2 k2 e2 g2 => q a σ2 H2 k2 (e1.trans e2) g2⟩
  | false => exact iteF ⟨k1, g.mono e1, fun a σ2 H2 k2 e2 g2 => q a σ2 H2 k2 (e1.trans e2) g2⟩
/-! ### d[k] = v, d held apart, v not told -/
theorem sz_dput {γ : Type} {o i value : Expr} {pos' : Pos} {kvs : List (L2.Key × V)} {z : Str} {g : γ → V} (hu : X.A.units + 1 < cLine) (ho : Ew X (W.hold D (.dK kvs)) rs o (rRef D)) (hi : Ew X (W.hold D (.dK kvs)) rs i (rD X.K (.str z))) (hv : Ew X (W.hold D (.dK kvs)) rs value r) (hr : ∀ x H, r.p x H → ∃ c, x = g c) (hl : kvs.length < sizeLine)
    (hs : swapsWith value (some (.Subscript o i pos')) pos.line X.env = pure false := by rfl) :
    Sz X (W.hold D (.dK kvs)) rs (.Assign [.Subscript o i pos'] value pos) (fun c => W.hold D (.dK (putK kvs (Sum.inr z) (g c)))) (fun _ => rs) := by
  refine ps_cs (ps_dput hu ho hi hv hs) ?_
  rintro DD σ H ⟨k, gg, q⟩
  refine ⟨k, gg, fun x H1 k1 e1 p1 => ⟨k1, gg.mono e1, fun d H2 k2 e2 p2 => ⟨k2, gg.mono (e1.trans e2), fun y H3 k3 e3 p3 => ?_⟩⟩⟩
  obtain ⟨w, rfl⟩ := hr x _ p1
  refine ⟨D, upd H3 D (.dK (putK kvs (Sum.inr z) (g w))), p2, ?_, ?_⟩
  · rw [rD_str.mp p3]
    exact DPut.k (k := Sum.inr z) k3.2.2 hl
  · have hv' : (W.hold D (.dK (putK kvs (Sum.inr z) (g w)))).vis (upd H3 D (.dK (putK kvs (Sum.inr z) (g w)))) = (W.hold D (.dK kvs)).vis H3 := hold_upd
    exact q w σ _ (hold_okUpd k3) (by rw [hv']; exact (e1.trans e2).trans e3) (by rw [hv']; exact gg.mono ((e1.trans e2).trans e3))
/-! ### a loop that writes an object held apart, how often is not told -/
def iW2e {γ : Type} (W Wg : World) (rs : Rs) (n : γ → Nat) (item : Nat → Rep) : TI := fun σ H R => W.ok H ∧ Sg rs σ (W.vis H) ∧ ∀ (c : γ) (J : It) (G : Hp → Prop) (Y : Nat → Hp → V → Hp → Prop) (H1 : Hp), Walk J (n c) G Y → W.ok H1 → Ex (W.vis H) (W.vis H1) →
  (∀ H2, Wg.ok H2 → Ex (W.vis H1) (Wg.vis H2) → G H2) → (∀ i x H2 H3, i < n c → Y i H2 x H3 → (H3 = H2 ∧ ∀ G2, Ex (W.vis H1) G2 → Ex G2 H2 → (item i).p x G2) ∨ ∃ T o, H2 T = none ∧ H3 = upd H2 T o ∧ ∀ G2, Ex (W.vis H1) G2 → Ex G2 H2 → (item i).p x (upd G2 T o)) → R J H1
abbrev Iw2e {γ : Type} (X : Cx) (W Wg : World) (rs : Rs) (tg it : Expr) (n : γ → Nat) (item : Nat → Rep) : Prop := PI X tg it (iW2e W Wg rs n item)
theorem i2e_seq {γ : Type} {Wg : World} {rl : γ → List Rep} {item : Nat → Rep} (h : Ew X W rs it (rEx fun c => rSeq X.K (rl c))) (hr : ∀ c i r, (rl c)[i]? = some r → r = item i) : Iw2e X W Wg rs tg it (fun c => (rl c).length) item := by
  refine pi_cs (pi_list h) ?_
  rintro σ H R ⟨k, g, q⟩
  refine ⟨k, g, ?_⟩
  rintro v H1 k1 e1 ⟨c, p, xs, ev, hs, hrr⟩
  refine ⟨p, ev, ⟨xs, sqL_mono (W.sub H1) hs⟩, q c (Itl X.K p) (fun H => SqL X.K H p xs) (YAt xs) H1 (by show Walk _ (rl c).length _ _; rw [hrr.len]; exact walk_list) k1 e1 (fun H2 _ e2 => sqL_mono (e2.trans (Wg.sub H2)) hs) ?_⟩
  rintro i x H2 H3 hi ⟨eH, hx⟩
  obtain ⟨r, h1, h2⟩ := hrr.get' hx
  refine .inl ⟨eH, fun G2 e2 _ => ?_⟩
  rw [← hr c i r h1]
  exact r.mono e2 h2
theorem i2e_range {γ : Type} {Wg : World} {j : γ → Int} (hg : Gl X "range") (hm : X.mg "range" = none) (h : Ew X W rs a (rEx fun c => rD X.K (.int (j c)))) (hj : ∀ c, -(2 ^ 62) ≤ j c ∧ j c < 2 ^ 62) (hs : starEach [a] X.env = [(false, eval a X.env)] := by rfl) :
    Iw2e X W Wg rs tg (.Call (.Name "range" p) [a] [] pos) (fun c => (j c).toNat) (fun i => rD X.K (.int i)) := by
  refine pi_cs (pi_range1 hg hm (aw_cons h aw_nil hs) hs) ?_
  rintro σ H R ⟨k, g, q⟩
  refine ⟨k, g, ?_⟩
  intro vs H1 k1 e1 hp
  obtain ⟨x, rfl, c, pc⟩ := reps1 hp
  refine ⟨j c, by rw [rD_int.mp pc], (hj c).1, (hj c).2, q c (Itr 0 (j c).toNat) (fun _ => True) _ H1 walk_range k1 e1 (fun _ _ _ => trivial) ?_⟩
  rintro i x H2 H3 hi ⟨eH, hx⟩
  exact .inl ⟨eH, fun G2 _ _ => rD_int.mpr (hx.trans (congrArg V.int (Int.zero_add _)))⟩
theorem sz_forE {γ : Type} {n : γ → Nat} {item : Nat → Rep} {body : List Stmt} (B : Nat) (f : β → HO) (Ns Ms : Nat → β → Rs) (b0 : β) (hi : Iw2e X (W.hold D (f b0)) (W.obj D fun _ => True) (Ns 0 b0) tg it n item) (hB : ∀ c, n c ≤ B) (hg : ∀ i b, i < B → Gw X (W.hold D (f b)) (Ns i b) tg (item i) (Ms i b))
    (hb : ∀ i b, i < B → Bz X (W.hold D (f b)) (Ms i b) body (fun b => W.hold D (f b)) (Ns (i + 1))) (hp : PassesOwn (model X.prog X.w) X.A X.env X.xe) (hc : X.calm = true)
    (hs : ∀ x, foldedSetIterable it X.env x = pure x := by intro _; rfl) : Sz X (W.hold D (f b0)) (Ns 0 b0) (.For tg it body [] pos) (fun cb : γ × β => W.hold D (f cb.2)) (fun cb => Ns (n cb.1) cb.2) := by
  have hG : PG X tg (fun v σ H R => ∃ i b, i < B ∧ gW (W.hold D (f b)) (Ns i b) (item i) (Ms i b) v σ H R) := ⟨fun pins s σ H v u R I rv ⟨i, b, hi, q⟩ => (hg i b hi).run pins s σ H v u R I rv q⟩
  have hBB : PSs X body (fun DD σ H => ∃ i b, i < B ∧ sWz (W.hold D (f b)) (Ms i b) (fun b => W.hold D (f b)) (Ns (i + 1)) DD σ H) := ⟨fun pins s σ H DD I ⟨i, b, hi, q⟩ => (hb i b hi).run pins s σ H DD I q⟩
  refine ps_cs (ps_for hp hc hi hG hBB hs) ?_
  rintro DD σ H ⟨k, g, q⟩
  refine ⟨k, g, ?_⟩
  intro c J G Y H1 w k1 e1 hGk hY
  have va : ∀ b H, (W.hold D (f b)).vis H = (W.hold D (f b0)).vis H := fun b H => hold_any
  have vo : ∀ H, (W.obj D fun _ => True).vis H = (W.hold D (f b0)).vis H := fun H => obj_vis
  refine for_it (D := DD) (g := fun v σ H R => ∃ i b, i < B ∧ gW (W.hold D (f b)) (Ns i b) (item i) (Ms i b) v σ H R) (tb := fun DD σ H => ∃ i b, i < B ∧ sWz (W.hold D (f b)) (Ms i b) (fun b => W.hold D (f b)) (Ns (i + 1)) DD σ H) w
    (fun i σ' H' => ∃ b, (W.hold D (f b)).ok H' ∧ Ex ((W.hold D (f b0)).vis H1) ((W.hold D (f b0)).vis H') ∧ Sg (Ns i b) σ' ((W.hold D (f b0)).vis H')) ⟨b0, k1, Ex.refl _, g.mono e1⟩
    (fun i σ' H' _ ⟨b, p, e', _⟩ => hGk H' (hold_obj p trivial) (by rw [vo]; exact e')) ?_ ?_
  · rintro i x σ' H' H'' hi' ⟨b, k', e', g'⟩ hy
    have hiB : i < B := Nat.lt_of_lt_of_le hi' (hB c)
    obtain ⟨k2, e2, p2⟩ : (W.hold D (f b)).ok H'' ∧ Ex ((W.hold D (f b0)).vis H') ((W.hold D (f b0)).vis H'') ∧ (item i).p x ((W.hold D (f b0)).vis H'') := by
      rcases hY i x H' H'' hi' hy with ⟨rfl, hp2⟩ | ⟨T, o, hT, rfl, hp2⟩
      · exact ⟨k', Ex.refl _, hp2 _ e' (World.sub _ _)⟩
      · have hv := World.visNew (o := o) k' hT
        rw [va, va] at hv
        refine ⟨World.okNew k' hT, ?_, ?_⟩
        · rw [← va b, ← va b]
          exact World.visEx k' (Ex.new hT)
        · rw [hv]
          exact hp2 _ e' (World.sub _ _)
    refine ⟨i, b, hiB, k2, by rw [va]; exact g'.mono e2, by rw [va]; exact p2, fun σ3 H3 k3 e3 g3 => ⟨i, b, hiB, k3, g3, fun b4 σ4 H4 k4 e4 g4 => ⟨b4, k4, ?_, ?_⟩⟩⟩
    · rw [va] at e3 e4
      rw [va] at e3 e4
      exact ((e'.trans e2).trans e3).trans e4
    · rw [va] at g4
      exact g4
  · rintro σ' H' ⟨b, k', e', g'⟩
    exact q (c, b) σ' H' k' (by rw [va]; exact e1.trans e') (by rw [va]; exact g')
end
end Py
namespace Py
open PySem L2
section
variable {X : Cx} {W : World} {rs : Rs} {a b e o i' : Expr} {r ra rb : Rep} {pos pos' p p2 : Pos} {D : Addr} {rl : List Rep}
/-! ### slices of tuples, of any length -/
theorem cut_all {xs : List V} {lo hi : Option Int} (h : HT.sIx xs.length 0 lo = 0 ∧ HT.sIx xs.length xs.length hi = xs.length) : cutV xs lo hi = xs := by
  unfold cutV
  rw [h.1, h.2]
  simp
/-- a slice of a tuple, by what it takes -/
theorem sl_any {lo hi : Option Int} {xs : List V} {rl' : List Rep} {a' : Addr} {H : Hp} {Q : VK} (k : W.ok H) (hs : SqT X.K H a' xs) (hs' : SqT X.K (W.vis H) a' xs) (hr : Reps rl' (cutV xs lo hi) (W.vis H)) (q : ∀ v H', W.ok H' → Ex (W.vis H) (W.vis H') → (rTup X.K rl').p v (W.vis H') → Q v H') : rSlA X.K (.ref a') lo hi H Q := by
  refine ⟨a', xs, rfl, hs, fun h => ?_, fun _ z hz => ?_⟩
  · rw [cut_all h] at hr
    exact q _ H k (Ex.refl _) ⟨a', xs, rfl, hs', hr⟩
  · exact q _ _ (World.okNew k hz) (World.visEx k (Ex.new hz)) ⟨z, _, rfl, .inl (.inl (by rw [World.visNew k hz, upd_same])), hr.mono (World.visEx k (Ex.new hz))⟩
theorem ew_takeA {m : Nat} (ha : Ew X W rs a (rTup X.K rl)) (hb : Ew X W rs b (rD X.K (.int m))) : Ew X W rs (.Subscript a (.Slice none (some b) none p2) pos) (rTup X.K (rl.take m)) := by
  refine pe_cs (pe_slice sl_tupA ha po_none (po_some hb)) ?_
  rintro σ H Q ⟨k, g, q⟩
  refine ⟨k, g, fun v H1 k1 e1 pv => ?_⟩
  show tW W rs (rD X.K (.int m)) σ H1 _
  refine ⟨k1, g.mono e1, fun w H2 k2 e2 pw => ⟨m, rD_int.mp pw, ?_⟩⟩
  obtain ⟨a', xs, ev, hs, hr⟩ := (rTup X.K rl).mono e2 pv
  subst ev
  refine sl_any k2 (sqT_mono (W.sub H2) hs) hs ?_ fun v H' k' e' pv => q v H' k' ((e1.trans e2).trans e') pv
  have e3 : cutV xs none (some (m : Int)) = xs.take m := by
    unfold cutV
    rw [HT.sIx_none, HT.sIx_nat, List.drop_zero, Nat.sub_zero]
    by_cases c : m ≤ xs.length
    · rw [Nat.min_eq_left c]
    · rw [Nat.min_eq_right (by omega), List.take_length, List.take_of_length_le (by omega)]
  rw [e3]
  exact reps_take m hr
theorem ew_dropA {m : Nat} (ha : Ew X W rs a (rTup X.K rl)) (hb : Ew X W rs b (rD X.K (.int m))) : Ew X W rs (.Subscript a (.Slice (some b) none none p2) pos) (rTup X.K (rl.drop m)) := by
  refine pe_cs (pe_slice sl_tupA ha (po_some hb) po_none) ?_
  rintro σ H Q ⟨k, g, q⟩
  refine ⟨k, g, fun v H1 k1 e1 pv => ?_⟩
  show tW W rs (rD X.K (.int m)) σ H1 _
  refine ⟨k1, g.mono e1, fun w H2 k2 e2 pw => ⟨m, rD_int.mp pw, ?_⟩⟩
  obtain ⟨a', xs, ev, hs, hr⟩ := (rTup X.K rl).mono e2 pv
  subst ev
  refine sl_any k2 (sqT_mono (W.sub H2) hs) hs ?_ fun v H' k' e' pv => q v H' k' ((e1.trans e2).trans e') pv
  have e3 : cutV xs (some (m : Int)) none = xs.drop m := by
    unfold cutV
    rw [HT.sIx_none, HT.sIx_nat]
    by_cases c : m ≤ xs.length
    · rw [Nat.min_eq_left c, List.take_of_length_le (by rw [List.length_drop]; omega)]
    · rw [Nat.min_eq_right (by omega), Nat.sub_self, List.take_zero, List.drop_of_length_le (by omega)]
  rw [e3]
  exact reps_drop m hr
/-- xs[:k] of a list, k not told -/
theorem ew_takeLE {γ : Type} {m : γ → Nat} (ha : Ew X W rs a (rSeq X.K rl)) (hb : Ew X W rs b (rEx fun c => rD X.K (.int (m c : Nat)))) : Ew X W rs (.Subscript a (.Slice none (some b) none p2) pos) (rEx fun c => rLst (rl.take (m c))) := by
  refine pe_cs (pe_slice sl_list ha po_none (po_some hb)) ?_
  rintro σ H Q ⟨k, g, q⟩
  refine ⟨k, g, fun v H1 k1 e1 pv => ?_⟩
  show tW W rs _ σ H1 _
  refine ⟨k1, g.mono e1, fun w H2 k2 e2 ⟨c, pw⟩ => ⟨m c, rD_int.mp pw, ?_⟩⟩
  obtain ⟨a', xs, ev, hs, hr⟩ := (rSeq X.K rl).mono e2 pv
  refine ⟨a', xs, ev, sqL_mono (W.sub H2) hs, fun z hz => ?_⟩
  have e3 : cutV xs none (some (m c : Int)) = xs.take (m c) := by
    unfold cutV
    rw [HT.sIx_none, HT.sIx_nat, List.drop_zero, Nat.sub_zero]
    by_cases c' : m c ≤ xs.length
    · rw [Nat.min_eq_left c']
    · rw [Nat.min_eq_right (by omega), List.take_length, List.take_of_length_le (by omega)]
  rw [e3]
  exact q _ _ (World.okNew k2 hz) ((e1.trans e2).trans (World.visEx k2 (Ex.new hz))) ⟨c, z, _, rfl, by rw [World.visNew k2 hz, upd_same], (reps_take (m c) hr).mono (World.visEx k2 (Ex.new hz))⟩
theorem reps_rev : ∀ {rl : List Rep} {xs : List V} {H : Hp}, Reps rl xs H → Reps rl.reverse xs.reverse H
  | [], [], _, _ => trivial
  | r :: rl, x :: xs, H, h => by
    rw [List.reverse_cons, List.reverse_cons]
    exact (reps_rev h.2).snoc h.1
  | [], _ :: _, _, h => h.elim
  | _ :: _, [], _, h => h.elim
/-- xs[::-1] of a list -/
theorem ew_revL {k : Nat} {p1 p2 p3 : Pos} (ha : Ew X W rs a (rSeq X.K rl)) : Ew X W rs (.Subscript a (.Slice none none (some (.UnaryOp .USub (.Constant (.int 1) k p1) p2)) p3) pos) (rLst rl.reverse) := by
  refine pe_cs (pe_revL ha) ?_
  rintro σ H Q ⟨k, g, q⟩
  exact ⟨k, g, fun v H1 k1 e1 ⟨a', xs, ev, hs, hr⟩ => ⟨a', xs, ev, sqL_mono (W.sub H1) hs, fun z hz => q _ _ (World.okNew k1 hz) (e1.trans (World.visEx k1 (Ex.new hz))) ⟨z, _, rfl, by rw [World.visNew k1 hz, upd_same], (reps_rev hr).mono (World.visEx k1 (Ex.new hz))⟩⟩⟩
/-! ### lists held apart: the last item, membership -/
theorem at_last {xs : List V} {x : V} (h : xs[xs.length - 1]? = some x) : atI xs (-1) = some x := by
  have hl := (List.getElem?_eq_some_iff.mp h).1
  unfold atI ixN
  rw [if_neg (by decide), if_pos (by omega)]
  have e : (-1 + (xs.length : Int)).toNat = xs.length - 1 := by omega
  show (some (-1 + (xs.length : Int)).toNat).bind (fun j => xs[j]?) = some x
  rw [e]
  exact h
theorem ew_ixLastA {xs : List V} (ha : Ew X (W.hold D (.lst xs)) rs o (rAtL D rl xs)) (hb : Ew X (W.hold D (.lst xs)) rs a (rD X.K (.int (-1)))) (hr : rl[rl.length - 1]? = some r) (hs : PlainIx a) : Ew X (W.hold D (.lst xs)) rs (.Subscript o a pos) r :=
  ew_ix ix_list ha hb (fun x y H k ⟨ev, h⟩ q Q n => by
    obtain ⟨v, hv, pv⟩ := h.get hr
    rw [h.len] at hv
    exact ⟨D, xs, -1, v, ev, rD_int.mp q, .of k.2.2, at_last hv, n v H k (Ex.refl _) pv⟩) hs
theorem reps_set : ∀ {rl : List Rep} {xs : List V} {H : Hp} (j : Nat) {r : Rep} {x : V}, Reps rl xs H → r.p x H → Reps (rl.set j r) (xs.set j x) H
  | [], [], _, _, _, _, _, _ => trivial
  | _ :: _, _ :: _, _, 0, _, _, h, p => ⟨p, h.2⟩
  | _ :: _, _ :: _, _, j + 1, _, _, h, p => ⟨h.1, reps_set j h.2 p⟩
  | [], _ :: _, _, _, _, _, h, _ => h.elim
  | _ :: _, [], _, _, _, _, h, _ => h.elim
/-- xs[-1] = e, xs held apart -/
theorem sz_setLast (i : Nat) {xs : List V} (hi : rs[i]? = some (some (rAtL D rl xs))) (hl : 0 < rl.length) (ho : Ew X (W.hold D (.lst xs)) rs o (rAtL D rl xs)) (ha : Ew X (W.hold D (.lst xs)) rs a (rD X.K (.int (-1)))) (he : Ew X (W.hold D (.lst xs)) rs e r)
    (hass : ∀ v, assign (.Subscript o a pos') X.env v = (do
      let ov ← holding [v] (eval o X.env)
      let iv ← holding [v, ov] (eval a X.env)
      standAt pos'
      holding [v, ov, iv] (setItem ov iv v)
      release [v, ov, iv] []) := by intro _; rfl)
    (hs : swapsWithSole [.Subscript o a pos'] e pos.line X.env = pure false := by rfl) (hw : swappedStores [.Subscript o a pos'] e X.env = pure none := by rfl)
    (h1 : (assignEach [.Subscript o a pos'] X.env).map (·.2) = [assign (.Subscript o a pos') X.env] := by rfl) :
    Sz X (W.hold D (.lst xs)) rs (.Assign [.Subscript o a pos'] e pos) (fun y : V => W.hold D (.lst (xs.set (rl.length - 1) y))) (fun y => rs.set i (some (rAtL D (rl.set (rl.length - 1) r) (xs.set (rl.length - 1) y)))) := by
  refine ps_cs (ps_asg he (pg_sub ho ha set_list hass) hs hw h1) ?_
  rintro DD σ H ⟨k, g, q⟩
  refine ⟨k, g, fun v H1 k1 e1 p1 => ⟨k1, g.mono e1, fun x H2 k2 e2 p2 => ⟨k2, g.mono (e1.trans e2), fun y H3 k3 e3 p3 => ?_⟩⟩⟩
  have hlen : rl.length = xs.length := p2.2.len
  refine ⟨D, xs, -1, rl.length - 1, p2.1, rD_int.mp p3, k3.2.2, ?_, ?_⟩
  · unfold ixN
    rw [if_neg (by decide), if_pos (by omega)]
    congr 1
    omega
  · have hv : (W.hold D (.lst (xs.set (rl.length - 1) v))).vis (upd H3 D (.lst (xs.set (rl.length - 1) v))) = (W.hold D (.lst xs)).vis H3 := hold_upd
    refine q v σ _ (hold_okUpd k3) (by rw [hv]; exact (e1.trans e2).trans e3) ?_
    rw [hv]
    exact (g.mono ((e1.trans e2).trans e3)).re hi fun w pw => ⟨pw.1, reps_set _ pw.2 (r.mono (e2.trans e3) p1)⟩
/-- e in xs, e not in xs, xs held apart with data for items -/
theorem tw_notInA {d : PyData} {ds : List PyData} {xs : List V} (hu : X.A.units + 65 < cLine) (ha : Ew X (W.hold D (.lst xs)) rs a (rD X.K d)) (ho : Ew X (W.hold D (.lst xs)) rs o (rAtL D (ds.map (rD X.K)) xs)) (h1 : SeqAt.shaped d = true) (h2 : SeqAt.shaped (.list ds) = true) (hm : behindInMarks .NotIn o = false := by rfl) :
    Tw X (W.hold D (.lst xs)) rs (.Compare a [.NotIn] [o] pos) (!ds.any fun z => PyData.eqv z d) :=
  tw_cmp (op_notInD hu) ha ho (fun x y H k p ⟨ev, h⟩ Q q => by
    subst ev
    exact ⟨d, ds, dp_mono (World.sub _ H) p, .lst (.of k.2.2) (dpAll_reps.mpr (h.mono (World.sub _ H))), h1, h2, q _ H k (Ex.refl _) (Dp.bl _)⟩) hm
/-- a < b of texts -/
theorem ew_ltS {y z : Str} (ha : Ew X W rs a (rD X.K (.str y))) (hb : Ew X W rs b (rD X.K (.str z))) : Ew X W rs (.Compare a [.Lt] [b] pos) (rD X.K (.bool (decide (y.cps.toList < z.cps.toList)))) :=
  ew_cmp op_lt_str ha hb (fun x v H k p q Q n => ⟨y, z, rD_str.mp p, rD_str.mp q, n _ H k (Ex.refl _) (Dp.bl _)⟩) (nomark _)
theorem nd_atL {D : Addr} {rl : List Rep} {xs : List V} (h : ∀ r ∈ rl, Nd r) : Nd (rAtL D rl xs) := fun v H D' kvs hd ⟨e, p⟩ => ⟨e, nd_reps hd h p⟩
theorem nd_and {q : Prop} {r : Rep} (h : Nd r) : Nd (rAnd q r) := fun v H D kvs hd ⟨e, p⟩ => ⟨e, h v H D kvs hd p⟩
end
end Py
namespace Py
open PySem L2
section
variable {α : Type} {X : Cx} {W : World} {W' : α → World} {N : α → Rs} {rr : α → Rep} {rs M : Rs} {r : Rep} {pos pos' dpos : Pos} {D : Addr} {st : Stmt} {sts : List Stmt} {O : Outs} {es : List Expr} {rl : List Rep}
theorem bw_of_br (h : Br X W rs sts (fun _ : Unit => W) (fun _ => r)) : Bw X W rs sts ⟨r, none, none, none⟩ := pss_cs h fun DD σ H ⟨k, g, q, _⟩ => ⟨k, g, fun _ v H' k' e' pv => q v H' k' e' pv⟩
theorem bw_of_bz (h : Bz X W rs sts (fun _ : Unit => W) (fun _ => M)) : Bw X W rs sts (O.to M) := pss_cs h fun DD σ H ⟨k, g, _, q, _⟩ => ⟨k, g, fun _ σ' H' k' e' g' => q M rfl σ' H' k' e' g'⟩
theorem sw_of_sz (h : Sz X W rs st (fun _ : Unit => W) (fun _ => M)) : Sw X W rs st (O.to M) := ps_cs h fun DD σ H ⟨k, g, _, q, _⟩ => ⟨k, g, fun _ σ' H' k' e' g' => q M rfl σ' H' k' e' g'⟩
theorem bz_of_bw (a : α) (h : Bw X (W' a) rs sts ⟨rNo, some (N a), none, none⟩) : Bz X (W' a) rs sts W' N := pss_cs h fun DD σ H ⟨k, g, q⟩ => ⟨k, g, (fun v H' _ _ pv => pv.elim), (fun N' z σ' H' k' e' g' => by cases z; exact q a σ' H' k' e' g'), (fun N z => nomatch z), (fun N z => nomatch z)⟩
/-- x = [a, b, ..], held apart from here on -/
theorem bz_growL (i : Nat) {x : Str} (hN : X.N.Nodup) (hi : X.N[i]? = some x) (hx : Loc X.env.scope x) (ha : Aw X W rs es rl) (hl : rl.length ≤ 1000) (h : ∀ D xs, Bz X (W.hold D (.lst xs)) (rs.set i (some (rAtL D rl xs))) sts W' N)
    (hs : swapsWith (.List es dpos) (some (.Name x pos')) pos.line X.env = pure false := by rfl)
    (hf : X.fn x = true ∨ X.env.scope.names.lookup x = some .local := by first | exact .inl rfl | exact .inr rfl | assumption) : Bz X W rs (.Assign [.Name x pos'] (.List es dpos) pos :: sts) W' N := by
  have hB : PSs X sts (fun DD σ H => ∃ D xs, sWz (W.hold D (.lst xs)) (rs.set i (some (rAtL D rl xs))) W' N DD σ H) := ⟨fun pins s σ H DD I ⟨D, xs, q⟩ => (h D xs).run pins s σ H DD I q⟩
  refine pss_cs (pss_cons (ps_set hN hi hx (pe_lst ha) hs hf) hB) ?_
  rintro DD σ H ⟨k, g, q⟩
  refine ⟨k, g, fun vs H1 k1 e1 p1 => ⟨by rw [← p1.len]; exact Nat.le_of_lt (small1000 (by omega)), fun D hD => ?_⟩⟩
  have hv : (W.hold D (.lst vs)).vis (upd H1 D (.lst vs)) = W.vis H1 := by
    rw [hold_vis, World.visNew k1 hD]
    funext a
    by_cases c : a = D
    · subst c
      rw [if_pos rfl, World.visNone hD]
    · rw [if_neg c, upd_ne c]
  refine ⟨D, vs, hold_new k1 hD, ?_, fun a σ' H' k' e' g' => q a σ' H' k' (e1.trans (by rw [hv] at e'; exact e')) g'⟩
  rw [hv]
  exact (g.mono e1).set ⟨rfl, p1⟩
theorem br_growL (i : Nat) {x : Str} (hN : X.N.Nodup) (hi : X.N[i]? = some x) (hx : Loc X.env.scope x) (ha : Aw X W rs es rl) (hl : rl.length ≤ 1000) (h : ∀ D xs, Br X (W.hold D (.lst xs)) (rs.set i (some (rAtL D rl xs))) sts W' rr)
    (hs : swapsWith (.List es dpos) (some (.Name x pos')) pos.line X.env = pure false := by rfl)
    (hf : X.fn x = true ∨ X.env.scope.names.lookup x = some .local := by first | exact .inl rfl | exact .inr rfl | assumption) : Br X W rs (.Assign [.Name x pos'] (.List es dpos) pos :: sts) W' rr := by
  have hB : PSs X sts (fun DD σ H => ∃ D xs, sWr (W.hold D (.lst xs)) (rs.set i (some (rAtL D rl xs))) W' rr DD σ H) := ⟨fun pins s σ H DD I ⟨D, xs, q⟩ => (h D xs).run pins s σ H DD I q⟩
  refine pss_cs (pss_cons (ps_set hN hi hx (pe_lst ha) hs hf) hB) ?_
  rintro DD σ H ⟨k, g, q⟩
  refine ⟨k, g, fun vs H1 k1 e1 p1 => ⟨by rw [← p1.len]; exact Nat.le_of_lt (small1000 (by omega)), fun D hD => ?_⟩⟩
  have hv : (W.hold D (.lst vs)).vis (upd H1 D (.lst vs)) = W.vis H1 := by
    rw [hold_vis, World.visNew k1 hD]
    funext a
    by_cases c : a = D
    · subst c
      rw [if_pos rfl, World.visNone hD]
    · rw [if_neg c, upd_ne c]
  refine ⟨D, vs, hold_new k1 hD, ?_, fun a v H' k' e' pv => q a v H' k' (e1.trans (by rw [hv] at e'; exact e')) pv⟩
  rw [hv]
  exact (g.mono e1).set ⟨rfl, p1⟩
theorem bz_w (h : Sw X W rs st ((⟨rNo, none, none, none⟩ : Outs).to M)) (h2 : Bz X W M sts W' N) : Bz X W rs (st :: sts) W' N := bz_consw h h2
theorem br_w (h : Sw X W rs st ((⟨rNo, none, none, none⟩ : Outs).to M)) (h2 : Br X W M sts W' rr) : Br X W rs (st :: sts) W' rr := br_consw h h2
theorem i2_n {Wg : World} {tg it : Expr} {n n' : Nat} {item : Nat → Rep} (h : Iw2 X W Wg rs tg it n item) (e : n = n') : Iw2 X W Wg rs tg it n' item := by
  subst e
  exact h
/-- what only goes on goes on anywhere -/
theorem sw_any (h : Sw X W rs st ⟨rNo, some M, none, none⟩) : Sw X W rs st (O.to M) := ps_cs h fun DD σ H ⟨k, g, _, q, _⟩ => ⟨k, g, (fun v H' _ _ pv => pv.elim), q, (fun N z => nomatch z), (fun N z => nomatch z)⟩
theorem wh {c : Expr} {body : List Stmt} {n : Nat} (Ns : Nat → Rs) (hc : ∀ i, i ≤ n → Tw X W (Ns i) c (decide (i < n))) (hb : ∀ i, i < n → Bw X W (Ns i) body ((⟨rNo, none, none, none⟩ : Outs).to (Ns (i + 1)))) (hp : PassesOwn (model X.prog X.w) X.A X.env X.xe := by exact .never) : Sw X W (Ns 0) (.While c body [] pos) (O.to (Ns n)) := sw_any (sw_while Ns hp hc hb)
/-- a fact is noted in a slot -/
theorem bw_say {q : Prop} (i : Nat) {r' : Rep} (hi : rs[i]? = some (some r')) (hq : q) (h : Bw X W (rs.set i (some (rAnd q r'))) sts O) : Bw X W rs sts O :=
  pss_cs h fun DD σ H ⟨k, g, z⟩ => ⟨k, g.re hi fun _ p => ⟨hq, p⟩, z⟩
theorem bz_say {q : Prop} (i : Nat) {r' : Rep} (hi : rs[i]? = some (some r')) (hq : q) (h : Bz X W (rs.set i (some (rAnd q r'))) sts W' N) : Bz X W rs sts W' N :=
  pss_cs h fun DD σ H ⟨k, g, z⟩ => ⟨k, g.re hi fun _ p => ⟨hq, p⟩, z⟩
theorem bz_nilN (a : α) (hW : W = W' a) (hN : rs = N a) : Bz X W rs [] W' N := by
  subst hW
  subst hN
  exact bz_nil a
/-- a list held apart is let go -/
theorem bz_out (i : Nat) {rl : List Rep} {xs : List V} (hi : rs[i]? = some (some (rAtL D rl xs))) (h : Bz X W (rs.set i (some (rLst rl))) sts W' N) : Bz X (W.hold D (.lst xs)) rs sts W' N := by
  refine pss_cs h ?_
  rintro DD σ H ⟨k, g, q⟩
  have hseen := hold_seen k
  refine ⟨k.1, ?_, fun a σ' H' k' e' g' => q a σ' H' k' (hold_sub.trans e') g'⟩
  exact (g.mono hold_sub).re hi fun v p => ⟨D, xs, p.1, hseen, p.2⟩
end
end Py
namespace K11
open PySem L2 Py
theorem kd_inj {k k' : Kd} : (k.s == k'.s) = decide (k = k') := by cases k <;> cases k' <;> decide +kernel
theorem eqv_t (q q' : QD) : PyData.eqv q.t q'.t = decide (q = q') := by
  obtain ⟨k, n, v, u⟩ := q
  obtain ⟨k', n', v', u'⟩ := q'
  show PyData.eqv (.tuple [.str k.s, .str n, .int v, .bool u]) (.tuple [.str k'.s, .str n', .int v', .bool u']) = _
  rw [PyData.eqv]
  have hk : (k.s = k'.s) = (k = k') := by
    refine propext ⟨fun h => ?_, fun h => by rw [h]⟩
    have z := kd_inj (k := k) (k' := k')
    rw [h] at z
    simpa using z.symm
  simp only [PyData.eqvAll, eqv_str, eqv_int, eqv_bl, beq_str, hk]
  by_cases h1 : k = k' <;> by_cases h2 : n = n' <;> by_cases h3 : v = v' <;> by_cases h4 : u = u' <;> simp [h1, h2, h3, h4]
theorem lay_t {q : QD} (h : Good q.name) : q.t.canLay0 = true ∧ q.t.depth = 1 := by
  obtain ⟨k, n, v, u⟩ := q
  have hk : PyData.strOk k.s = true := by cases k <;> decide +kernel
  have hn : PyData.strOk n = true := h.strOk
  simp [QD.t, PyData.canLay0, PyData.canLayAll0, PyData.depth, PyData.depthAll, hk, hn]
theorem shaped_t {q : QD} (h : Good q.name) : SeqAt.shaped q.t = true := by
  obtain ⟨h1, h2⟩ := lay_t h
  simp [SeqAt.shaped, h1, h2]
theorem lay_ts : ∀ {qs : List QD}, (∀ q ∈ qs, Good q.name) → PyData.canLayAll0 (qs.map QD.t) = true ∧ PyData.depthAll (qs.map QD.t) ≤ 1
  | [], _ => ⟨rfl, Nat.zero_le _⟩
  | q :: qs, h => by
    obtain ⟨h1, h2⟩ := lay_t (h q (List.mem_cons_self ..))
    obtain ⟨h3, h4⟩ := lay_ts (qs := qs) fun q hq => h q (List.mem_cons_of_mem _ hq)
    constructor
    · show (q.t.canLay0 && PyData.canLayAll0 (qs.map QD.t)) = true
      rw [h1, h3] <;> rfl
    · show max q.t.depth (PyData.depthAll (qs.map QD.t)) ≤ 1
      omega
theorem shaped_ts {qs : List QD} (h : ∀ q ∈ qs, Good q.name) : SeqAt.shaped (.list (qs.map QD.t)) = true := by
  obtain ⟨h1, h2⟩ := lay_ts h
  have e1 : PyData.canLay0 (.list (qs.map QD.t)) = true := h1
  have e2 : PyData.depth (.list (qs.map QD.t)) ≤ 64 := by show PyData.depthAll (qs.map QD.t) + 1 ≤ 64; omega
  simp [SeqAt.shaped, e1, e2]
theorem eqv_nil (qs : List QD) : PyData.eqv (.list (qs.map QD.t)) (.list []) = decide (qs = []) := by
  cases qs with
  | nil => decide +kernel
  | cons q qs =>
    show PyData.eqv (.list (q.t :: qs.map QD.t)) (.list []) = _
    rw [PyData.eqv, PyData.eqvAll]
    simp
theorem eqv_ts : ∀ (qs ps : List QD), PyData.eqvAll (qs.map QD.t) (ps.map QD.t) = decide (qs = ps)
  | [], [] => by simp [PyData.eqvAll]
  | [], _ :: _ => by simp [PyData.eqvAll]
  | _ :: _, [] => by simp [PyData.eqvAll]
  | q :: qs, p :: ps => by
    show PyData.eqvAll (q.t :: qs.map QD.t) (p.t :: ps.map QD.t) = _
    rw [PyData.eqvAll, eqv_t, eqv_ts qs ps]
    by_cases h1 : q = p <;> by_cases h2 : qs = ps <;> simp [h1, h2]
theorem part_pl (q : QD) : q.pl.part = q.part := by
  obtain ⟨k, n, v, u⟩ := q
  cases k <;> rfl
theorem pl_part {q q' : QD} : q.pl = q'.pl ↔ q.part = q'.part := by
  constructor
  · intro h
    rw [← part_pl q, ← part_pl q', h]
  · intro h
    obtain ⟨k, n, v, u⟩ := q
    obtain ⟨k', n', v', u'⟩ := q'
    cases k <;> cases k' <;> simp_all [QD.part, QD.m, QD.pl]
section
variable {P : Program} {w : PySem.World} {K : PySem.W.Frag} {mg : Str → Option Value} {base : Heap} {d : Ad} {e : Ld}
theorem scLKey : FnScope ["_law_parts", "_law_found", "_law_part_here"] ["_law_parts"] (defScope sLKey) := ⟨rfl, rfl, rfl, by decide +kernel, rfl, by decide +kernel, by decide +kernel⟩
abbrev parts (qs : List QD) : List PartD := qs.map QD.part
theorem getD_t {qs : List QD} {i : Nat} (hi : i < qs.length) : ((qs.map QD.t).map (rD K)).getD i rNon = rD K (qs[i]).t := by
  rw [List.map_map]
  exact getD_map (f := fun q => rD K (QD.t q)) hi
theorem ok_lkey (L : Lx P K mg d e) : FnR P w K mg base CX0 6 e.fLKey (spW (α := List QD) (fun W z => z.length ≤ 6 ∧ ∀ q ∈ z, QOk q) (fun z => [rD K (.list (z.map QD.t))]) (fun z => rKey K d (parts z))) := by
  obtain ⟨fd, F⟩ := L.lLKey
  obtain ⟨fd1, F1⟩ := L.lMade
  refine fn_w F scLKey (F.binds fun _ _ _ _ _ _ us hl => match us, hl with | [_], _ => rfl) (fun _ => rfl) fun cdv A outer s H E W z hr hp => ⟨none, ?_, fun _ e => nomatch e⟩
  refine bw_cons (N := [some (rD K (.list (z.map QD.t))), some (rKey K d []), none]) (sw_set (r := rKey K d []) 1 (ew_make0 (fs := fsKey K d) ([] : List PartD) L.T.mkKey (ok_kInit L.T) (hr.mono (by decide)) rfl L.T.gKey rfl (by simp)) scLKey.nd rfl (.inl rfl)) ?_
  refine bw_cons (N := [some (rD K (.list (z.map QD.t))), some (rKey K d (parts z)), none]) (sw_for (fun i => [some (rD K (.list (z.map QD.t))), some (rKey K d (parts (z.take i))), none]) (fun i => [some (rD K (.list (z.map QD.t))), some (rKey K d (parts (z.take i))), some (((z.map QD.t).map (rD K)).getD i rNon)]) rfl ?_ (iw_lstD (ew_name 0 rfl (pv 0))) (fun i hi => gw_name 2 (pg_name scLKey.nd rfl (.inl rfl))) (fun i hi => ?_) .never rfl) (bw_one (sw_ret (ew_name 1 rfl (pv 1))))
  · rw [List.length_map, List.take_length] <;> rfl
  · have hi' : i < z.length := by simpa using hi
    rw [getD_t hi']
    refine bw_cons (N := [some (rD K (.list (z.map QD.t))), some (rKey K d (parts (z.take (i + 1)))), some (rD K (z[i]).t)]) ?_ (bw_wipe 2 (bw_nilN rfl))
    have e1 : parts (z.take (i + 1)) = parts (z.take i) ++ [(z[i]).part] := by
      rw [List.take_succ_eq_append_getElem hi']
      exact List.map_append
    rw [e1]
    have hq := hp.2 _ (List.getElem_mem hi')
    refine sw_set (r := rKey K d (parts (z.take i) ++ [(z[i]).part])) 1 (ew_binOwn .Add (ew_name 1 rfl (pv 1)) (rb := rKey K d [(z[i]).part]) ?_ (hasM (m := "__add__") (rl := [rKey K d [(z[i]).part]]) (parts (z.take i), [(z[i]).part]) L.T.isiK.cl L.T.mKAdd (ok_kAdd L.T) (hr.mono (by decide)) ?_ rfl rfl rfl) insOf insOf L.T.sfK) scLKey.nd rfl (.inl rfl)
    · exact ew_make (fs := fsKey K d) [(z[i]).part] L.T.mkKey (ok_kInit L.T) (hr.mono (by decide)) rfl L.T.gKey (aw_cons (ew_call (z[i]) (ok_made L) hr F1.kp rfl L.gMade (aw_cons (ew_name 2 rfl (pv 2)) aw_nil) hq) aw_nil) (by simp)
    · have := hp.1
      simp [parts]
      omega
/-! ### a key, checked -/
end
end K11
namespace K11
open PySem L2 Py
/-! ### the law's helpers over tables -/
def QFit (cs : Cols) (q : QD) : Prop := MeasOk cs q.m
theorem q_name (q : QD) : q.m.name = q.name := by
  obtain ⟨k, n, v, u⟩ := q
  cases k <;> rfl
theorem q_mem {cs : Cols} {q : QD} (h : QFit cs q) : ∃ b, (q.name, b) ∈ cs ∧ fitsB q.m b = true := by
  obtain ⟨⟨b, h1, h2⟩, _⟩ := h
  rw [q_name] at h1
  exact ⟨b, h1, h2⟩
theorem q_ok {cs : Cols} (hc : ColsOk cs) {q : QD} (h : QFit cs q) : QOk q := by
  obtain ⟨b, h1, _⟩ := q_mem h
  refine ⟨hc.good _ h1, fun hk => ?_⟩
  refine h.2 q.name q.div ?_
  unfold QD.m
  rw [hk]
theorem parts_ok {cs : Cols} {qs : List QD} (h : ∀ q ∈ qs, QFit cs q) : ∀ p ∈ parts qs, MeasOk cs p.m := fun p hp => by
  obtain ⟨q, hq, rfl⟩ := List.mem_map.mp hp
  exact h q hq
theorem ew_ltD {X : Cx} {W : Py.World} {rs : Rs} {a b : Expr} {pos : Pos} {x y : PyData} (lk : Like x y) (ha : Ew X W rs a (rD X.K x)) (hb : Ew X W rs b (rD X.K y)) : Ew X W rs (.Compare a [.Lt] [b] pos) (rD X.K (.bool (ltD x y))) := by
  rcases lk with ⟨i, j, rfl, rfl⟩ | ⟨y, z, rfl, rfl, _, _⟩
  · exact ew_lt ha hb
  · exact ew_ltS ha hb
section
variable {P : Program} {w : PySem.World} {K : PySem.W.Frag} {mg : Str → Option Value} {base : Heap} {d : Ad} {e : Ld} {t : Ae}
theorem scOutcome : FnScope ["_law_columns", "_law_row", "_law_other", "_law_parts", "_law_part_here", "_law_at", "_law_one", "_law_late"] ["_law_columns", "_law_row", "_law_other", "_law_parts"] (defScope sOutcome) := ⟨rfl, rfl, rfl, by decide +kernel, rfl, by decide +kernel, by decide +kernel⟩
abbrev qsD (qs : List QD) : PyData := .list (qs.map QD.t)
theorem outc_step {cs : Cols} {r o : List Cell} {p : PartD} {ps : List PartD} (h : PyData.eqv (ofD p.m (cellOf cs r p.m.name).d) (ofD p.m (cellOf cs o p.m.name).d) = true) : outc cs r o (p :: ps) = outc cs r o ps := if_pos h
theorem outc_stop {cs : Cols} {r o : List Cell} {p : PartD} {ps : List PartD} (h : PyData.eqv (ofD p.m (cellOf cs r p.m.name).d) (ofD p.m (cellOf cs o p.m.name).d) = false) : outc cs r o (p :: ps) = if (ltD (ofD p.m (cellOf cs r p.m.name).d) (ofD p.m (cellOf cs o p.m.name).d)) != p.down then -1 else 1 := by
  unfold outc
  rw [h]
  rfl
def rQs (K : PySem.W.Frag) (qs : List QD) : Rep := rD K (qsD qs)
theorem ok_outcome (L : Lx P K mg d e) (Y : Ty P K mg d t) : FnR P w K mg base CX0 2 e.fOutcome (spW (α := Cols × List Cell × List Cell × List QD) (fun _ z => ColsOk z.1 ∧ RowOk z.1 z.2.1 ∧ RowOk z.1 z.2.2.1 ∧ ∀ q ∈ z.2.2.2, QFit z.1 q) (fun z => [rDict (dCols z.1), rD K (rowD z.2.1), rD K (rowD z.2.2.1), rQs K z.2.2.2]) (fun z => rD K (.int (outc z.1 z.2.1 z.2.2.1 (parts z.2.2.2))))) := by
  obtain ⟨fd, F⟩ := L.lOutcome
  refine fn_w F scOutcome (F.binds fun _ _ _ _ _ _ us hl => match us, hl with | [_, _, _, _], _ => rfl) (fun _ => rfl) fun cdv A outer s H E W z hr hp => ⟨none, ?_, fun _ e => nomatch e⟩
  obtain ⟨cs, r, o, qs⟩ := z
  obtain ⟨hc, hr1, ho1, hq⟩ := hp
  change ColsOk cs at hc
  change RowOk cs r at hr1
  change RowOk cs o at ho1
  change ∀ q ∈ qs, QFit cs q at hq
  have pi : ∀ {j : Nat} {pp : Pos} {i : Int}, PlainIx (.Constant (.int i) j pp) := fun _ _ => rfl
  refine bw_say 0 rfl (show outc cs r o (parts qs) = outc cs r o (parts (qs.drop 0)) from rfl) ?_
  refine bw_cons (N := [some (rAnd (outc cs r o (parts qs) = outc cs r o (parts (qs.drop qs.length))) (rDict (dCols cs))), some (rD K (rowD r)), some (rD K (rowD o)), some (rQs K qs), none, none, none, none]) (sw_for (fun i => [some (rAnd (outc cs r o (parts qs) = outc cs r o (parts (qs.drop i))) (rDict (dCols cs))), some (rD K (rowD r)), some (rD K (rowD o)), some (rQs K qs), none, none, none, none]) (fun i => [some (rAnd (outc cs r o (parts qs) = outc cs r o (parts (qs.drop i))) (rDict (dCols cs))), some (rD K (rowD r)), some (rD K (rowD o)), some (rQs K qs), some (((qs.map QD.t).map (rD K)).getD i rNon), none, none, none]) rfl rfl (iw_n (iw_lstD (ds := qs.map QD.t) (ew_name 3 rfl (pv 3))) (by simp)) (fun i hi => gw_name 4 (pg_name scOutcome.nd rfl (.inl rfl))) (fun i hi => ?_) .never rfl) ?_
  · have hqi : qs[i]? = some qs[i] := List.getElem?_eq_getElem hi
    rw [List.map_map, getD_map' hqi]
    have hf := hq _ (List.getElem_mem hi)
    generalize hqq : qs[i] = q at hf hqi
    refine bw_know 0 rfl fun hP => ?_
    have hdrop : parts (qs.drop i) = q.part :: parts (qs.drop (i + 1)) := by
      rw [List.drop_eq_getElem_cons hi, hqq] <;> rfl
    rw [hdrop] at hP
    obtain ⟨b, h1, h2⟩ := q_mem hf
    have hcr := (cell_at hc hr1 h1).1
    have hco := (cell_at hc ho1 h1).1
    have lk := part_like hc hr1 ho1 hf
    have m1 := meas_row hc hr1 hf
    have m2 := meas_row hc ho1 hf
    have en : q.m.name = q.name := q_name q
    rw [en] at lk m1 m2
    refine bw_cons (N := [some (rDict (dCols cs)), some (rD K (rowD r)), some (rD K (rowD o)), some (rQs K qs), some (rD K q.t), some (rD K (.int (idx cs q.name : Nat))), none, none]) (sw_set (r := rD K (.int (idx cs q.name : Nat))) 5 (ew_indexD (ds := cs.map fun q => PyData.str q.1) (d := .str q.name) (z := .str q.name) (j := idx cs q.name) (units65 hr) (by exact ew_listDict rfl rfl L.T.bList (ew_name 0 rfl (pv 0)) fun H => names_ds) (ew_ixTD (d := .str q.name) 1 (ew_name 4 rfl (pv 4)) ew_int rfl rfl pi) (shp_names hc).ok (good_ok (hc.good _ h1)).ok (by rw [List.getElem?_map, idx_kind hc h1] <;> rfl) (by rw [eqv_strs]; simp) (idx_first h1)) scOutcome.nd rfl (.inl rfl)) ?_
    refine bw_cons (N := [some (rDict (dCols cs)), some (rD K (rowD r)), some (rD K (rowD o)), some (rQs K qs), some (rD K q.t), some (rD K (.int (idx cs q.name : Nat))), some (rD K (ofD q.m (cellOf cs r q.name).d)), some (rD K (ofD q.m (cellOf cs o q.name).d))]) (sw_par 6 7 rfl scOutcome.nd rfl rfl (by decide) rfl rfl (aw_cons (clE (q, (cellOf cs r q.name).d) L.lMeasured (ok_measured L) hr L.gMeasured (aw_cons (ew_name 4 rfl (pv 4)) (aw_cons (ew_ixTD (d := (cellOf cs r q.name).d) (idx cs q.name) (ew_name 1 rfl (pv 1)) (ew_name 5 rfl (pv 5)) rfl (by rw [List.getElem?_map, hcr] <;> rfl) (by intro _ _; rfl)) aw_nil)) m1.1) (aw_cons (clE (q, (cellOf cs o q.name).d) L.lMeasured (ok_measured L) hr L.gMeasured (aw_cons (ew_name 4 rfl (pv 4)) (aw_cons (ew_ixTD (d := (cellOf cs o q.name).d) (idx cs q.name) (ew_name 2 rfl (pv 2)) (ew_name 5 rfl (pv 5)) rfl (by rw [List.getElem?_map, hco] <;> rfl) (by intro _ _; rfl)) aw_nil)) m2.1) aw_nil)) rfl) ?_
    by_cases hx : PyData.eqv (ofD q.m (cellOf cs r q.name).d) (ofD q.m (cellOf cs o q.name).d) = true
    · have hstep := outc_step (p := q.part) (ps := parts (qs.drop (i + 1))) (cs := cs) (r := r) (o := o) (by show PyData.eqv (ofD q.m (cellOf cs r q.m.name).d) (ofD q.m (cellOf cs o q.m.name).d) = true; rw [en]; exact hx)
      rw [hstep] at hP
      exact bw_cons (sw_if (d := false) (tw_eq (tw_neD hr.units (ew_name 6 rfl (pv 6)) (ew_name 7 rfl (pv 7)) (num_shp m1.2).ok (num_shp m2.2).ok) (by rw [hx] <;> rfl)) (fun e => nomatch e) fun _ => bw_nil) (bw_wipe 4 (bw_wipe 5 (bw_wipe 6 (bw_wipe 7 (bw_say 0 rfl hP (bw_nilN rfl))))))
    · have hx' : PyData.eqv (ofD q.m (cellOf cs r q.name).d) (ofD q.m (cellOf cs o q.name).d) = false := by simpa using hx
      have hstop := outc_stop (p := q.part) (ps := parts (qs.drop (i + 1))) (cs := cs) (r := r) (o := o) (by show PyData.eqv (ofD q.m (cellOf cs r q.m.name).d) (ofD q.m (cellOf cs o q.m.name).d) = false; rw [en]; exact hx')
      rw [hstop] at hP
      refine bw_last (sw_if (d := true) (tw_eq (tw_neD hr.units (ew_name 6 rfl (pv 6)) (ew_name 7 rfl (pv 7)) (num_shp m1.2).ok (num_shp m2.2).ok) (by rw [hx'] <;> rfl)) (fun _ => bw_one (sw_nx (sw_ret ?_))) fun e => nomatch e)
      show Ew _ W _ _ (rD K (.int (outc cs r o (parts qs))))
      rw [hP]
      show Ew _ W _ _ (rD K (.int (if (ltD (ofD q.m (cellOf cs r q.m.name).d) (ofD q.m (cellOf cs o q.m.name).d)) != q.dn then -1 else 1)))
      rw [en]
      refine ew_if (tw_eq (tw_neD (d := .bool (ltD (ofD q.m (cellOf cs r q.name).d) (ofD q.m (cellOf cs o q.name).d))) (d' := .bool q.dn) hr.units (ew_ltD lk (ew_name 6 rfl (pv 6)) (ew_name 7 rfl (pv 7))) (ew_ixTD (d := .bool q.dn) 3 (ew_name 4 rfl (pv 4)) ew_int rfl rfl pi) shp_bl.ok shp_bl.ok) (by rw [eqv_bls])) (fun h => ?_) fun h => ?_
      · rw [if_pos (by simpa using h)]
        exact ew_negI ew_int
      · rw [if_neg (by simpa using h)]
        exact ew_int
  · refine bw_know 0 rfl fun hP => bw_one (sw_ret ?_)
    show Ew _ W _ _ (rD K (.int (outc cs r o (parts qs))))
    rw [hP, List.drop_length]
    exact ew_int
end
end K11
namespace K11
open PySem L2 Py
/-! ### rows sorted by insertion -/
def cnt (cs : Cols) (ps : List PartD) (row : List Cell) : List (List Cell) → Nat
  | [] => 0
  | x :: xs => if 0 ≤ outc cs row x ps then cnt cs ps row xs + 1 else 0
theorem cnt_le {cs : Cols} {ps : List PartD} {row : List Cell} : ∀ fs : List (List Cell), cnt cs ps row fs ≤ fs.length
  | [] => Nat.le_refl _
  | x :: xs => by
    have := cnt_le (cs := cs) (ps := ps) (row := row) xs
    unfold cnt
    split
    · rw [List.length_cons]; omega
    · omega
theorem cnt_at {cs : Cols} {ps : List PartD} {row : List Cell} : ∀ {fs : List (List Cell)} {j : Nat} {x : List Cell}, j ≤ cnt cs ps row fs → fs[j]? = some x → (decide (0 ≤ outc cs row x ps) = decide (j < cnt cs ps row fs))
  | [], j, x, _, e => by simp at e
  | y :: fs, 0, x, _, e => by
    obtain rfl : y = x := by simpa using e
    unfold cnt
    by_cases h : 0 ≤ outc cs row y ps
    · rw [if_pos h, decide_eq_true h, decide_eq_true (by omega)]
    · rw [if_neg h, decide_eq_false h, decide_eq_false (by omega)]
  | y :: fs, j + 1, x, hj, e => by
    unfold cnt at hj ⊢
    by_cases h : 0 ≤ outc cs row y ps
    · rw [if_pos h] at hj ⊢
      rw [cnt_at (fs := fs) (j := j) (by omega) (by simpa using e)]
      exact decide_eq_decide.mpr (by omega)
    · rw [if_neg h] at hj
      omega
def insR (cs : Cols) (ps : List PartD) (fs : List (List Cell)) (row : List Cell) : List (List Cell) := fs.take (cnt cs ps row fs) ++ [row] ++ fs.drop (cnt cs ps row fs)
def sortedR (cs : Cols) (ps : List PartD) (rows : List (List Cell)) : List (List Cell) := rows.foldl (insR cs ps) []
theorem sorted_snoc {cs : Cols} {ps : List PartD} (rows : List (List Cell)) (row : List Cell) : sortedR cs ps (rows ++ [row]) = insR cs ps (sortedR cs ps rows) row := by
  unfold sortedR
  rw [List.foldl_append]
  rfl
theorem ins_len {cs : Cols} {ps : List PartD} {fs : List (List Cell)} {row : List Cell} : (insR cs ps fs row).length = fs.length + 1 := by
  have := cnt_le (cs := cs) (ps := ps) (row := row) fs
  unfold insR
  rw [List.length_append, List.length_append, List.length_take, List.length_drop, List.length_singleton]
  omega
theorem ins_mem {cs : Cols} {ps : List PartD} {fs : List (List Cell)} {row x : List Cell} (h : x ∈ insR cs ps fs row) : x = row ∨ x ∈ fs := by
  unfold insR at h
  rw [List.mem_append, List.mem_append] at h
  rcases h with (h | h) | h
  · exact .inr (List.mem_of_mem_take h)
  · exact .inl (by simpa using h)
  · exact .inr (List.mem_of_mem_drop h)
theorem sorted_all {cs : Cols} {ps : List PartD} (P : List Cell → Prop) {rows : List (List Cell)} (h : ∀ r ∈ rows, P r) : (∀ r ∈ sortedR cs ps rows, P r) ∧ (sortedR cs ps rows).length = rows.length := by
  have key : ∀ (rows acc : List (List Cell)), (∀ r ∈ rows, P r) → (∀ r ∈ acc, P r) → (∀ r ∈ rows.foldl (insR cs ps) acc, P r) ∧ (rows.foldl (insR cs ps) acc).length = acc.length + rows.length := by
    intro rows
    induction rows with
    | nil => intro acc _ ha; exact ⟨ha, by simp⟩
    | cons x xs ih =>
      intro acc h ha
      obtain ⟨h1, h2⟩ := ih (insR cs ps acc x) (fun r hr => h r (List.mem_cons_of_mem _ hr)) (fun r hr => by
        rcases ins_mem hr with rfl | hr
        · exact h r List.mem_cons_self
        · exact ha r hr)
      refine ⟨h1, ?_⟩
      rw [List.foldl_cons, h2, ins_len, List.length_cons]
      omega
  have z := key rows [] h (by intro r hr; cases hr)
  refine ⟨z.1, ?_⟩
  have z2 := z.2
  rw [List.length_nil, Nat.zero_add] at z2
  exact z2
section
variable {P : Program} {w : PySem.World} {K : PySem.W.Frag} {mg : Str → Option Value} {base : Heap} {d : Ad} {e : Ld} {t : Ae}
theorem scSorted : FnScope ["_law_columns", "_law_rows", "_law_parts", "_law_found", "_law_row", "_law_at"] ["_law_columns", "_law_rows", "_law_parts"] (defScope sSorted) := ⟨rfl, rfl, rfl, by decide +kernel, rfl, by decide +kernel, by decide +kernel⟩
abbrev rowsL (rows : List (List Cell)) : PyData := .list (rows.map rowD)
def rRows (K : PySem.W.Frag) (rows : List (List Cell)) : Rep := rD K (rowsL rows)
abbrev rlR (K : PySem.W.Frag) (rows : List (List Cell)) : List Rep := rows.map fun r => rD K (rowD r)
theorem rlR_eq {K : PySem.W.Frag} {rows : List (List Cell)} : rlR K rows = (rows.map rowD).map (rD K) := by rw [List.map_map] <;> rfl
theorem ok_sorted (L : Lx P K mg d e) (Y : Ty P K mg d t) : FnR P w K mg base CX0 3 e.fSorted (spW (α := Cols × List (List Cell) × List QD) (fun _ z => ColsOk z.1 ∧ (∀ r ∈ z.2.1, RowOk z.1 r) ∧ (∀ q ∈ z.2.2, QFit z.1 q) ∧ z.2.1.length ≤ 100) (fun z => [rDict (dCols z.1), rRows K z.2.1, rQs K z.2.2]) (fun z => rLst (rlR K (sortedR z.1 (parts z.2.2) z.2.1)))) := by
  obtain ⟨fd, F⟩ := L.lSorted
  refine fn_w F scSorted (F.binds fun _ _ _ _ _ _ us hl => match us, hl with | [_, _, _], _ => rfl) (fun _ => rfl) fun cdv A outer s H E W z hr hp => ⟨none, ?_, fun _ e => nomatch e⟩
  obtain ⟨cs, rows, qs⟩ := z
  obtain ⟨hc, hrows, hq, hlen⟩ := hp
  change ColsOk cs at hc
  change ∀ r ∈ rows, RowOk cs r at hrows
  change ∀ q ∈ qs, QFit cs q at hq
  change rows.length ≤ 100 at hlen
  have hall := fun i => sorted_all (cs := cs) (ps := parts qs) (RowOk cs) (rows := rows.take i) fun r hr => hrows r (List.mem_of_mem_take hr)
  refine bw_of_br (br_growL 3 scSorted.nd rfl (.inl rfl) aw_nil (by simp) fun D xs => ?_)
  refine br_cons (sz_for (β := List V) (n := rows.length) (fun xs => .lst xs) (fun i xs => [some (rDict (dCols cs)), some (rRows K rows), some (rQs K qs), some (rAtL D (rlR K (sortedR cs (parts qs) (rows.take i))) xs), none, none]) (fun i xs => [some (rDict (dCols cs)), some (rRows K rows), some (rQs K qs), some (rAtL D (rlR K (sortedR cs (parts qs) (rows.take i))) xs), some (((rows.map rowD).map (rD K)).getD i rNon), none]) xs (i2_n (i2_seq (as_seq (ds := rows.map rowD) (ew_name 1 rfl (pv 1)))) (by simp)) (fun i b hi => gw_name 4 (pg_name scSorted.nd rfl (.inl rfl))) (fun i b hi => ?_) .never rfl) fun xs => br_out 3 rfl (br_of (W' := fun _ : Unit => W) (rr := fun _ => rLst (rlR K (sortedR cs (parts qs) rows))) () (bw_one (sw_ret (ew_sub (ew_name 3 rfl (pv 3)) fun v H p => by rw [List.take_length] at p; exact p))))
  · have hri : rows[i]? = some rows[i] := List.getElem?_eq_getElem hi
    rw [List.map_map, getD_map' hri]
    have hrow := hrows _ (List.getElem_mem hi)
    have ht : sortedR cs (parts qs) (rows.take (i + 1)) = insR cs (parts qs) (sortedR cs (parts qs) (rows.take i)) rows[i] := by
      rw [List.take_succ_eq_append_getElem hi, sorted_snoc]
    rw [ht]
    obtain ⟨ha, hl⟩ := hall i
    generalize sortedR cs (parts qs) (rows.take i) = fs at ha hl ⊢
    generalize rows[i] = row at hrow ⊢
    have hfl : fs.length ≤ 100 := by rw [hl, List.length_take]; omega
    have hcl := cnt_le (cs := cs) (ps := parts qs) (row := row) fs
    have hrl : (rlR K fs).length = fs.length := List.length_map _
    refine bz_w (M := [some (rDict (dCols cs)), some (rRows K rows), some (rQs K qs), some (rAtL D (rlR K fs) b), some (rD K (rowD row)), some (rD K (.int (0 : Nat)))]) (sw_set (r := rD K (.int (0 : Nat))) 5 ew_int scSorted.nd rfl (.inl rfl)) ?_
    refine bz_w (M := [some (rDict (dCols cs)), some (rRows K rows), some (rQs K qs), some (rAtL D (rlR K fs) b), some (rD K (rowD row)), some (rD K (.int (cnt cs (parts qs) row fs : Nat)))]) (wh (n := cnt cs (parts qs) row fs) (fun j => [some (rDict (dCols cs)), some (rRows K rows), some (rQs K qs), some (rAtL D (rlR K fs) b), some (rD K (rowD row)), some (rD K (.int (j : Nat)))]) (fun j hj => ?_) fun j hj => ?_) ?_
    · have hm : (decide (j < fs.length) && decide (j < cnt cs (parts qs) row fs)) = decide (j < cnt cs (parts qs) row fs) := by
        by_cases h : j < cnt cs (parts qs) row fs
        · rw [decide_eq_true h, decide_eq_true (show j < fs.length by omega)] <;> rfl
        · rw [decide_eq_false h, Bool.and_false]
      refine tw_eq (tw_l (lw_and (c := decide (j < fs.length)) (d := decide (j < cnt cs (parts qs) row fs)) (tw_eq (tw_lt (ew_name 5 rfl (pv 5)) (ew_lenA rfl L.T.bLen (ew_name 3 rfl (pv 3)))) (by rw [hrl]; exact decide_eq_decide.mpr (by omega))) fun h => lw_one ?_)) hm
      have hjl : j < fs.length := of_decide_eq_true h
      have hx : fs[j]? = some fs[j] := List.getElem?_eq_getElem hjl
      refine tw_eq (tw_ge (cl (cs, row, fs[j], qs) L.lOutcome (ok_outcome L Y) hr L.gOutcome (aw_cons (ew_name 0 rfl (pv 0)) (aw_cons (ew_name 4 rfl (pv 4)) (aw_cons (ew_ixA (r := rD K (rowD fs[j])) j (ew_name 3 rfl (pv 3)) (ew_name 5 rfl (pv 5)) rfl (by rw [List.getElem?_map, hx] <;> rfl) (by intro _ _; rfl)) (aw_cons (ew_name 2 rfl (pv 2)) aw_nil)))) ⟨hc, hrow, ha _ (List.getElem_mem hjl), hq⟩) ew_int) ?_
      exact cnt_at hj hx
    · exact bw_one (sw_set (r := rD K (.int ((j + 1 : Nat) : Int))) 5 (by rw [show ((j + 1 : Nat) : Int) = (j : Int) + 1 by omega]; exact ew_add (ew_name 5 rfl (pv 5)) ew_int) scSorted.nd rfl (.inl rfl))
    · refine bz_cons (sz_insert 3 rfl (ew_name 3 rfl (pv 3)) (ew_name 5 rfl (pv 5)) (ew_name 4 rfl (pv 4)) (by omega) (by omega)) fun y => bz_wipe 4 (bz_wipe 5 (bz_nilN _ rfl ?_))
      have e1 : rlR K (insR cs (parts qs) fs row) = (rlR K fs).take (cnt cs (parts qs) row fs) ++ [rD K (rowD row)] ++ (rlR K fs).drop (cnt cs (parts qs) row fs) := by
        unfold insR
        rw [rlR, List.map_append, List.map_append, List.map_take, List.map_drop] <;> rfl
      rw [e1]
      rfl
end
end K11
namespace Py
open PySem L2
variable {X : Cx} {W : World} {rs M : Rs} {sts : List Stmt} {O : Outs}
/-- what only goes on, within a loop's body -/
theorem bw_into (M : Rs) (hM : O.nx = some M) (h : Bz X W rs sts (fun _ : Unit => W) (fun _ => M)) : Bw X W rs sts O := by
  cases O
  cases hM
  exact bw_of_bz (O := ⟨_, none, _, _⟩) h
theorem bz_bw (h : Bw X W rs sts ⟨rNo, some M, none, none⟩) : Bz X W rs sts (fun _ : Unit => W) (fun _ => M) := bz_of_bw (W' := fun _ : Unit => W) (N := fun _ => M) () h
variable {α : Type} {W' : α → World} {rr : α → Rep} {pos pos' dpos : Pos} {D : Addr} {kvs : List (L2.Key × V)} {K : PySem.W.Frag} {q l : Addr} {zs : List Int} {e : Expr} {r : Rep}
/-- x = {}, held apart from here on -/
theorem br_growK (i : Nat) {x : Str} (hN : X.N.Nodup) (hi : X.N[i]? = some x) (hx : Loc X.env.scope x) (h : ∀ D, Br X (W.hold D (.dK [])) (rs.set i (some (rRef D))) sts W' rr)
    (hs : swapsWith (.Dict [] [] dpos) (some (.Name x pos')) pos.line X.env = pure false := by rfl)
    (hf : X.fn x = true ∨ X.env.scope.names.lookup x = some .local := by first | exact .inl rfl | exact .inr rfl | assumption) : Br X W rs (.Assign [.Name x pos'] (.Dict [] [] dpos) pos :: sts) W' rr := by
  have hB : PSs X sts (fun DD σ H => ∃ D, sWr (W.hold D (.dK [])) (rs.set i (some (rRef D))) W' rr DD σ H) := ⟨fun pins s σ H DD I ⟨D, q⟩ => (h D).run pins s σ H DD I q⟩
  refine pss_cs (pss_cons (ps_set hN hi hx pe_dnewK hs hf) hB) ?_
  rintro DD σ H ⟨k, g, q⟩
  intro l hl'
  have kn := hold_new (o := (.dK [])) k hl'
  have eh : Ex (W.vis H) ((W.hold l (.dK [])).vis (upd H l (.dK []))) := hold_of (World.visNone hl') (World.visEx k (Ex.new hl'))
  refine ⟨l, kn, (g.mono eh).set rfl, ?_⟩
  rintro b v H' k' e' p'
  exact q b v H' k' (eh.trans e') p'
theorem ew_lockNe (d : DictAt W D kvs) (dr : Draws K W q l zs) (h : ∀ od, q ≠ D → Ew X (W.lockw D od kvs d.hid) rs e r) : Ew X W rs e r := by
  have h' : PE X e (fun σ H Q => ∃ od, q ≠ D ∧ tW (W.lockw D od kvs d.hid) rs r σ H Q) := ⟨fun pins s σ H Q I ⟨od, hq, q⟩ => (h od hq).run pins s σ H Q I q⟩
  refine pe_cs (pe_lock h') ?_
  rintro σ H Q ⟨k, g, q⟩
  refine ⟨D, .dK kvs, d.at_ H k, trivial, fun od => ⟨od, dr.ne d k, lockw_in d k, ?_, fun v H' k' e' pv => ⟨k'.2, q v _ (lockw_out k') ?_ ?_⟩⟩⟩
  · rw [lockw_vis, vis_hid d.hid]
    exact g
  · rw [lockw_vis, lockw_vis, vis_hid d.hid] at e'
    rw [vis_hid d.hid]
    exact e'
  · rw [lockw_vis] at pv
    rw [vis_hid d.hid]
    exact pv
/-- a dict that a slot holds is walked over, and numbers are drawn meanwhile -/
theorem ew_walkD (i : Nat) (hi : rs[i]? = some (some (rDict kvs))) (hn : NdL (rs.set i none)) (dr : Draws K W q l zs) (h : ∀ D od hid, Draws K ((W.hold D (.dK kvs)).lockw D od kvs hid) q l zs → Ew X ((W.hold D (.dK kvs)).lockw D od kvs hid) (rs.set i (some (rRef D))) e r) : Ew X W rs e r :=
  ew_hide i hi hn fun D => ew_lockNe dict_hold (dr.hold D _) fun od hq => h D od _ ((dr.hold D _).lock hq)
theorem br_say {q : Prop} (i : Nat) {r' : Rep} (hi : rs[i]? = some (some r')) (hq : q) (h : Br X W (rs.set i (some (rAnd q r'))) sts W' rr) : Br X W rs sts W' rr :=
  pss_cs h fun DD σ H ⟨k, g, z⟩ => ⟨k, g.re hi fun _ p => ⟨hq, p⟩, z⟩
theorem i2e_n {γ : Type} {Wg : World} {tg it : Expr} {n n' : γ → Nat} {item : Nat → Rep} (h : Iw2e X W Wg rs tg it n item) (e : ∀ c, n c = n' c) : Iw2e X W Wg rs tg it n' item := by
  obtain rfl : n = n' := funext e
  exact h
end Py
namespace K11
open PySem L2 Py
/-! ### the candidates as tuples -/
def colQ : Str × Bool → List (Kd × Int)
  | (_, false) => [(.plain, 0), (.size, 0), (.rest, 2), (.rest, 3)]
  | (_, true) => [(.plain, 0), (.size, 0), (.ending, 0)]
def twoQ (n : Str) (kv : Kd × Int) : List QD := [⟨kv.1, n, kv.2, false⟩, ⟨kv.1, n, kv.2, true⟩]
def candQ (cs : Cols) : List QD := cs.flatMap fun q => (colQ q).flatMap (twoQ q.1)
theorem parts_app (a b : List QD) : parts (a ++ b) = parts a ++ parts b := List.map_append
theorem parts_col (q : Str × Bool) : parts ((colQ q).flatMap (twoQ q.1)) = (colMeas q).flatMap two := by
  obtain ⟨n, b⟩ := q
  cases b <;> rfl
theorem parts_cand : ∀ cs : Cols, parts (candQ cs) = cands cs
  | [] => rfl
  | q :: cs => by
    have e1 : candQ (q :: cs) = (colQ q).flatMap (twoQ q.1) ++ candQ cs := List.flatMap_cons
    have e2 : cands (q :: cs) = (colMeas q).flatMap two ++ cands cs := List.flatMap_cons
    rw [e1, e2, parts_app, parts_col, parts_cand cs]
theorem candQ_snoc (cs : Cols) (q : Str × Bool) : candQ (cs ++ [q]) = candQ cs ++ (colQ q).flatMap (twoQ q.1) := by unfold candQ; simp
theorem candQ_len (cs : Cols) : (candQ cs).length ≤ 8 * cs.length := by
  have h := congrArg List.length (parts_cand cs)
  rw [List.length_map] at h
  rw [h]
  exact cands_len cs
theorem two_len {F0 : List QD} {n : Str} {l : List (Kd × Int)} {j : Nat} (h : F0.length ≤ 24) (hl : l.length ≤ 4 := by decide) : (F0 ++ (l.take j).flatMap (twoQ n)).length ≤ 40 := by
  have : ((l.take j).flatMap (twoQ n)).length = 2 * (l.take j).length := by
    generalize l.take j = m
    induction m with
    | nil => rfl
    | cons a m ih => rw [List.flatMap_cons, List.length_append, ih, List.length_cons]; show 2 + _ = _; omega
  rw [List.length_append, this, List.length_take]
  omega
theorem candQ_fit {cs : Cols} {q : QD} (h : q ∈ candQ cs) : QFit cs q := by
  unfold candQ at h
  obtain ⟨c, hc, h⟩ := List.mem_flatMap.mp h
  obtain ⟨kv, hkv, h⟩ := List.mem_flatMap.mp h
  obtain ⟨n, b⟩ := c
  cases b <;> simp only [colQ, List.mem_cons, List.not_mem_nil, or_false] at hkv <;> rcases hkv with rfl | rfl | rfl | rfl <;> simp only [twoQ, List.mem_cons, List.not_mem_nil, or_false] at h <;> rcases h with rfl | rfl <;> refine ⟨⟨_, hc, rfl⟩, fun nn k e => ?_⟩ <;> cases e <;> first | exact (by decide : (2:Int) ≤ 2 ∧ (2:Int) ≤ 9) | exact (by decide : (2:Int) ≤ 3 ∧ (3:Int) ≤ 9)
section
variable {P : Program} {w : PySem.World} {K : PySem.W.Frag} {mg : Str → Option Value} {base : Heap} {d : Ad} {e : Ld} {t : Ae}
theorem scCands : FnScope ["_law_columns", "_law_found", "_law_name", "_law_some", "_law_one"] ["_law_columns"] (defScope sCands) := ⟨rfl, rfl, rfl, by decide +kernel, rfl, by decide +kernel, by decide +kernel⟩
abbrev trip (k : Kd) (n : Str) (v : Int) : PyData := .tuple [.str k.s, .str n, .int v]
abbrev trips (q : Str × Bool) : List PyData := (colQ q).map fun kv => trip kv.1 q.1 kv.2
def rTr (K : PySem.W.Frag) (q : Str × Bool) : Rep := rLst ((trips q).map (rD K))
def rFs (K : PySem.W.Frag) (qs : List QD) : Rep := rLst ((qs.map QD.t).map (rD K))
theorem ok_cands (L : Lx P K mg d e) (Y : Ty P K mg d t) : FnR P w K mg base CX0 1 e.fCands (spW (α := Cols) (fun _ z => ColsOk z) (fun z => [rDict (dCols z)]) (fun z => rFs K (candQ z))) := by
  obtain ⟨fd, F⟩ := L.lCands
  refine fn_w F scCands (F.binds fun _ _ _ _ _ _ us hl => match us, hl with | [_], _ => rfl) (fun _ => rfl) fun cdv A outer s H E W z hr hp => ⟨none, ?_, fun _ e => nomatch e⟩
  have h3 := hp.le
  refine bw_cons (N := [some (rDict (dCols z)), some (rFs K (candQ (z.take 0))), none, none, none]) (sw_set (r := rFs K (candQ (z.take 0))) 1 (ew_lst aw_nil (by show 0 ≤ 1000; decide)) scCands.nd rfl (.inl rfl)) ?_
  refine bw_cons (N := ([some (rDict (dCols z)), some (rFs K (candQ z)), none, none, none] : Rs).set 0 (some (rDict (dCols z)))) (sw_any (sw_hide 0 rfl ⟨nd_lst (nd_map fun _ => nd_rD), trivial⟩ (by simp) fun D => sw_lock (dict_hold (kvs := dCols z)) fun od => ?_)) (bw_one (sw_ret (ew_name 1 rfl (pv 1))))
  refine sw_for (fun i => [some (rRef D), some (rFs K (candQ (z.take i))), none, none, none]) (fun i => [some (rRef D), some (rFs K (candQ (z.take i))), some (rD K (.str (z.getD i q0).1)), none, none]) rfl (by rw [List.take_length] <;> rfl) (iw_n (iw_keys lockw_at (ew_name 0 rfl (pv 0)) (fun i => rD K (.str (z.getD i q0).1)) ?_) (dCols_len z)) (fun i hi => gw_name 2 (pg_name scCands.nd rfl (.inl rfl))) (fun i hi => ?_) .never rfl
  · intro i k v H e
    obtain ⟨q, e1, rfl, rfl⟩ := kvs_at e
    rw [getD_of' e1]
    exact Dp.str _
  · have hqi : z[i]? = some z[i] := List.getElem?_eq_getElem hi
    have hsn : candQ (z.take (i + 1)) = candQ (z.take i) ++ (colQ z[i]).flatMap (twoQ z[i].1) := by rw [List.take_succ_eq_append_getElem hi, candQ_snoc]
    have hmem : (z[i].1, z[i].2) ∈ z := List.getElem_mem hi
    rw [getD_of' hqi]
    have hlen0 : (candQ (z.take i)).length ≤ 24 := by
      have := candQ_len (z.take i)
      rw [List.length_take] at this
      omega
    generalize hF : candQ (z.take i) = F0 at hsn hlen0
    generalize hqq : z[i] = q at hsn hmem
    obtain ⟨n, b⟩ := q
    have hv := kind_at hp hmem
    refine bw_into [some (rRef D), some (rFs K (F0 ++ (colQ (n, b)).flatMap (twoQ n))), none, none, none] (by rw [← hsn] <;> rfl) ?_
    refine bz_growL 3 scCands.nd rfl (.inl rfl) (rl := [rD K (trip .plain n 0), rD K (trip .size n 0)]) (aw_cons (ew_tupD (aw_cons ew_str (aw_cons (ew_name 2 rfl (pv 2)) (aw_cons ew_int aw_nil))) (by simp)) (aw_cons (ew_tupD (aw_cons ew_str (aw_cons (ew_name 2 rfl (pv 2)) (aw_cons ew_int aw_nil))) (by simp)) aw_nil)) (by simp) fun D2 xs => ?_
    have hpick : valV (dCols z) (Sum.inr n) = some (.str (kindS b)) := hv
    have hw : SeqAt.shaped (.str "words") = true := (shp_str (by decide +kernel)).ok
    have hnu : SeqAt.shaped (.str "numbers") = true := (shp_str (by decide +kernel)).ok
    cases b with
    | true =>
      refine bz_cons (V1 := fun _ : Unit => _) (N1 := fun _ : Unit => [some (rRef D), some (rFs K F0), some (rD K (.str n)), some (rTr K (n, true)), none]) (sz_if (d := true) (tw_eq (tw_eqD (d := .str "words") (d' := .str "words") hr.units (ew_dgetL (kvs := dCols z) (od := od) (D := D) (z := n) (v := .str "words") (by exact lockw_at.hold _ _) (hu_of hr) (ew_name 0 rfl (pv 0)) (ew_name 2 rfl (pv 2)) hpick (fun _ => Dp.str _) (by intro _ _; rfl)) ew_str hw hw) (by rw [eqv_strs]; simp)) (fun _ => bz_cons (sz_append 3 rfl (ew_name 3 rfl (pv 3)) (r := rD K (trip .ending n 0)) (ew_tupD (aw_cons ew_str (aw_cons (ew_name 2 rfl (pv 2)) (aw_cons ew_int aw_nil))) (by simp)) (by simp)) fun y => bz_out 3 rfl (bz_nilN () rfl rfl)) fun e => nomatch e) fun _ => ?_
      refine bz_bw ?_
      refine bw_cons (N := [some (rRef D), some (rFs K (F0 ++ (colQ (n, true)).flatMap (twoQ n))), some (rD K (.str n)), some (rTr K (n, true)), none]) (sw_any ?_) (bw_wipe 2 (bw_wipe 3 (bw_wipe 4 (bw_nilN rfl))))
      refine sw_for (fun j => [some (rRef D), some (rFs K (F0 ++ ((colQ (n, true)).take j).flatMap (twoQ n))), some (rD K (.str n)), some (rTr K (n, true)), none]) (fun j => [some (rRef D), some (rFs K (F0 ++ ((colQ (n, true)).take j).flatMap (twoQ n))), some (rD K (.str n)), some (rTr K (n, true)), some (((trips (n, true)).map (rD K)).getD j rNon)]) (by rw [List.take_zero, List.flatMap_nil, List.append_nil] <;> rfl) rfl (iw_n (n' := (colQ (n, true)).length) (iw_lst (rl := (trips (n, true)).map (rD K)) (ew_name 3 rfl (pv 3))) (by rw [List.length_map, List.length_map])) (fun j hj => gw_name 4 (pg_name scCands.nd rfl (.inl rfl))) (fun j hj => ?_) .never rfl
      have hkj : (colQ (n, true))[j]? = some (colQ (n, true))[j] := List.getElem?_eq_getElem hj
      rw [List.map_map, getD_map' hkj, List.take_succ_eq_append_getElem hj, List.flatMap_append, List.flatMap_singleton]
      have hl : (F0 ++ ((colQ (n, true)).take j).flatMap (twoQ n)).length ≤ 40 := two_len hlen0 (by simp [colQ])
      rw [← List.append_assoc]
      generalize F0 ++ ((colQ (n, true)).take j).flatMap (twoQ n) = F at hl ⊢
      generalize (colQ (n, true))[j] = kv
      obtain ⟨kk, vv⟩ := kv
      refine bw_cons (sw_set (r := rFs K (F ++ twoQ n (kk, vv))) 1 ?_ scCands.nd rfl (.inl rfl)) (bw_wipe 4 (bw_nilN rfl))
      refine ew_sub (ew_catL (rl := (F.map QD.t).map (rD K)) (rl' := [rD K (QD.t ⟨kk, n, vv, false⟩), rD K (QD.t ⟨kk, n, vv, true⟩)]) (ew_name 1 rfl (pv 1)) (ew_lst (aw_cons (ew_catTD (ds := [.str kk.s, .str n, .int vv]) (ds' := [.bool false]) (ew_name 4 rfl (pv 4)) (ew_tupD (aw_cons ew_bl aw_nil) (by simp)) (by simp)) (aw_cons (ew_catTD (ds := [.str kk.s, .str n, .int vv]) (ds' := [.bool true]) (ew_name 4 rfl (pv 4)) (ew_tupD (aw_cons ew_bl aw_nil) (by simp)) (by simp)) aw_nil)) (by simp)) (by rw [List.length_map, List.length_map]; show F.length + 2 ≤ 1000; omega)) fun v H p => ?_
      have e2 : ((F ++ twoQ n (kk, vv)).map QD.t).map (rD K) = (F.map QD.t).map (rD K) ++ [rD K (QD.t ⟨kk, n, vv, false⟩), rD K (QD.t ⟨kk, n, vv, true⟩)] := by rw [List.map_append, List.map_append] <;> rfl
      show (rLst _).p v H
      rw [e2]
      exact p
    | false =>
      refine bz_out 3 rfl ?_
      refine bz_w (M := [some (rRef D), some (rFs K F0), some (rD K (.str n)), some (rTr K (n, false)), none]) (sw_if (d := false) (tw_eq (tw_eqD (d := .str "numbers") (d' := .str "words") hr.units (ew_dgetL (kvs := dCols z) (od := od) (D := D) (z := n) (v := .str "numbers") (by exact lockw_at) (hu_of hr) (ew_name 0 rfl (pv 0)) (ew_name 2 rfl (pv 2)) hpick (fun _ => Dp.str _) (by intro _ _; rfl)) ew_str hnu hw) (by rw [eqv_strs]; decide)) (fun e => nomatch e) fun _ => ?A) ?_
      case A => exact bw_one (sw_set (r := rTr K (n, false)) 3 (by exact ew_catL (rl := [rD K (trip .plain n 0), rD K (trip .size n 0)]) (rl' := [rD K (trip .rest n 2), rD K (trip .rest n 3)]) (ew_name 3 rfl (pv 3)) (ew_lst (aw_cons (ew_tupD (aw_cons ew_str (aw_cons (ew_name 2 rfl (pv 2)) (aw_cons ew_int aw_nil))) (by simp)) (aw_cons (ew_tupD (aw_cons ew_str (aw_cons (ew_name 2 rfl (pv 2)) (aw_cons ew_int aw_nil))) (by simp)) aw_nil)) (by simp)) (by simp)) scCands.nd rfl (.inl rfl))
      refine bz_bw ?_
      refine bw_cons (N := [some (rRef D), some (rFs K (F0 ++ (colQ (n, false)).flatMap (twoQ n))), some (rD K (.str n)), some (rTr K (n, false)), none]) (sw_any ?_) (bw_wipe 2 (bw_wipe 3 (bw_wipe 4 (bw_nilN rfl))))
      refine sw_for (fun j => [some (rRef D), some (rFs K (F0 ++ ((colQ (n, false)).take j).flatMap (twoQ n))), some (rD K (.str n)), some (rTr K (n, false)), none]) (fun j => [some (rRef D), some (rFs K (F0 ++ ((colQ (n, false)).take j).flatMap (twoQ n))), some (rD K (.str n)), some (rTr K (n, false)), some (((trips (n, false)).map (rD K)).getD j rNon)]) (by rw [List.take_zero, List.flatMap_nil, List.append_nil] <;> rfl) rfl (iw_n (n' := (colQ (n, false)).length) (iw_lst (rl := (trips (n, false)).map (rD K)) (ew_name 3 rfl (pv 3))) (by rw [List.length_map, List.length_map])) (fun j hj => gw_name 4 (pg_name scCands.nd rfl (.inl rfl))) (fun j hj => ?_) .never rfl
      have hkj : (colQ (n, false))[j]? = some (colQ (n, false))[j] := List.getElem?_eq_getElem hj
      rw [List.map_map, getD_map' hkj, List.take_succ_eq_append_getElem hj, List.flatMap_append, List.flatMap_singleton]
      have hl : (F0 ++ ((colQ (n, false)).take j).flatMap (twoQ n)).length ≤ 40 := two_len hlen0 (by simp [colQ])
      rw [← List.append_assoc]
      generalize F0 ++ ((colQ (n, false)).take j).flatMap (twoQ n) = F at hl ⊢
      generalize (colQ (n, false))[j] = kv
      obtain ⟨kk, vv⟩ := kv
      refine bw_cons (sw_set (r := rFs K (F ++ twoQ n (kk, vv))) 1 ?_ scCands.nd rfl (.inl rfl)) (bw_wipe 4 (bw_nilN rfl))
      refine ew_sub (ew_catL (rl := (F.map QD.t).map (rD K)) (rl' := [rD K (QD.t ⟨kk, n, vv, false⟩), rD K (QD.t ⟨kk, n, vv, true⟩)]) (ew_name 1 rfl (pv 1)) (ew_lst (aw_cons (ew_catTD (ds := [.str kk.s, .str n, .int vv]) (ds' := [.bool false]) (ew_name 4 rfl (pv 4)) (ew_tupD (aw_cons ew_bl aw_nil) (by simp)) (by simp)) (aw_cons (ew_catTD (ds := [.str kk.s, .str n, .int vv]) (ds' := [.bool true]) (ew_name 4 rfl (pv 4)) (ew_tupD (aw_cons ew_bl aw_nil) (by simp)) (by simp)) aw_nil)) (by simp)) (by rw [List.length_map, List.length_map]; show F.length + 2 ≤ 1000; omega)) fun v H p => ?_
      have e2 : ((F ++ twoQ n (kk, vv)).map QD.t).map (rD K) = (F.map QD.t).map (rD K) ++ [rD K (QD.t ⟨kk, n, vv, false⟩), rD K (QD.t ⟨kk, n, vv, true⟩)] := by rw [List.map_append, List.map_append] <;> rfl
      show (rLst _).p v H
      rw [e2]
      exact p
end
end K11
namespace K11
open PySem L2 Py
def kR (K : PySem.W.Frag) (ks : List Kd) : List Rep := ks.map fun k => rD K (.str k.s)
theorem kR_len {K : PySem.W.Frag} {ks : List Kd} : (kR K ks).length = ks.length := List.length_map _
theorem kR_get {K : PySem.W.Frag} {ks : List Kd} {v : V} {H : Hp} (i : Fin (kR K ks).length) (h : ((kR K ks)[i]).p v H) : ∃ k ∈ ks, (rD K (.str k.s)).p v H := by
  have hm : (kR K ks)[i] ∈ kR K ks := List.getElem_mem _
  obtain ⟨k, hk, e⟩ := List.mem_map.mp hm
  exact ⟨k, hk, by rw [e]; exact h⟩
def kdsOf : Bool → List Kd | false => [.plain, .size, .rest] | true => [.plain, .size, .ending]
theorem kds_len (b : Bool) : (kdsOf b).length = 3 := by cases b <;> rfl
/-- some part's tuple -/
abbrev rQ (K : PySem.W.Frag) (cs : Cols) : Rep := rEx (α := {q : QD // QFit cs q}) fun q => rD K q.1.t
theorem kds_fit {cs : Cols} {n : Str} {b : Bool} {k : Kd} {v : Int} {u : Bool} (hm : (n, b) ∈ cs) (hk : k ∈ kdsOf b) (hv : 2 ≤ v ∧ v ≤ 9) : QFit cs ⟨k, n, v, u⟩ := by
  cases b <;> simp only [kdsOf, List.mem_cons, List.not_mem_nil, or_false] at hk <;> rcases hk with rfl | rfl | rfl <;> refine ⟨⟨_, hm, rfl⟩, fun nn kk e => ?_⟩ <;> cases e <;> exact hv
section
variable {P : Program} {w : PySem.World} {K : PySem.W.Frag} {mg : Str → Option Value} {base : Heap} {d : Ad} {e : Ld} {t : Ae}
theorem scLPart : FnScope ["_law_state", "_law_columns", "_law_name", "_law_words"] ["_law_state", "_law_columns"] (defScope sLPart) := ⟨rfl, rfl, rfl, by decide +kernel, rfl, by decide +kernel, by decide +kernel⟩
theorem shw (b : Bool) : SeqAt.shaped (.str (kindS b)) = true := (shp_str (by cases b <;> decide +kernel)).ok
theorem ok_lpart (L : Lx P K mg d e) : FnR P w K mg base CX0 5 e.fLPart (spW (α := DZ × Cols) (fun W z => Draws K W z.1.p z.1.l z.1.zs ∧ ColsOk z.2) (fun z => [rRef z.1.p, rDict (dCols z.2)]) (fun z => rQ K z.2)) := by
  obtain ⟨fd1, F1⟩ := L.lNext
  obtain ⟨fd2, F2⟩ := L.lPick
  obtain ⟨fd, F⟩ := L.lLPart
  refine fn_w F scLPart (F.binds fun _ _ _ _ _ _ us hl => match us, hl with | [_, _], _ => rfl) (fun _ => rfl) fun cdv A outer s H E W z hr hp => ⟨none, ?_, fun _ e => nomatch e⟩
  obtain ⟨z, cs⟩ := z
  obtain ⟨hp, hc⟩ := hp
  change ColsOk cs at hc
  change Draws K W z.p z.l z.zs at hp
  refine bw_cons (N := [some (rRef z.p), some (rDict (dCols cs)), some (rEx (α := Fin cs.length) fun i => rD K (.str cs[i].1)), none]) (sw_set 2 (ew_sub (ew_call (z, (cs.map fun q => PyData.str q.1).map (rD K)) (ok_pick L) hr F2.kp rfl L.gPick (aw_cons (ew_name 0 rfl (pv 0)) (aw_cons (as_seq (by exact ew_listDict rfl rfl L.T.bList (ew_name 1 rfl (pv 1)) fun H => names_ds)) aw_nil)) ⟨hp, by rw [List.length_map, List.length_map]; exact hc.pos⟩) fun v H ⟨i, h⟩ => ?_) scLPart.nd rfl (.inl rfl)) ?_
  · have hl : i.1 < cs.length := by have := i.2; simpa using this
    have h' : (((cs.map fun q => PyData.str q.1).map (rD K))[i.1]'(i.2)).p v H := h
    rw [List.getElem_map, List.getElem_map] at h'
    exact ⟨⟨i.1, hl⟩, h'⟩
  refine bw_ex 2 rfl fun i => ?_
  have hm : cs[i] ∈ cs := List.getElem_mem _
  change Bw _ W [some (rRef z.p), some (rDict (dCols cs)), some (rD K (.str cs[i].1)), none] _ _
  generalize cs[i] = q at hm ⊢
  obtain ⟨n, b⟩ := q
  have hv : valV (dCols cs) (Sum.inr n) = some (.str (kindS b)) := kind_at hc hm
  refine bw_cons (N := [some (rRef z.p), some (rDict (dCols cs)), some (rD K (.str n)), some (rLst (kR K (kdsOf false)))]) (sw_set 3 (ew_lst (aw_cons ew_str (aw_cons ew_str (aw_cons ew_str aw_nil))) (by rw [kR_len]; decide)) scLPart.nd rfl (.inl rfl)) ?_
  refine bw_cons (N := [some (rRef z.p), some (rDict (dCols cs)), some (rD K (.str n)), some (rLst (kR K (kdsOf b)))]) (sw_if (d := b) (tw_eq (tw_eqD hr.units (ew_dget (d := .str (kindS b)) (hu_of hr) (ew_name 1 rfl (pv 1)) (ew_name 2 rfl (pv 2)) hv (fun _ => Dp.str _) (by intro _ _; rfl)) ew_str (shw b) (shw true)) (by rw [eqv_strs]; cases b <;> decide)) (fun h => ?_) fun h => ?_) ?_
  · subst h
    exact bw_one (sw_set 3 (ew_lst (aw_cons ew_str (aw_cons ew_str (aw_cons ew_str aw_nil))) (by rw [kR_len]; decide)) scLPart.nd rfl (.inl rfl))
  · subst h
    exact bw_nil
  refine bw_one (sw_ret (ew_sub (ew_tup (rl := [rEx (α := Fin (kR K (kdsOf b)).length) (fun i => (kR K (kdsOf b))[i]), rD K (.str n), rEx (α := {i : Int // 2 ≤ i ∧ i ≤ 9}) (fun i => rD K (.int i.1)), rEx (α := Bool) (fun u => rD K (.bool u))])
      (aw_cons (ew_call (z, kR K (kdsOf b)) (ok_pick L) hr F2.kp rfl L.gPick (aw_cons (ew_name 0 rfl (pv 0)) (aw_cons (ew_sub (ew_name 3 rfl (pv 3)) fun _ _ => lst_seq) aw_nil)) ⟨hp, by rw [kR_len, kds_len]; decide⟩)
      (aw_cons (ew_name 2 rfl (pv 2)) (aw_cons (ew_op op_add ew_int (ew_call (z, 8) (ok_next L) (hr.mono (by decide)) F1.kp rfl L.gNext (aw_cons (ew_name 0 rfl (pv 0)) (aw_cons ew_int aw_nil)) ⟨hp, show (0 : Int) < 8 by decide⟩) (R2w.exr fun i => R2w.in (α := {i : Int // 2 ≤ i ∧ i ≤ 9}) ⟨2 + i.1, by have := i.2; omega⟩ (r2_IK fun _ => Dp.int _)))
      (aw_cons (ew_cmp (op_eqD hr.units) (ew_call (z, 2) (ok_next L) (hr.mono (by decide)) F1.kp rfl L.gNext (aw_cons (ew_name 0 rfl (pv 0)) (aw_cons ew_int aw_nil)) ⟨hp, show (0 : Int) < 2 by decide⟩) ew_int (R2w.exl fun i => R2w.in _ (r2_eqDK (shaped_int _) (shaped_int _))) (nomark _)) aw_nil)))) (by simp)) fun v H h => ?_))
  obtain ⟨a, xs, ev, hs, hrr⟩ := h
  match xs, hrr with
  | [x1, x2, x3, x4], ⟨⟨i, h1⟩, h2, ⟨j, h3⟩, ⟨u, h4⟩, _⟩ =>
    obtain ⟨k, hk, h1'⟩ := kR_get i h1
    exact ⟨⟨⟨k, n, j.1, u⟩, kds_fit hm hk j.2⟩, rD_tup.mpr ⟨a, [x1, x2, x3, x4], ev, hs, h1', h2, h3, h4, trivial⟩⟩
theorem scLTable : FnScope ["_law_drawn_here"] ["_law_drawn_here"] (defScope sLTable) := ⟨rfl, rfl, rfl, by decide +kernel, rfl, by decide +kernel, by decide +kernel⟩
end
end K11
namespace K11
open PySem L2 Py
/-! ### tables that are drawn -/
def names3 : List Str := ["year", "title", "b"]
theorem good_names : ∀ z ∈ names3, Good z := by
  intro z hz
  simp only [names3, List.mem_cons, List.not_mem_nil, or_false] at hz
  rcases hz with rfl | rfl | rfl <;> exact good_of (by decide +kernel)
theorem names_nodup : names3.Nodup := by decide +kernel
theorem cols_ok {cs : Cols} {m : Nat} (h : cs.map (·.1) = names3.take m) (h1 : 1 ≤ m) : ColsOk cs := by
  have hl := congrArg List.length h
  rw [List.length_map, List.length_take] at hl
  have h3 : names3.length = 3 := rfl
  refine ⟨by omega, by omega, fun q hq => ?_, ?_⟩
  · have : q.1 ∈ cs.map (·.1) := List.mem_map.mpr ⟨q, hq, rfl⟩
    rw [h] at this
    exact good_names _ (List.mem_of_mem_take this)
  · rw [h]
    exact names_nodup.sublist (List.take_sublist _ _)
theorem toNat1 {i : Int} (h : 0 ≤ i) : ((i.toNat + 1 : Nat) : Int) = 1 + i := by omega
theorem toNat2 {i : Int} (h : 0 ≤ i) : ((i.toNat + 2 : Nat) : Int) = 2 + i := by omega
theorem names_notin {i : Nat} (h : i < 3) : names3.getD i "" ∉ names3.take i := by
  match i, h with
  | 0, _ => decide +kernel
  | 1, _ => decide +kernel
  | 2, _ => decide +kernel
theorem names_snoc {i : Nat} (h : i < 3) : names3.take i ++ [names3.getD i ""] = names3.take (i + 1) := by
  match i, h with
  | 0, _ => rfl
  | 1, _ => rfl
  | 2, _ => rfl
theorem put_new {cs : Cols} {n : Str} {b : Bool} (h : n ∉ cs.map (·.1)) : putK (dCols cs) (Sum.inr n) (.str (kindS b)) = dCols (cs ++ [(n, b)]) := by
  have e1 : dCols (cs ++ [(n, b)]) = dCols cs ++ [(Sum.inr n, .str (kindS b))] := by
    show List.map _ (List.map _ (cs ++ [(n, b)])) = _
    rw [List.map_append, List.map_append] <;> rfl
  rw [e1]
  unfold putK
  rw [if_neg]
  intro hc
  rw [List.any_eq_true] at hc
  obtain ⟨kv, hkv, hk⟩ := hc
  obtain ⟨i, hi⟩ := List.getElem?_of_mem hkv
  obtain ⟨q, hq, e2, _⟩ := kvs_at (k := kv.1) (v := kv.2) hi
  have e3 := of_decide_eq_true hk
  rw [e2] at e3
  cases e3
  exact h (List.mem_map.mpr ⟨q, List.mem_of_getElem? hq, rfl⟩)
section
variable {P : Program} {w : PySem.World} {K : PySem.W.Frag} {mg : Str → Option Value} {base : Heap} {d : Ad} {e : Ld} {t : Ae}
theorem scDrawn : FnScope ["_law_state", "_law_most", "_law_columns", "_law_name", "_law_rows", "_law_turn", "_law_every", "_law_size", "_law_kept", "_law_row"] ["_law_state", "_law_most"] (defScope sDrawn) := ⟨rfl, rfl, rfl, by decide +kernel, rfl, by decide +kernel, by decide +kernel⟩
/-- some row -/
def rSome (K : PySem.W.Frag) (cs : Cols) : Rep := rTup K (cs.map fun q => cellR K q.2)
theorem nd_cell {K : PySem.W.Frag} (b : Bool) : Nd (cellR K b) := by
  cases b <;> exact nd_ex fun _ => nd_rD
theorem nd_some {K : PySem.W.Frag} {cs : Cols} : Nd (rSome K cs) := nd_tup (nd_map fun q => nd_cell q.2)
def DOk (m : Nat) (c : TabD) : Prop := ColsOk c.cols ∧ 2 ≤ c.rows.length ∧ c.rows.length ≤ m ∧ ∀ row ∈ c.rows, RowOk c.cols row
def rDrawn (K : PySem.W.Frag) (c : TabD) : Rep := rTup K [rDict (dCols c.cols), rRows K c.rows]
theorem rep_last {r : Rep} (i : Nat) : (List.replicate (i + 1) r)[(List.replicate (i + 1) r).length - 1]? = some r := by
  rw [List.length_replicate, List.getElem?_replicate, if_pos (by omega)]
theorem rep_set {r : Rep} {n j : Nat} : (List.replicate n r).set j r = List.replicate n r := List.set_replicate_self
theorem row_open {K : PySem.W.Frag} : ∀ {cs : Cols} {xs : List V} {H : Hp}, Reps (cs.map fun q => cellR K q.2) xs H → ∃ row : List Cell, RowOk cs row ∧ Reps ((row.map Cell.d).map (rD K)) xs H
  | [], [], _, _ => ⟨[], trivial, trivial⟩
  | q :: cs, x :: xs, H, ⟨h1, h2⟩ => by
    obtain ⟨⟨c, hc⟩, h1'⟩ := cell_open h1
    obtain ⟨row, hr, h2'⟩ := row_open (cs := cs) h2
    exact ⟨c :: row, ⟨hc, hr⟩, h1', h2'⟩
  | _ :: _, [], _, h => h.elim
  | [], _ :: _, _, h => h.elim
theorem some_open {K : PySem.W.Frag} {cs : Cols} {v : V} {H : Hp} (h : (rSome K cs).p v H) : ∃ row : List Cell, RowOk cs row ∧ (rD K (rowD row)).p v H := by
  obtain ⟨a, xs, e1, e2, e3⟩ := h
  obtain ⟨row, hr, h3⟩ := row_open e3
  exact ⟨row, hr, rD_tup.mpr ⟨a, xs, e1, e2, h3⟩⟩
theorem somes_open {K : PySem.W.Frag} {cs : Cols} : ∀ {n : Nat} {xs : List V} {H : Hp}, Reps (List.replicate n (rSome K cs)) xs H → ∃ rows : List (List Cell), rows.length = n ∧ (∀ r ∈ rows, RowOk cs r) ∧ Reps ((rows.map rowD).map (rD K)) xs H
  | 0, [], _, _ => ⟨[], rfl, (fun _ h => by cases h), trivial⟩
  | n + 1, x :: xs, H, ⟨h1, h2⟩ => by
    obtain ⟨row, hr, h1'⟩ := some_open h1
    obtain ⟨rows, hl, hrs, h2'⟩ := somes_open (n := n) h2
    refine ⟨row :: rows, by rw [List.length_cons, hl], fun r hr' => ?_, h1', h2'⟩
    rcases List.mem_cons.mp hr' with rfl | hr'
    · exact hr
    · exact hrs r hr'
  | 0, _ :: _, _, h => h.elim
  | _ + 1, [], _, h => h.elim
theorem rows_open {K : PySem.W.Frag} {cs : Cols} {n : Nat} {v : V} {H : Hp} (h : (rLst (List.replicate n (rSome K cs))).p v H) : ∃ rows : {rows : List (List Cell) // rows.length = n ∧ ∀ r ∈ rows, RowOk cs r}, (rRows K rows.1).p v H := by
  obtain ⟨a, xs, e1, e2, e3⟩ := h
  obtain ⟨rows, hl, hr, h3⟩ := somes_open e3
  exact ⟨⟨rows, hl, hr⟩, rD_lst.mpr (lst_seq ⟨a, xs, e1, e2, h3⟩)⟩
theorem qs_open {K : PySem.W.Frag} {cs : Cols} {rows : List (List Cell)} {n : Nat} {v1 v2 v3 : V} {H : Hp} (h1 : (rDict (dCols cs)).p v1 H) (h2 : (rRows K rows).p v2 H) (h3 : (rLst ((List.range n).map fun _ => rQ K cs)).p v3 H) : ∃ qs : {qs : List QD // ∀ q ∈ qs, QFit cs q}, Reps [rDict (dCols cs), rRows K rows, rQs K qs.1] [v1, v2, v3] H := by
  obtain ⟨qs, _, h⟩ := lst_ex h3
  refine ⟨⟨qs.map (·.1), fun q hq => ?_⟩, h1, h2, rD_lst.mpr (lst_seq ?_), trivial⟩
  · obtain ⟨q', _, rfl⟩ := List.mem_map.mp hq
    exact q'.2
  · rw [List.map_map, List.map_map]
    exact h
theorem candQ_pos {K : PySem.W.Frag} {cs : Cols} (h : ColsOk cs) : 0 < (((candQ cs).map QD.t).map (rD K)).length := by
  rw [List.length_map, List.length_map]
  match cs, h.pos with
  | (n, b) :: cs, _ =>
    have e1 : candQ ((n, b) :: cs) = (colQ (n, b)).flatMap (twoQ n) ++ candQ cs := List.flatMap_cons
    rw [e1, List.length_append]
    have : 0 < ((colQ (n, b)).flatMap (twoQ n)).length := by cases b <;> simp [colQ, twoQ]
    omega
theorem pick_q {K : PySem.W.Frag} {cs : Cols} {v : V} {H : Hp} (i : Fin (((candQ cs).map QD.t).map (rD K)).length) (h : ((((candQ cs).map QD.t).map (rD K))[i]).p v H) : (rQ K cs).p v H := by
  have hm : (((candQ cs).map QD.t).map (rD K))[i] ∈ ((candQ cs).map QD.t).map (rD K) := List.getElem_mem _
  obtain ⟨dd, hd, e⟩ := List.mem_map.mp hm
  obtain ⟨q, hq, rfl⟩ := List.mem_map.mp hd
  exact ⟨⟨q, candQ_fit hq⟩, by rw [← e] at h; exact h⟩
def dedR (rows : List (List Cell)) : List (List Cell) := rows.foldl (fun ks r => if r ∈ ks then ks else ks ++ [r]) []
theorem ded_snoc (rows : List (List Cell)) (r : List Cell) : dedR (rows ++ [r]) = if r ∈ dedR rows then dedR rows else dedR rows ++ [r] := by
  unfold dedR
  rw [List.foldl_append]
  rfl
theorem ded_all (P : List Cell → Prop) : ∀ (n : Nat) {rows : List (List Cell)}, rows.length = n → (∀ r ∈ rows, P r) → (∀ r ∈ dedR rows, P r) ∧ (dedR rows).length ≤ rows.length
  | 0, rows, hn, _ => by
    obtain rfl := List.length_eq_zero_iff.mp hn
    exact ⟨fun r hr => (by cases hr), Nat.le_refl _⟩
  | n + 1, rows, hn, h => by
    have hne : rows ≠ [] := by intro c; rw [c] at hn; cases hn
    have e1 := List.dropLast_concat_getLast hne
    have hl : rows.dropLast.length = n := by rw [List.length_dropLast, hn]; rfl
    obtain ⟨h1, h2⟩ := ded_all P n hl fun r hr => h r ((List.dropLast_sublist rows).subset hr)
    have hlast := h _ (List.getLast_mem hne)
    rw [← e1, ded_snoc]
    split
    · exact ⟨h1, by rw [List.length_append]; omega⟩
    · refine ⟨fun r hr => ?_, by rw [List.length_append, List.length_append]; simp; omega⟩
      rcases List.mem_append.mp hr with hr | hr
      · exact h1 r hr
      · obtain rfl : r = _ := by simpa using hr
        exact hlast
theorem any_row {cs : Cols} {ks : List (List Cell)} {row : List Cell} (h : ∀ r ∈ ks, RowOk cs r) (hr : RowOk cs row) : ((ks.map rowD).any fun z => PyData.eqv z (rowD row)) = decide (row ∈ ks) := by
  induction ks with
  | nil => simp
  | cons k ks ih =>
    rw [List.map_cons, List.any_cons, ih fun r hr => h r (List.mem_cons_of_mem _ hr), eqv_row (h k List.mem_cons_self) hr]
    by_cases h1 : k = row
    · subst h1; simp
    · by_cases h2 : row ∈ ks <;> simp [h1, h2, Ne.symm h1]
theorem ok_drawn (L : Lx P K mg d e) (Y : Ty P K mg d t) : FnR P w K mg base CX0 7 e.fDrawn (spW (α := DZ × Nat) (fun W z => Draws K W z.1.p z.1.l z.1.zs ∧ 2 ≤ z.2 ∧ z.2 ≤ 8) (fun z => [rRef z.1.p, rD K (.int z.2)]) (fun z => rEx (α := {c : TabD // DOk z.2 c}) fun c => rDrawn K c.1)) := by
  obtain ⟨fd1, F1⟩ := L.lNext
  obtain ⟨fd2, F2⟩ := L.lPick
  obtain ⟨fd3, F3⟩ := L.lCell
  obtain ⟨fd4, F4⟩ := L.lCands
  obtain ⟨fd5, F5⟩ := L.lSorted
  obtain ⟨fd, F⟩ := L.lDrawn
  refine fn_w F scDrawn (F.binds fun _ _ _ _ _ _ us hl => match us, hl with | [_, _], _ => rfl) (fun _ => rfl) fun cdv A outer s H E W z hr hp => ⟨none, ?_, fun _ e => nomatch e⟩
  obtain ⟨z, m⟩ := z
  obtain ⟨hp, h2m, hm8⟩ := hp
  change 2 ≤ m at h2m
  change m ≤ 8 at hm8
  change Draws K W z.p z.l z.zs at hp
  refine bw_of_br (br_growK 2 scDrawn.nd rfl (.inr rfl) fun D => ?_)
  refine br_say 2 rfl (show ([] : Cols).map (·.1) = names3.take 0 from rfl) ?_
  refine br_cons (sz_forE (γ := Fin 3) (β := Cols) (n := fun c => c.1 + 1) (item := fun i => rD K (.str (names3.getD i ""))) 3 (fun b => .dK (dCols b))
    (fun i b => [some (rRef z.p), some (rD K (.int m)), some (rAnd (b.map (·.1) = names3.take i) (rRef D)), none, none, none, none, none, none, none])
    (fun i b => [some (rRef z.p), some (rD K (.int m)), some (rAnd (b.map (·.1) = names3.take i) (rRef D)), some (rD K (.str (names3.getD i ""))), none, none, none, none, none, none]) ([] : Cols) ?it (fun c => by have := c.2; omega) (fun i b hi => gw_name 3 (pg_name scDrawn.nd rfl (.inl rfl))) (fun i b hi => ?_) .never rfl) fun cb => ?_
  case it =>
    refine i2e_n (i2e_seq (item := fun i => rD K (.str (names3.getD i ""))) (rl := fun c : Fin 3 => (names3.map fun n => rD K (.str n)).take (c.1 + 1)) (ew_sub (r := rEx fun c : Fin 3 => rLst ((names3.map fun n => rD K (.str n)).take (c.1 + 1))) ?_ fun v H ⟨c, p⟩ => ⟨c, lst_seq p⟩) fun c i r hr => ?_) fun c => by have := c.2; simp [names3]; omega
    · refine ew_takeLE (γ := Fin 3) (m := fun c => c.1 + 1) (lst_as ?_) ?_
      · exact ew_lst (rl := [rD K (.str "year"), rD K (.str "title"), rD K (.str "b")]) (aw_cons ew_str (aw_cons ew_str (aw_cons ew_str aw_nil))) (by simp)
      · exact ew_op op_add ew_int (ew_call (z, 3) (ok_next L) (hr.mono (by decide)) F1.kp rfl L.gNext (aw_cons (ew_name 0 rfl (pv 0)) (aw_cons ew_int aw_nil)) ⟨hp.hold _ _, show (0 : Int) < 3 by decide⟩) (R2w.exr fun i => R2w.in (α := Fin 3) ⟨i.1.toNat, by have := i.2; omega⟩ (by show R2w _ _ _ _ (rD _ (.int ((i.1.toNat + 1 : Nat) : Int))); rw [toNat1 i.2.1]; exact r2_IK fun _ => Dp.int _))
    · rw [List.getElem?_take] at hr
      split at hr
      · rw [List.getElem?_map] at hr
        cases e1 : names3[i]? with
        | none => rw [e1] at hr; cases hr
        | some n =>
          rw [e1] at hr
          cases hr
          rw [List.getD_eq_getElem?_getD, e1] <;> rfl
      · cases hr
  · refine bz_know 2 rfl fun hP => ?_
    have hil : i < names3.length := hi
    refine bz_cons (sz_dput (γ := Bool) (kvs := dCols b) (z := names3.getD i "") (g := fun b => .str (kindS b)) (r := rEx (α := Bool) fun b => rD K (.str (kindS b))) (hu_of hr) (ew_name 2 rfl (pv 2)) (ew_name 3 rfl (pv 3)) ?_ (fun x H ⟨c, p⟩ => ⟨c, rD_str.mp p⟩) ?_) fun c => ?_
    · refine ew_sub (ew_call (z, [rD K (.str "numbers"), rD K (.str "words")]) (ok_pick L) (hr.mono (by decide)) F2.kp rfl L.gPick (aw_cons (ew_name 0 rfl (pv 0)) (aw_cons (lst_as (ew_lst (aw_cons ew_str (aw_cons ew_str aw_nil)) (by simp))) aw_nil)) ⟨hp.hold _ _, by simp⟩) fun v H ⟨i, h⟩ => ?_
      match i, h with
      | ⟨0, _⟩, h => exact ⟨false, h⟩
      | ⟨1, _⟩, h => exact ⟨true, h⟩
    · rw [dCols_len]
      exact small1000 (by have := congrArg List.length hP; rw [List.length_map, List.length_take] at this; omega)
    · have hnew : names3.getD i "" ∉ b.map (·.1) := by
        rw [hP]
        exact names_notin hil
      have hP' : (b ++ [(names3.getD i "", c)]).map (·.1) = names3.take (i + 1) := by rw [List.map_append, hP]; exact names_snoc hil
      exact bz_say 2 rfl hP' (bz_wipe 3 (bz_nilN (b ++ [(names3.getD i "", c)]) (by rw [put_new hnew]) rfl))
  · obtain ⟨c0, cs⟩ := cb
    refine br_know 2 rfl fun hP => ?_
    have hc : ColsOk cs := cols_ok hP (by omega)
    clear hP
    refine br_outD 2 rfl ?_
    refine br_growL 4 scDrawn.nd rfl (.inl rfl) aw_nil (by simp) fun D2 xs => ?_
    refine br_cons (sz_forE (γ := Fin (m - 1)) (β := List V) (n := fun c => c.1 + 2) (item := fun i => rD K (.int i)) m (fun xs => .lst xs)
      (fun i xs => [some (rRef z.p), some (rD K (.int m)), some (rDict (dCols cs)), none, some (rAtL D2 (List.replicate i (rSome K cs)) xs), none, none, none, none, none])
      (fun i xs => [some (rRef z.p), some (rD K (.int m)), some (rDict (dCols cs)), none, some (rAtL D2 (List.replicate i (rSome K cs)) xs), some (rD K (.int i)), none, none, none, none]) xs ?it (fun c => by have := c.2; omega) (fun i b hi => gw_name 5 (pg_name scDrawn.nd rfl (.inl rfl))) (fun i b hi => ?_) .never rfl) fun cb => ?_
    case it =>
      refine i2e_n (i2e_range (γ := Fin (m - 1)) (j := fun c => ((c.1 + 2 : Nat) : Int)) rfl Y.bRange ?_ (fun c => by have := c.2; omega)) fun c => by omega
      refine ew_op op_add ew_int (ew_call (z, ((m - 1 : Nat) : Int)) (ok_next L) (hr.mono (by decide)) F1.kp rfl L.gNext (aw_cons (ew_name 0 rfl (pv 0)) (aw_cons (by show Ew _ _ _ _ (rD K (.int ((m - 1 : Nat) : Int))); rw [show ((m - 1 : Nat) : Int) = (m : Int) - 1 by omega]; exact ew_subI (ew_name 1 rfl (pv 1)) ew_int) aw_nil)) ⟨hp.hold _ _, show (0 : Int) < ((m - 1 : Nat) : Int) by omega⟩) (R2w.exr fun i => R2w.in (α := Fin (m - 1)) ⟨i.1.toNat, by have := i.2; omega⟩ (by show R2w _ _ _ _ (rD _ (.int ((i.1.toNat + 2 : Nat) : Int))); rw [toNat2 i.2.1]; exact r2_IK fun _ => Dp.int _))
    · refine bz_wipe 5 ?_
      refine bz_cons (sz_append (r := rSome K cs) 4 rfl (ew_name 4 rfl (pv 4)) ?row (by rw [List.length_replicate]; omega)) fun y => ?_
      case row =>
        refine ew_walkD 2 rfl ⟨nd_rV, nd_rD, nd_atL fun r hr => by rw [List.eq_of_mem_replicate hr]; exact nd_some, trivial⟩ (hp.hold _ _) fun D od hid dr => ?_
        have er : rSome K cs = rTup K ((List.range cs.length).map fun i => cellR K (cs.getD i q0).2) := by
          unfold rSome
          rw [range_map (fun q : Str × Bool => cellR K q.2) _ cs fun i hi => by rw [List.getD_eq_getElem?_getD, List.getElem?_eq_getElem hi] <;> rfl]
        rw [er]
        refine ew_tupOf rfl Y.bTuple (lst_as ?_)
        refine ew_lcAll 3 (y := "_law_name") (fun i => cellR K (cs.getD i q0).2) rfl scDrawn.nd (n := cs.length) (item := fun i => rD K (.str (cs.getD i q0).1)) (iw_n (iw_keys lockw_at (ew_name 2 rfl (pv 2)) (fun i => rD K (.str (cs.getD i q0).1)) ?_) (dCols_len cs)) (blkOk_by (N := ["_law_state", "_law_most", "_law_columns", "_law_name", "_law_rows", "_law_turn", "_law_every", "_law_size", "_law_kept", "_law_row"]) (sc := defScope sDrawn) (by decide +kernel)) (by have := hc.le; omega) (fun _ _ _ _ _ => pg_name scDrawn.nd rfl (.inl rfl)) ?_
        · intro i k v H e
          obtain ⟨q, e1, rfl, rfl⟩ := kvs_at e
          rw [getD_of' e1]
          exact Dp.str _
        · intro s' H' C cl' fp D3 o3 j hj
          have hqj : cs[j]? = some cs[j] := List.getElem?_eq_getElem hj
          rw [getD_of' hqj]
          have hv := kind_at hc (n := cs[j].1) (b := cs[j].2) (List.getElem_mem hj)
          exact ew_call (z, cs[j].2) (ok_cell L) (hr.mono (by decide)) F3.kp rfl L.gCell (aw_cons (ew_name 0 rfl (pv 0)) (aw_cons (ew_dgetL (kvs := dCols cs) (od := od) (D := D) (z := cs[j].1) (v := .str (kindS cs[j].2)) (by exact lockw_at.hold _ _) (hu_of hr) (ew_name 2 rfl (pv 2)) (ew_name 3 rfl (pv 3)) hv (fun _ => Dp.str _) (by intro _ _; rfl)) aw_nil)) (dr.hold _ _)
      rw [← List.replicate_succ']
      refine bz_cons (V1 := fun ys : List V => W.hold D2 (.lst ys)) (N1 := fun ys : List V => [some (rRef z.p), some (rD K (.int m)), some (rDict (dCols cs)), none, some (rAtL D2 (List.replicate (i + 1) (rSome K cs)) ys), none, none, none, none, none]) (sz_ifE (twe_cmp (op_eqD hr.units) (ew_call (z, 3) (ok_next L) (hr.mono (by decide)) F1.kp rfl L.gNext (aw_cons (ew_name 0 rfl (pv 0)) (aw_cons ew_int aw_nil)) ⟨hp.hold _ _, show (0 : Int) < 3 by decide⟩) ew_int (R2w.exl fun i => R2w.in _ (r2_eqDK (shaped_int _) (shaped_int _)))) ?_ (bz_nilN (b ++ [y]) rfl rfl)) fun ys => bz_nilN ys rfl rfl
      refine bz_cons (sz_setLast (r := rSome K cs) 4 rfl (by simp) (ew_name 4 rfl (pv 4)) (ew_negI ew_int) ?_) fun y' => bz_nilN ((b ++ [y]).set ((List.replicate (i + 1) (rSome K cs)).length - 1) y') rfl ?_
      · refine ew_sub (ew_catT (rl := (cs.map fun q => cellR K q.2).take 1) (rl' := (cs.map fun q => cellR K q.2).drop 1) (ew_takeA (m := 1) (rl := cs.map fun q => cellR K q.2) (by exact ew_ixA (r := rSome K cs) 0 (ew_name 4 rfl (pv 4)) ew_int rfl rfl (by intro _ _; rfl)) ew_int) (ew_dropA (m := 1) (rl := cs.map fun q => cellR K q.2) (by exact ew_ixLastA (r := rSome K cs) (ew_name 4 rfl (pv 4)) (ew_negI ew_int) (rep_last i) (by intro _ _; rfl)) ew_int) (by have := hc.le; rw [← List.length_append, List.take_append_drop, List.length_map]; omega)) fun v H p => ?_
        rw [List.take_append_drop] at p
        exact p
      · rw [rep_set]
        rfl
    · obtain ⟨c0, xs'⟩ := cb
      refine br_out 4 rfl ?_
      refine br_open (γ := {rows : List (List Cell) // rows.length = c0.1 + 2 ∧ ∀ r ∈ rows, RowOk cs r}) (f := fun rows => rRows K rows.1) 4 rfl (fun v H h => rows_open h) fun rows => ?_
      obtain ⟨rows, hrl, hrows⟩ := rows
      have hl2 : 2 ≤ rows.length := by omega
      have hlm : rows.length ≤ m := by have := c0.2; omega
      refine br_w (M := [some (rRef z.p), some (rD K (.int m)), some (rDict (dCols cs)), none, some (rRows K rows), none, some (rFs K (candQ cs)), none, none, none]) (sw_set (r := rFs K (candQ cs)) 6 (ew_call cs (ok_cands L Y) (hr.mono (by decide)) F4.kp rfl L.gCands (aw_cons (ew_name 2 rfl (pv 2)) aw_nil) hc) scDrawn.nd rfl (.inr rfl)) ?_
      refine br_cons (V1 := fun _ : {rs' : List (List Cell) // (∀ r ∈ rs', RowOk cs r) ∧ rs'.length = rows.length} => W) (N1 := fun rs' => [some (rRef z.p), some (rD K (.int m)), some (rDict (dCols cs)), none, some (rRows K rs'.1), none, some (rFs K (candQ cs)), none, none, none]) (sz_ifE (twe_cmp op_gt (ew_call (z, 5) (ok_next L) (hr.mono (by decide)) F1.kp rfl L.gNext (aw_cons (ew_name 0 rfl (pv 0)) (aw_cons ew_int aw_nil)) ⟨hp, show (0 : Int) < 5 by decide⟩) ew_int (R2w.exl fun i => R2w.in (decide ((0 : Int) < i.1)) (r2_IK fun _ => Dp.bl _))) ?_ (bz_nilN ⟨rows, hrows, rfl⟩ rfl rfl)) fun rs' => ?_
      · refine bz_w (M := [some (rRef z.p), some (rD K (.int m)), some (rDict (dCols cs)), none, some (rRows K rows), none, some (rFs K (candQ cs)), some (rEx fun c : Fin 3 => rD K (.int ((c.1 + 1 : Nat) : Int))), none, none]) (sw_set 7 (ew_op op_add ew_int (ew_call (z, 3) (ok_next L) (hr.mono (by decide)) F1.kp rfl L.gNext (aw_cons (ew_name 0 rfl (pv 0)) (aw_cons ew_int aw_nil)) ⟨hp, show (0 : Int) < 3 by decide⟩) (R2w.exr fun i => R2w.in (α := Fin 3) ⟨i.1.toNat, by have := i.2; omega⟩ (by show R2w _ _ _ _ (rD _ (.int ((i.1.toNat + 1 : Nat) : Int))); rw [toNat1 i.2.1]; exact r2_IK fun _ => Dp.int _))) scDrawn.nd rfl (.inl rfl)) ?_
        refine bz_open (γ := Fin 3) (f := fun c => rD K (.int ((c.1 + 1 : Nat) : Int))) 7 rfl (fun v H p => p) fun c => ?_
        refine bz_w (M := [some (rRef z.p), some (rD K (.int m)), some (rDict (dCols cs)), none, some (rEx fun rs' : {rs' : List (List Cell) // (∀ r ∈ rs', RowOk cs r) ∧ rs'.length = rows.length} => rRows K rs'.1), none, some (rFs K (candQ cs)), some (rD K (.int ((c.1 + 1 : Nat) : Int))), none, none]) (sw_set 4 ?_ scDrawn.nd rfl (.inl rfl)) ?_
        · refine ew_exCall (rl := [rDict (dCols cs), rRows K rows, rLst ((List.range (c.1 + 1)).map fun _ => rQ K cs)]) (ι := {qs : List QD // ∀ q ∈ qs, QFit cs q}) (fun qs => (cs, rows, qs.1)) (fun vs H h => ?_) (ok_sorted L Y) (hr.mono (by decide)) F5.kp rfl L.gSorted (aw_cons (ew_name 2 rfl (pv 2)) (aw_cons (ew_name 4 rfl (pv 4)) (aw_cons ?_ aw_nil))) (fun qs => ⟨hc, hrows, qs.2, by show rows.length ≤ 100; omega⟩) fun qs v H h => ?_
          · match vs, h with
            | [v1, v2, v3], ⟨h1, h2, h3, _⟩ => exact qs_open h1 h2 h3
          · refine ew_lcAll 5 (y := "_law_turn") (fun _ => rQ K cs) rfl scDrawn.nd (n := c.1 + 1) (item := fun i => rD K (.int i)) (iw_n (by exact iw_range1 rfl Y.bRange (ew_name 7 rfl (pv 7)) (by have := c.2; omega)) (by omega)) (blkOk_by (N := ["_law_state", "_law_most", "_law_columns", "_law_name", "_law_rows", "_law_turn", "_law_every", "_law_size", "_law_kept", "_law_row"]) (sc := defScope sDrawn) (by decide +kernel)) (by have := c.2; omega) (fun _ _ _ _ _ => pg_name scDrawn.nd rfl (.inl rfl)) ?_
            intro s' H' C cl' fp D3 o3 j hj
            exact ew_sub (ew_call (z, ((candQ cs).map QD.t).map (rD K)) (ok_pick L) (hr.mono (by decide)) F2.kp rfl L.gPick (aw_cons (ew_name 0 rfl (pv 0)) (aw_cons (lst_as (by exact (ew_name 6 rfl (pv 6)))) aw_nil)) ⟨hp.hold _ _, candQ_pos hc⟩) fun v H ⟨i, h⟩ => pick_q i h
          · exact ⟨⟨sortedR cs (parts qs.1) rows, sorted_all (RowOk cs) hrows⟩, rD_lst.mpr (lst_seq (by rw [← rlR_eq]; exact h))⟩
        · exact bz_open (γ := {rs' : List (List Cell) // (∀ r ∈ rs', RowOk cs r) ∧ rs'.length = rows.length}) (f := fun rs' => rRows K rs'.1) 4 rfl (fun v H p => p) fun rs' => bz_wipe 7 (bz_nilN rs' rfl rfl)
      · obtain ⟨rs1, hr1, hl1⟩ := rs'
        refine br_cons (V1 := fun _ : {rs' : List (List Cell) // (∀ r ∈ rs', RowOk cs r) ∧ 2 ≤ rs'.length ∧ rs'.length ≤ m} => W) (N1 := fun rs' => [some (rRef z.p), some (rD K (.int m)), some (rDict (dCols cs)), none, some (rRows K rs'.1), none, some (rFs K (candQ cs)), none, none, none]) (sz_ifE (twe_cmp op_gt (ew_call (z, 3) (ok_next L) (hr.mono (by decide)) F1.kp rfl L.gNext (aw_cons (ew_name 0 rfl (pv 0)) (aw_cons ew_int aw_nil)) ⟨hp, show (0 : Int) < 3 by decide⟩) ew_int (R2w.exl fun i => R2w.in (decide ((0 : Int) < i.1)) (r2_IK fun _ => Dp.bl _))) ?_ (bz_nilN ⟨rs1, hr1, by omega, by omega⟩ rfl rfl)) fun rs' => ?_
        · refine bz_growL 8 scDrawn.nd rfl (.inl rfl) aw_nil (by simp) fun D3 xs => ?_
          refine bz_cons (sz_for (β := List V) (n := rs1.length) (fun xs => .lst xs) (fun i xs => [some (rRef z.p), some (rD K (.int m)), some (rDict (dCols cs)), none, some (rRows K rs1), none, some (rFs K (candQ cs)), none, some (rAtL D3 (((dedR (rs1.take i)).map rowD).map (rD K)) xs), none]) (fun i xs => [some (rRef z.p), some (rD K (.int m)), some (rDict (dCols cs)), none, some (rRows K rs1), none, some (rFs K (candQ cs)), none, some (rAtL D3 (((dedR (rs1.take i)).map rowD).map (rD K)) xs), some (((rs1.map rowD).map (rD K)).getD i rNon)]) xs (i2_n (i2_seq (as_seq (ds := rs1.map rowD) (ew_name 4 rfl (pv 4)))) (by simp)) (fun i b hi => gw_name 9 (pg_name scDrawn.nd rfl (.inl rfl))) (fun i b hi => ?_) .never rfl) fun xs => ?_
          · have hri : rs1[i]? = some rs1[i] := List.getElem?_eq_getElem hi
            have ei : ((rs1.map rowD).map (rD K)).getD i rNon = rD K (rowD rs1[i]) := by rw [List.map_map, getD_map' hri] <;> rfl
            rw [ei]
            have hrow := hr1 _ (List.getElem_mem hi)
            have ht : dedR (rs1.take (i + 1)) = if rs1[i] ∈ dedR (rs1.take i) then dedR (rs1.take i) else dedR (rs1.take i) ++ [rs1[i]] := by
              rw [List.take_succ_eq_append_getElem hi, ded_snoc]
            obtain ⟨hks, hkl⟩ := ded_all (RowOk cs) i (rows := rs1.take i) (by rw [List.length_take]; omega) fun r hr => hr1 r (List.mem_of_mem_take hr)
            rw [List.length_take] at hkl
            rw [ht]
            generalize dedR (rs1.take i) = ks at hks hkl ⊢
            generalize rs1[i] = row at hrow ⊢
            refine bz_cons (V1 := fun ys : List V => W.hold D3 (.lst ys)) (N1 := fun ys : List V => [some (rRef z.p), some (rD K (.int m)), some (rDict (dCols cs)), none, some (rRows K rs1), none, some (rFs K (candQ cs)), none, some (rAtL D3 (((if row ∈ ks then ks else ks ++ [row]).map rowD).map (rD K)) ys), some (rD K (rowD row))]) (sz_if (d := decide (row ∉ ks)) (tw_eq (tw_notInA (d := rowD row) (ds := ks.map rowD) (units65 hr) (ew_name 9 rfl (pv 9)) (ew_name 8 rfl (pv 8)) (shp_row hrow).ok (shp_lst (shp_map fun r hr' => shp_row (hks r hr'))).ok) (by rw [any_row hks hrow]; simp)) (fun h => ?_) fun h => ?_) fun ys => bz_wipe 9 (bz_nilN ys rfl rfl)
            · have hn : row ∉ ks := of_decide_eq_true h
              rw [if_neg hn, List.map_append, List.map_append]
              exact bz_cons (sz_append (r := rD K (rowD row)) 8 rfl (ew_name 8 rfl (pv 8)) (ew_name 9 rfl (pv 9)) (by rw [List.length_map, List.length_map]; omega)) fun y => bz_nilN (b ++ [y]) rfl rfl
            · have hn : row ∈ ks := by simpa using h
              rw [if_pos hn]
              exact bz_nilN b rfl rfl
          · rw [List.take_length]
            obtain ⟨hks, hkl⟩ := ded_all (RowOk cs) _ rfl hr1
            generalize dedR rs1 = ks at hks hkl ⊢
            refine bz_out 8 rfl ?_
            refine bz_cons (V1 := fun _ : {rs' : List (List Cell) // (∀ r ∈ rs', RowOk cs r) ∧ 2 ≤ rs'.length ∧ rs'.length ≤ m} => W) (N1 := fun rs' => [some (rRef z.p), some (rD K (.int m)), some (rDict (dCols cs)), none, some (rRows K rs'.1), none, some (rFs K (candQ cs)), none, none, none]) (sz_if (d := decide (1 < ks.length)) (tw_eq (tw_gt (ew_lenSeq rfl L.T.bLen (lst_as (ew_name 8 rfl (pv 8)))) ew_int) (by rw [List.length_map, List.length_map]; exact decide_eq_decide.mpr (by omega))) (fun h => ?_) fun h => ?_) fun rs' => bz_nilN rs' rfl rfl
            · have hn : 1 < ks.length := of_decide_eq_true h
              refine bz_w (M := [some (rRef z.p), some (rD K (.int m)), some (rDict (dCols cs)), none, some (rRows K ks), none, some (rFs K (candQ cs)), none, some (rLst ((ks.map rowD).map (rD K))), none]) (sw_set (r := rRows K ks) 4 (by exact of_lst (ds := ks.map rowD) (ew_name 8 rfl (pv 8))) scDrawn.nd rfl (.inl rfl)) (bz_wipe 8 (bz_nilN ⟨ks, hks, by omega, by omega⟩ rfl rfl))
            · exact bz_wipe 8 (bz_nilN ⟨rs1, hr1, by omega, by omega⟩ rfl rfl)
        · obtain ⟨rs2, hr2, hl2', hlm'⟩ := rs'
          exact br_of (W' := fun _ : Unit => W) (rr := fun _ => rEx (α := {c : TabD // DOk m c}) fun c => rDrawn K c.1) () (bw_one (sw_ret (ew_sub (ew_tup (rl := [rDict (dCols cs), rRows K rs2]) (aw_cons (ew_name 2 rfl (pv 2)) (aw_cons (ew_name 4 rfl (pv 4)) aw_nil)) (by simp)) fun v H p => ⟨⟨⟨cs, rs2⟩, hc, hl2', hlm', hr2⟩, p⟩)))
end
end K11
namespace Py
open PySem L2
/-! ### d != d', both from texts to texts and the same -/
theorem hits_str {A : Around} {s : Shared} {ls : List (L2.Key × V)} {vb : List (L2.Key × Value)} (rb : KV ls vb) : ∀ {ks : List (L2.Key × V)} {va : List (L2.Key × Value)}, KV ks va → (∀ p ∈ ks, ∃ z, p.2 = V.str z ∧ valV ls p.1 = some (.str z)) → PySem.W.KeqHits A s vb va true := by
  intro ks va ra
  unfold KV at ra
  induction ra with
  | nil => intro _; exact .nil
  | @cons p q ps qs h t k =>
    intro hp
    obtain ⟨h1, h2⟩ := h
    obtain ⟨z, e, f⟩ := hp p List.mem_cons_self
    have rr : RelO (some (V.str z)) (PySem.valueAt vb p.1) := by rw [← f]; exact rb.val p.1
    obtain ⟨y, hy, ⟨ty, ey⟩⟩ := rr.some_of
    obtain ⟨key, v⟩ := q
    have h1' : p.1 = key := h1
    rw [h1'] at hy
    rw [e] at h2
    obtain ⟨tv, ev⟩ := h2
    have ev' : v = Value.str z tv := ev
    subst ev' ey
    have hh := PySem.W.keq_flat (A := A) (s := s) (PyProof.V.Flat.str z tv) (PyProof.V.Flat.str z ty)
    rw [eqv_strs, decide_eq_true rfl] at hh
    exact .hit (e := true) (b := true) hy hh (k fun p' hm => hp p' (List.mem_cons_of_mem _ hm))
variable {X : Cx} {W : World} {rs : Rs} {a b : Expr} {pos : Pos}
theorem op_neDictS (hu : X.A.units + 1 < cLine) : OpR X (compareOp .NotEq) (fun x y H Q => ∃ (l m : Addr) (kvs : List (Str × Str)), x = .ref l ∧ y = .ref m ∧ H l = some (.dK (dictS kvs)) ∧ H m = some (.dK (dictS kvs)) ∧ (kvs.map (·.1)).Nodup ∧ Q (.bl false) H) := by
  intro pins s σ H x y v u Q I rx ry ⟨l, m, kvs, ex, ey, hl, hm, hn, q⟩
  subst ex ey
  obtain rfl : v = Value.ref l := rx
  obtain rfl : u = Value.ref m := ry
  obtain ⟨_, sl, vs, rel, da⟩ := dk_of I.hok hl
  obtain ⟨_, sm, vs', rel', db⟩ := dk_of I.hok hm
  have el : (vs.length == vs'.length) = true := by
    have h1 := Paired.length rel
    have h2 := Paired.length rel'
    rw [← h1, ← h2]
    simp
  refine PySem.W.keq_ne (r := true) sl sm da db (by omega) (fun _ => hits_str rel' rel fun p hp => ?_) ?_
  · obtain ⟨kv, hkv, rfl⟩ := List.mem_map.mp hp
    exact ⟨kv.2, rfl, valV_dictS hn hkv⟩
  · rw [el]
    exact ⟨.bl false, H, I, rfl, q⟩
theorem tw_neDictS {kvs : List (Str × Str)} (hu : X.A.units + 1 < cLine) (hn : (kvs.map (·.1)).Nodup) (ha : Ew X W rs a (rDict (dictS kvs))) (hb : Ew X W rs b (rDict (dictS kvs))) : Tw X W rs (.Compare a [.NotEq] [b] pos) false :=
  tw_cmp (op_neDictS hu) ha hb (fun x y H k ⟨l, e1, h1⟩ ⟨m, e2, h2⟩ Q q => ⟨l, m, kvs, e1, e2, W.sub H _ _ h1, W.sub H _ _ h2, hn, q _ H k (Ex.refl _) (Dp.bl _)⟩) (nomark _)
theorem ew_forget {e : Expr} {r : Rep} (i : Nat) (h : Ew X W (rs.set i none) e r) : Ew X W rs e r := pe_cs h fun σ H Q ⟨k, g, q⟩ => ⟨k, sg_wipe g, q⟩
end Py
namespace Py
open PySem L2
/-! ### a list of ints that is popped -/
structure Pool (K : PySem.W.Frag) (W : World) (p : Addr) : Prop where
  hid : W.hd p
  rd : ∀ H, W.ok H → ∃ ns : List Int, ns.length ≤ 1000 ∧ H p = some (.lst (ns.map V.int))
  wr : ∀ H (ns : List Int), W.ok H → ns.length ≤ 1000 → W.ok (upd H p (.lst (ns.map V.int)))
section
variable {K : PySem.W.Frag} {W : World} {p l : Addr}
theorem Pool.hold (d : Pool K W p) (D : Addr) (o : HO) : Pool K (W.hold D o) p := ⟨.inl d.hid, fun H k => d.rd H k.1, fun H ns k hn => ⟨d.wr H ns k.1 hn, k.2.1, by
  have : D ≠ p := fun c => k.2.1 (c ▸ d.hid)
  rw [upd_ne this]
  exact k.2.2⟩⟩
theorem Pool.ne (d : Pool K W p) {D : Addr} {kvs : List (L2.Key × V)} (t : DictAt W D kvs) {H : Hp} (k : W.ok H) : p ≠ D := by
  intro c
  subst c
  obtain ⟨ns, _, h⟩ := d.rd H k
  rw [t.at_ H k] at h
  cases h
theorem reps_intZ {H : Hp} : ∀ {xs : List Int}, Reps ((xs.map PyData.int).map (rD K)) (xs.map V.int) H
  | [] => trivial
  | x :: xs => ⟨Dp.int _, reps_intZ (xs := xs)⟩
theorem ints_of_reps {H : Hp} : ∀ {xs : List Int} {vs : List V}, Reps ((xs.map PyData.int).map (rD K)) vs H → vs = xs.map V.int
  | [], [], _ => rfl
  | x :: xs, v :: vs, ⟨h1, h2⟩ => by rw [rD_int.mp h1, ints_of_reps (xs := xs) h2] <;> rfl
  | [], _ :: _, h => h.elim
  | _ :: _, [], h => h.elim
variable {X : Cx} {rs : Rs} {a b o m : Expr} {pos pos' cpos apos p0 lp p3 : Pos} {r : Rep} {q : Nat} {i : Int}
/-- sum(xs) -/
theorem ew_sumD {ns : List Int} (hc : X.calm = true) (hg : Gl X "sum") (hm : X.mg "sum" = none) (ha : Ew X W rs a (rD X.K (.list (ns.map PyData.int)))) (he : starEach [a] X.env = (false, eval a X.env) :: starEach [] X.env := by rfl) (hpl : (backTo pos (starEach [] X.env)).any (·.1) = false := by rfl) : Ew X W rs (.Call (.Name "sum" p0) [a] [] pos) (rD X.K (.int ns.sum)) :=
  ew_callB (cr_sum hc) hg hm (by decide +kernel) ha (fun v H k pv Q q => by
    obtain ⟨l, xs, e1, e2, e3⟩ := rD_lst.mp pv
    rw [ints_of_reps e3] at e2
    exact ⟨l, ns, by rw [e1], sqL_mono (W.sub H) e2, q _ H k (Ex.refl _) (Dp.int _)⟩) (by decide) (by decide) he hpl
/-- xs != [], the list popped: if so, it holds an int -/
theorem pt_nonempty (hu : X.A.units + 64 < cLine) (d : Pool X.K W p) (ho : Ew X W rs o (rRef p)) : PT X (.Compare o [.NotEq] [.List [] lp] pos) (fun σ H Q => W.ok H ∧ Sg rs σ (W.vis H) ∧ ∀ (c : Bool) H', W.ok H' → Ex (W.vis H) (W.vis H') → (c = true → ∃ (x : Int) (xs : List Int), (x :: xs).length ≤ 1000 ∧ H' p = some (.lst ((x :: xs).map V.int))) → Q c H') := by
  refine pt_cs (pt_cmpR (op_neD hu) ho (ew_lst (W := W) (rs := rs) aw_nil (by decide)) (nomark _)) ?_
  rintro σ H Q ⟨k, g, q⟩
  refine ⟨k, g, fun x H1 k1 e1 p1 => ⟨k1, g.mono e1, fun y H2 k2 e2 p2 => ?_⟩⟩
  obtain ⟨ns, hn, hp⟩ := d.rd H2 k2
  have ex : x = .ref p := p1
  subst ex
  obtain ⟨l, ys, ey, hl, hr⟩ := p2
  have hys : ys = [] := by cases ys with
    | nil => rfl
    | cons _ _ => exact hr.elim
  subst hys
  refine ⟨.list (ns.map PyData.int), .list [], ?_, ?_, (shp_lst (shp_map fun _ _ => shp_int)).ok, (shp_lst (k := 0) fun _ h => by cases h).ok, !PyData.eqv (.list (ns.map PyData.int)) (.list []), rfl, q _ H2 k2 (e1.trans e2) fun h => ?_⟩
  · exact rD_lst.mpr ⟨p, ns.map V.int, rfl, .inl (.inl hp), reps_intZ⟩
  · exact rD_lst.mpr ⟨l, [], ey, .inl (.inl (W.sub H2 _ _ hl)), trivial⟩
  · have e : PyData.eqv (.list (ns.map PyData.int)) (.list []) = decide (ns = []) := eqv_lstM (ys := []) fun _ _ _ h => by cases h
    rw [e] at h
    cases ns with
    | nil => cases h
    | cons x xs => exact ⟨x, xs, hn, hp⟩
/-- xs.pop(0) where xs holds something -/
theorem pe_pop0 {x : Str} {j : Nat} {np kp : Pos} (hv : PE X (.Name x np) (tVar q))
    (hbase : attributeBase (.Name x np) "pop" X.env (eval (.Name x np) X.env) = eval (.Name x np) X.env := by rfl)
    (hfew : ((backTo cpos (starEach [.Constant (.int 0) j kp] X.env)).all (fun x => !x.1) && (backToKw cpos (keywordEach [] X.env)).all (fun x => x.1.isSome) && decide ([Expr.Constant (.int 0) j kp].length + ([] : List Keyword).length + (if ([] : List Keyword).isEmpty then 0 else 1) < 30)) = true := by rfl)
    (hline : (apos.endLine == cpos.line) = true := by rfl) (hplain : (backTo cpos (starEach [] X.env)).any (·.1) = false := by rfl) :
    PE X (.Call (.Attribute (.Name x np) "pop" apos) [.Constant (.int 0) j kp] [] cpos) (fun σ H Q => ∃ (p : Addr) (y : Int) (ys : List Int), σ[q]? = some (some (.ref p)) ∧ H p = some (.lst ((y :: ys).map V.int)) ∧ Q (.int y) (upd H p (.lst (ys.map V.int)))) := by
  refine pe_cs (pe_bm PySem.F.plainAttrs_list PySem.F.slot_list_pop PySem.F.type_list_pop mt_popAt hv (pa_cons pe_int pa_nil (hs := rfl)) hbase hfew hline rfl hplain) ?_
  rintro σ H Q ⟨p, y, ys, e1, e2, h⟩
  refine ⟨.ref p, e1, .inl ⟨rfl, (y :: ys).map V.int, .of e2⟩, ?_⟩
  refine ⟨p, (y :: ys).map V.int, 0, 0, .int y, rfl, rfl, e2, by decide, by decide, ?_, rfl, h⟩
  simp [seqIndex?]
/-- xs.pop(0) % m if xs != [] else 0 -/
theorem ew_take {x : Str} {j j2 : Nat} {np np2 kp kp2 mp : Pos} {b : Int} (hu : X.A.units + 64 < cLine) (d : Pool X.K W p) (hr : rs[q]? = some (some (rRef p))) (hv1 : PE X (.Name x np2) (tVar q)) (hv : PE X (.Name x np) (tVar q)) (hm : Ew X W rs m (rD X.K (.int b))) (hb : 0 < b)
    (hbase : attributeBase (.Name x np) "pop" X.env (eval (.Name x np) X.env) = eval (.Name x np) X.env := by rfl)
    (hfew : ((backTo cpos (starEach [.Constant (.int 0) j kp] X.env)).all (fun x => !x.1) && (backToKw cpos (keywordEach [] X.env)).all (fun x => x.1.isSome) && decide ([Expr.Constant (.int 0) j kp].length + ([] : List Keyword).length + (if ([] : List Keyword).isEmpty then 0 else 1) < 30)) = true := by rfl)
    (hline : (apos.endLine == cpos.line) = true := by rfl) (hplain : (backTo cpos (starEach [] X.env)).any (·.1) = false := by rfl) :
    Ew X W rs (.IfExp (.Compare (.Name x np2) [.NotEq] [.List [] lp] pos) (.BinOp (.Call (.Attribute (.Name x np) "pop" apos) [.Constant (.int 0) j kp] [] cpos) .Mod m mp) (.Constant (.int 0) j2 kp2) pos') (rBel X.K b) := by
  refine pe_cs (pe_ifExp (pt_nonempty hu d (ew_name q hr hv1)) (pe_op op_mod (pe_pop0 hv hbase hfew hline hplain) hm) pe_int) ?_
  rintro σ H Q ⟨k, g, h⟩
  refine ⟨k, g, fun c H' k' e' hx => ?_⟩
  cases c with
  | false =>
    rw [if_neg (by simp)]
    exact h (.int 0) H' k' e' ⟨⟨0, Int.le_refl _, hb⟩, Dp.int 0⟩
  | true =>
    rw [if_pos rfl]
    obtain ⟨y, ys, hl, hp⟩ := hx rfl
    obtain ⟨v, ev, pv⟩ := g.get hr
    have ev' : v = .ref p := pv
    subst ev'
    have k2 := d.wr H' ys k' (by rw [List.length_cons] at hl; omega)
    have ee : W.vis (upd H' p (.lst (ys.map V.int))) = W.vis H' := vis_hid d.hid
    refine ⟨p, y, ys, ev, hp, k2, by rw [ee]; exact g.mono e', fun u H2 k3 e3 p3 => ?_⟩
    rw [ee] at e3
    exact r2_I (C := fun _ j => 0 < j) hb (fun _ => Dp.int _) (.int y) u H2 k3 (Dp.int y) p3 Q fun z H3 k4 e4 p4 => h z H3 k4 ((e'.trans e3).trans e4) ⟨⟨y % b, Int.emod_nonneg _ (Int.ne_of_gt hb), Int.emod_lt_of_pos _ hb⟩, p4⟩
end
end Py
namespace Py
open PySem L2
variable {α : Type} {X : Cx} {W : World} {W' : α → World} {rr : α → Rep} {rs : Rs} {r : Rep} {pos px py pt pt2 dpos : Pos} {sts : List Stmt} {a : Expr} {kt k2 : Nat}
/-- x, y = e, [], the list held apart from here on -/
theorem br_parL (i j : Nat) {x y : Str} (hc : X.calm = true) (hN : X.N.Nodup) (hi : X.N[i]? = some x) (hj : X.N[j]? = some y) (hij : i ≠ j) (hx : X.env.scope.names.lookup x = some .local) (hy : X.env.scope.names.lookup y = some .local)
    (ha : Ew X W rs a r) (h : ∀ D, Br X (W.hold D (.lst [])) ((rs.set i (some r)).set j (some (rAtL D [] []))) sts W' rr)
    (hw : swappedStores [.Tuple [.Name x px, .Name y py] kt pt] (.Tuple [a, .List [] dpos] k2 pt2) X.env = pure (some [x, y]))
    (hs : swapsWithSole [.Tuple [.Name x px, .Name y py] kt pt] (.Tuple [a, .List [] dpos] k2 pt2) pos.line X.env = pure false := by rfl)
    (h1 : starEach [a, .List [] dpos] X.env = (false, eval a X.env) :: starEach [.List [] dpos] X.env := by rfl) (h2 : starEach [.List [] dpos] X.env = (false, eval (.List [] dpos) X.env) :: starEach [] X.env := by rfl) :
    Br X W rs (.Assign [.Tuple [.Name x px, .Name y py] kt pt] (.Tuple [a, .List [] dpos] k2 pt2) pos :: sts) W' rr := by
  have hB : PSs X sts (fun DD σ H => ∃ D, sWr (W.hold D (.lst [])) ((rs.set i (some r)).set j (some (rAtL D [] []))) W' rr DD σ H) := ⟨fun pins s σ H DD I ⟨D, q⟩ => (h D).run pins s σ H DD I q⟩
  refine pss_cs (pss_cons (ps_par hc hN hi hj hij hx hy (pa_cons ha (pa_cons (pe_lst pa_nil) pa_nil (hs := h2)) (hs := h1)) hw hs) hB) ?_
  rintro DD σ H ⟨k, g, q⟩
  refine ⟨k, g, fun v H1 k1 e1 p1 => ⟨Nat.zero_le _, fun D hD => ⟨v, .ref D, rfl, ?_⟩⟩⟩
  have hv : (W.hold D (.lst [])).vis (upd H1 D (.lst [])) = W.vis H1 := by
    rw [hold_vis, World.visNew k1 hD]
    funext a
    by_cases c : a = D
    · subst c
      rw [if_pos rfl, World.visNone hD]
    · rw [if_neg c, upd_ne c]
  refine ⟨D, hold_new k1 hD, ?_, fun a v H' k' e' pv => q a v H' k' (e1.trans (by rw [hv] at e'; exact e')) pv⟩
  rw [hv]
  exact ((g.mono e1).set p1).set ⟨rfl, trivial⟩
end Py
namespace Py
open PySem L2
variable {X : Cx} {W : World} {rs : Rs} {e : Expr} {p pos : Pos}
/-- dict(xs), xs a list of pairs of texts -/
theorem ew_dictLst {kvs : List (Str × Str)} (hc : X.calm = true) (hg : Gl X "dict") (hm : X.mg "dict" = none) (ha : Ew X W rs e (rLst (kvs.map (rPairS X.K)))) (hd : mergeK [] (dictS kvs) = dictS kvs) (he : starEach [e] X.env = (false, eval e X.env) :: starEach [] X.env := by rfl) (hpl : (backTo pos (starEach [] X.env)).any (·.1) = false := by rfl) :
    Ew X W rs (.Call (.Name "dict" p) [e] [] pos) (rDict (dictS kvs)) :=
  ew_callTy (call_dictP hc) hg hm (by decide +kernel) ha (fun v H k pv Q q => by
    obtain ⟨a, xs, ev, h, h4⟩ := lst_seq (K := X.K) pv
    obtain ⟨as, e1, e2⟩ := pairs_reps h4
    subst e1
    refine ⟨a, as, dictS kvs, by rw [ev], sqL_mono (W.sub H) h, paired_sub (W.sub H) e2, fun l hl => ?_⟩
    rw [hd]
    exact q _ _ (World.okNew k hl) (World.visEx k (Ex.new hl)) ⟨l, rfl, by rw [World.visNew k hl, upd_same]⟩) (by decide) (by decide) he hpl
end Py
namespace Py
open PySem PySem.Spec PyProof.Rows L2
/-! ### enumerate of a tuple -/
section
variable {prog : Program} {w : PySem.World} {A : Around} {E : Value → Shared → Prop} {s : Shared}
abbrev etH (h : Heap) (t : Addr) : Heap := h.push { cls := .type "tuple_iterator", data := .fields #[.ref t, .int 0 0] }
abbrev etH2 (h : Heap) (t : Addr) : Heap := (etH h t).push { cls := .type "enumerate", data := .fields #[.none, .bool false, .ref h.objs.size, rawInt 0, .none, .none] }
theorem enumT_new (t : Addr) (items : Array Value) :
    Meets (Builtin.«enumerate.__new__» ⟨[.type "enumerate", .ref t], []⟩) (fun _ R s => s.heap.IsTuple t items ∧ R (.ok (.ret (.ref (etH s.heap t).objs.size))) { s with heap := etH2 s.heap t }) :=
  .of_wp fun prog w A R s h => by
    obtain ⟨hp, g, d, tk, os⟩ := s
    obtain ⟨h1, h⟩ := h
    have hsub := sub_enumerate
    have a1 : Heap.IsTuple (Shared.heap ⟨hp, g, d, tk, os⟩) t items := h1
    wp_walk using wpAny_pyIter_tuple a1
    refine wpAny_stack_any fun st => wpAny_pure ?_
    split
    · rename_i c _ _ _ _ _
      cases (c == Value.type "enumerate")
      · wp_walk using wpAny_pyIter_tuple a1
        exact ⟨_, rfl, h⟩
      · wp_walk using wpAny_pyIter_tuple a1
        exact ⟨_, rfl, h⟩
    · wp_walk using wpAny_pyIter_tuple a1
      exact ⟨_, rfl, h⟩
theorem call_enumT {l : Addr} {items : Array Value} {Q : Value → Shared → Prop} (hL : s.heap.IsTuple l items)
    (h : ∀ h', IsEnum h' (s.heap.objs.size + 1) s.heap.objs.size 0 .none → h'.IsTupleIter s.heap.objs.size l 0 → (∀ b o, s.heap.get? b = some o → h'.get? b = some o) → Q (.ref (s.heap.objs.size + 1)) { s with heap := h' }) :
    wpAny (model prog w) A (call (.type "enumerate") [.ref l]) Q E s := by
  refine callType_new F.called_enumerate (by decide) (F.typeCall_enumerate_1 _) (F.newCall_enumerate_1 _) (fun obj => F.args_object_init_2 obj _) F.entry_enumerate_new (enumT_new l items) ⟨hL, ?_⟩
  have hz : (etH s.heap l).objs.size = s.heap.objs.size + 1 := Heap.size_push ..
  show _ ∧ _
  rw [hz]
  have he : IsEnum (etH2 s.heap l) (s.heap.objs.size + 1) s.heap.objs.size 0 .none := by
    have := Heap.get?_push_size (etH s.heap l) (o := { cls := .type "enumerate", data := .fields #[.none, .bool false, .ref s.heap.objs.size, rawInt 0, .none, .none] }) rfl
    rw [hz] at this
    exact this
  exact ⟨⟨_, he, rfl⟩, h _ he ⟨_, Heap.get?_push_of_some _ (Heap.get?_push_size _ rfl), rfl, rfl⟩ fun b o x => Heap.get?_push_of_some _ (Heap.get?_push_of_some _ x)⟩
end
/-- the tuple at a as it stands at each turn, each item in a new pair -/
def IteT (K : PySem.W.Frag) (a : Addr) : It :=
  ⟨fun i H => ∃ (xs : List V) (x : V), SqT K H a xs ∧ xs[i]? = some x, fun i H v H' => ∃ T x, v = .ref T ∧ H T = none ∧ H' = upd H T (.tup [.int (i : Nat), x]) ∧ ∀ xs, SqT K H a xs → xs[i]? = some x, fun i H => ∃ xs : List V, SqT K H a xs ∧ xs.length = i⟩
theorem turn_enumT {P : Program} {w : PySem.World} {K : PySem.W.Frag} {elts : List Expr} {kk : Nat} {tpos : Pos} (a e it : Addr) :
    Turn P w K (.Tuple elts kk tpos) (IteT K a) [e, it] e (fun i h => (∃ old, IsEnum h e it ((i : Nat) : Int) old) ∧ h.IsTupleIter it a i ∧ e ≠ it ∧ a ≠ it ∧ e ≠ a) where
  mem := by simp
  obj := fun i h st b hb => by
    obtain ⟨⟨old, he⟩, ⟨o, ho, hc, hd⟩, _⟩ := st
    have e' : b = e ∨ b = it := by simpa using hb
    rcases e' with z | z
    · rw [z]; exact ⟨_, he, fun v q => nomatch q⟩
    · rw [z]; exact ⟨o, ho, fun v q => by rw [hd] at q; cases q⟩
  keep := fun i h h' st k => let ⟨⟨old, he⟩, hi, hne⟩ := st; ⟨⟨old, k e (by simp) _ he⟩, hi.at fun o q => k it (by simp) o q, hne⟩
  item := by
    intro X hP hw hK hc i pins s σ H E I hf st hg
    subst hP hw hK
    obtain ⟨⟨old, he⟩, hit, hne, hna, hea⟩ := st
    obtain ⟨xs, x, hq, hx⟩ := hg
    obtain ⟨its, rv, p, _⟩ := I.tuple hq
    obtain ⟨u, hu, ru⟩ := rv.get hx
    have hel : e < s.heap.objs.size := Heap.lt_size he
    have hil : it < s.heap.objs.size := by obtain ⟨_, q, _⟩ := hit; exact Heap.lt_size q
    have hd := I.ok.hd hc
    refine wpAny_pyNext_enum_itemD (Draws.tuple (by exact hd) it a hna its.toArray) he ⟨hit, p⟩ (by have := (List.getElem?_eq_some_iff.mp hu).1; simpa using this) hne (by simp [hne, hea]) fun y h' tk hy ho hs' hT hsz hk => ?_
    have hu' : its.toArray[i]? = some u := by simpa using hu
    rw [hu'] at hy
    cases hy
    refine ⟨_, rfl, wpAny_letOwnedTupleGo_enum (s := { s with heap := h', toks := tk + 1 }) ho fun h'' he' sb => ?_⟩
    have hT2 : h''.get? s.heap.objs.size = some { cls := .type "tuple", data := .seq #[.int i tk, u] } := (sb.2 _ (Nat.ne_of_gt hel)).trans hT
    have new : ObjOk X.prog X.w (upd H s.heap.objs.size (.tup [.int (i : Nat), x])) h'' s.heap.objs.size (.tup [.int (i : Nat), x]) :=
      ⟨by show 2 ≤ sizeLine; decide, [.int i tk, u], .cons ⟨_, rfl⟩ (.cons ru .nil), ⟨_, hT2, rfl, _, rfl⟩⟩
    have I1 : Inv X pins σ (upd H s.heap.objs.size (.tup [.int (i : Nat), x])) { s with heap := h'', toks := tk + 1 } :=
      I.turnedNew (t' := tk + 1) (ch := [e, it]) (fun b ob hb q => (sb.2 b (fun z => hb (by simp [z]))).trans (hk b ob (fun z => hb (by simp [z])) (fun z => hb (by simp [z])) q)) hf (Nat.le_refl _) new
    refine ⟨.ref s.heap.objs.size, _, I1, rfl, ⟨_, x, rfl, I.hok.fresh (Nat.le_refl _), rfl, fun ys hy => by rw [I.tuple_inj hy hq]; exact hx⟩, ⟨⟨u, ?_⟩, hs'.1.at fun o q => (sb.2 it (Ne.symm hne)).trans q, hne, hna, hea⟩, fun b hb => ?_⟩
    · have e1 : ((i + 1 : Nat) : Int) = (i : Int) + 1 := by omega
      rw [e1]; exact he'
    · have hb' : b < s.heap.objs.size := by
        have e' : b = e ∨ b = it := by simpa using hb
        rcases e' with z | z
        · rw [z]; exact hel
        · rw [z]; exact hil
      rw [upd_ne (Nat.ne_of_lt hb')]
      exact (hf b hb).1
  done := by
    intro X hP hw hK hc i pins s σ H E I hf st hg
    subst hP hw hK
    obtain ⟨⟨old, he⟩, hit, hne, hna, hea⟩ := st
    obtain ⟨xs, hq, hx⟩ := hg
    obtain ⟨its, rv, p, _⟩ := I.tuple hq
    obtain ⟨f0, f1, f2, f3, f4, f5⟩ := hf it (by simp)
    have hl := rv.length
    have e1 : its.toArray.size = i := by simp; omega
    exact wpAny_pyNext_enum_endD (Draws.tuple (by exact I.ok.hd hc) it a hna its.toArray) he (by rw [e1]; exact ⟨hit, p⟩) fun h' eb => ⟨rfl, I.turned (t' := s.toks) (fun b o hb q => eb b o hb q) f0 f1 f3 f4 f5⟩
  self := fun A i s Q E st h => let ⟨⟨_, he⟩, _⟩ := st; wpAny_pyIter_enum he h
def iEnumT (K : PySem.W.Frag) (ta : TA) : TI := fun σ H R => ta σ H fun vs H1 => ∃ a xs, vs = [.ref a] ∧ SqT K H1 a xs ∧ R (IteT K a) H1
theorem pi_enumT {X : Cx} {e : Expr} {ta : TA} {p pos tpos : Pos} {elts : List Expr} {kk : Nat} (hg : Gl X "enumerate") (hm : X.mg "enumerate" = none) (ha : PA X [e] ta) (hs : starEach [e] X.env = [(false, eval e X.env)] := by rfl) :
    PI X (.Tuple elts kk tpos) (.Call (.Name "enumerate" p) [e] [] pos) (iEnumT X.K ta) := by
  refine ⟨fun pins s σ H R I h => ?_⟩
  refine Call_ (ld_blt I hg hm PyProof.Rows.boot_enumerate (PyProof.Rows.callWith_type1 (thn (ha.run pos pins s σ H _ I h) fun us s1 ⟨vs, H1, I1, r1, q1⟩ => ?_) hs rfl))
  obtain ⟨a, xs, ex, hq, q⟩ := q1
  subst ex
  cases r1 with
  | cons r rr =>
    cases rr
    cases r
    obtain ⟨its, rv, p', _⟩ := I1.tuple hq
    obtain ⟨o1, ho1, _⟩ := id p'
    have hal : a < s1.heap.objs.size := Heap.lt_size ho1
    refine call_enumT (show s1.heap.IsTuple a its.toArray from p') fun h' he hit hk => wpAny_pyIter_enum he ?_
    have I2 : Inv X pins σ H1 { s1 with heap := h' } := I1.kept (t' := s1.toks) hk
    refine ⟨s1.heap.objs.size + 1, [s1.heap.objs.size + 1, s1.heap.objs.size], _, _, H1, rfl, I2, turn_enumT a (s1.heap.objs.size + 1) s1.heap.objs.size, ⟨⟨.none, he⟩, hit, Nat.succ_ne_self _, Nat.ne_of_lt hal, Nat.ne_of_gt (Nat.lt_succ_of_lt hal)⟩, fun b hb => ?_, q⟩
    have e' : b = s1.heap.objs.size + 1 ∨ b = s1.heap.objs.size := by simpa using hb
    have hle : s1.heap.objs.size ≤ b := by
      rcases e' with z | z
      · rw [z]; exact Nat.le_add_right _ _
      · rw [z]; exact Nat.le_refl _
    exact I1.fpOk hle (I1.hok.fresh hle)
theorem walk_enumT {K : PySem.W.Frag} {a : Addr} {xs : List V} : Walk (IteT K a) xs.length (fun H => SqT K H a xs) (YPair (fun i => some (.int (i : Nat))) (fun i => xs[i]?)) := by
  refine ⟨fun i _ hi q => ⟨xs, xs[i], q, List.getElem?_eq_getElem hi⟩, fun _ q => ⟨xs, q, rfl⟩, fun i H v H' _ q y => ?_⟩
  obtain ⟨T, x, h1, h2, h3, h4⟩ := y
  exact ⟨T, _, x, h1, h2, h3, rfl, h4 xs q⟩
section
variable {X : Cx} {W : World} {rs : Rs} {a : Expr} {pos : Pos}
theorem iw_enumT {rl : List Rep} {p tpos : Pos} {elts : List Expr} {kk : Nat} (hg : Gl X "enumerate") (hm : X.mg "enumerate" = none) (h : Ew X W rs a (rTup X.K rl)) (hs : starEach [a] X.env = [(false, eval a X.env)] := by rfl) :
    Iw X W rs (.Tuple elts kk tpos) (.Call (.Name "enumerate" p) [a] [] pos) rl.length (fun i => rTup X.K [rD X.K (.int i), rl.getD i rNon]) := by
  refine pi_cs (pi_enumT hg hm (aw_cons h aw_nil hs) hs) ?_
  rintro σ H R ⟨k, g, q⟩
  refine ⟨k, g, ?_⟩
  intro vs H1 k1 e1 hp
  obtain ⟨v, rfl, p, xs, ev, hsq, hr⟩ := reps1 hp
  subst ev
  have w : Walk (IteT X.K p) rl.length (fun H => SqT X.K H p xs) (YPair (fun i => some (.int (i : Nat))) (fun i => xs[i]?)) := by
    rw [hr.len]
    exact walk_enumT
  refine ⟨p, xs, rfl, sqT_mono (W.sub H1) hsq, q (IteT X.K p) (fun H => SqT X.K H p xs) (YPair (fun i => some (.int (i : Nat))) (fun i => xs[i]?)) H1 w k1 e1 (fun H2 _ e2 => sqT_mono (e2.trans (W.sub H2)) hsq) ?_⟩
  intro i x H2 H3 hi y
  refine .inr (pair_new (G := W.vis H1) y (fun x hx => ?_) (fun x hx => ?_))
  · exact rD_int.mpr (Option.some.inj hx).symm
  · obtain ⟨r, h1, h2⟩ := hr.get' hx
    rw [getD_of h1]
    exact h2
end
end Py
namespace Py
open PySem PySem.Spec PyProof.Rows L2
section
variable {α : Type} {X : Cx} {W : World} {W' : α → World} {NN : α → Rs} {rr : α → Rep} {rs N : Rs} {a b e t tg it : Expr} {r ra rb rc : Rep} {pos pos' : Pos} {O : Outs} {sts as bs : List Stmt} {x : Str}
/-! ### short forms -/
theorem bw_no (h : Tw X W rs t false) (h2 : Bw X W rs sts O) : Bw X W rs (.If t as [] pos :: sts) O := bw_cons (N := rs) (sw_if (d := false) h (fun e => nomatch e) fun _ => bw_nil) h2
theorem bz_no (h : Tw X W rs t false) (h2 : Bz X W rs sts W' NN) : Bz X W rs (.If t as [] pos :: sts) W' NN := bz_w (M := rs) (sw_if (d := false) h (fun e => nomatch e) fun _ => bw_nil) h2
theorem br_no (h : Tw X W rs t false) (h2 : Br X W rs sts W' rr) : Br X W rs (.If t as [] pos :: sts) W' rr := br_w (M := rs) (sw_if (d := false) h (fun e => nomatch e) fun _ => bw_nil) h2
theorem bw_yes (h : Tw X W rs t true) (h2 : Bw X W rs as { O with nx := none }) : Bw X W rs (.If t as bs pos :: sts) O := bw_last (sw_if (d := true) h (fun _ => h2) fun e => nomatch e)
theorem bw_ret (h : Ew X W rs e O.res) : Bw X W rs (.Return (some e) pos :: sts) O := bw_last (sw_nx (sw_ret h))
theorem br_bw (u : α) (h : Bw X (W' u) rs sts ⟨rr u, none, none, none⟩) : Br X (W' u) rs sts W' rr := br_of u h
theorem bw_st (i : Nat) (hN : rs.set i (some r) = N) (h : Ew X W rs e r) (nd : X.N.Nodup) (h2 : Bw X W N sts O) (hi : X.N[i]? = some x := by rfl) (hx : Loc X.env.scope x := by first | exact .inl rfl | exact .inr rfl)
    (hs : swapsWith e (some (.Name x pos')) pos.line X.env = pure false := by rfl) (hf : X.fn x = true ∨ X.env.scope.names.lookup x = some .local := by first | exact .inl rfl | exact .inr rfl | assumption) : Bw X W rs (.Assign [.Name x pos'] e pos :: sts) O := by
  subst hN
  exact bw_cons (sw_set i h nd hi hx hs hf) h2
theorem bz_st (i : Nat) (hN : rs.set i (some r) = N) (h : Ew X W rs e r) (nd : X.N.Nodup) (h2 : Bz X W N sts W' NN) (hi : X.N[i]? = some x := by rfl) (hx : Loc X.env.scope x := by first | exact .inl rfl | exact .inr rfl)
    (hs : swapsWith e (some (.Name x pos')) pos.line X.env = pure false := by rfl) (hf : X.fn x = true ∨ X.env.scope.names.lookup x = some .local := by first | exact .inl rfl | exact .inr rfl | assumption) : Bz X W rs (.Assign [.Name x pos'] e pos :: sts) W' NN := by
  subst hN
  exact bz_w (sw_set i h nd hi hx hs hf) h2
theorem br_st (i : Nat) (hN : rs.set i (some r) = N) (h : Ew X W rs e r) (nd : X.N.Nodup) (h2 : Br X W N sts W' rr) (hi : X.N[i]? = some x := by rfl) (hx : Loc X.env.scope x := by first | exact .inl rfl | exact .inr rfl)
    (hs : swapsWith e (some (.Name x pos')) pos.line X.env = pure false := by rfl) (hf : X.fn x = true ∨ X.env.scope.names.lookup x = some .local := by first | exact .inl rfl | exact .inr rfl | assumption) : Br X W rs (.Assign [.Name x pos'] e pos :: sts) W' rr := by
  subst hN
  exact br_w (sw_set i h nd hi hx hs hf) h2
/-- a + b of lists that are not told -/
theorem r2_catL {rl rl' : List Rep} (hl : rl.length + rl'.length ≤ 1000) : R2w W rCat (rLst rl) (rLst rl') (rLst (rl ++ rl')) := by
  rintro x y H k ⟨a, xs, ex, hs, hr⟩ ⟨a', ys, ey, hs', hr'⟩ Q q
  exact ⟨a, a', xs, ys, ex, ey, W.sub H _ _ hs, W.sub H _ _ hs', Nat.le_of_lt (small1000 (by rw [← hr.len, ← hr'.len]; exact hl)), fun z hz => q _ _ (World.okNew k hz) (World.visEx k (Ex.new hz)) ⟨z, xs ++ ys, rfl, by rw [World.visNew k hz, upd_same], (hr.mono (World.visEx k (Ex.new hz))).app (hr'.mono (World.visEx k (Ex.new hz)))⟩⟩
/-- [e for x in range(..)] as an expression, how often is not told -/
theorem ew_lcE {β : Type} {n : β → Nat} {elt : Expr} {item : Nat → Rep} {scope : Scope} (j : Nat) {x : Str} (B : Nat) (f : Nat → Rep) (hc : X.calm = true) (hN : X.N.Nodup) (hi : PI X tg it (iWe W rs n item)) (hB : ∀ c, n c ≤ B) (ok : BlkOk X.N X.env.scope scope [(x, j)]) (hn : B ≤ 1000)
    (hg : ∀ (s : Shared) (H : Hp) (C : Addr) (cl : List (Str × Addr)) (fp : List Addr), PG (X.blk s H scope (compEnvC scope cl C X.env) fp) tg (gName j))
    (he : ∀ (s : Shared) (H : Hp) (C : Addr) (cl : List (Str × Addr)) (fp : List Addr) (D : Addr) (o : HO) (i : Nat), i < B → Ew (X.blk s H scope (compEnvC scope cl C X.env) fp) (W.hold D o) ((wipeR rs [j]).set j (some (item i))) elt (f i))
    (hs : ∀ x, foldedSetIterable it X.env x = pure x := by intro _; rfl) : Ew X W rs (.ListComp elt [⟨tg, it, [], 0⟩] scope pos) (rEx fun c => rLst ((List.range (n c)).map f)) :=
  pe_cs (pe_lc hc hN hi ok hg (tt := fun σ H Q => ∃ D o i, i < B ∧ tWT (W.hold D o) ((wipeR rs [j]).set j (some (item i))) true σ H Q) (fun s H C cl fp => ⟨fun pins s' σ H' Q I ⟨D, o, i, hi, q⟩ => pts_yes.run pins s' σ H' Q I q⟩)
    (te := fun σ H Q => ∃ D o i, i < B ∧ tW (W.hold D o) ((wipeR rs [j]).set j (some (item i))) (f i) σ H Q) (fun s H C cl fp => ⟨fun pins s' σ H' Q I ⟨D, o, i, hi, q⟩ => (he s H C cl fp D o i hi).run pins s' σ H' Q I q⟩) hs) fun σ H Q h =>
    lc_readE (X := X) (ifs := []) f (fun i => (wipeR rs [j]).set j (some (item i))) hB hn (fun i hi => own_name) h
/-- a list of ints that a slot holds, alone: hidden from here on -/
def poolW (W : World) (p : Addr) : World := W.obj p fun o => ∃ ns : List Int, ns.length ≤ 1000 ∧ o = .lst (ns.map V.int)
theorem pool_ok {K : PySem.W.Frag} {p : Addr} : Pool K (poolW W p) p where
  hid := .inr rfl
  rd := fun H k => by
    obtain ⟨_, _, o, ⟨ns, h1, h2⟩, h3⟩ := k
    exact ⟨ns, h1, by rw [h3, h2]⟩
  wr := fun H ns k h => obj_upd k ⟨ns, h, rfl⟩
def sWn (W : World) (rs : Rs) (v : V) : TS := fun D σ H => W.ok H ∧ Sg rs σ (W.vis H) ∧ ∀ H', D.rt v H'
/-- only the answer counts -/
abbrev Bn (X : Cx) (W : World) (rs : Rs) (sts : List Stmt) (v : V) : Prop := PSs X sts (sWn W rs v)
theorem bn_of {b : Bool} (h : Bw X W rs sts ⟨rD X.K (.bool b), none, none, none⟩) : Bn X W rs sts (.bl b) :=
  pss_cs h fun D σ H ⟨k, g, q⟩ => ⟨k, g, fun v H' _ _ p => by rw [rD_bl.mp p]; exact q H', (fun N z => nomatch z), (fun N z => nomatch z), (fun N z => nomatch z)⟩
theorem bn_w {v : V} {M : Rs} {st : Stmt} (h : Sw X W rs st ((⟨rNo, none, none, none⟩ : Outs).to M)) (h2 : Bn X W M sts v) : Bn X W rs (st :: sts) v :=
  pss_cs (pss_cons h h2) fun D σ H ⟨k, g, q⟩ => ⟨k, g, fun _ _ _ _ p => p.elim, fun N e σ' H' k' e' g' => by cases e; exact ⟨k', g', q⟩, (fun N z => nomatch z), (fun N z => nomatch z)⟩
theorem bn_wipe {v : V} (i : Nat) (h : Bn X W (rs.set i none) sts v) : Bn X W rs sts v := pss_cs h fun D σ H ⟨k, g, q⟩ => ⟨k, sg_wipe g, q⟩
theorem bn_open {γ : Type} {v : V} (i : Nat) {f : γ → Rep} (hi : rs[i]? = some (some r)) (cv : ∀ v H, r.p v H → ∃ c, (f c).p v H) (h : ∀ c, Bn X W (rs.set i (some (f c))) sts v) : Bn X W rs sts v := by
  refine pss_cs (t := fun D σ H => ∃ c, sWn W (rs.set i (some (f c))) v D σ H) ⟨fun pins s σ H DD I ⟨p, q⟩ => (h p).run pins s σ H DD I q⟩ ?_
  rintro D σ H ⟨k, g, q⟩
  obtain ⟨x, e1, e2⟩ := g.get hi
  obtain ⟨c, hc⟩ := cv _ _ e2
  refine ⟨c, k, ?_, q⟩
  have := g.wipe1 (i := i)
  exact sg_put (sg_wipe g) (by have := (List.getElem?_eq_some_iff.mp hi).1; exact this) e1 hc
theorem sg_none : ∀ {σ : L2.St} {H : Hp}, Sg (List.replicate σ.length none) σ H
  | [], _ => trivial
  | _ :: σ, H => sg_none (σ := σ) (H := H)
theorem bn_pool {K : PySem.W.Frag} {ns : List Int} {v : V} (i : Nat) (hi : rs[i]? = some (some (rLst ((ns.map PyData.int).map (rD K))))) (hn : rs.set i none = List.replicate rs.length none) (hl : ns.length ≤ 1000) (h : ∀ p, Bn X (poolW W p) (rs.set i (some (rRef p))) sts v) : Bn X W rs sts v := by
  refine pss_cs (t := fun DD σ H => ∃ p, sWn (poolW W p) (rs.set i (some (rRef p))) v DD σ H) ⟨fun pins s σ H DD I ⟨p, q⟩ => (h p).run pins s σ H DD I q⟩ ?_
  rintro DD σ H ⟨k, g, q⟩
  obtain ⟨x, e1, p, vs, rfl, e3, e4⟩ := g.get hi
  have ev : vs = ns.map V.int := ints_of_reps e4
  subst ev
  have hil : i < rs.length := (List.getElem?_eq_some_iff.mp hi).1
  have hHp : H p = some (.lst (ns.map V.int)) := W.sub H _ _ e3
  have hv : ¬ W.hd p := fun z => by
    have : W.vis H p = none := if_pos z
    rw [this] at e3
    cases e3
  have hk : (poolW W p).ok H := ⟨k, hv, _, ⟨ns, hl, rfl⟩, hHp⟩
  have g0 : Sg (rs.set i none) σ ((poolW W p).vis H) := by
    rw [hn, g.len]
    exact sg_none
  exact ⟨p, hk, sg_put g0 hil e1 rfl, q⟩
end
end Py
namespace Py
open PySem PySem.Spec PyProof.Rows L2
section
variable {α : Type} {X : Cx} {W : World} {W' : α → World} {rr : α → Rep} {rs N : Rs} {a b e t tg it : Expr} {r ra rb rc : Rep} {pos pos' p2 : Pos} {O : Outs} {sts : List Stmt}
/-- x, y = [], [], both held apart from here on: the first one outermost -/
theorem br_parLL (i j : Nat) {x y : Str} {px py pt pt2 dpos dpos2 : Pos} {kt k2 : Nat} (hc : X.calm = true) (hN : X.N.Nodup) (hi : X.N[i]? = some x) (hj : X.N[j]? = some y) (hij : i ≠ j) (hx : X.env.scope.names.lookup x = some .local) (hy : X.env.scope.names.lookup y = some .local)
    (h : ∀ D D2, Br X ((W.hold D2 (.lst [])).hold D (.lst [])) ((rs.set i (some (rAtL D [] []))).set j (some (rAtL D2 [] []))) sts W' rr)
    (hw : swappedStores [.Tuple [.Name x px, .Name y py] kt pt] (.Tuple [.List [] dpos2, .List [] dpos] k2 pt2) X.env = pure (some [x, y]))
    (hs : swapsWithSole [.Tuple [.Name x px, .Name y py] kt pt] (.Tuple [.List [] dpos2, .List [] dpos] k2 pt2) pos.line X.env = pure false := by rfl)
    (h1 : starEach [.List [] dpos2, .List [] dpos] X.env = (false, eval (.List [] dpos2) X.env) :: starEach [.List [] dpos] X.env := by rfl) (h2 : starEach [.List [] dpos] X.env = (false, eval (.List [] dpos) X.env) :: starEach [] X.env := by rfl) :
    Br X W rs (.Assign [.Tuple [.Name x px, .Name y py] kt pt] (.Tuple [.List [] dpos2, .List [] dpos] k2 pt2) pos :: sts) W' rr := by
  have hB : PSs X sts (fun DD σ H => ∃ D D2, sWr ((W.hold D2 (.lst [])).hold D (.lst [])) ((rs.set i (some (rAtL D [] []))).set j (some (rAtL D2 [] []))) W' rr DD σ H) := ⟨fun pins s σ H DD I ⟨D, D2, q⟩ => (h D D2).run pins s σ H DD I q⟩
  refine pss_cs (pss_cons (ps_par hc hN hi hj hij hx hy (pa_cons (pe_lst pa_nil) (pa_cons (pe_lst pa_nil) pa_nil (hs := h2)) (hs := h1)) hw hs) hB) ?_
  rintro DD σ H ⟨k, g, q⟩
  refine ⟨Nat.zero_le _, fun D hD => ⟨Nat.zero_le _, fun D2 hD2 => ⟨.ref D, .ref D2, rfl, ?_⟩⟩⟩
  have hne : D2 ≠ D := fun z => by
    subst z
    rw [upd_same] at hD2
    cases hD2
  have hD2' : H D2 = none := by rw [upd_ne hne] at hD2; exact hD2
  have k1 : W.ok (upd H D (.lst [])) := World.okNew k hD
  have k2 : W.ok (upd (upd H D (.lst [])) D2 (.lst [])) := World.okNew k1 hD2
  have n1 : ¬ W.hd D := World.free k hD
  have n2 : ¬ W.hd D2 := World.free k hD2'
  have hk : ((W.hold D2 (.lst [])).hold D (.lst [])).ok (upd (upd H D (.lst [])) D2 (.lst [])) := ⟨⟨k2, n2, upd_same⟩, fun z => z.elim n1 fun z => hne z.symm, by rw [upd_ne hne.symm, upd_same]⟩
  have hv : ((W.hold D2 (.lst [])).hold D (.lst [])).vis (upd (upd H D (.lst [])) D2 (.lst [])) = W.vis H := by
    rw [hold_vis, hold_vis, World.visNew k1 hD2, World.visNew k hD]
    funext a
    by_cases c : a = D
    · subst c
      rw [if_pos rfl, World.visNone hD]
    · rw [if_neg c]
      show (if a = D2 then none else upd (upd (W.vis H) D (.lst [])) D2 (.lst []) a) = _
      by_cases c2 : a = D2
      · subst c2
        rw [if_pos rfl, World.visNone hD2']
      · rw [if_neg c2, upd_ne c2, upd_ne c]
  refine ⟨D, D2, hk, ?_, fun a v H' k' e' pv => q a v H' k' (by rw [hv] at e'; exact e') pv⟩
  rw [hv]
  exact (g.set (r := rAtL D [] []) ⟨rfl, trivial⟩).set (r := rAtL D2 [] []) ⟨rfl, trivial⟩
/-- x, y = [], [], letters of which one is a cell -/
theorem br_parLC (i j : Nat) {x y : Str} {px py pt pt2 dpos dpos2 : Pos} {kt k2 : Nat} (hc : X.calm = true) (hgi : PG X (.Name x px) (gName i)) (hgj : PG X (.Name y py) (gName j))
    (h : ∀ D D2, Br X ((W.hold D2 (.lst [])).hold D (.lst [])) ((rs.set i (some (rAtL D [] []))).set j (some (rAtL D2 [] []))) sts W' rr)
    (hs : swapsWithSole [.Tuple [.Name x px, .Name y py] kt pt] (.Tuple [.List [] dpos2, .List [] dpos] k2 pt2) pos.line X.env = pure false := by rfl)
    (hw : swappedStores [.Tuple [.Name x px, .Name y py] kt pt] (.Tuple [.List [] dpos2, .List [] dpos] k2 pt2) X.env = pure none := by rfl)
    (h0 : (assignEach [.Tuple [.Name x px, .Name y py] kt pt] X.env).map (·.2) = [assign (.Tuple [.Name x px, .Name y py] kt pt) X.env] := by rfl)
    (h1 : starEach [.List [] dpos2, .List [] dpos] X.env = (false, eval (.List [] dpos2) X.env) :: starEach [.List [] dpos] X.env := by rfl) (h2 : starEach [.List [] dpos] X.env = (false, eval (.List [] dpos) X.env) :: starEach [] X.env := by rfl)
    (h3 : (assignEach [.Name x px, .Name y py] X.env).map (·.2) = assign (.Name x px) X.env :: (assignEach [.Name y py] X.env).map (·.2) := by rfl) (h4 : (assignEach [.Name y py] X.env).map (·.2) = assign (.Name y py) X.env :: (assignEach [] X.env).map (·.2) := by rfl)
    (hn : (assignEach [.Name x px, .Name y py] X.env).length = 2 := by rfl) (hst : (assignEach [.Name x px, .Name y py] X.env).findIdx? (·.1) = none := by rfl) :
    Br X W rs (.Assign [.Tuple [.Name x px, .Name y py] kt pt] (.Tuple [.List [] dpos2, .List [] dpos] k2 pt2) pos :: sts) W' rr := by
  have hB : PSs X sts (fun DD σ H => ∃ D D2, sWr ((W.hold D2 (.lst [])).hold D (.lst [])) ((rs.set i (some (rAtL D [] []))).set j (some (rAtL D2 [] []))) W' rr DD σ H) := ⟨fun pins s σ H DD I ⟨D, D2, q⟩ => (h D D2).run pins s σ H DD I q⟩
  refine pss_cs (pss_cons (ps_asg (pe_tup (pa_cons (pe_lst pa_nil) (pa_cons (pe_lst pa_nil) pa_nil (hs := h2)) (hs := h1))) (pg_tup hc (pgs_cons hgi (pgs_cons hgj pgs_nil h4) h3) hn hst) hs hw h0) hB) ?_
  rintro DD σ H ⟨k, g, q⟩
  refine ⟨Nat.zero_le _, fun D hD => ⟨Nat.zero_le _, fun D2 hD2 => ⟨by show 2 ≤ sizeLine; decide, fun T hT => ⟨T, [.ref D, .ref D2], rfl, .inl (.inl upd_same), rfl, _, _, rfl, _, _, rfl, rfl, ?_⟩⟩⟩⟩
  have hne : D2 ≠ D := fun z => by
    subst z
    rw [upd_same] at hD2
    cases hD2
  have hD2' : H D2 = none := by rw [upd_ne hne] at hD2; exact hD2
  have k1 : W.ok (upd H D (.lst [])) := World.okNew k hD
  have k2 : W.ok (upd (upd H D (.lst [])) D2 (.lst [])) := World.okNew k1 hD2
  have n1 : ¬ W.hd D := World.free k hD
  have n2 : ¬ W.hd D2 := World.free k hD2'
  have hk : ((W.hold D2 (.lst [])).hold D (.lst [])).ok (upd (upd H D (.lst [])) D2 (.lst [])) := ⟨⟨k2, n2, upd_same⟩, fun z => z.elim n1 fun z => hne z.symm, by rw [upd_ne hne.symm, upd_same]⟩
  have hv : ((W.hold D2 (.lst [])).hold D (.lst [])).vis (upd (upd H D (.lst [])) D2 (.lst [])) = W.vis H := by
    rw [hold_vis, hold_vis, World.visNew k1 hD2, World.visNew k hD]
    funext a
    by_cases c : a = D
    · subst c
      rw [if_pos rfl, World.visNone hD]
    · rw [if_neg c]
      show (if a = D2 then none else upd (upd (W.vis H) D (.lst [])) D2 (.lst []) a) = _
      by_cases c2 : a = D2
      · subst c2
        rw [if_pos rfl, World.visNone hD2']
      · rw [if_neg c2, upd_ne c2, upd_ne c]
  have hk2 := World.okNew (o := .tup [.ref D, .ref D2]) hk hT
  have e2 := World.visEx hk (Ex.new (o := .tup [.ref D, .ref D2]) hT)
  rw [hv] at e2
  exact ⟨D, D2, hk2, ((g.mono e2).set (r := rAtL D [] []) ⟨rfl, trivial⟩).set (r := rAtL D2 [] []) ⟨rfl, trivial⟩, fun a v H' k' e' pv => q a v H' k' (e2.trans e') pv⟩
/-- t[:k] of a tuple, k not told -/
theorem ew_takeTE {γ : Type} {m : γ → Nat} {rl : List Rep} (ha : Ew X W rs a (rTup X.K rl)) (hb : Ew X W rs b (rEx fun c => rD X.K (.int (m c : Nat)))) : Ew X W rs (.Subscript a (.Slice none (some b) none p2) pos) (rEx fun c => rTup X.K (rl.take (m c))) := by
  refine pe_cs (pe_slice sl_tupA ha po_none (po_some hb)) ?_
  rintro σ H Q ⟨k, g, q⟩
  refine ⟨k, g, fun v H1 k1 e1 pv => ?_⟩
  show tW W rs _ σ H1 _
  refine ⟨k1, g.mono e1, fun w H2 k2 e2 ⟨c, pw⟩ => ⟨m c, rD_int.mp pw, ?_⟩⟩
  obtain ⟨a', xs, ev, hs, hr⟩ := (rTup X.K rl).mono e2 pv
  subst ev
  refine sl_any (rl' := rl.take (m c)) k2 (sqT_mono (W.sub H2) hs) hs ?_ fun v H' k' e' pv => q v H' k' ((e1.trans e2).trans e') ⟨c, pv⟩
  have e3 : cutV xs none (some (m c : Int)) = xs.take (m c) := by
    unfold cutV
    rw [HT.sIx_none, HT.sIx_nat, List.drop_zero, Nat.sub_zero]
    by_cases c' : m c ≤ xs.length
    · rw [Nat.min_eq_left c']
    · rw [Nat.min_eq_right (by omega), List.take_length, List.take_of_length_le (by omega)]
  rw [e3]
  exact reps_take (m c) hr
theorem i2e_tup {γ : Type} {Wg : World} {rl : γ → List Rep} {item : Nat → Rep} (h : Ew X W rs it (rEx fun c => rTup X.K (rl c))) (hr : ∀ c i r, (rl c)[i]? = some r → r = item i) : Iw2e X W Wg rs tg it (fun c => (rl c).length) item := by
  refine pi_cs (pi_tup h) ?_
  rintro σ H R ⟨k, g, q⟩
  refine ⟨k, g, ?_⟩
  rintro v H1 k1 e1 ⟨c, p, xs, ev, hs, hrr⟩
  refine ⟨p, ev, ⟨xs, sqT_mono (W.sub H1) hs⟩, q c (Itt X.K p) (fun H => SqT X.K H p xs) (YAt xs) H1 (by show Walk _ (rl c).length _ _; rw [hrr.len]; exact walk_tup) k1 e1 (fun H2 _ e2 => sqT_mono (e2.trans (Wg.sub H2)) hs) ?_⟩
  rintro i x H2 H3 hi ⟨eH, hx⟩
  obtain ⟨r, h1, h2⟩ := hrr.get' hx
  refine .inl ⟨eH, fun G2 e2 _ => ?_⟩
  rw [← hr c i r h1]
  exact r.mono e2 h2
/-- what a comprehension with a test takes -/
theorem takes_filter {β : Type} (xs : List β) (x0 : β) (g : β → Rep) (p : β → Bool) : takes (fun i => g (xs.getD i x0)) (fun i => p (xs.getD i x0)) xs.length = (xs.filter p).map g := by
  have key : ∀ n, n ≤ xs.length → takes (fun i => g (xs.getD i x0)) (fun i => p (xs.getD i x0)) n = ((xs.take n).filter p).map g := by
    intro n
    induction n with
    | zero => intro _; rfl
    | succ n ih =>
      intro h
      have hn : n < xs.length := h
      have hx : xs.getD n x0 = xs[n] := by rw [List.getD_eq_getElem?_getD, List.getElem?_eq_getElem hn]; rfl
      rw [List.take_succ_eq_append_getElem hn, List.filter_append, List.map_append]
      cases hb : p xs[n] with
      | true =>
        have e1 : ([xs[n]].filter p) = [xs[n]] := by simp [hb]
        rw [takes_yes (by show p (xs.getD n x0) = true; rw [hx, hb]), ih (by omega), e1, hx]
        rfl
      | false =>
        have e1 : ([xs[n]].filter p) = [] := by simp [hb]
        rw [takes_no (by show p (xs.getD n x0) = false; rw [hx, hb]), ih (by omega), e1, List.map_nil, List.append_nil]
  rw [key _ (Nat.le_refl _), List.take_length]
end
end Py
namespace PySem.W
open PySem PySem.Calls PyProof.Rows Builtin
section
variable {prog : Program} {w : World} {A : Around} {E : Value → Shared → Prop} {s : Shared} {K : Frag} {x C L f : Addr} {h₀ : Heap} {m : Str → Option Value} {ox : Obj} {od : Option Obj} {b tb : Value}
/-- != of an object with an own == alone -/
theorem neOwn_K {Q : Value → Shared → Prop} (hu : A.units + 1 < cLine) (hF : Fr h₀ L s.heap m) (X₀ : K.In h₀) (I : InstAt s.heap x ox C od) (hb : Looks (model prog w) s.heap (typeOf b) tb) (hn : notFirst K C tb = true)
    (hno : findIn K (.ref C) "__ne__" = some (some (.builtin "object.__ne__"))) (hmo : mroIn K C (.type "object") = some true) (hs : findIn K (.ref C) "__eq__" = some (some (.ref f))) (hf : isFn K (.ref f) = true)
    (h : wpAny (model prog w) A.in1 (call (.ref f) [.ref x, b]) (fun v s' => ∃ z, v = .bool z ∧ Q (.bool (!z)) s') E s) : wpAny (model prog w) A (richCompare .NotEq (.ref x) b) Q E s := by
  have X := X₀.keeps hF.keep
  have inst : Looks (model prog w) s.heap (isInstance (.ref x) (.type "object")) true := I.type.andThen (looks_mroIn X hmo)
  have ent : ∀ {R : PySem.Fin → Shared → Prop}, (∀ z s', Q (.bool z) s' → R (.done (.ret (.bool z))) s') → wpAny (model prog w) A.in1 (Builtin.«object.__ne__» ⟨[.ref x, b], []⟩) R E s := by
    intro R hR
    have hu' : A.in1.units < cLine := hu
    unfold Builtin.«object.__ne__»
    repeat (first
      | with_reducible refine wpAny_cRoomFor hu' ?_
      | (refine wpAny_bind (m := callSpecialIfBound? (.ref x) (Str.ofString "__eq__") [b])
          (ifBound_K X I hs hf (wpAny_mono h (fun r s' hr => by
            obtain ⟨z, rfl, hq⟩ := hr
            have hq := hR _ _ hq
            repeat (first | exact hq | exact wpAny_pure hq | exact wpAny_truthy_bool hq | (refine wpAny_bind (m := truthy (.bool _)) (wpAny_truthy_bool ?_)) | wp_step)) fun _ _ e => e)))
      | wp_step)
  have cal : wpAny (model prog w) A (call (.builtin "object.__ne__") ([.ref x] ++ [b])) (fun v s' => ∃ z, v = .bool z ∧ Q (.bool z) s') E s :=
    wpAny_call (codeAny_call_builtin F.cmp_object.ne.plain F.cmpEntry_ne (check_slot F.cmpKind_ne F.cmpSplit_ne inst (F.cmpArgs_ne _ _) (ent fun z s' hq => by
      first | exact ⟨z, rfl, hq⟩ | exact wpAny_pure ⟨z, rfl, hq⟩ | exact ⟨_, rfl, z, rfl, hq⟩)))
  have one : wpAny (model prog w) A (tryCompare (.ref x) (cmpInfo .NotEq).2.1 b) (fun r s' => ∃ v, r = some v ∧ Q v s') E s := by
    unfold tryCompare
    refine wpAny_bind ?_
    simp only [callSpecialIfBound?, bindSpecialIfBound?]
    refine wpAny_holding (wpAny_bind (wpAny_bind (wpAny_bind (I.type.here ((looks_findIn X hno).here ?_)))))
    simp only [F.cmp_object.ne.bind]
    refine wpAny_bind (wpAny_askSetting (wpAny_ite ?_))
    have fin : ∀ {R : Option Value → Shared → Prop}, (∀ z s', Q (.bool z) s' → R (some (.bool z)) s') → wpAny (model prog w) A (call (.builtin "object.__ne__") ([.ref x] ++ [b]) >>= fun v => pure (some v)) R E s :=
      fun hR => wpAny_bind (wpAny_mono cal (fun v s' h' => by obtain ⟨z, rfl, hq⟩ := h'; exact wpAny_pure (hR z s' hq)) fun _ _ h' => h')
    split
    · exact wpAny_bind (wpAny_pure (wpAny_pure (fin fun z s' hq => by first | exact wpAny_pure ⟨_, rfl, hq⟩ | exact ⟨_, rfl, hq⟩)))
    · exact wpAny_tryCatch (wpAny_bind (wpAny_pure (wpAny_pure (fin fun z s' hq => by first | exact wpAny_pure ⟨_, rfl, hq⟩ | exact ⟨_, rfl, hq⟩))))
  unfold richCompare
  simp only [oneThing_ref]
  refine wpAny_holding (wpAny_bind (wpAny_cRoomFor (Nat.lt_of_succ_lt hu) ?_))
  refine wpAny_bind (I.type.here (wpAny_bind (hb.here ?_)))
  split
  · rename_i q
    have e : subIn K tb (.ref C) = some false := by
      rcases Bool.or_eq_true_iff.mp hn with e | e
      · rw [beq_iff_eq.mp e] at q; simp at q
      · exact beq_iff_eq.mp e
    refine wpAny_bind ((looks_subIn X e).here ?_)
    simp only [Bool.false_eq_true, if_false]
    refine wpAny_bind (wpAny_mono one (fun r s' z => ?_) fun _ _ e => e)
    obtain ⟨v, rfl, hq⟩ := z
    exact wpAny_pure hq
  · refine wpAny_bind (wpAny_pure ?_)
    simp only [Bool.false_eq_true, if_false]
    refine wpAny_bind (wpAny_mono one (fun r s' z => ?_) fun _ _ e => e)
    obtain ⟨v, rfl, hq⟩ := z
    exact wpAny_pure hq
end
end PySem.W
namespace Py
open PySem L2
section
variable {X : Cx} {W : World} {n : Nat} {r1 r2 : Rep} {b : Bool}
/-- the class has no != of its own -/
structure NoNe (K : PySem.W.Frag) (C : Addr) : Prop where
  ne : PySem.W.findIn K (.ref C) "__ne__" = some (some (.builtin "object.__ne__"))
  mro : PySem.W.mroIn K C (.type "object") = some true
theorem rcW_ne (h : ∀ (x y : V) (H : Hp), W.ok H → r1.p x (W.vis H) → r2.p y (W.vis H) → ∃ (a c C C' dx dy f : Addr) (fs gs : List (Str × V)) (sp : Sp), x = .ref a ∧ y = .ref c ∧ W.vis H a = some (.ins C dx fs) ∧ W.vis H c = some (.ins C' dy gs) ∧
      PySem.W.notFirst X.K C (.ref C') = true ∧ NoNe X.K C ∧ Meth X.K C "__eq__" f ∧ FnC X n f sp ∧ ∀ Q : VK, (∀ H', W.ok H' → Ex (W.vis H) (W.vis H') → Q (.bl b) H') → sp [x, y] H Q E0) : RcW X .NotEq W (n + 2) r1 r2 (!b) := by
  intro A pins s σ H x y u v sb I rx ry k p1 p2
  obtain ⟨a, c, C, C', dx, dy, f, fs, gs, sp, ex, ey, hi, hj, hn, nn, hm, F, go⟩ := h x y H k p1 p2
  subst ex
  subst ey
  obtain rfl : u = Value.ref a := rx
  obtain rfl : v = Value.ref c := ry
  obtain ⟨m, hF⟩ := I.fr
  obtain ⟨od, J⟩ := inst_of I (W.sub H _ _ hi)
  obtain ⟨od', J'⟩ := inst_of I (W.sub H _ _ hj)
  have e0 : Env0 X.prog X.w X.K X.mg X.base A.in1 X.stack s H := by
    have e := I.env0
    exact ⟨by show A.frames = _; rw [sb.fr]; exact e.frames, e.mod, e.bs, e.bsz, e.funs, e.frf, e.hok, e.bare⟩
  have hun : A.units + 1 < cLine := by have := sb.room.un; omega
  refine PySem.W.neOwn_K (tb := .ref C') hun hF I.ok.mod.kin J J'.type hn nn.ne nn.mro hm.at_ hm.fn (thn (wpAny_call (run_at (us := [.ref a, .ref c]) (ws := [.ref a, .ref c]) F (sb.room.in1.mono (Nat.le_succ _)) e0 I (.cons rfl (.cons rfl .nil)) (go (fun v H' => v = .bl b ∧ W.ok H' ∧ Ex (W.vis H) (W.vis H')) fun H' k' e' => ⟨rfl, k', e'⟩))) fun w s' h => ?_)
  obtain ⟨z, H', I', rz, ez, k', e'⟩ := h
  subst ez
  cases rz
  exact ⟨b, rfl, rfl, H', I', k', e'⟩
/-- a list of one thing, times a number that is told -/
theorem ew_rep1 {rs : Rs} {a c : Expr} {pos : Pos} {r : Rep} {k : Nat} (ha : Ew X W rs a (rLst [r])) (hb : Ew X W rs c (rD X.K (.int k))) (hk : k ≤ 1000) : Ew X W rs (.BinOp a .Mult c pos) (rLst (List.replicate k r)) := by
  refine ew_op op_rep ha hb ?_
  rintro x y H kk ⟨a, xs, ex, hs, hr⟩ hy Q q
  obtain ⟨x1, rfl, h1⟩ := reps1 hr
  have hsz : ([x1] : List V).length * ((k : Int)).toNat ≤ sizeLine := by
    have := small1000 hk
    simp only [List.length_singleton, Int.toNat_natCast]
    omega
  have hrep : ∀ (k : Nat) {G : Hp}, r.p x1 G → Reps (List.replicate k r) (List.replicate k [x1]).flatten G := by
    intro k G h
    induction k with
    | zero => trivial
    | succ k ih => exact ⟨h, ih⟩
  refine ⟨a, k, [x1], ex, rD_int.mp hy, W.sub H _ _ hs, by omega, by omega, hsz, fun z hz => q _ _ (World.okNew kk hz) (World.visEx kk (Ex.new hz)) ⟨z, _, rfl, by rw [World.visNew kk hz, upd_same], ?_⟩⟩
  simp only [Int.toNat_natCast]
  exact hrep k (r.mono (World.visEx kk (Ex.new hz)) h1)
end
end Py
namespace Py
open PySem L2
/-! ### a list that is new -/
/-- what a new list comes with: it lies apart -/
def New (W : World) (H : Hp) (rl : List Rep) (Q : V → Hp → Prop) : Prop := ∀ a xs H', (W.hold a (.lst xs)).ok H' → Ex (W.vis H) ((W.hold a (.lst xs)).vis H') → Reps rl xs ((W.hold a (.lst xs)).vis H') → Q (.ref a) H'
def tN (W : World) (rs : Rs) (rl : List Rep) : TE := fun σ H Q => W.ok H ∧ Sg rs σ (W.vis H) ∧ New W H rl Q
abbrev En (X : Cx) (W : World) (rs : Rs) (e : Expr) (rl : List Rep) : Prop := PE X e (tN W rs rl)
/-- a def that gives back a new list -/
def spN {α : Type} (pre : World → α → Prop) (args : α → List Rep) (rl : α → List Rep) : Sp := fun vs H Q _ => ∃ (W : World) (z : α), pre W z ∧ W.ok H ∧ Reps (args z) vs (W.vis H) ∧ New W H (rl z) Q
theorem New.mono {W : World} {H H1 : Hp} {rl : List Rep} {Q : V → Hp → Prop} (n : New W H rl Q) (e : Ex (W.vis H) (W.vis H1)) : New W H1 rl Q := fun a xs H' k e' p => n a xs H' k (e.trans e') p
theorem new_at {W : World} {H : Hp} {p : Addr} {xs : List V} (k : W.ok H) (hp : H p = none) : (W.hold p (.lst xs)).vis (upd H p (.lst xs)) = W.vis H := by
  rw [hold_vis, World.visNew k hp]
  funext a
  by_cases c : a = p
  · subst c
    rw [if_pos rfl, World.visNone hp]
  · rw [if_neg c, upd_ne c]
section
variable {α : Type} {X : Cx} {W : World} {W' : α → World} {rr : α → Rep} {rs : Rs} {a o e : Expr} {r : Rep} {rl : List Rep} {p pos pos' : Pos} {sts : List Stmt}
theorem en_listT (hg : Gl X "list") (hm : X.mg "list" = none) (ha : Ew X W rs a (rTup X.K rl)) (he : starEach [a] X.env = (false, eval a X.env) :: starEach [] X.env := by rfl) (hpl : (backTo pos (starEach [] X.env)).any (·.1) = false := by rfl) : En X W rs (.Call (.Name "list" p) [a] [] pos) rl := by
  refine pe_cs (pe_callTy call_list_of hg hm (by decide +kernel) (aw_cons ha aw_nil he) (by decide) (by decide) he hpl) ?_
  rintro σ H Q ⟨k, g, q⟩
  refine ⟨k, g, fun vs H1 k1 e1 pr => ?_⟩
  obtain ⟨v, rfl, t, xs, ev, hs, hr⟩ := reps1 pr
  refine ⟨t, xs, by rw [ev], .inr (sqT_mono (W.sub H1) hs), fun l hl => ?_⟩
  refine q l xs _ (hold_new k1 hl) ?_ ?_
  · rw [new_at k1 hl]; exact e1
  · rw [new_at k1 hl]; exact hr
theorem en_of (h : En X W rs e rl) : Ew X W rs e (rLst rl) := pe_cs h fun σ H Q ⟨k, g, q⟩ => ⟨k, g, fun a xs H' k' e' p' => q (.ref a) H' k'.1 (e'.trans hold_sub) ⟨a, xs, rfl, hold_seen k', p'.mono hold_sub⟩⟩
/-- x = e, a new list: held apart from here on -/
theorem br_new (i : Nat) {x : Str} (he : En X W rs e rl) (hN : X.N.Nodup) (h : ∀ D xs, Br X (W.hold D (.lst xs)) (rs.set i (some (rAtL D rl xs))) sts W' rr) (hi : X.N[i]? = some x := by rfl) (hx : Loc X.env.scope x := by first | exact .inl rfl | exact .inr rfl)
    (hs : swapsWith e (some (.Name x pos')) pos.line X.env = pure false := by rfl)
    (hf : X.fn x = true ∨ X.env.scope.names.lookup x = some .local := by first | exact .inl rfl | exact .inr rfl | assumption) : Br X W rs (.Assign [.Name x pos'] e pos :: sts) W' rr := by
  have hB : PSs X sts (fun DD σ H => ∃ D xs, sWr (W.hold D (.lst xs)) (rs.set i (some (rAtL D rl xs))) W' rr DD σ H) := ⟨fun pins s σ H DD I ⟨D, xs, q⟩ => (h D xs).run pins s σ H DD I q⟩
  refine pss_cs (pss_cons (ps_set hN hi hx he hs hf) hB) ?_
  rintro DD σ H ⟨k, g, q⟩
  exact ⟨k, g, fun D xs H' k' e' p' => ⟨D, xs, k', (g.mono e').set ⟨rfl, p'⟩, fun a v H2 k2 e2 pv => q a v H2 k2 (e'.trans e2) pv⟩⟩
variable {P : Program} {w : PySem.World} {K : PySem.W.Frag} {mg : Str → Option Value} {base : Heap}
/-- a def: return e, a new list -/
theorem fn_wN {x qual : Str} {st : Stmt} {f : Addr} {fd : FuncData} {N ps : List Str} {k : Nat} {α : Type} {pre : World → α → Prop} {args : α → List Rep} {rl : α → List Rep} {e : Expr} {rp : Pos} (F : Fun K x qual st f fd) (S : FnScope N ps (defScope st)) (hb : Binds K fd ps []) (hl : ∀ z, (args z).length = ps.length) (hbody : defBody st = [.Return (some e) rp])
    (h : ∀ (cdv : Value) (A : Around) (outer : List Env) (s : Shared) (H : Hp) (E : XK) (W : World) (z : α), Room k (A.deeper (PyProof.Rows.envOfC qual (defScope st) s.heap.objs.size f cdv)) → pre W z →
      En (cxOf CX0 P w K mg base N qual (defScope st) f cdv A outer s H E).nox W ((args z).map some ++ List.replicate (N.length - ps.length) none) e (rl z)) : FnR P w K mg base CX0 (k + 1) f (spN pre args rl) := by
  have G : FnOk P w K mg base CX0 (k + 1) f fd ps (spN pre args rl) := by
    refine F.ok S (fun vs H Q E ⟨W, z, _, _, pr, _⟩ => by rw [← hl z, pr.len]) ?_
    rintro cdv A outer s H vs Q E hr ⟨W, z, hp, kH, pr, q⟩
    rw [hbody]
    refine ⟨_, pss_one (ps_ret (h cdv A outer s H E W z hr hp)), kH, ?_, q⟩
    have e : N.length - ps.length = N.length - vs.length := by rw [← pr.len, hl z]
    rw [e]
    exact Sg.of _ pr
  exact (G.raw hb .nil).imp fun vs H Q E q => by rw [List.append_nil]; exact q
/-- o.m, a property that gives back a new list -/
theorem en_prop {C q f : Addr} {fs : List (Str × Rep)} {m : Str} {k : Nat} {α : Type} {pre : World → α → Prop} {args : α → List Rep} {rl : α → List Rep} (z : α) (h : Ew X W rs o (rIns C fs)) (c : Cls X.K C) (hm : PropOf X.K C m q f) (F : FnC X k f (spN pre args rl)) (hr : Room (k + 1) X.A) (hp : pre W z) (ha : args z = [rIns C fs])
    (hab : attributeBase o m X.env (eval o X.env) = eval o X.env := by rfl) : En X W rs (.Attribute o m pos) (rl z) := by
  refine ⟨fun pins s σ H Q I q => ?_⟩
  obtain ⟨kH, g, q⟩ := q
  refine attr_of hab (thn (h.run pins s σ H (fun v H1 => W.ok H1 ∧ Ex (W.vis H) (W.vis H1) ∧ (rIns C fs).p v (W.vis H1)) I ⟨kH, g, fun v H1 k1 e1 p1 => ⟨k1, e1, p1⟩⟩) fun u s1 ⟨x, H1, I1, rx, k1, e1, p1⟩ => ?_)
  obtain ⟨p, dx, gs, ev, hi, fl⟩ := p1
  subst ev
  obtain rfl : u = Value.ref p := rx
  exact getpropR I1 (W.sub H1 _ _ hi) c hm F hr ⟨W, z, hp, k1, by rw [ha]; exact ⟨⟨p, dx, gs, rfl, hi, fl⟩, trivial⟩, fun a xs H' k' e' p' => q a xs H' k' (e1.trans e') p'⟩
end
end Py
namespace HT
open PySem PySem.Spec PyProof.Rows
section
variable {prog : Program} {w : World} {A : Around} {E : Value → Shared → Prop} {s : Shared}
theorem fm_map {f : Nat → Option Value} {g : Nat → Value} : ∀ {l : List Nat}, (∀ k ∈ l, f k = some (g k)) → l.filterMap f = l.map g
  | [], _ => rfl
  | k :: l, h => by rw [List.filterMap_cons, h k List.mem_cons_self, List.map_cons, fm_map fun j hj => h j (List.mem_cons_of_mem _ hj)]
theorem rev_pick (xs : Array Value) : ((List.range xs.size).filterMap fun (k : Nat) => xs[(((xs.size : Int) - 1) + (k : Int) * (-1)).toNat]?) = xs.toList.reverse := by
  have h : ∀ k ∈ List.range xs.size, (fun (k : Nat) => xs[(((xs.size : Int) - 1) + (k : Int) * (-1)).toNat]?) k = some (xs.toList.reverse.getD k .none) := by
    intro k hk
    have hk' : k < xs.size := List.mem_range.mp hk
    have e : (((xs.size : Int) - 1) + (k : Int) * (-1)).toNat = xs.size - 1 - k := by omega
    show xs[(((xs.size : Int) - 1) + (k : Int) * (-1)).toNat]? = some (xs.toList.reverse.getD k .none)
    rw [e, List.getD_eq_getElem?_getD, List.getElem?_reverse (by simpa using hk'), Array.length_toList, Array.getElem?_toList]
    rw [Array.getElem?_eq_getElem (by omega)]
    rfl
  rw [fm_map h]
  refine List.ext_getElem (by simp) fun i h1 h2 => ?_
  rw [List.getElem_map, List.getElem_range, List.getD_eq_getElem?_getD, List.getElem?_eq_getElem h2]
  rfl
theorem sliceApplied_rev {sl : Addr} {vl vu vs : Value} {n : Nat} {Q : Int × Int × Nat → Shared → Prop} (hs : s.heap.IsSliceOf sl vl vu vs) (pl : IsPart vl none) (pu : IsPart vu none) (ps : IsPart vs (some (-1)))
    (h : Q ((n : Int) - 1, -1, n) s) : wpAny (model prog w) A (Builtin.Slice.sliceApplied (.ref sl) (pure (n : Int))) Q E s := by
  obtain ⟨os, hos, hcs, hds⟩ := id hs
  unfold Builtin.Slice.sliceApplied Builtin.Slice.sliceFields
  refine wpAny_bind (wpAny_bind (wpAny_field hos hds (x := vl) rfl (wpAny_bind (wpAny_field hos hds (x := vu) rfl (wpAny_bind (wpAny_field hos hds (x := vs) rfl (wpAny_pure ?_)))))))
  refine wpAny_bind (slicePart_ ps ?_)
  show wpAny _ _ (if ((-1 : Int) == 0) = true then _ else _) _ _ s
  rw [if_neg (by decide)]
  refine wpAny_bind (slicePart_ pl (wpAny_bind (slicePart_ pu (wpAny_bind (wpAny_pure ?_)))))
  show wpAny _ _ (pure (((n : Int) - 1), (-1 : Int), Builtin.Slice.slicePlaces ((n : Int) - 1) (-1) (-1))) _ _ s
  have e : Builtin.Slice.slicePlaces ((n : Int) - 1) (-1) (-1) = n := by
    unfold Builtin.Slice.slicePlaces
    rw [if_neg (by decide), show (- (-1) : Int) = 1 from rfl, Int.ediv_one]
    split <;> omega
  rw [e]
  exact wpAny_pure h
theorem getItem_tuple_rev {t sl : Addr} {items : Array Value} {vl vu vs : Value} {Q : Value → Shared → Prop} (ht : IsTup s.heap t items) (hs : s.heap.IsSliceOf sl vl vu vs) (pl : IsPart vl none) (pu : IsPart vu none) (ps : IsPart vs (some (-1)))
    (h : Q (.ref s.heap.objs.size) { s with heap := s.heap.push { cls := .type "tuple", data := .seq items.toList.reverse.toArray } })
    (hsz : items.size ≤ sizeLine) : wpAny (model prog w) A (getItem (.ref t) (.ref sl)) Q E s := by
  have htake : sizeOk (.seq items.toList.reverse.toArray) := by
    show items.toList.reverse.toArray.size ≤ sizeLine
    rw [List.size_toArray, List.length_reverse, Array.length_toList]
    exact hsz
  obtain ⟨os, hos, hcs, hds⟩ := id hs
  have hTs : s.TypeIs (.ref sl) "slice" := ⟨os, hos, hcs⟩
  unfold getItem
  try with_reducible refine wpAny_holding ?_
  first | refine wpAny_bind (wpAny_pure ?_) | skip
  refine wpAny_bind (wpAny_sequenceKey ht.typeIs (by decide) ?_)
  refine wpAny_bind (wpAny_callSpecial?_slot (name := Str.ofString "__getitem__") ht.typeIs PyProof.Rows.slot_tuple_getitem
    (wpAny_call_entry PyProof.Rows.slot_tuple_getitem ht.typeIs entry_tuple_getitem ?_ (args_tuple_getitem _ _)))
  show wpAny _ _ (Builtin.Tuple.tupleItemsOf (.ref t) >>= _) _ _ s
  refine wpAny_bind (tupleItemsOf_ ht ?_)
  refine wpAny_bind (wpAny_typeOf hTs ?_)
  rw [if_pos (by decide)]
  refine wpAny_bind (sliceApplied_rev hs pl pu ps ?_)
  have hno : ¬ ((((items.size : Int) - 1) == 0 && (-1 : Int) == 1 && items.size == items.size) = true) := by
    intro q
    rw [Bool.and_eq_true, Bool.and_eq_true] at q
    exact absurd (eq_of_beq q.1.2) (by decide)
  show wpAny _ _ (if ((((items.size : Int) - 1) == 0 && (-1 : Int) == 1 && items.size == items.size)) = true then _ else _) _ _ s
  rw [if_neg hno, rev_pick]
  first
    | exact wpAny_bind (m := Builtin.Tuple.tupleExact _) (wpAny_newObj_type (wpAny_pure ⟨_, rfl, wpAny_pure h⟩) htake)
    | exact wpAny_bind (m := Builtin.Tuple.tupleExact _) (wpAny_newObj_type (wpAny_bind (wpAny_pure (wpAny_pure ⟨_, rfl, wpAny_pure h⟩))) htake)
    | exact wpAny_bind (wpAny_bind (m := Builtin.Tuple.tupleExact _) (wpAny_newObj_type (wpAny_pure (wpAny_pure ⟨_, rfl, wpAny_pure h⟩)) htake))
    | exact wpAny_bind (wpAny_bind (m := Builtin.Tuple.tupleExact _) (wpAny_newObj_type (wpAny_pure ⟨_, rfl, wpAny_pure h⟩) htake))
end
end HT
namespace Py
open PySem L2 HT PySem.Spec PyProof.Rows
def tRevT (K : PySem.W.Frag) (te : TE) : TE := fun σ H Q => te σ H fun x H1 => ∃ a xs, x = .ref a ∧ SqT K H1 a xs ∧ ∀ p, H1 p = none → Q (.ref p) (upd H1 p (.tup xs.reverse))
theorem pe_revT {X : Cx} {e : Expr} {te : TE} {k : Nat} {p1 p2 p3 pos : Pos} (he : PE X e te) : PE X (.Subscript e (.Slice none none (some (.UnaryOp .USub (.Constant (.int 1) k p1) p2)) p3) pos) (tRevT X.K te) := by
  refine ⟨fun pins s σ H Q I h => ?_⟩
  refine Subscript_ (thn (he.run pins s σ H _ I h) fun v s1 ⟨x, H1, I1, r1, q1⟩ => ?_)
  obtain ⟨a, xs, ex, hx, q⟩ := q1
  subst ex
  cases r1
  have hst : PO X (some (.UnaryOp .USub (.Constant (.int 1) k p1) p2)) (tPart (tUn (rU fun i => .int (-i)) (tC (.int 1)))) := po_some (pe_un un_neg pe_int)
  refine wpAny_Slice (thn (po_none.run pins s1 σ H1 (fun o H2 => o = none ∧ H2 = H1) I1 ⟨rfl, rfl⟩) fun vl s2 ⟨l, H2, I2, pl, el, e2⟩ => ?_)
  subst el e2
  refine thn (po_none.run pins s2 σ H2 (fun o H3 => o = none ∧ H3 = H2) I2 ⟨rfl, rfl⟩) fun vu s3 ⟨u, H3, I3, pu, eu, e3⟩ => ?_
  subst eu e3
  refine thn (hst.run pins s3 σ H3 (fun o H4 => o = some (-1) ∧ H4 = H3) I3 ⟨1, rfl, -1, rfl, rfl, rfl⟩) fun vs s4 ⟨o, H4, I4, ps, eo, e4⟩ => ?_
  subst eo e4
  have I5 : Inv X pins σ H4 { s4 with heap := s4.heap.push { cls := .type "slice", data := .fields #[vl, vu, vs] } } := I4.kept (t' := s4.toks) fun b ob q => Heap.get?_push_of_some _ q
  obtain ⟨its, r, ht, hz⟩ := I5.tuple hx
  have hlen := r.length
  show wpAny (model X.prog X.w) X.A (subscriptTail e (.Slice none none (some (.UnaryOp .USub (.Constant (.int 1) k p1) p2)) p3) (.ref a) (.ref s4.heap.objs.size)) (EP X pins σ Q) X.xe { s4 with heap := s4.heap.push { cls := .type "slice", data := .fields #[vl, vu, vs] } }
  refine tail_any (ops := [.ref a, .ref s4.heap.objs.size]) ht.typeIs (PyProof.Rows.slot_tuple_getitem.lookup) ?_ (by with_unfolding_all rfl)
  refine getItem_tuple_rev ht (Heap.IsSliceOf.new _ vl vu vs) pl pu ps ?_ (by rw [List.size_toArray]; omega)
  refine ⟨.ref _, _, I5.laid (t' := s4.toks) (o := .tup xs.reverse) (fun b ob q => Heap.get?_push_of_some _ q) (Nat.le_refl _) ?_, rfl, q _ (I5.hok.fresh (Nat.le_refl _))⟩
  have er : its.toArray.toList.reverse.toArray = its.reverse.toArray := rfl
  exact ⟨by rw [List.length_reverse]; exact hz, its.reverse, r.reverse, ⟨_, Heap.get?_push_size _ rfl, rfl, 0, by rw [er]⟩⟩
section
variable {X : Cx} {W : World} {rs : Rs} {a b e : Expr} {p apos cpos pos p2 : Pos} {rl : List Rep} {kvs : List (L2.Key × V)}
/-- t[::-1] of a tuple -/
theorem ew_revT {k : Nat} {p1 p2 p3 : Pos} (ha : Ew X W rs a (rTup X.K rl)) : Ew X W rs (.Subscript a (.Slice none none (some (.UnaryOp .USub (.Constant (.int 1) k p1) p2)) p3) pos) (rTup X.K rl.reverse) := by
  refine pe_cs (pe_revT ha) ?_
  rintro σ H Q ⟨k, g, q⟩
  exact ⟨k, g, fun v H1 k1 e1 ⟨a', xs, ev, hs, hr⟩ => ⟨a', xs, ev, sqT_mono (W.sub H1) hs, fun z hz => q _ _ (World.okNew k1 hz) (e1.trans (World.visEx k1 (Ex.new hz))) ⟨z, _, rfl, .inl (.inl (by rw [World.visNew k1 hz, upd_same])), (reps_rev hr).mono (World.visEx k1 (Ex.new hz))⟩⟩⟩
/-- xs[:k], xs[k:] of a list -/
theorem ew_takeL {m : Nat} (ha : Ew X W rs a (rSeq X.K rl)) (hb : Ew X W rs b (rD X.K (.int m))) : Ew X W rs (.Subscript a (.Slice none (some b) none p2) pos) (rLst (rl.take m)) :=
  ew_sub (ew_takeLE (γ := Unit) (m := fun _ => m) ha (ew_in () hb)) fun v H ⟨_, p⟩ => p
theorem ew_dropL {m : Nat} (ha : Ew X W rs a (rSeq X.K rl)) (hb : Ew X W rs b (rD X.K (.int m))) : Ew X W rs (.Subscript a (.Slice (some b) none none p2) pos) (rLst (rl.drop m)) := by
  refine pe_cs (pe_slice sl_list ha (po_some hb) po_none) ?_
  rintro σ H Q ⟨k, g, q⟩
  refine ⟨k, g, fun v H1 k1 e1 pv => ?_⟩
  show tW W rs _ σ H1 _
  refine ⟨k1, g.mono e1, fun w H2 k2 e2 pw => ⟨m, rD_int.mp pw, ?_⟩⟩
  obtain ⟨a', xs, ev, hs, hr⟩ := (rSeq X.K rl).mono e2 pv
  refine ⟨a', xs, ev, sqL_mono (W.sub H2) hs, fun z hz => ?_⟩
  have e3 : cutV xs (some (m : Int)) none = xs.drop m := by
    unfold cutV
    rw [HT.sIx_none, HT.sIx_nat]
    by_cases c : m ≤ xs.length
    · rw [Nat.min_eq_left c, List.take_of_length_le (by rw [List.length_drop]; omega)]
    · rw [Nat.min_eq_right (by omega), Nat.sub_self, List.take_zero, List.drop_of_length_le (by omega)]
  rw [e3]
  exact q _ _ (World.okNew k2 hz) ((e1.trans e2).trans (World.visEx k2 (Ex.new hz))) ⟨z, _, rfl, by rw [World.visNew k2 hz, upd_same], (reps_drop m hr).mono (World.visEx k2 (Ex.new hz))⟩
/-- list(d.items()) -/
theorem ew_listItems {fs : List (List Rep)} (hc : X.calm = true) (he : Ew X W rs e (rDict kvs)) (hg : Gl X "list") (hm : X.mg "list" = none) (hf : ∀ (i : Nat) (q : L2.Key × V), kvs[i]? = some q → ∃ f, fs[i]? = some f ∧ ∀ H, Reps f [kV q.1, q.2] H) (hlen : fs.length = kvs.length) (hbase : attributeBase e "items" X.env (eval e X.env) = eval e X.env := by rfl) (hline : (apos.endLine == cpos.line) = true := by rfl)
    (hs : starEach [.Call (.Attribute e "items" apos) [] [] cpos] X.env = (false, eval (.Call (.Attribute e "items" apos) [] [] cpos) X.env) :: starEach [] X.env := by rfl) : Ew X W rs (.Call (.Name "list" p) [.Call (.Attribute e "items" apos) [] [] cpos] [] pos) (rLst (fs.map (rTup X.K))) := by
  refine pe_cs (LiI.pe_listItems hc he hg hm (by decide +kernel) hbase hline hs) ?_
  rintro σ H Q ⟨k, g, q⟩
  refine ⟨k, g, fun v H1 k1 e1 ⟨a, ev, hd⟩ => ⟨a, kvs, ev, W.sub H1 _ _ hd, fun G y as hk hn hf1 hna hy hp => ?_⟩⟩
  have k2 : W.ok G := World.okEx k1 hk
  have e2 := World.visEx k1 hk
  have hyv : ¬ W.hd y := World.free k1 hn
  refine q _ _ k2 (e1.trans e2) ⟨y, _, rfl, by rw [World.seen hyv]; exact hy, ?_⟩
  exact reps_pairs (paired_vis hp fun t z => World.free k1 (hf1 t z)) (fun i q' z => let ⟨f, e3, e4⟩ := hf i q' z; ⟨f, e3, e4 _⟩) hlen
end
end Py
namespace Py
open PySem L2
section
variable {X : Cx} {W : World} {rs : Rs} {a b e t : Expr} {r ra rb : Rep} {pos pos' cpos : Pos} {O : Outs} {x : Str}
/-- is a value None -/
def isNonD : PyData → Bool
  | .none => true
  | _ => false
theorem dp_isNon {K : PySem.W.Frag} {H : Hp} {v : V} {d : PyData} (h : Dp K H v d) : decide (v = .non) = isNonD d := by
  cases h <;> first | rfl | simp [isNonD]
theorem ew_isN {d : PyData} {j : Nat} (ha : Ew X W rs a (rD X.K d)) : Ew X W rs (.Compare a [.Is] [.Constant .none j cpos] pos) (rD X.K (.bool (isNonD d))) :=
  ew_cmp op_isN ha ew_non (R2w.val fun x y H k p q => ⟨.bl (isNonD d), rD_bl.mpr rfl, fun Q hQ => ⟨rD_non.mp q, by rw [dp_isNon p]; exact hQ⟩⟩) (nomark _)
theorem ew_isNotN {d : PyData} {j : Nat} (ha : Ew X W rs a (rD X.K d)) : Ew X W rs (.Compare a [.IsNot] [.Constant .none j cpos] pos) (rD X.K (.bool (!isNonD d))) :=
  ew_cmp op_notN ha ew_non (R2w.val fun x y H k p q => ⟨.bl (!isNonD d), rD_bl.mpr rfl, fun Q hQ => ⟨rD_non.mp q, by rw [dp_isNon p]; exact hQ⟩⟩) (nomark _)
theorem tw_isN {d : PyData} {j : Nat} (ha : Ew X W rs a (rD X.K d)) : Tw X W rs (.Compare a [.Is] [.Constant .none j cpos] pos) (isNonD d) :=
  tw_cmp op_isN ha ew_non (R2w.val fun x y H k p q => ⟨.bl (isNonD d), rD_bl.mpr rfl, fun Q hQ => ⟨rD_non.mp q, by rw [dp_isNon p]; exact hQ⟩⟩) (nomark _)
theorem tw_isNotN {d : PyData} {j : Nat} (ha : Ew X W rs a (rD X.K d)) : Tw X W rs (.Compare a [.IsNot] [.Constant .none j cpos] pos) (!isNonD d) :=
  tw_cmp op_notN ha ew_non (R2w.val fun x y H k p q => ⟨.bl (!isNonD d), rD_bl.mpr rfl, fun Q hQ => ⟨rD_non.mp q, by rw [dp_isNon p]; exact hQ⟩⟩) (nomark _)
/-- x += e, ints -/
theorem sw_aug {i j : Int} (q : Nat) (hq : rs[q]? = some (some (rD X.K (.int i)))) (he : Ew X W rs e (rD X.K (.int j))) (hN : X.N.Nodup) (hi : X.N[q]? = some x := by rfl) (hx : Loc X.env.scope x := by first | exact .inl rfl | exact .inr rfl)
    (hf : X.fn x = true ∨ X.env.scope.names.lookup x = some .local := by first | exact .inl rfl | exact .inr rfl | assumption) : Sw X W rs (.AugAssign (.Name x pos') .Add e pos) (O.to (rs.set q (some (rD X.K (.int (i + j)))))) := by
  refine ps_cs (ps_aug hN hi hx he ip_add hf) ?_
  rintro D σ H ⟨k, g, _, n, _⟩
  obtain ⟨v, e1, p⟩ := g.get hq
  refine ⟨v, e1, k, g, fun y H1 k1 e2 p1 => ⟨i, j, rD_int.mp p, rD_int.mp p1, ?_⟩⟩
  exact n _ rfl _ H1 k1 e2 ((g.mono e2).set (rD_int.mpr rfl))
/-- a call that stands alone -/
theorem bw_ex1 {sts : List Stmt} (h : Ew X W rs e r) (h2 : Bw X W rs sts O) (hs : swapsWith e none pos.line X.env = pure false := by rfl) : Bw X W rs (.Expr e pos :: sts) O := bw_cons (N := rs) (sw_expr h hs) h2
end
end Py
namespace Py
open PySem L2
/-! ### tuples of ints: <= and > -/
abbrev leX (ns ms : List Int) : Bool := !HT.lexLt ms ns
theorem lexAt_shift {e r : Nat → Bool} {z : Bool} : ∀ (k i : Nat), Ob.lexAt e r z (i + 1) k = Ob.lexAt (fun j => e (j + 1)) (fun j => r (j + 1)) z i k
  | 0, i => rfl
  | k + 1, i => by
    rw [Ob.lexAt_succ, Ob.lexAt_succ, lexAt_shift k (i + 1)]
theorem lexAt_leX : ∀ ns ms : List Int, Ob.lexAt (fun j => decide (ns.getD j 0 = ms.getD j 0)) (fun j => decide (ns.getD j 0 ≤ ms.getD j 0)) (decide (ns.length ≤ ms.length)) 0 (min ns.length ms.length) = leX ns ms
  | [], [] => by simp [leX, HT.lexLt_nil_nil, Ob.lexAt_zero]
  | [], y :: ys => by simp [leX, HT.lexLt_cons_nil, Ob.lexAt_zero]
  | x :: xs, [] => by simp [leX, HT.lexLt_nil_cons, Ob.lexAt_zero]
  | x :: xs, y :: ys => by
    have hm : min (x :: xs).length (y :: ys).length = min xs.length ys.length + 1 := by simp only [List.length_cons]; omega
    have ih := lexAt_leX xs ys
    rw [hm, Ob.lexAt_succ, lexAt_shift]
    unfold leX
    rw [HT.lexLt_cons]
    by_cases h : x = y
    · subst h
      rw [if_pos rfl]
      simp only [List.getD_cons_zero, decide_true, if_true, List.getD_cons_succ, List.length_cons]
      rw [show (decide (xs.length + 1 ≤ ys.length + 1)) = decide (xs.length ≤ ys.length) from decide_eq_decide.mpr (by omega)]
      exact ih
    · rw [if_neg (Ne.symm h)]
      simp only [List.getD_cons_zero, decide_eq_false h]
      rw [if_neg (by decide)]
      by_cases h2 : y < x
      · rw [decide_eq_true h2, decide_eq_false (by omega)]; rfl
      · rw [decide_eq_false h2, decide_eq_true (by omega)]; rfl
theorem lexAt_gtX : ∀ ns ms : List Int, Ob.lexAt (fun j => decide (ns.getD j 0 = ms.getD j 0)) (fun j => decide (ms.getD j 0 < ns.getD j 0)) (decide (ms.length < ns.length)) 0 (min ns.length ms.length) = HT.lexLt ms ns
  | [], [] => by simp [HT.lexLt_nil_nil, Ob.lexAt_zero]
  | [], y :: ys => by simp [HT.lexLt_cons_nil, Ob.lexAt_zero]
  | x :: xs, [] => by simp [HT.lexLt_nil_cons, Ob.lexAt_zero]
  | x :: xs, y :: ys => by
    have hm : min (x :: xs).length (y :: ys).length = min xs.length ys.length + 1 := by simp only [List.length_cons]; omega
    have ih := lexAt_gtX xs ys
    rw [hm, Ob.lexAt_succ, lexAt_shift]
    rw [HT.lexLt_cons]
    by_cases h : x = y
    · subst h
      rw [if_pos rfl]
      simp only [List.getD_cons_zero, decide_true, if_true, List.getD_cons_succ, List.length_cons]
      rw [show (decide (ys.length + 1 < xs.length + 1)) = decide (ys.length < xs.length) from decide_eq_decide.mpr (by omega)]
      exact ih
    · rw [if_neg (Ne.symm h)]
      simp only [List.getD_cons_zero, decide_eq_false h]
      rw [if_neg (by decide)]
end Py
namespace L2
open PySem PySem.Spec PyProof.Rows
def rGtT (K : PySem.W.Frag) : R2 := fun x y H Q => ∃ (a b : Addr) (ns ms : List Int), x = .ref a ∧ y = .ref b ∧ SqT K H a (ns.map V.int) ∧ SqT K H b (ms.map V.int) ∧ Q (.bl (HT.lexLt ms ns)) H
theorem op_gtT {X : Cx} (hu : X.A.units < cLine) : OpR X (compareOp .Gt) (rGtT X.K) := by
  intro pins s σ H x y v u Q I rx ry h
  obtain ⟨a, b, ns, ms, rfl, rfl, ha, hb, q⟩ := h
  cases rx
  cases ry
  obtain ⟨its, r1, p1, _⟩ := I.tuple ha
  obtain ⟨its2, r2, p2, _⟩ := I.tuple hb
  have i1 : IntsAre its ns := Vals.ints r1
  have i2 : IntsAre its2 ms := Vals.ints r2
  have e1 : its.toArray.size = ns.length := by rw [List.size_toArray]; exact i1.length
  have e2 : its2.toArray.size = ms.length := by rw [List.size_toArray]; exact i2.length
  have at1 : ∀ j (h1 : j < its.toArray.size), ∃ t, its.toArray[j] = .int (ns.getD j 0) t := fun j h1 => PyProof.Rows.IntsAre.int_at i1 _ _ (by simp at h1; simp [h1])
  have at2 : ∀ j (h1 : j < its2.toArray.size), ∃ t, its2.toArray[j] = .int (ms.getD j 0) t := fun j h1 => PyProof.Rows.IntsAre.int_at i2 _ _ (by simp at h1; simp [h1])
  have R := Ob.RcOp.tuples_gt (A := X.A) (s := s) (e := fun j => decide (ns.getD j 0 = ms.getD j 0)) (r := fun j => decide (ms.getD j 0 < ns.getD j 0)) p1 p2 hu (fun j h1 h2 => by
    obtain ⟨t, et⟩ := at1 j h1
    obtain ⟨t', et'⟩ := at2 j h2
    rw [et, et']
    have z : (ns.getD j 0 == ms.getD j 0) = decide (ns.getD j 0 = ms.getD j 0) := by
      by_cases q : ns.getD j 0 = ms.getD j 0
      · rw [decide_eq_true q]; exact beq_iff_eq.mpr q
      · rw [decide_eq_false q]; exact beq_eq_false_iff_ne.mpr q
    rw [← z]
    exact SeqAt.EqAt.int_int _ _ _ _) (fun j h1 h2 _ => by
    obtain ⟨t, et⟩ := at1 j h1
    obtain ⟨t', et'⟩ := at2 j h2
    rw [et, et']
    exact Ob.RcOp.gt_int _ _ _ _)
  rw [e1, e2] at R
  have z : wpAny (model X.prog X.w) X.A (compareOp .Gt (.ref a) (.ref b)) (EP X pins σ Q) X.xe s := R X.prog X.w X.xe (EP X pins σ Q) ⟨.bl _, H, I, rfl, by
    have e := Py.lexAt_gtX ns ms
    exact e ▸ q⟩
  exact z
end L2
namespace Py
open PySem L2
section
variable {X : Cx} {W : World} {rs : Rs} {a b e o : Expr} {pos p pos' pos2 : Pos} {r : Rep} {D : Addr} {tg : Expr}
theorem reps_ints' {K : PySem.W.Frag} : ∀ (ns : List Int) (xs : List V) (H : Hp), Reps (ns.map fun z => rD K (.int z)) xs H → xs = ns.map V.int
  | [], [], _, _ => rfl
  | z :: zs, x :: xs, H, h => by rw [List.map_cons, rD_int.mp h.1, reps_ints' zs xs H h.2]
  | [], _ :: _, _, h => h.elim
  | _ :: _, [], _, h => h.elim
theorem tw_leT {ns ms : List Int} (hu : X.A.units < cLine) (ha : Ew X W rs a (rTup X.K (ns.map fun z => rD X.K (.int z)))) (hb : Ew X W rs b (rTup X.K (ms.map fun z => rD X.K (.int z)))) : Tw X W rs (.Compare a [.LtE] [b] pos) (leX ns ms) :=
  tw_cmp (op_leT hu) ha hb (fun x y H k ⟨p, xs, ex, hs, hr⟩ ⟨p', ys, ey, hs', hr'⟩ Q q => by
    rw [reps_ints' ns xs _ hr] at hs
    rw [reps_ints' ms ys _ hr'] at hs'
    exact ⟨p, p', ns, ms, ex, ey, sqT_mono (W.sub H) hs, sqT_mono (W.sub H) hs', by rw [lexAt_leX]; exact q _ H k (Ex.refl _) (Dp.bl _)⟩) (nomark _)
theorem ew_leT {ns ms : List Int} (hu : X.A.units < cLine) (ha : Ew X W rs a (rTup X.K (ns.map fun z => rD X.K (.int z)))) (hb : Ew X W rs b (rTup X.K (ms.map fun z => rD X.K (.int z)))) : Ew X W rs (.Compare a [.LtE] [b] pos) (rD X.K (.bool (leX ns ms))) :=
  ew_cmp (op_leT hu) ha hb (fun x y H k ⟨p, xs, ex, hs, hr⟩ ⟨p', ys, ey, hs', hr'⟩ Q q => by
    rw [reps_ints' ns xs _ hr] at hs
    rw [reps_ints' ms ys _ hr'] at hs'
    exact ⟨p, p', ns, ms, ex, ey, sqT_mono (W.sub H) hs, sqT_mono (W.sub H) hs', by rw [lexAt_leX]; exact q _ H k (Ex.refl _) (Dp.bl _)⟩) (nomark _)
theorem ew_gtT {ns ms : List Int} (hu : X.A.units < cLine) (ha : Ew X W rs a (rTup X.K (ns.map fun z => rD X.K (.int z)))) (hb : Ew X W rs b (rTup X.K (ms.map fun z => rD X.K (.int z)))) : Ew X W rs (.Compare a [.Gt] [b] pos) (rD X.K (.bool (HT.lexLt ms ns))) :=
  ew_cmp (op_gtT hu) ha hb (fun x y H k ⟨p, xs, ex, hs, hr⟩ ⟨p', ys, ey, hs', hr'⟩ Q q => by
    rw [reps_ints' ns xs _ hr] at hs
    rw [reps_ints' ms ys _ hr'] at hs'
    exact ⟨p, p', ns, ms, ex, ey, sqT_mono (W.sub H) hs, sqT_mono (W.sub H) hs', q _ H k (Ex.refl _) (Dp.bl _)⟩) (nomark _)
theorem tw_gtT {ns ms : List Int} (hu : X.A.units < cLine) (ha : Ew X W rs a (rTup X.K (ns.map fun z => rD X.K (.int z)))) (hb : Ew X W rs b (rTup X.K (ms.map fun z => rD X.K (.int z)))) : Tw X W rs (.Compare a [.Gt] [b] pos) (HT.lexLt ms ns) :=
  tw_cmp (op_gtT hu) ha hb (fun x y H k ⟨p, xs, ex, hs, hr⟩ ⟨p', ys, ey, hs', hr'⟩ Q q => by
    rw [reps_ints' ns xs _ hr] at hs
    rw [reps_ints' ms ys _ hr'] at hs'
    exact ⟨p, p', ns, ms, ex, ey, sqT_mono (W.sub H) hs, sqT_mono (W.sub H) hs', q _ H k (Ex.refl _) (Dp.bl _)⟩) (nomark _)
/-! ### range(a, b), reversed(range(n)) -/
theorem i2_range2 {Wg : World} {i j : Int} (hg : Gl X "range") (hm : X.mg "range" = none) (ha : Ew X W rs a (rD X.K (.int i))) (hb : Ew X W rs b (rD X.K (.int j))) (hi : -(2 ^ 62) ≤ i ∧ i < 2 ^ 62) (hj : -(2 ^ 62) ≤ j ∧ j < 2 ^ 62)
    (hs : starEach [a, b] X.env = [(false, eval a X.env), (false, eval b X.env)] := by rfl) (hs2 : starEach [b] X.env = [(false, eval b X.env)] := by rfl) :
    Iw2 X W Wg rs tg (.Call (.Name "range" p) [a, b] [] pos) (j - i).toNat (fun k => rD X.K (.int (i + k))) := by
  refine pi_cs (pi_range2 hg hm (aw_cons ha (aw_cons hb aw_nil hs2) (by rw [hs, hs2])) hs hs2) ?_
  rintro σ H R ⟨k, g, q⟩
  refine ⟨k, g, ?_⟩
  intro vs H1 k1 e1 hp
  obtain ⟨x, y, rfl, p1, p2⟩ := reps2 hp
  refine ⟨i, j, by rw [rD_int.mp p1, rD_int.mp p2], ⟨hi.1, hi.2, hj.1, hj.2⟩, q (Itr i (j - i).toNat) (fun _ => True) _ H1 walk_range k1 e1 (fun _ _ _ => trivial) ?_⟩
  rintro n x H2 H3 hn ⟨eH, hx⟩
  exact .inl ⟨eH, fun G2 _ _ => rD_int.mpr hx⟩
theorem i2_revRange {Wg : World} {n : Nat} (hg : Gl X "reversed") (hm : X.mg "reversed" = none) (hg2 : Gl X "range") (hm2 : X.mg "range" = none) (ha : Ew X W rs a (rD X.K (.int n))) (hn : n < 2 ^ 62)
    (hs : starEach [.Call (.Name "range" p) [a] [] pos2] X.env = (false, eval (.Call (.Name "range" p) [a] [] pos2) X.env) :: starEach [] X.env := by rfl) (hs2 : starEach [a] X.env = (false, eval a X.env) :: starEach [] X.env := by rfl) :
    Iw2 X W Wg rs tg (.Call (.Name "reversed" pos') [.Call (.Name "range" p) [a] [] pos2] [] pos) n (fun k => rD X.K (.int ((n - 1 - k : Nat) : Int))) := by
  refine pi_cs (pi_revR hg hm (prg_1 hg2 hm2 ha hs2) hs) ?_
  rintro σ H R ⟨k, g, q⟩
  refine ⟨k, g, fun v H1 k1 e1 p1 => ⟨(n : Int), rD_int.mp p1, by decide, by decide, by omega, by omega, ?_⟩⟩
  have e0 : (((n : Int) - 0).toNat) = n := by omega
  rw [e0]
  refine q (Itc (0 + (n : Int) - 1) (-1) n) (fun _ => True) _ H1 walk_rangeC k1 e1 (fun _ _ _ => trivial) ?_
  rintro i x H2 H3 hi ⟨eH, hx⟩
  refine .inl ⟨eH, fun G2 _ _ => rD_int.mpr (hx.trans (congrArg V.int ?_))⟩
  omega
/-! ### lists that are written -/
/-- xs[j] = e, xs held apart -/
theorem sz_setAt (i : Nat) {xs : List V} {rl : List Rep} {z : Int} {j : Nat} (hi : rs[i]? = some (some (rAtL D rl xs))) (hz : z = (j : Int)) (hj : j < rl.length) (ho : Ew X (W.hold D (.lst xs)) rs o (rAtL D rl xs)) (ha : Ew X (W.hold D (.lst xs)) rs a (rD X.K (.int z))) (he : Ew X (W.hold D (.lst xs)) rs e r)
    (hass : ∀ v, assign (.Subscript o a pos') X.env v = (do
      let ov ← holding [v] (eval o X.env)
      let iv ← holding [v, ov] (eval a X.env)
      standAt pos'
      holding [v, ov, iv] (setItem ov iv v)
      release [v, ov, iv] []) := by intro _; rfl)
    (hs : swapsWithSole [.Subscript o a pos'] e pos.line X.env = pure false := by rfl) (hw : swappedStores [.Subscript o a pos'] e X.env = pure none := by rfl)
    (h1 : (assignEach [.Subscript o a pos'] X.env).map (·.2) = [assign (.Subscript o a pos') X.env] := by rfl) :
    Sz X (W.hold D (.lst xs)) rs (.Assign [.Subscript o a pos'] e pos) (fun y : V => W.hold D (.lst (xs.set j y))) (fun y => rs.set i (some (rAtL D (rl.set j r) (xs.set j y)))) := by
  refine ps_cs (ps_asg he (pg_sub ho ha set_list hass) hs hw h1) ?_
  rintro DD σ H ⟨k, g, q⟩
  refine ⟨k, g, fun v H1 k1 e1 p1 => ⟨k1, g.mono e1, fun x H2 k2 e2 p2 => ⟨k2, g.mono (e1.trans e2), fun y H3 k3 e3 p3 => ?_⟩⟩⟩
  have hlen : rl.length = xs.length := p2.2.len
  refine ⟨D, xs, z, j, p2.1, rD_int.mp p3, k3.2.2, ?_, ?_⟩
  · unfold ixN
    rw [if_pos (by omega), if_pos (by omega)]
    congr 1
    omega
  · have hv : (W.hold D (.lst (xs.set j v))).vis (upd H3 D (.lst (xs.set j v))) = (W.hold D (.lst xs)).vis H3 := hold_upd
    refine q v σ _ (hold_okUpd k3) (by rw [hv]; exact (e1.trans e2).trans e3) ?_
    rw [hv]
    exact (g.mono ((e1.trans e2).trans e3)).re hi fun w pw => ⟨pw.1, reps_set _ pw.2 (r.mono (e2.trans e3) p1)⟩
/-- [x] * n, [x, ..]: new lists -/
theorem en_lst {es : List Expr} {rl : List Rep} (h : Aw X W rs es rl) (hl : rl.length ≤ 1000) : En X W rs (.List es pos) rl :=
  pe_cs (pe_lst h) fun σ H Q ⟨k, g, q⟩ => ⟨k, g, fun vs H1 k1 e1 p1 => ⟨Nat.le_of_lt (small1000 (p1.len ▸ hl)), fun p hp => q p vs _ (hold_new k1 hp) (by rw [new_at k1 hp]; exact e1) (by rw [new_at k1 hp]; exact p1)⟩⟩
theorem en_rep1 {k : Nat} (ha : Ew X W rs a (rLst [r])) (hb : Ew X W rs b (rD X.K (.int k))) (hk : k ≤ 1000) : En X W rs (.BinOp a .Mult b pos) (List.replicate k r) := by
  refine pe_cs (pe_op op_rep ha hb) ?_
  rintro σ H Q ⟨kH, g, q⟩
  refine ⟨kH, g, fun x H1 k1 e1 p1 => ⟨k1, g.mono e1, fun y H2 k2 e2 p2 => ?_⟩⟩
  obtain ⟨a, xs, ex, hs, hr⟩ := (rLst [r]).mono e2 p1
  obtain ⟨x1, rfl, h1⟩ := reps1 hr
  have hsz : ([x1] : List V).length * ((k : Int)).toNat ≤ sizeLine := by
    have := small1000 hk
    simp only [List.length_singleton, Int.toNat_natCast]
    omega
  have hrep : ∀ (k : Nat) {G : Hp}, r.p x1 G → Reps (List.replicate k r) (List.replicate k [x1]).flatten G := by
    intro k G h
    induction k with
    | zero => trivial
    | succ k ih => exact ⟨h, ih⟩
  refine ⟨a, k, [x1], ex, rD_int.mp p2, W.sub H2 _ _ hs, by omega, by omega, hsz, fun z hz => ?_⟩
  exact q z ((List.replicate ((k : Int)).toNat [x1]).flatten) _ (hold_new k2 hz) (by rw [new_at k2 hz]; exact e1.trans e2) (by rw [new_at k2 hz, Int.toNat_natCast]; exact hrep k h1)
end
end Py
namespace K11
open PySem L2 Py
/-! ### arrangements: what stands there -/
abbrev sArrangement : Stmt := top 42
abbrev sPlaces : Stmt := top 43
abbrev sSortedRows : Stmt := top 44
abbrev sSteadyLengths : Stmt := top 45
abbrev sFirstSteady : Stmt := top 46
abbrev sFirstGreatest : Stmt := top 47
abbrev sRowsWith : Stmt := top 48
abbrev sSortedIndex : Stmt := top 49
abbrev sIsPlace : Stmt := top 50
abbrev sAreSteady : Stmt := top 51
abbrev sAreFall : Stmt := top 52
abbrev sHoldEach : Stmt := top 53
abbrev sAreIndices : Stmt := top 9
abbrev sAInit : Stmt := inClass (top 41) 0
abbrev sAShows : Stmt := inClass (top 41) 2
abbrev sAllRanks : Stmt := inClass (top 35) 9
structure Ag where
  (cArr fArrangement fPlaces fSortedRows fSteadyLengths fFirstSteady fFirstGreatest fRowsWith fSortedIndex fIsPlace fAreSteady fAreFall fHoldEach fAreIndices fAInit fAShows fAllRanks : Addr)
structure Gx (P : Program) (K : PySem.W.Frag) (mg : Str → Option Value) (d : Ad) (t : Ae) (g : Ag) : Prop where
  Y : Ty P K mg d t
  bReversed : mg "reversed" = none
  bAny : mg "any" = none
  gArr : mg "Arrangement" = some (.ref g.cArr)
  isiA : IsiC K g.cArr
  nAs : NoAttr K g.cArr "steady"
  nAf : NoAttr K g.cArr "falls"
  mkA : Mk K g.cArr g.fAInit
  mShows : Meth K g.cArr "shows" g.fAShows
  mAllRanks : Meth K t.cTable "all_ranks" g.fAllRanks
  gArrangement : mg "arrangement" = some (.ref g.fArrangement)
  gPlaces : mg "places" = some (.ref g.fPlaces)
  gSortedRows : mg "sorted_rows" = some (.ref g.fSortedRows)
  gSteadyLengths : mg "_steady_lengths" = some (.ref g.fSteadyLengths)
  gFirstSteady : mg "_first_steady" = some (.ref g.fFirstSteady)
  gFirstGreatest : mg "_first_greatest" = some (.ref g.fFirstGreatest)
  gRowsWith : mg "_rows_with" = some (.ref g.fRowsWith)
  gSortedIndex : mg "_sorted_index" = some (.ref g.fSortedIndex)
  gIsPlace : mg "_is_place" = some (.ref g.fIsPlace)
  gAreSteady : mg "_are_steady" = some (.ref g.fAreSteady)
  gAreFall : mg "_are_fall" = some (.ref g.fAreFall)
  gHoldEach : mg "_hold_each_once" = some (.ref g.fHoldEach)
  gAreIndices : mg "are_indices" = some (.ref g.fAreIndices)
  lArrangement : ∃ fd, Fun K "arrangement" "arrangement" sArrangement g.fArrangement fd
  lPlaces : ∃ fd, Fun K "places" "places" sPlaces g.fPlaces fd
  lSortedRows : ∃ fd, Fun K "sorted_rows" "sorted_rows" sSortedRows g.fSortedRows fd
  lSteadyLengths : ∃ fd, Fun K "_steady_lengths" "_steady_lengths" sSteadyLengths g.fSteadyLengths fd
  lFirstSteady : ∃ fd, Fun K "_first_steady" "_first_steady" sFirstSteady g.fFirstSteady fd
  lFirstGreatest : ∃ fd, Fun K "_first_greatest" "_first_greatest" sFirstGreatest g.fFirstGreatest fd
  lRowsWith : ∃ fd, Fun K "_rows_with" "_rows_with" sRowsWith g.fRowsWith fd
  lSortedIndex : ∃ fd, Fun K "_sorted_index" "_sorted_index" sSortedIndex g.fSortedIndex fd
  lIsPlace : ∃ fd, Fun K "_is_place" "_is_place" sIsPlace g.fIsPlace fd
  lAreSteady : ∃ fd, Fun K "_are_steady" "_are_steady" sAreSteady g.fAreSteady fd
  lAreFall : ∃ fd, Fun K "_are_fall" "_are_fall" sAreFall g.fAreFall fd
  lHoldEach : ∃ fd, Fun K "_hold_each_once" "_hold_each_once" sHoldEach g.fHoldEach fd
  lAreIndices : ∃ fd, Fun K "are_indices" "are_indices" sAreIndices g.fAreIndices fd
  lAInit : ∃ fd, Fun K "__init__" "Arrangement.__init__" sAInit g.fAInit fd
  lAShows : ∃ fd, Fun K "shows" "Arrangement.shows" sAShows g.fAShows fd
  lAllRanks : ∃ fd, Fun K "all_ranks" "Table.all_ranks" sAllRanks g.fAllRanks fd
theorem scArrangement : FnScope ["table", "key", "ranks", "lengths", "steady", "length"] ["table", "key"] (defScope sArrangement) := ⟨rfl, rfl, rfl, by decide +kernel, rfl, by decide +kernel, by decide +kernel⟩
theorem scPlaces : FnScope ["table", "row", "key", "ranks", "at"] ["table", "row", "key"] (defScope sPlaces) := ⟨rfl, rfl, rfl, by decide +kernel, rfl, by decide +kernel, by decide +kernel⟩
theorem scSortedRows : FnScope ["table", "key", "ranks", "rows", "found", "at", "row"] ["table", "key"] (defScope sSortedRows) := ⟨rfl, rfl, rfl, by decide +kernel, rfl, by decide +kernel, by decide +kernel⟩
theorem scSteadyLengths : FnScope ["ranks", "lengths", "at", "later"] ["ranks"] (defScope sSteadyLengths) := ⟨rfl, rfl, rfl, by decide +kernel, rfl, by decide +kernel, by decide +kernel⟩
theorem scFirstSteady : FnScope ["ranks", "lengths", "chosen", "at", "last"] ["ranks", "lengths"] (defScope sFirstSteady) := ⟨rfl, rfl, rfl, by decide +kernel, rfl, by decide +kernel, by decide +kernel⟩
theorem scFirstGreatest : FnScope ["lengths", "found", "at", "length"] ["lengths"] (defScope sFirstGreatest) := ⟨rfl, rfl, rfl, by decide +kernel, rfl, by decide +kernel, by decide +kernel⟩
theorem scRowsWith : FnScope ["lengths", "length", "at", "each"] ["lengths", "length"] (defScope sRowsWith) := ⟨rfl, rfl, rfl, by decide +kernel, rfl, by decide +kernel, by decide +kernel⟩
theorem scSortedIndex : FnScope ["ranks", "at", "smaller", "rank"] ["ranks", "at"] (defScope sSortedIndex) := ⟨rfl, rfl, rfl, by decide +kernel, rfl, by decide +kernel, by decide +kernel⟩
theorem scIsPlace : FnScope ["ranks", "rank", "at", "before", "behind"] ["ranks", "rank", "at"] (defScope sIsPlace) := ⟨rfl, rfl, rfl, by decide +kernel, rfl, by decide +kernel, by decide +kernel⟩
theorem scAreSteady : FnScope ["ranks", "indices", "at"] ["ranks", "indices"] (defScope sAreSteady) := ⟨rfl, rfl, rfl, by decide +kernel, rfl, by decide +kernel, by decide +kernel⟩
theorem scAreFall : FnScope ["ranks", "indices", "at"] ["ranks", "indices"] (defScope sAreFall) := ⟨rfl, rfl, rfl, by decide +kernel, rfl, by decide +kernel, by decide +kernel⟩
theorem scHoldEach : FnScope ["falls", "many", "indices", "fall", "at"] ["falls", "many"] (defScope sHoldEach) := ⟨rfl, rfl, rfl, by decide +kernel, rfl, by decide +kernel, by decide +kernel⟩
theorem scAreIndices : FnScope ["value", "many", "at"] ["value", "many"] (defScope sAreIndices) := ⟨rfl, rfl, rfl, by decide +kernel, rfl, by decide +kernel, by decide +kernel⟩
theorem scAInit : FnScope ["self", "steady", "falls"] ["self", "steady", "falls"] (defScope sAInit) := ⟨rfl, rfl, rfl, by decide +kernel, rfl, by decide +kernel, by decide +kernel⟩
theorem scAShows : FnScope ["self", "table", "key", "ranks", "fall"] ["self", "table", "key"] (defScope sAShows) := ⟨rfl, rfl, rfl, by decide +kernel, rfl, by decide +kernel, by decide +kernel⟩
theorem scAllRanks : FnScope ["self", "key", "row"] ["self", "key"] (defScope sAllRanks) := ⟨rfl, rfl, rfl, by decide +kernel, rfl, by decide +kernel, by decide +kernel⟩
end K11
namespace K11
open PySem L2 Py
/-! ### rows of ranks, lists of numbers -/
def rk (R : List (List Int)) (i : Nat) : List Int := R.getD i []
def leR (R : List (List Int)) (i j : Nat) : Bool := leX (rk R i) (rk R j)
def rRs (K : PySem.W.Frag) (R : List (List Int)) : Rep := rLst (R.map (rInts K))
abbrev rN (K : PySem.W.Frag) (n : Nat) : Rep := rD K (.int ((n : Nat) : Int))
def nl (K : PySem.W.Frag) (L : List Nat) : List Rep := L.map (rN K)
def rNats (K : PySem.W.Frag) (L : List Nat) : Rep := rLst (nl K L)
theorem nl_len {K : PySem.W.Frag} {L : List Nat} : (nl K L).length = L.length := List.length_map _
theorem nl_get {K : PySem.W.Frag} {L : List Nat} {i : Nat} (h : i < L.length) : (nl K L)[i]? = some (rN K (L.getD i 0)) := by
  unfold nl
  rw [List.getElem?_map, List.getD_eq_getElem?_getD, List.getElem?_eq_getElem h]
  rfl
theorem nl_set {K : PySem.W.Frag} {L : List Nat} {i x : Nat} : (nl K L).set i (rN K x) = nl K (L.set i x) := by unfold nl; rw [List.map_set]
theorem rs_get {K : PySem.W.Frag} {R : List (List Int)} {i : Nat} (h : i < R.length) : (R.map (rInts K))[i]? = some (rInts K (rk R i)) := by
  rw [List.getElem?_map, List.getElem?_eq_getElem h]
  unfold rk
  rw [List.getD_eq_getElem?_getD, List.getElem?_eq_getElem h]
  rfl
theorem ew_rk {X : Cx} {W : Py.World} {rs : Rs} {o a : Expr} {pos : Pos} {R : List (List Int)} {z : Int} (i : Nat) (h : Ew X W rs o (rRs X.K R)) (ha : Ew X W rs a (rD X.K (.int z))) (hz : z = (i : Int)) (hi : i < R.length) (hs : PlainIx a) : Ew X W rs (.Subscript o a pos) (rInts X.K (rk R i)) := ew_ixL i (lst_as h) ha hz (rs_get hi) hs
theorem ew_nat {X : Cx} {W : Py.World} {rs : Rs} {o a : Expr} {pos : Pos} {L : List Nat} {z : Int} (i : Nat) (h : Ew X W rs o (rNats X.K L)) (ha : Ew X W rs a (rD X.K (.int z))) (hz : z = (i : Int)) (hi : i < L.length) (hs : PlainIx a) : Ew X W rs (.Subscript o a pos) (rN X.K (L.getD i 0)) := ew_ixL i (lst_as h) ha hz (nl_get hi) hs
/-! ### how long a steady set from a row on can be -/
def stepL (R : List (List Int)) (a : Nat) (L : List Nat) (k : Nat) : List Nat := if (leR R a (a + 1 + k) && decide ((L.getD a 0 : Int) ≤ (L.getD (a + 1 + k) 0 : Nat))) = true then L.set a (L.getD (a + 1 + k) 0 + 1) else L
def rowL (R : List (List Int)) (L : List Nat) (i : Nat) : List Nat := (List.range i).foldl (stepL R (R.length - 1 - i)) L
def lenF (R : List (List Int)) (i : Nat) : List Nat := (List.range i).foldl (rowL R) (List.replicate R.length 1)
def lengthsR (R : List (List Int)) : List Nat := lenF R R.length
theorem fold_succ {α : Type} (f : α → Nat → α) (x : α) (n : Nat) : (List.range (n + 1)).foldl f x = f ((List.range n).foldl f x) n := by rw [List.range_succ, List.foldl_append]; rfl
theorem stepL_len (R : List (List Int)) (a : Nat) (L : List Nat) (k : Nat) : (stepL R a L k).length = L.length := by
  unfold stepL
  split
  · rw [List.length_set]
  · rfl
theorem fstep_len (R : List (List Int)) (a : Nat) (L : List Nat) : ∀ n, ((List.range n).foldl (stepL R a) L).length = L.length
  | 0 => rfl
  | n + 1 => by rw [fold_succ, stepL_len, fstep_len R a L n]
theorem lenF_len (R : List (List Int)) : ∀ i, (lenF R i).length = R.length
  | 0 => List.length_replicate
  | i + 1 => by
    unfold lenF
    rw [fold_succ]
    unfold rowL
    rw [fstep_len]
    exact lenF_len R i
section
variable {P : Program} {w : PySem.World} {K : PySem.W.Frag} {mg : Str → Option Value} {base : Heap} {d : Ad} {e : Ld} {t : Ae} {g : Ag}
theorem ok_steadyLengths (G : Gx P K mg d t g) : FnR P w K mg base CX0 1 g.fSteadyLengths (spW (α := List (List Int)) (fun _ z => z.length ≤ 1000) (fun z => [rRs K z]) (fun z => rNats K (lengthsR z))) := by
  obtain ⟨fd, F⟩ := G.lSteadyLengths
  refine fn_w F scSteadyLengths (F.binds fun _ _ _ _ _ _ us hl => match us, hl with | [_], _ => rfl) (fun _ => rfl) fun cdv A outer s H E W z hr hp => ⟨none, ?_, fun _ e => nomatch e⟩
  obtain ⟨R, eR⟩ : ∃ R, R = z := ⟨z, rfl⟩
  subst eR
  change R.length ≤ 1000 at hp
  have pi : ∀ {x : Str} {pp : Pos}, PlainIx (.Name x pp) := fun _ _ => rfl
  have hcap : (R.map (rInts K)).length = R.length := List.length_map _
  refine bw_of_br (br_new (rl := nl K (lenF R 0)) 1 ?_ scSteadyLengths.nd fun D xs => ?_)
  · have e0 : nl K (lenF R 0) = List.replicate R.length (rN K 1) := by unfold nl lenF; rw [List.range_zero, List.foldl_nil, List.map_replicate]
    rw [e0]
    exact en_rep1 (ew_lst (aw_cons ew_int aw_nil) (by simp)) (by rw [← hcap]; exact ew_lenSeq rfl G.Y.T.bLen (lst_as (ew_name 0 rfl (pv 0)))) hp
  · refine br_cons (sz_for (β := List V) (n := R.length) (fun xs => .lst xs) (fun i xs => [some (rRs K R), some (rAtL D (nl K (lenF R i)) xs), none, none]) (fun i xs => [some (rRs K R), some (rAtL D (nl K (lenF R i)) xs), some (rN K (R.length - 1 - i)), none]) xs (i2_revRange rfl G.bReversed rfl G.Y.bRange (by rw [← hcap]; exact ew_lenSeq rfl G.Y.T.bLen (lst_as (ew_name 0 rfl (pv 0)))) (by omega)) (fun i b hi => gw_name 2 (pg_name scSteadyLengths.nd rfl (.inl rfl))) (fun i b hi => ?_) .never rfl) fun xs => br_out 1 rfl (br_of (W' := fun _ : Unit => W) (rr := fun _ => rNats K (lengthsR R)) () (bw_ret (ew_name 1 rfl (pv 1))))
    have hL := lenF_len R i
    have es : lenF R (i + 1) = (List.range i).foldl (stepL R (R.length - 1 - i)) (lenF R i) := by
      unfold lenF
      rw [fold_succ]
      rfl
    rw [es]
    generalize lenF R i = L0 at hL
    generalize ha : R.length - 1 - i = a
    have haR : a < R.length := by omega
    refine bz_cons (sz_for (β := List V) (n := i) (fun xs => .lst xs) (fun k xs => [some (rRs K R), some (rAtL D (nl K ((List.range k).foldl (stepL R a) L0)) xs), some (rN K a), none]) (fun k xs => [some (rRs K R), some (rAtL D (nl K ((List.range k).foldl (stepL R a) L0)) xs), some (rN K a), some (rD K (.int ((a : Int) + 1 + (k : Nat))))]) b (i2_n (i2_range2 (i := (a : Int) + 1) (j := (R.length : Int)) rfl G.Y.bRange (ew_add (ew_name 2 rfl (pv 2)) ew_int) (by rw [← hcap]; exact ew_lenSeq rfl G.Y.T.bLen (lst_as (ew_name 0 rfl (pv 0)))) (by omega) (by omega)) (by omega)) (fun k b hk => gw_name 3 (pg_name scSteadyLengths.nd rfl (.inl rfl))) (fun k b hk => ?_) .never rfl) fun b => bz_wipe 2 (bz_nilN b rfl rfl)
    have hl := fstep_len R a L0 k
    rw [fold_succ]
    generalize (List.range k).foldl (stepL R a) L0 = L at hl ⊢
    have hlr : a + 1 + k < R.length := by omega
    have hz : (a : Int) + 1 + (k : Nat) = ((a + 1 + k : Nat) : Int) := by omega
    refine bz_cons (V1 := fun b => W.hold D (.lst b)) (N1 := fun b => [some (rRs K R), some (rAtL D (nl K (stepL R a L k)) b), some (rN K a), some (rD K (.int ((a : Int) + 1 + (k : Nat))))]) (sz_if (d := leR R a (a + 1 + k) && decide ((L.getD a 0 : Int) ≤ (L.getD (a + 1 + k) 0 : Nat))) (tw_l (lw_and (tw_leT (units0 hr) (ew_rk a (ew_name 0 rfl (pv 0)) (ew_name 2 rfl (pv 2)) rfl haR pi) (ew_rk (a + 1 + k) (ew_name 0 rfl (pv 0)) (ew_name 3 rfl (pv 3)) hz hlr pi)) fun _ => lw_one (tw_le (ew_ixA a (ew_name 1 rfl (pv 1)) (ew_name 2 rfl (pv 2)) rfl (nl_get (by omega)) pi) (ew_ixA (a + 1 + k) (ew_name 1 rfl (pv 1)) (ew_name 3 rfl (pv 3)) hz (nl_get (by omega)) pi)))) (fun h => ?_) fun h => ?_) fun b => bz_wipe 3 (bz_nilN b rfl rfl)
    · refine bz_cons (sz_setAt 1 rfl (j := a) rfl (by rw [nl_len]; omega) (ew_name 1 rfl (pv 1)) (ew_name 2 rfl (pv 2)) (ew_add (ew_ixA (a + 1 + k) (ew_name 1 rfl (pv 1)) (ew_name 3 rfl (pv 3)) hz (nl_get (by omega)) pi) ew_int)) fun y => bz_nilN _ rfl ?_
      unfold stepL
      rw [if_pos h, ← nl_set] <;> rfl
    · refine bz_nilN _ rfl ?_
      unfold stepL
      rw [if_neg (by rw [h]; decide)] <;> rfl
end
end K11
namespace Py
open PySem L2
/-! ### [e for x in a for y in b] -/
def rl2 (m : Nat → Nat) (f : Nat → Nat → Rep) (n : Nat) : List Rep := (List.range n).flatMap fun i => (List.range (m i)).map (f i)
theorem rl2_succ (m : Nat → Nat) (f : Nat → Nat → Rep) (n : Nat) : rl2 m f (n + 1) = rl2 m f n ++ (List.range (m n)).map (f n) := by
  unfold rl2
  rw [List.range_succ, List.flatMap_append]
  simp
theorem rl2_le (m : Nat → Nat) (f : Nat → Nat → Rep) {i n : Nat} (h : i ≤ n) : (rl2 m f i).length ≤ (rl2 m f n).length := by
  induction n with
  | zero => obtain rfl : i = 0 := by omega
            exact Nat.le_refl _
  | succ n ih =>
    by_cases c : i = n + 1
    · subst c; exact Nat.le_refl _
    · refine Nat.le_trans (ih (by omega)) ?_
      rw [rl2_succ, List.length_append]
      omega
section
variable {X : Cx} {W : World} {rs : Rs} {tg it tg1 it1 elt : Expr} {pos : Pos} {n : Nat} {item : Nat → Rep}
theorem lc_read2 {vs vs1 : List Nat} {g g1 : TG} (m : Nat → Nat) (item1 : Nat → Nat → Rep) (f : Nat → Nat → Rep) (Ms : Nat → Rs) (Ms1 : Nat → Nat → Rs) (hn : (rl2 m f n).length ≤ 1000) (hown : ∀ i, i < n → OwnG X.K g vs (wipeR rs vs) (item i) (Ms i)) (hown1 : ∀ i j, i < n → j < m i → OwnG X.K g1 vs1 (wipeR (Ms i) vs1) (item1 i j) (Ms1 i j)) {σ : St} {H : Hp} {Q : VK} (h : tW W rs (rLst (rl2 m f n)) σ H Q) :
    tLc2 (iW W rs n item) g (fun σ H Q => ∃ D o i, i < n ∧ tWT (W.hold D o) (Ms i) true σ H Q) (fun σ H R => ∃ D o i, i < n ∧ iW2 (W.hold D o) (W.obj D fun _ => True) (Ms i) (m i) (item1 i) σ H R) g1 (fun σ H Q => ∃ D o i j, i < n ∧ j < m i ∧ tWT (W.hold D o) (Ms1 i j) true σ H Q) (fun σ H Q => ∃ D o i j, i < n ∧ j < m i ∧ tW (W.hold D o) (Ms1 i j) (f i j) σ H Q) vs vs1 σ H Q := by
  obtain ⟨k, g0, q⟩ := h
  refine ⟨k, g0, ?_⟩
  intro J G Y H1 w k1 e1 hGk hY D hD
  have nd : ¬ W.hd D := World.free k1 hD
  have vD : W.vis H1 D = none := World.visNone hD
  refine ⟨fun i mm H' => mm = n - i ∧ i ≤ n ∧ (W.ok H' ∧ Ex (W.vis H1) (W.vis H') ∧ ∃ acc, H' D = some (.lst acc) ∧ Reps (rl2 m f i) acc ((W.hold D (.lst [])).vis H')), ⟨n, by simp, Nat.zero_le _, World.okNew k1 hD, World.visEx k1 (Ex.new hD), [], upd_same, trivial⟩, ?_⟩
  rintro i mm H' ⟨rfl, hi, k', e', acc, hDa, hR⟩
  have qG := hGk H' k' e'
  by_cases hlt : i < n
  · refine .inr ⟨w.goes i H' hlt qG, (fun H' => W.ok H' ∧ Ex (W.vis H1) (W.vis H') ∧ ∃ acc, H' D = some (.lst acc) ∧ Reps (rl2 m f (i + 1)) acc ((W.hold D (.lst [])).vis H')), fun H'' p' => ⟨n - (i + 1), by omega, rfl, hlt, p'⟩, fun x H'' y => ?_⟩
    have hy := w.yields i H' x H'' hlt qG y
    have kW : (W.hold D (.lst acc)).ok H' := ⟨k', nd, hDa⟩
    have eG : Ex (W.vis H1) ((W.hold D (.lst acc)).vis H') := hold_of vD e'
    have hR : Reps (rl2 m f i) acc ((W.hold D (.lst acc)).vis H') := by rw [hold_any (o' := .lst [])]; exact hR
    obtain ⟨k2, e2, p2⟩ : (W.hold D (.lst acc)).ok H'' ∧ Ex ((W.hold D (.lst acc)).vis H') ((W.hold D (.lst acc)).vis H'') ∧ (item i).p x ((W.hold D (.lst acc)).vis H'') := by
      rcases hY i x H' H'' hlt hy with ⟨rfl, hp2⟩ | ⟨T, o, hT, rfl, hp2⟩
      · exact ⟨kW, Ex.refl _, hp2 _ eG (World.sub _ _)⟩
      · exact ⟨World.okNew kW hT, World.visEx kW (Ex.new hT), by rw [World.visNew kW hT]; exact hp2 _ eG (World.sub _ _)⟩
    refine (hown i hlt).run x σ H'' _ ((g0.mono (e1.trans (eG.trans e2))).wipe) (World.sub _ _) p2 _ fun σ2 hw g2 => ⟨hw, D, .lst acc, i, hlt, k2, g2, fun H3 k3 e3 => ?_⟩
    refine iteT ⟨D, .lst acc, i, hlt, k3, g2.mono e3, ?_⟩
    intro J1 G1 Y1 H4 w1 k4 e4 hGk1 hY1
    have e14 : Ex (W.vis H1) ((W.hold D (.lst acc)).vis H4) := eG.trans ((e2.trans e3).trans e4)
    refine ⟨fun j kk H5 => kk = m i - j ∧ j ≤ m i ∧ (W.ok H5 ∧ Ex ((W.hold D (.lst acc)).vis H4) ((W.hold D (.lst acc)).vis H5) ∧ ∃ acc, H5 D = some (.lst acc) ∧ Reps (rl2 m f i ++ (List.range j).map (f i)) acc ((W.hold D (.lst [])).vis H5)), ⟨m i, by simp, Nat.zero_le _, k4.1, Ex.refl _, acc, k4.2.2, ?_⟩, ?_⟩
    · rw [List.range_zero, List.map_nil, List.append_nil, hold_any (o' := .lst acc)]
      exact hR.mono ((e2.trans e3).trans e4)
    rintro j kk H5 ⟨rfl, hj, k5, e45, acc5, hD5, hR5⟩
    have kW5 : (W.hold D (.lst acc5)).ok H5 := ⟨k5, nd, hD5⟩
    have qG1 := hGk1 H5 ⟨k5, nd, _, trivial, hD5⟩ (by rw [obj_vis (o := .lst acc)]; exact e45)
    by_cases hjl : j < m i
    · refine .inr ⟨w1.goes j H5 hjl qG1, (fun H5 => W.ok H5 ∧ Ex ((W.hold D (.lst acc)).vis H4) ((W.hold D (.lst acc)).vis H5) ∧ ∃ acc, H5 D = some (.lst acc) ∧ Reps (rl2 m f i ++ (List.range (j + 1)).map (f i)) acc ((W.hold D (.lst [])).vis H5)), fun H'' p' => ⟨m i - (j + 1), by omega, rfl, hjl, p'⟩, fun x1 H6 y1 => ?_⟩
      have hy1 := w1.yields j H5 x1 H6 hjl qG1 y1
      have e45' : Ex ((W.hold D (.lst acc)).vis H4) ((W.hold D (.lst acc5)).vis H5) := by rw [hold_any (o := .lst acc5) (o' := .lst acc)]; exact e45
      obtain ⟨k6, e6, p6⟩ : (W.hold D (.lst acc5)).ok H6 ∧ Ex ((W.hold D (.lst acc5)).vis H5) ((W.hold D (.lst acc5)).vis H6) ∧ (item1 i j).p x1 ((W.hold D (.lst acc5)).vis H6) := by
        rcases hY1 j x1 H5 H6 hjl hy1 with ⟨rfl, hp2⟩ | ⟨T, o, hT, rfl, hp2⟩
        · exact ⟨kW5, Ex.refl _, hp2 _ e45' (World.sub _ _)⟩
        · exact ⟨World.okNew kW5 hT, World.visEx kW5 (Ex.new hT), by rw [World.visNew kW5 hT]; exact hp2 _ e45' (World.sub _ _)⟩
      refine (hown1 i j hlt hjl).run x1 σ2 H6 _ ((g2.mono (((e3.trans e4).trans e45').trans e6)).wipe) (World.sub _ _) p6 _ fun σ3 hw3 g3 => ⟨hw3, D, .lst acc5, i, j, hlt, hjl, k6, g3, fun H7 k7 e7 => iteT ⟨D, .lst acc5, i, j, hlt, hjl, k7, g3.mono e7, fun y H8 k8 e8 p8 => ⟨acc5, k8.2.2, small1000 ?_, ?_, ?_, acc5 ++ [y], upd_same, ?_⟩⟩⟩
      · rw [← hR5.len]
        have h1 := rl2_le m f (show i + 1 ≤ n from hlt)
        rw [rl2_succ] at h1
        simp only [List.length_append, List.length_map, List.length_range] at h1 ⊢
        omega
      · exact W.keep k8.1 fun a z => upd_ne (fun q => nd (q ▸ z))
      · have hv : (W.hold D (.lst (acc5 ++ [y]))).vis (upd H8 D (.lst (acc5 ++ [y]))) = (W.hold D (.lst acc5)).vis H8 := hold_upd
        rw [hold_any (o := .lst acc) (o' := .lst (acc5 ++ [y])) (H := upd H8 D (.lst (acc5 ++ [y]))), hv]
        exact e45'.trans ((e6.trans e7).trans e8)
      · rw [List.range_succ, List.map_append, ← List.append_assoc]
        have hv : (W.hold D (.lst (acc5 ++ [y]))).vis (upd H8 D (.lst (acc5 ++ [y]))) = (W.hold D (.lst acc5)).vis H8 := hold_upd
        rw [hold_any (o' := .lst (acc5 ++ [y])), hv]
        have h5 : Reps (rl2 m f i ++ (List.range j).map (f i)) acc5 ((W.hold D (.lst acc5)).vis H5) := by rw [hold_any (o' := .lst [])]; exact hR5
        exact (h5.mono ((e6.trans e7).trans e8)).snoc p8
    · have ej : j = m i := by omega
      subst ej
      refine .inl ⟨w1.stops H5 qG1, k5, ?_, acc5, hD5, ?_⟩
      · exact e14.trans (e45.trans hold_sub)
      · rw [rl2_succ]
        exact hR5
  · have ei : i = n := by omega
    subst ei
    exact .inl ⟨w.stops H' qG, q _ H' k' (e1.trans e') ⟨D, acc, rfl, by rw [World.seen nd]; exact hDa, hR.mono hold_sub⟩⟩
theorem ew_lc2 {scope : Scope} {own : List (Str × Nat)} {vs1 : List Nat} {g g1 : TG} (m : Nat → Nat) (item1 : Nat → Nat → Rep) (f : Nat → Nat → Rep) (Ms : Nat → Rs) (Ms1 : Nat → Nat → Rs) (hc : X.calm = true) (hN : X.N.Nodup) (hi : Iw X W rs tg it n item) (ok : BlkOk X.N X.env.scope scope own) (hv : ∀ i ∈ vs1, i ∈ own.map (·.2)) (hn : (rl2 m f n).length ≤ 1000)
    (hg : ∀ (s : Shared) (H : Hp) (C : Addr) (cl : List (Str × Addr)) (fp : List Addr), PG (X.blk s H scope (compEnvC scope cl C X.env) fp) tg g)
    (hown : ∀ i, i < n → OwnG X.K g (own.map (·.2)) (wipeR rs (own.map (·.2))) (item i) (Ms i))
    (hi1 : ∀ (s : Shared) (H : Hp) (C : Addr) (cl : List (Str × Addr)) (fp : List Addr) (D : Addr) (o : HO) (i : Nat), i < n → Iw2 (X.blk s H scope (compEnvC scope cl C X.env) fp) (W.hold D o) (W.obj D fun _ => True) (Ms i) tg1 it1 (m i) (item1 i))
    (hg1 : ∀ (s : Shared) (H : Hp) (C : Addr) (cl : List (Str × Addr)) (fp : List Addr), PG (X.blk s H scope (compEnvC scope cl C X.env) fp) tg1 g1)
    (hown1 : ∀ i j, i < n → j < m i → OwnG X.K g1 vs1 (wipeR (Ms i) vs1) (item1 i j) (Ms1 i j))
    (he : ∀ (s : Shared) (H : Hp) (C : Addr) (cl : List (Str × Addr)) (fp : List Addr) (D : Addr) (o : HO) (i j : Nat), i < n → j < m i → Ew (X.blk s H scope (compEnvC scope cl C X.env) fp) (W.hold D o) (Ms1 i j) elt (f i j))
    (hs : ∀ x, foldedSetIterable it X.env x = pure x := by intro _; rfl) (hs1 : ∀ env x, foldedSetIterable it1 env x = pure x := by intro _ _; rfl) : Ew X W rs (.ListComp elt [⟨tg, it, [], 0⟩, ⟨tg1, it1, [], 0⟩] scope pos) (rLst (rl2 m f n)) :=
  pe_cs (pe_lc2 hc hN hi ok hv hg
    (tt := fun σ H Q => ∃ D o i, i < n ∧ tWT (W.hold D o) (Ms i) true σ H Q) (fun s H C cl fp => ⟨fun pins s' σ H' Q I ⟨D, o, i, hi, q⟩ => pts_yes.run pins s' σ H' Q I q⟩)
    (wi1 := fun σ H R => ∃ D o i, i < n ∧ iW2 (W.hold D o) (W.obj D fun _ => True) (Ms i) (m i) (item1 i) σ H R) (fun s H C cl fp => ⟨fun pins s' σ H' R I ⟨D, o, i, hi, q⟩ => (hi1 s H C cl fp D o i hi).run pins s' σ H' R I q⟩) hg1
    (tt1 := fun σ H Q => ∃ D o i j, i < n ∧ j < m i ∧ tWT (W.hold D o) (Ms1 i j) true σ H Q) (fun s H C cl fp => ⟨fun pins s' σ H' Q I ⟨D, o, i, j, hi, hj, q⟩ => pts_yes.run pins s' σ H' Q I q⟩)
    (te := fun σ H Q => ∃ D o i j, i < n ∧ j < m i ∧ tW (W.hold D o) (Ms1 i j) (f i j) σ H Q) (fun s H C cl fp => ⟨fun pins s' σ H' Q I ⟨D, o, i, j, hi, hj, q⟩ => (he s H C cl fp D o i j hi hj).run pins s' σ H' Q I q⟩) hs hs1) fun σ H Q h => lc_read2 m item1 f Ms Ms1 hn hown hown1 h
theorem i2_tup {Wg : World} {rl : List Rep} (h : Ew X W rs it (rTup X.K rl)) : Iw2 X W Wg rs tg it rl.length (fun i => rl.getD i rNon) := by
  refine pi_cs (pi_tup h) ?_
  rintro σ H R ⟨k, g, q⟩
  refine ⟨k, g, ?_⟩
  rintro v H1 k1 e1 ⟨p, xs, ev, hs, hr⟩
  refine ⟨p, ev, ⟨xs, sqT_mono (W.sub H1) hs⟩, q (Itt X.K p) (fun H => SqT X.K H p xs) (YAt xs) H1 (hr.len ▸ walk_tup) k1 e1 (fun H2 _ e2 => sqT_mono (e2.trans (Wg.sub H2)) hs) ?_⟩
  rintro i x H2 H3 hi ⟨eH, hx⟩
  obtain ⟨r, h1, h2⟩ := hr.get' hx
  refine .inl ⟨eH, fun G2 e2 _ => ?_⟩
  show (rl.getD i rNon).p x G2
  rw [getD_of h1]
  exact r.mono e2 h2
end
end Py
namespace K11
open PySem L2 Py
theorem ew_allOf {X : Cx} {W : Py.World} {rs : Rs} {a : Expr} {pos p : Pos} {n : Nat} (f : Nat → Bool) (hc : X.calm = true) (hg : Gl X "all") (hm : X.mg "all" = none) (h : Ew X W rs a (rLst ((List.range n).map fun i => rD X.K (.bool (f i))))) (he : starEach [a] X.env = (false, eval a X.env) :: starEach [] X.env := by rfl) (hpl : (backTo pos (starEach [] X.env)).any (·.1) = false := by rfl) : Ew X W rs (.Call (.Name "all" p) [a] [] pos) (rD X.K (.bool ((List.range n).all f))) := by
  have e : (List.range n).all f = ((List.range n).map f).all id := by rw [List.all_map] <;> rfl
  rw [e]
  exact ew_all hc hg hm (by rw [List.map_map]; exact h) he hpl
/-! ### the first of the longest -/
def fgStep (L : List Nat) (f k : Nat) : Nat := if L.getD f 0 < L.getD k 0 then k else f
def fgF (L : List Nat) (i : Nat) : Nat := (List.range i).foldl (fgStep L) 0
def firstG (L : List Nat) : Nat := fgF L L.length
theorem fgF_lt (L : List Nat) (h : 0 < L.length) : ∀ i, i ≤ L.length → fgF L i < L.length
  | 0, _ => h
  | i + 1, hi => by
    have := fgF_lt L h i (by omega)
    have e : fgF L (i + 1) = fgStep L (fgF L i) i := by unfold fgF; rw [fold_succ]
    rw [e]
    unfold fgStep
    split <;> omega
def stepC (R : List (List Int)) (L : List Nat) (C : List Nat) (a : Nat) : List Nat := if (leR R (C.getD (C.length - 1) 0) a && decide ((L.getD a 0 : Int) = (L.getD (C.getD (C.length - 1) 0) 0 : Int) - 1)) = true then C ++ [a] else C
def stF (R : List (List Int)) (L : List Nat) (k : Nat) : List Nat := (List.range k).foldl (fun C j => stepC R L C (firstG L + 1 + j)) [firstG L]
def steadyR (R : List (List Int)) (L : List Nat) : List Nat := stF R L (R.length - (firstG L + 1))
theorem stF_ok (R : List (List Int)) (L : List Nat) (h : firstG L < R.length) : ∀ k, firstG L + 1 + k ≤ R.length → (stF R L k ≠ [] ∧ (stF R L k).length ≤ k + 1 ∧ ∀ x ∈ stF R L k, x < R.length)
  | 0, _ => ⟨by simp [stF], by simp [stF], fun x hx => by
    have e : x = firstG L := by simpa [stF] using hx
    omega⟩
  | k + 1, hk => by
    obtain ⟨h1, h2, h3⟩ := stF_ok R L h k (by omega)
    have e : stF R L (k + 1) = stepC R L (stF R L k) (firstG L + 1 + k) := by unfold stF; rw [fold_succ]
    rw [e]
    generalize stF R L k = C at h1 h2 h3 ⊢
    unfold stepC
    split
    · refine ⟨by simp, by rw [List.length_append]; simp only [List.length_singleton]; omega, fun x hx => ?_⟩
      rcases List.mem_append.mp hx with hx | hx
      · exact h3 x hx
      · have e : x = firstG L + 1 + k := by simpa using hx
        omega
    · exact ⟨h1, by omega, h3⟩
theorem last_lt {C : List Nat} {n : Nat} (h : C ≠ []) (h2 : ∀ x ∈ C, x < n) : C.getD (C.length - 1) 0 < n := by
  have hl : 0 < C.length := List.length_pos_iff.mpr h
  rw [List.getD_eq_getElem?_getD, List.getElem?_eq_getElem (by omega)]
  exact h2 _ (List.getElem_mem _)
abbrev natsT (L : List Nat) : PyData := .tuple (L.map fun (n : Nat) => PyData.int n)
def rowsW (L : List Nat) (x : Nat) : List Nat := (List.range L.length).filter fun a => decide (L.getD a 0 = x)
section
variable {P : Program} {w : PySem.World} {K : PySem.W.Frag} {mg : Str → Option Value} {base : Heap} {d : Ad} {e : Ld} {t : Ae} {g : Ag}
theorem ok_firstGreatest (G : Gx P K mg d t g) : FnR P w K mg base CX0 1 g.fFirstGreatest (spW (α := List Nat) (fun _ z => z.length ≤ 1000 ∧ 0 < z.length) (fun z => [rNats K z]) (fun z => rN K (firstG z))) := by
  obtain ⟨fd, F⟩ := G.lFirstGreatest
  refine fn_w F scFirstGreatest (F.binds fun _ _ _ _ _ _ us hl => match us, hl with | [_], _ => rfl) (fun _ => rfl) fun cdv A outer s H E W z hr hp => ⟨none, ?_, fun _ e => nomatch e⟩
  obtain ⟨L, eL⟩ : ∃ L, L = z := ⟨z, rfl⟩
  subst eL
  obtain ⟨hp, hp0⟩ := hp
  change L.length ≤ 1000 at hp
  change 0 < L.length at hp0
  have pi : ∀ {x : Str} {pp : Pos}, PlainIx (.Name x pp) := fun _ _ => rfl
  refine bw_st (N := [some (rNats K L), some (rN K (fgF L 0)), none, none]) 1 rfl ew_int scFirstGreatest.nd ?_
  refine bw_cons (N := [some (rNats K L), some (rN K (fgF L L.length)), none, none]) (sw_for (n := L.length) (item := fun i => rTup K [rD K (.int i), (nl K L).getD i rNon]) (fun i => [some (rNats K L), some (rN K (fgF L i)), none, none]) (fun i => [some (rNats K L), some (rN K (fgF L i)), some (rD K (.int i)), some ((nl K L).getD i rNon)]) rfl rfl (iw_n (by exact iw_enum rfl G.Y.bEnum (lst_as (ew_name 0 rfl (pv 0)))) nl_len) (fun i hi => gw_tup rfl (gws_cons (gw_name 2 (pg_name scFirstGreatest.nd rfl (.inl rfl))) (gws_cons (gw_name 3 (pg_name scFirstGreatest.nd rfl (.inl rfl))) gws_nil))) (fun i hi => ?_) .never rfl) (bw_ret (ew_name 1 rfl (pv 1)))
  have hf := fgF_lt L hp0 i (by omega)
  have es : fgF L (i + 1) = fgStep L (fgF L i) i := by unfold fgF; rw [fold_succ]
  rw [es, getD_of (nl_get hi)]
  generalize fgF L i = f at hf ⊢
  refine bw_cons (N := [some (rNats K L), some (rN K (fgStep L f i)), some (rD K (.int i)), some (rN K (L.getD i 0))]) (sw_if (d := decide (L.getD f 0 < L.getD i 0)) (tw_eq (tw_gt (ew_name 3 rfl (pv 3)) (ew_nat f (ew_name 0 rfl (pv 0)) (ew_name 1 rfl (pv 1)) rfl hf pi)) (decide_eq_decide.mpr (by omega))) (fun h => ?_) fun h => ?_) (bw_wipe 2 (bw_wipe 3 (bw_nilN rfl)))
  · have e1 : fgStep L f i = i := if_pos (of_decide_eq_true h)
    rw [e1]
    exact bw_st 1 rfl (ew_name 2 rfl (pv 2)) scFirstGreatest.nd bw_nil
  · have e1 : fgStep L f i = f := if_neg (of_decide_eq_false h)
    rw [e1]
    exact bw_nil
theorem ok_firstSteady (G : Gx P K mg d t g) : FnR P w K mg base CX0 2 g.fFirstSteady (spW (α := List (List Int) × List Nat) (fun _ z => z.1.length ≤ 900 ∧ 0 < z.1.length ∧ z.2.length = z.1.length) (fun z => [rRs K z.1, rNats K z.2]) (fun z => rD K (natsT (steadyR z.1 z.2)))) := by
  obtain ⟨fd, F⟩ := G.lFirstSteady
  refine fn_w F scFirstSteady (F.binds fun _ _ _ _ _ _ us hl => match us, hl with | [_, _], _ => rfl) (fun _ => rfl) fun cdv A outer s H E W z hr hp => ⟨none, ?_, fun _ e => nomatch e⟩
  obtain ⟨R, L⟩ := z
  obtain ⟨h9, h0, hl⟩ := hp
  change R.length ≤ 900 at h9
  change 0 < R.length at h0
  change L.length = R.length at hl
  have pi : ∀ {x : Str} {pp : Pos}, PlainIx (.Name x pp) := fun _ _ => rfl
  have pj : ∀ {j : Nat} {pp : Pos} {i : Int}, PlainIx (.Constant (.int i) j pp) := fun _ _ => rfl
  have hcap : (R.map (rInts K)).length = R.length := List.length_map _
  have hf : firstG L < R.length := by rw [← hl]; exact fgF_lt L (by omega) _ (Nat.le_refl _)
  refine bw_of_br (br_new (rl := nl K (stF R L 0)) 2 ?_ scFirstSteady.nd fun D xs => ?_)
  · have e0 : nl K (stF R L 0) = [rN K (firstG L)] := rfl
    rw [e0]
    exact en_lst (aw_cons (clE L G.lFirstGreatest (ok_firstGreatest G) hr G.gFirstGreatest (aw_cons (ew_name 1 rfl (pv 1)) aw_nil) ⟨by omega, by omega⟩) aw_nil) (by simp)
  refine br_cons (sz_for (β := List V) (n := R.length - (firstG L + 1)) (fun xs => .lst xs) (fun k xs => [some (rRs K R), some (rNats K L), some (rAtL D (nl K (stF R L k)) xs), none, none]) (fun k xs => [some (rRs K R), some (rNats K L), some (rAtL D (nl K (stF R L k)) xs), some (rD K (.int ((firstG L : Int) + 1 + (k : Nat)))), none]) xs (i2_n (i2_range2 (i := (firstG L : Int) + 1) (j := (R.length : Int)) rfl G.Y.bRange (ew_add (ew_ixA (r := rN K (firstG L)) 0 (ew_name 2 rfl (pv 2)) ew_int rfl rfl pj) ew_int) (by rw [← hcap]; exact ew_lenSeq rfl G.Y.T.bLen (lst_as (ew_name 0 rfl (pv 0)))) (by omega) (by omega)) (by omega)) (fun k b hk => gw_name 3 (pg_name scFirstSteady.nd rfl (.inl rfl))) (fun k b hk => ?_) .never rfl) fun xs => br_out 2 rfl (br_of (W' := fun _ : Unit => W) (rr := fun _ => rD K (natsT (steadyR R L))) () (bw_ret (of_tup (ew_tupOf rfl G.Y.bTuple (lst_as ?_)))))
  · obtain ⟨c1, c2, c3⟩ := stF_ok R L hf k (by omega)
    have es : stF R L (k + 1) = stepC R L (stF R L k) (firstG L + 1 + k) := by unfold stF; rw [fold_succ]
    rw [es]
    generalize stF R L k = C at c1 c2 c3 ⊢
    have hz : (firstG L : Int) + 1 + (k : Nat) = ((firstG L + 1 + k : Nat) : Int) := by omega
    generalize ha : firstG L + 1 + k = a at hz ⊢
    have haR : a < R.length := by omega
    have hlast := last_lt c1 c3
    have hlg : (nl K C)[(nl K C).length - 1]? = some (rN K (C.getD (C.length - 1) 0)) := by
      have hlen : 0 < C.length := List.length_pos_iff.mpr c1
      rw [nl_len]
      exact nl_get (by omega)
    rw [hz]
    generalize hc : C.getD (C.length - 1) 0 = c at hlast hlg
    refine bz_st (N := [some (rRs K R), some (rNats K L), some (rAtL D (nl K C) b), some (rN K a), some (rN K c)]) 4 rfl (ew_ixLastA (ew_name 2 rfl (pv 2)) (ew_negI ew_int) hlg (by intro _ _; rfl)) scFirstSteady.nd ?_
    refine bz_cons (V1 := fun b => W.hold D (.lst b)) (N1 := fun b => [some (rRs K R), some (rNats K L), some (rAtL D (nl K (stepC R L C a)) b), some (rN K a), some (rN K c)]) (sz_if (d := leR R c a && decide ((L.getD a 0 : Int) = (L.getD c 0 : Int) - 1)) (tw_l (lw_and (tw_leT (units0 hr) (ew_rk c (ew_name 0 rfl (pv 0)) (ew_name 4 rfl (pv 4)) rfl hlast pi) (ew_rk a (ew_name 0 rfl (pv 0)) (ew_name 3 rfl (pv 3)) rfl haR pi)) fun _ => lw_one (tw_eq (tw_eqD hr.units (ew_nat a (ew_name 1 rfl (pv 1)) (ew_name 3 rfl (pv 3)) rfl (by omega) pi) (ew_subI (ew_nat c (ew_name 1 rfl (pv 1)) (ew_name 4 rfl (pv 4)) rfl (by omega) pi) ew_int) shp_int.ok shp_int.ok) (by rw [eqv_ints])))) (fun h => ?_) fun h => ?_) fun b => bz_wipe 3 (bz_wipe 4 (bz_nilN b rfl rfl))
    · refine bz_cons (sz_append 2 rfl (ew_name 2 rfl (pv 2)) (ew_name 3 rfl (pv 3)) (by rw [nl_len]; omega)) fun y => bz_nilN _ rfl ?_
      unfold stepC
      rw [hc, if_pos h]
      unfold nl
      rw [List.map_append] <;> rfl
    · refine bz_nilN _ rfl ?_
      unfold stepC
      rw [hc, if_neg (by rw [h]; decide)] <;> rfl
  · show Ew _ W _ _ (rLst (((steadyR R L).map fun (n : Nat) => PyData.int n).map (rD K)))
    have e1 : ((steadyR R L).map fun (n : Nat) => PyData.int n).map (rD K) = nl K (stF R L (R.length - (firstG L + 1))) := by rw [List.map_map] <;> rfl
    rw [e1]
    exact (ew_name 2 rfl (pv 2))
theorem ok_rowsWith (G : Gx P K mg d t g) : FnR P w K mg base CX0 1 g.fRowsWith (spW (α := List Nat × Nat) (fun _ z => z.1.length ≤ 1000) (fun z => [rNats K z.1, rN K z.2]) (fun z => rD K (natsT (rowsW z.1 z.2)))) := by
  obtain ⟨fd, F⟩ := G.lRowsWith
  refine fn_w F scRowsWith (F.binds fun _ _ _ _ _ _ us hl => match us, hl with | [_, _], _ => rfl) (fun _ => rfl) fun cdv A outer s H E W z hr hp => ⟨none, ?_, fun _ e => nomatch e⟩
  obtain ⟨L, x⟩ := z
  change L.length ≤ 1000 at hp
  refine bw_ret (of_tup (ew_tupOf rfl G.Y.bTuple (lst_as ?_)))
  show Ew _ W _ _ (rLst (((rowsW L x).map fun (n : Nat) => PyData.int n).map (rD K)))
  have e1 : ((rowsW L x).map fun (n : Nat) => PyData.int n).map (rD K) = takes (fun i => rN K i) (fun a => decide (L.getD a 0 = x)) L.length := by rw [List.map_map] <;> rfl
  rw [e1]
  refine ew_lc (g := gTup K 2 (gCons (gName 2) (gCons (gName 3) gNil))) (n := L.length) (item := fun i => rTup K [rD K (.int i), (nl K L).getD i rNon]) (own := [("at", 2), ("each", 3)]) _ _ (fun i => [some (rNats K L), some (rN K x), some (rN K i), some (rN K (L.getD i 0))]) rfl scRowsWith.nd (iw_n (by exact iw_enum rfl G.Y.bEnum (lst_as (ew_name 0 rfl (pv 0)))) nl_len) (blkOk_by (N := ["lengths", "length", "at", "each"]) (sc := defScope sRowsWith) (by decide +kernel)) (by omega) (fun _ _ _ _ _ => pg_tup rfl (pgs_cons (pg_name (i := 2) scRowsWith.nd rfl (.inl rfl)) (pgs_cons (pg_name (i := 3) scRowsWith.nd rfl (.inl rfl)) pgs_nil))) (fun i hi => by rw [getD_of (nl_get hi)]; exact own_pair (K := K) (i := 2) (j := 3) (by decide)) ?_ ?_
  · intro s' H' C cl' fp D o i hi
    exact pts_w (tw_eq (tw_eqD hr.units (ew_name 3 rfl (pv 3)) (ew_name 1 rfl (pv 1)) shp_int.ok shp_int.ok) (by rw [eqv_ints]; exact decide_eq_decide.mpr (by omega)))
  · intro s' H' C cl' fp D o i hi _
    exact (ew_name 2 rfl (pv 2))
end
end K11
namespace K11
open PySem L2 Py
/-! ### indices, steady and falling sets, each once -/
def ascB (f : Int → Int → Bool) (ns : List Int) : Bool := (List.range (ns.length - 1)).all fun i => f (ns.getD i 0) (ns.getD (i + 1) 0)
def inB (n : Nat) (ns : List Int) : Bool := (List.range ns.length).all fun i => decide (0 ≤ ns.getD i 0) && decide (ns.getD i 0 ≤ (n : Int) - 1)
def ixsB (n : Nat) (ns : List Int) : Bool := inB n ns && ascB (fun a b => decide (a < b)) ns
def stB (R : List (List Int)) (ns : List Int) : Bool := ixsB R.length ns && ascB (fun a b => leR R a.toNat b.toNat) ns
def flB (R : List (List Int)) (ns : List Int) : Bool := ixsB R.length ns && ascB (fun a b => !leR R a.toNat b.toNat) ns
def onceB (n : Nat) (fs : List (List Int)) : Bool := decide ((fs.flatten.length : Int) = (n : Nat)) && (List.range n).all fun a => fs.flatten.any fun b => decide (b = (a : Int))
def rFs' (K : PySem.W.Frag) (fs : List (List Int)) : Rep := rLst (fs.map fun f => rD K (intsT f))
def fsArr (K : PySem.W.Frag) (z : List Int × List (List Int)) : List (Str × Rep) := [("steady", rD K (intsT z.1)), ("falls", rFs' K z.2)]
def rArr (K : PySem.W.Frag) (g : Ag) (z : List Int × List (List Int)) : Rep := rIns g.cArr (fsArr K z)
def showsB (R : List (List Int)) (z : List Int × List (List Int)) : Bool := (stB R z.1 && z.2.all (flB R)) && (decide ((z.1.length : Int) = (z.2.length : Nat)) && onceB R.length z.2)
theorem ints_get {K : PySem.W.Frag} {ns : List Int} {i : Nat} (h : i < ns.length) : ((ns.map PyData.int).map (rD K))[i]? = some (rD K (.int (ns.getD i 0))) := by
  rw [List.getElem?_map, List.getElem?_map, List.getD_eq_getElem?_getD, List.getElem?_eq_getElem h]
  rfl
theorem ixs_at {n : Nat} {ns : List Int} (h : ixsB n ns = true) {i : Nat} (hi : i < ns.length) : 0 ≤ ns.getD i 0 ∧ (ns.getD i 0).toNat < n := by
  unfold ixsB inB at h
  rw [Bool.and_eq_true, List.all_eq_true] at h
  have := h.1 i (List.mem_range.mpr hi)
  rw [Bool.and_eq_true] at this
  have h1 := of_decide_eq_true this.1
  have h2 := of_decide_eq_true this.2
  omega
section
variable {P : Program} {w : PySem.World} {K : PySem.W.Frag} {mg : Str → Option Value} {base : Heap} {d : Ad} {e : Ld} {t : Ae} {g : Ag}
theorem ew_intsAt {X : Cx} {W : Py.World} {rs : Rs} {o a : Expr} {pos : Pos} {ns : List Int} {z : Int} (i : Nat) (h : Ew X W rs o (rD X.K (intsT ns))) (ha : Ew X W rs a (rD X.K (.int z))) (hz : z = (i : Int)) (hi : i < ns.length) (hs : PlainIx a) : Ew X W rs (.Subscript o a pos) (rD X.K (.int (ns.getD i 0))) := ew_ixT i (as_tup h) ha hz (ints_get hi) hs
theorem ew_lenInts {X : Cx} {W : Py.World} {rs : Rs} {o : Expr} {pos p : Pos} {ns : List Int} (hg : Gl X "len") (hm : X.mg "len" = none) (h : Ew X W rs o (rD X.K (intsT ns))) (he : starEach [o] X.env = (false, eval o X.env) :: starEach [] X.env := by rfl) (hpl : (backTo pos (starEach [] X.env)).any (·.1) = false := by rfl) : Ew X W rs (.Call (.Name "len" p) [o] [] pos) (rD X.K (.int ns.length)) := by
  have e1 : ns.length = ((ns.map PyData.int).map (rD X.K)).length := by rw [List.length_map, List.length_map]
  rw [e1]
  exact ew_lenTup hg hm (as_tup h) he hpl
theorem ok_areIndices (G : Gx P K mg d t g) : FnR P w K mg base CX0 3 g.fAreIndices (spW (α := List Int × Nat) (fun _ z => z.1.length ≤ 1000) (fun z => [rD K (intsT z.1), rN K z.2]) (fun z => rD K (.bool (ixsB z.2 z.1)))) := by
  obtain ⟨fd, F⟩ := G.lAreIndices
  refine fn_w F scAreIndices (F.binds fun _ _ _ _ _ _ us hl => match us, hl with | [_, _], _ => rfl) (fun _ => rfl) fun cdv A outer s H E W z hr hp => ⟨none, ?_, fun _ e => nomatch e⟩
  obtain ⟨ns, n⟩ := z
  change ns.length ≤ 1000 at hp
  have T := G.Y.T
  have pi : ∀ {x : Str} {pp : Pos}, PlainIx (.Name x pp) := fun _ _ => rfl
  have pb : ∀ {a b : Expr} {op : Operator} {pp : Pos}, PlainIx (.BinOp a op b pp) := fun _ _ => rfl
  refine bw_cons (N := [some (rD K (intsT ns)), some (rAnd (inB n ns = true) (rN K n)), none]) (sw_if (d := !inB n ns) (tw_l (lw_or (c := false) (d := !inB n ns) (tw_not (c := true) (tw_val (ew_isi (t := .type "tuple") (d := true) rfl T.bIsi (as_tup (ew_name 0 rfl (pv 0))) (ew_ty rfl G.Y.bTuple (by decide +kernel)) (.ty "tuple") isR_tup (kit_ty (by decide +kernel))) (by intro _; rfl))) fun _ => lw_one (tw_not (tw_val ?hall (by intro _; rfl))))) (fun h => ?_) fun h => bw_say 1 rfl (by simpa using h) (bw_nilN rfl)) ?_
  case hall =>
    refine ew_allOf (fun i => decide (0 ≤ ns.getD i 0) && decide (ns.getD i 0 ≤ (n : Int) - 1)) rfl rfl T.bAll (ew_lcAll 2 (y := "at") _ rfl scAreIndices.nd (n := ns.length) (item := fun i => ((ns.map PyData.int).map (rD K)).getD i rNon) (iw_n (by exact iw_tupD (ew_name 0 rfl (pv 0))) (by rw [List.length_map])) (blkOk_by (N := ["value", "many", "at"]) (sc := defScope sAreIndices) (by decide +kernel)) hp (fun _ _ _ _ _ => pg_name scAreIndices.nd rfl (.inl rfl)) fun s' H' C cl' fp D o i hi => ?_)
    rw [getD_of (ints_get hi)]
    exact clE (ns.getD i 0, 0, (n : Int) - 1) T.isBetween (ok_isBetween T) hr T.gIsBetween (aw_cons (ew_name 2 rfl (pv 2)) (aw_cons ew_int (aw_cons (ew_subI (ew_name 1 rfl (pv 1)) ew_int) aw_nil))) trivial
  · refine bw_one (sw_nx (sw_ret ?_))
    have e1 : ixsB n ns = false := by
      unfold ixsB
      rw [(by simpa using h : inB n ns = false)] <;> rfl
    show Ew _ W _ _ (rD K (.bool (ixsB n ns)))
    rw [e1]
    exact ew_bl
  · refine bw_know 1 rfl fun hb => ?_
    refine bw_ret ?_
    have e1 : ixsB n ns = ascB (fun a b => decide (a < b)) ns := by
      unfold ixsB
      rw [hb] <;> rfl
    show Ew _ W _ _ (rD K (.bool (ixsB n ns)))
    rw [e1]
    refine ew_allOf (fun i => decide (ns.getD i 0 < ns.getD (i + 1) 0)) rfl rfl T.bAll (ew_lcAll 2 (y := "at") _ rfl scAreIndices.nd (n := ns.length - 1) (item := fun i => rD K (.int i)) (iw_n (by exact iw_range1 (j := ((ns.length : Int) - 1)) rfl G.Y.bRange (ew_subI (ew_lenInts rfl T.bLen (ew_name 0 rfl (pv 0))) ew_int) (by omega)) (by omega)) (blkOk_by (N := ["value", "many", "at"]) (sc := defScope sAreIndices) (by decide +kernel)) (by omega) (fun _ _ _ _ _ => pg_name scAreIndices.nd rfl (.inl rfl)) fun s' H' C cl' fp D o i hi => ?_)
    exact ew_lt (ew_intsAt i (ew_name 0 rfl (pv 0)) (ew_name 2 rfl (pv 2)) rfl (by omega) pi) (ew_intsAt (i + 1) (ew_name 0 rfl (pv 0)) (ew_add (ew_name 2 rfl (pv 2)) ew_int) (by omega) (by omega) pb)
theorem ok_areSteady (G : Gx P K mg d t g) : FnR P w K mg base CX0 4 g.fAreSteady (spW (α := List (List Int) × List Int) (fun _ z => z.1.length ≤ 1000 ∧ z.2.length ≤ 1000) (fun z => [rRs K z.1, rD K (intsT z.2)]) (fun z => rD K (.bool (stB z.1 z.2)))) := by
  obtain ⟨fd, F⟩ := G.lAreSteady
  refine fn_w F scAreSteady (F.binds fun _ _ _ _ _ _ us hl => match us, hl with | [_, _], _ => rfl) (fun _ => rfl) fun cdv A outer s H E W z hr hp => ⟨none, ?_, fun _ e => nomatch e⟩
  obtain ⟨R, ns⟩ := z
  obtain ⟨hR, hp⟩ := hp
  change R.length ≤ 1000 at hR
  change ns.length ≤ 1000 at hp
  have T := G.Y.T
  have pi : ∀ {x : Str} {pp : Pos}, PlainIx (.Name x pp) := fun _ _ => rfl
  have pb : ∀ {a b : Expr} {op : Operator} {pp : Pos}, PlainIx (.BinOp a op b pp) := fun _ _ => rfl
  have ps : ∀ {a b : Expr} {pp : Pos}, PlainIx (.Subscript a b pp) := fun _ _ => rfl
  have hcap : (R.map (rInts K)).length = R.length := List.length_map _
  refine bw_cons (N := [some (rRs K R), some (rAnd (ixsB R.length ns = true) (rD K (intsT ns))), none]) (sw_if (d := !ixsB R.length ns) (tw_not (tw_val (clE (ns, R.length) G.lAreIndices (ok_areIndices G) hr G.gAreIndices (aw_cons (ew_name 1 rfl (pv 1)) (aw_cons (by rw [← hcap]; exact ew_lenSeq rfl T.bLen (lst_as (ew_name 0 rfl (pv 0)))) aw_nil)) hp) (by intro _; rfl))) (fun h => ?_) fun h => bw_say 1 rfl (by simpa using h) (bw_nilN rfl)) ?_
  · refine bw_one (sw_nx (sw_ret ?_))
    have e1 : stB R ns = false := by
      unfold stB
      rw [(by simpa using h : ixsB R.length ns = false)] <;> rfl
    show Ew _ W _ _ (rD K (.bool (stB R ns)))
    rw [e1]
    exact ew_bl
  · refine bw_know 1 rfl fun hb => bw_ret ?_
    have e1 : stB R ns = ascB (fun a b => leR R a.toNat b.toNat) ns := by
      unfold stB
      rw [hb] <;> rfl
    show Ew _ W _ _ (rD K (.bool (stB R ns)))
    rw [e1]
    refine ew_allOf (fun i => leR R (ns.getD i 0).toNat (ns.getD (i + 1) 0).toNat) rfl rfl T.bAll (ew_lcAll 2 (y := "at") _ rfl scAreSteady.nd (n := ns.length - 1) (item := fun i => rD K (.int i)) (iw_n (by exact iw_range1 (j := ((ns.length : Int) - 1)) rfl G.Y.bRange (ew_subI (ew_lenInts rfl T.bLen (ew_name 1 rfl (pv 1))) ew_int) (by omega)) (by omega)) (blkOk_by (N := ["ranks", "indices", "at"]) (sc := defScope sAreSteady) (by decide +kernel)) (by omega) (fun _ _ _ _ _ => pg_name scAreSteady.nd rfl (.inl rfl)) fun s' H' C cl' fp D o i hi => ?_)
    obtain ⟨a1, a2⟩ := ixs_at hb (show i < ns.length by omega)
    obtain ⟨b1, b2⟩ := ixs_at hb (show i + 1 < ns.length by omega)
    exact ew_leT (units0 hr) (ew_rk _ (ew_name 0 rfl (pv 0)) (ew_intsAt i (ew_name 1 rfl (pv 1)) (ew_name 2 rfl (pv 2)) rfl (by omega) pi) (by omega) a2 ps) (ew_rk _ (ew_name 0 rfl (pv 0)) (ew_intsAt (i + 1) (ew_name 1 rfl (pv 1)) (ew_add (ew_name 2 rfl (pv 2)) ew_int) (by omega) (by omega) pb) (by omega) b2 ps)
theorem ok_areFall (G : Gx P K mg d t g) : FnR P w K mg base CX0 4 g.fAreFall (spW (α := List (List Int) × List Int) (fun _ z => z.1.length ≤ 1000 ∧ z.2.length ≤ 1000) (fun z => [rRs K z.1, rD K (intsT z.2)]) (fun z => rD K (.bool (flB z.1 z.2)))) := by
  obtain ⟨fd, F⟩ := G.lAreFall
  refine fn_w F scAreFall (F.binds fun _ _ _ _ _ _ us hl => match us, hl with | [_, _], _ => rfl) (fun _ => rfl) fun cdv A outer s H E W z hr hp => ⟨none, ?_, fun _ e => nomatch e⟩
  obtain ⟨R, ns⟩ := z
  obtain ⟨hR, hp⟩ := hp
  change R.length ≤ 1000 at hR
  change ns.length ≤ 1000 at hp
  have T := G.Y.T
  have pi : ∀ {x : Str} {pp : Pos}, PlainIx (.Name x pp) := fun _ _ => rfl
  have pb : ∀ {a b : Expr} {op : Operator} {pp : Pos}, PlainIx (.BinOp a op b pp) := fun _ _ => rfl
  have ps : ∀ {a b : Expr} {pp : Pos}, PlainIx (.Subscript a b pp) := fun _ _ => rfl
  have hcap : (R.map (rInts K)).length = R.length := List.length_map _
  refine bw_cons (N := [some (rRs K R), some (rAnd (ixsB R.length ns = true) (rD K (intsT ns))), none]) (sw_if (d := !ixsB R.length ns) (tw_not (tw_val (clE (ns, R.length) G.lAreIndices (ok_areIndices G) hr G.gAreIndices (aw_cons (ew_name 1 rfl (pv 1)) (aw_cons (by rw [← hcap]; exact ew_lenSeq rfl T.bLen (lst_as (ew_name 0 rfl (pv 0)))) aw_nil)) hp) (by intro _; rfl))) (fun h => ?_) fun h => bw_say 1 rfl (by simpa using h) (bw_nilN rfl)) ?_
  · refine bw_one (sw_nx (sw_ret ?_))
    have e1 : flB R ns = false := by
      unfold flB
      rw [(by simpa using h : ixsB R.length ns = false)] <;> rfl
    show Ew _ W _ _ (rD K (.bool (flB R ns)))
    rw [e1]
    exact ew_bl
  · refine bw_know 1 rfl fun hb => bw_ret ?_
    have e1 : flB R ns = ascB (fun a b => !leR R a.toNat b.toNat) ns := by
      unfold flB
      rw [hb] <;> rfl
    show Ew _ W _ _ (rD K (.bool (flB R ns)))
    rw [e1]
    refine ew_allOf (fun i => !leR R (ns.getD i 0).toNat (ns.getD (i + 1) 0).toNat) rfl rfl T.bAll (ew_lcAll 2 (y := "at") _ rfl scAreFall.nd (n := ns.length - 1) (item := fun i => rD K (.int i)) (iw_n (by exact iw_range1 (j := ((ns.length : Int) - 1)) rfl G.Y.bRange (ew_subI (ew_lenInts rfl T.bLen (ew_name 1 rfl (pv 1))) ew_int) (by omega)) (by omega)) (blkOk_by (N := ["ranks", "indices", "at"]) (sc := defScope sAreFall) (by decide +kernel)) (by omega) (fun _ _ _ _ _ => pg_name scAreFall.nd rfl (.inl rfl)) fun s' H' C cl' fp D o i hi => ?_)
    obtain ⟨a1, a2⟩ := ixs_at hb (show i < ns.length by omega)
    obtain ⟨b1, b2⟩ := ixs_at hb (show i + 1 < ns.length by omega)
    have e2 : (!leR R (ns.getD i 0).toNat (ns.getD (i + 1) 0).toNat) = HT.lexLt (rk R (ns.getD (i + 1) 0).toNat) (rk R (ns.getD i 0).toNat) := by
      unfold leR leX
      rw [Bool.not_not]
    rw [e2]
    exact ew_gtT (units0 hr) (ew_rk _ (ew_name 0 rfl (pv 0)) (ew_intsAt i (ew_name 1 rfl (pv 1)) (ew_name 2 rfl (pv 2)) rfl (by omega) pi) (by omega) a2 ps) (ew_rk _ (ew_name 0 rfl (pv 0)) (ew_intsAt (i + 1) (ew_name 1 rfl (pv 1)) (ew_add (ew_name 2 rfl (pv 2)) ew_int) (by omega) (by omega) pb) (by omega) b2 ps)
end
end K11
/-! list.count over data -/
namespace L2
open PySem PySem.Spec PyProof.Rows
section
variable {X : Cx}
def rCountD (K : PySem.W.Frag) : V → List V → Hp → VK → Prop := fun x xs H Q => ∃ (a : Addr) (y : V) (d : PyData) (ds : List PyData), x = V.ref a ∧ xs = [y] ∧ Dp K H (V.ref a) (.list ds) ∧ Dp K H y d ∧
  SeqAt.shaped (.list ds) = true ∧ SeqAt.shaped d = true ∧ Q (.int ((ds.countP fun z => PyData.eqv z d : Nat) : Int)) H
theorem mt_countD (hu : X.A.units + 65 < cLine) : MtR X "list.count" (rCountD X.K) := by
  intro pins s σ H x xs v us Q I rx rxs h
  obtain ⟨a, y, d, ds, rfl, rfl, hl, hy, sl, sd, q⟩ := h
  cases rx
  cases rxs with
  | cons ry rt =>
    rename_i uy ut
    cases rt
    obtain ⟨bs, r1⟩ := Dp.reads I d y uy hy ry
    have hxs : PyData.canLayAll0 ds = true := SeqAt.canLay_of_shaped sl
    have hroom : X.A.units + 1 + min (PyData.depthAll ds) d.depth < cLine := room_in_shaped sd hu
    cases hl with
    | lst hs ha =>
      obtain ⟨its, rv, ⟨⟨cls, dd, data, sls⟩, n, ho, hc, hdn, hdt⟩, hlen⟩ := I.list hs
      simp only at hc hdt
      subst hc hdt
      obtain ⟨as, h4⟩ := Dp.readsAll I ds _ its ha rv
      have hmap : its.map (SeqAt.readOf s.heap) = ds := SeqAt.readsAll_map ds its as hxs h4
      have hcount : its.toArray.toList.countP (fun u => PyData.eqv (SeqAt.readOf s.heap u) d) = ds.countP fun z => PyData.eqv z d := by
        rw [← hmap, List.countP_map]
        rfl
      refine call_meets PySem.F.slot_list_count ⟨_, ho, rfl⟩ PySem.F.entry_list_count (PySem.F.args_list_count_2 _ _)
        (SeqAt.list_countAt a its.toArray n dd sls uy (fun u => PyData.eqv (SeqAt.readOf s.heap u) d)) ⟨ho, SeqAt.items_eqAt (vs := its.toArray) (show ReadsAll s.heap its.toArray.toList ds as from h4) r1 hxs (SeqAt.canLay_of_shaped sd) hroom, ?_⟩
      rw [hcount]
      exact ⟨.int _, H, I.tok _, ⟨_, rfl⟩, q⟩
end
end L2
namespace Py
open PySem L2
section
variable {X : Cx} {W : World} {rs : Rs} {o e a b : Expr} {pos apos cpos : Pos}
theorem ew_countD {ds : List PyData} {d : PyData} (hu : X.A.units + 65 < cLine) (ho : Ew X W rs o (rD X.K (.list ds))) (he : Ew X W rs e (rD X.K d)) (sl : SeqAt.shaped (.list ds) = true) (sd : SeqAt.shaped d = true)
    (hbase : attributeBase o "count" X.env (eval o X.env) = eval o X.env := by rfl)
    (hfew : ((backTo cpos (starEach [e] X.env)).all (fun x => !x.1) && (backToKw cpos (keywordEach [] X.env)).all (fun x => x.1.isSome) && decide ([e].length + ([] : List Keyword).length + (if ([] : List Keyword).isEmpty then 0 else 1) < 30)) = true := by rfl)
    (hline : (apos.endLine == cpos.line) = true := by rfl) (hs : starEach [e] X.env = (false, eval e X.env) :: starEach [] X.env := by rfl) (hplain : (backTo cpos (starEach [] X.env)).any (·.1) = false := by rfl) :
    Ew X W rs (.Call (.Attribute o "count" apos) [e] [] cpos) (rD X.K (.int ((ds.countP fun z => PyData.eqv z d : Nat) : Int))) := by
  refine pe_cs (pe_bm PySem.F.plainAttrs_list PySem.F.slot_list_count PySem.F.type_list_count (mt_countD hu) ho (pa_cons he pa_nil (hs := hs)) hbase hfew hline hs hplain) ?_
  rintro σ H Q ⟨k, g, q⟩
  refine ⟨k, g, fun x H1 k1 e1 p1 => ?_⟩
  obtain ⟨l, xs, ex, hl, hr⟩ := rD_lst.mp p1
  subst ex
  refine ⟨.inl ⟨rfl, xs, sqL_mono (W.sub H1) hl⟩, k1, g.mono e1, fun y H2 k2 e2 p2 => ?_⟩
  exact ⟨l, y, d, ds, rfl, rfl, dp_mono ((World.sub W H2)) (dp_mono e2 p1), dp_mono (World.sub W H2) p2, sl, sd, q _ H2 k2 (e1.trans e2) (Dp.int _)⟩
theorem ew_inD {d : PyData} {ds : List PyData} (hu : X.A.units + 65 < cLine) (ha : Ew X W rs a (rD X.K d)) (hb : Ew X W rs b (rD X.K (.list ds))) (h1 : SeqAt.shaped d = true) (h2 : SeqAt.shaped (.list ds) = true) (hm : behindInMarks .In b = false := by rfl) : Ew X W rs (.Compare a [.In] [b] pos) (rD X.K (.bool (ds.any fun z => PyData.eqv z d))) := ew_cmp (op_inD hu) ha hb (r2_inD h1 h2) hm
end
end Py
namespace Py
open PySem L2
/-- the first name of a block of two -/
theorem own_first {K : PySem.W.Frag} {j k : Nat} {rs1 : Rs} {r : Rep} (hjk : j ≠ k) : OwnG K (gName j) [j, k] rs1 r (rs1.set j (some r)) := ⟨fun v σ H G g _ p Q q => q _ (by
  show ((((σ.set k none).set j none).set j (some v)).set k none).set j none = (σ.set k none).set j none
  rw [List.set_set, List.set_comm _ _ hjk, List.set_set, List.set_set]) (g.set p)⟩
end Py
namespace Py
open PySem L2
section
variable {X : Cx} {W : World} {rs : Rs} {a : Expr} {rl : List Rep} {p pos : Pos}
theorem en_listL (hg : Gl X "list") (hm : X.mg "list" = none) (ha : Ew X W rs a (rSeq X.K rl)) (he : starEach [a] X.env = (false, eval a X.env) :: starEach [] X.env := by rfl) (hpl : (backTo pos (starEach [] X.env)).any (·.1) = false := by rfl) : En X W rs (.Call (.Name "list" p) [a] [] pos) rl := by
  refine pe_cs (pe_callTy call_list_of hg hm (by decide +kernel) (aw_cons ha aw_nil he) (by decide) (by decide) he hpl) ?_
  rintro σ H Q ⟨k, g, q⟩
  refine ⟨k, g, fun vs H1 k1 e1 pr => ?_⟩
  obtain ⟨v, rfl, t, xs, ev, hs, hr⟩ := reps1 pr
  refine ⟨t, xs, by rw [ev], .inl (sqL_mono (W.sub H1) hs), fun l hl => ?_⟩
  refine q l xs _ (hold_new k1 hl) ?_ ?_
  · rw [new_at k1 hl]; exact e1
  · rw [new_at k1 hl]; exact hr
end
end Py
namespace Py
open PySem L2
section
variable {X : Cx} {W : World} {rs : Rs} {a : Expr} {pos : Pos}
theorem i2_enum {Wg : World} {rl : List Rep} {p tpos : Pos} {elts : List Expr} {kk : Nat} (hg : Gl X "enumerate") (hm : X.mg "enumerate" = none) (h : Ew X W rs a (rSeq X.K rl)) (hs : starEach [a] X.env = [(false, eval a X.env)] := by rfl) :
    Iw2 X W Wg rs (.Tuple elts kk tpos) (.Call (.Name "enumerate" p) [a] [] pos) rl.length (fun i => rTup X.K [rD X.K (.int i), rl.getD i rNon]) := by
  refine pi_cs (pi_enum hg hm (aw_cons h aw_nil hs) hs) ?_
  rintro σ H R ⟨k, g, q⟩
  refine ⟨k, g, ?_⟩
  intro vs H1 k1 e1 hp
  obtain ⟨v, rfl, p, xs, ev, hsq, hr⟩ := reps1 hp
  subst ev
  have w : Walk (Ite X.K p) rl.length (fun H => SqL X.K H p xs) (YPair (fun i => some (.int (i : Nat))) (fun i => xs[i]?)) := by
    rw [hr.len]
    exact walk_enum
  refine ⟨p, xs, rfl, sqL_mono (W.sub H1) hsq, q (Ite X.K p) (fun H => SqL X.K H p xs) (YPair (fun i => some (.int (i : Nat))) (fun i => xs[i]?)) H1 w k1 e1 (fun H2 _ e2 => sqL_mono (e2.trans (Wg.sub H2)) hsq) ?_⟩
  intro i x H2 H3 hi y
  refine .inr (pair_new (G := W.vis H1) y (fun x hx => ?_) (fun x hx => ?_))
  · exact rD_int.mpr (Option.some.inj hx).symm
  · obtain ⟨r, h1, h2⟩ := hr.get' hx
    rw [getD_of h1]
    exact h2
end
end Py
namespace K11
open PySem L2 Py
/-! ### rows and their ranks -/
def rowAt (c : TabD) (i : Nat) : List Cell := c.rows.getD i []
theorem rowAt_get {c : TabD} {i : Nat} (h : i < c.rows.length) : c.rows[i]? = some (rowAt c i) := by
  unfold rowAt
  rw [List.getD_eq_getElem?_getD, List.getElem?_eq_getElem h]
  rfl
theorem rowAt_ok {c : TabD} {i : Nat} (hT : TabOk c) (h : i < c.rows.length) : RowOk c.cols (rowAt c i) := hT.rows _ (List.mem_of_getElem? (rowAt_get h))
def ranksR (c : TabD) (ps : List PartD) : List (List Int) := c.rows.map fun r => ranks c.cols r ps
theorem ranksR_len {c : TabD} {ps : List PartD} : (ranksR c ps).length = c.rows.length := List.length_map _
theorem flat_rl {K : PySem.W.Frag} (fs : List (List Int)) : rl2 (fun i => (fs.getD i []).length) (fun i j => rD K (.int ((fs.getD i []).getD j 0))) fs.length = (fs.flatten.map PyData.int).map (rD K) := by
  have key : ∀ n, n ≤ fs.length → rl2 (fun i => (fs.getD i []).length) (fun i j => rD K (.int ((fs.getD i []).getD j 0))) n = ((fs.take n).flatten.map PyData.int).map (rD K) := by
    intro n
    induction n with
    | zero => intro _; simp [rl2]
    | succ n ih =>
      intro hn
      have hg : fs[n]? = some fs[n] := List.getElem?_eq_getElem hn
      rw [rl2_succ, ih (by omega), List.take_succ_eq_append_getElem hn, List.flatten_append, List.map_append, List.map_append]
      congr 1
      have e1 : fs.getD n [] = fs[n] := by rw [List.getD_eq_getElem?_getD, hg] <;> rfl
      rw [e1]
      simp only [List.flatten_cons, List.flatten_nil, List.append_nil]
      apply List.ext_getElem?
      intro j
      by_cases hj : j < (fs[n]).length
      · rw [ints_get hj, List.getElem?_map, List.getElem?_range hj] <;> rfl
      · rw [List.getElem?_eq_none (by simpa using Nat.le_of_not_lt hj), List.getElem?_eq_none (by simpa using Nat.le_of_not_lt hj)]
  rw [key _ (Nat.le_refl _), List.take_length]
theorem falls_get {K : PySem.W.Frag} {fs : List (List Int)} {i : Nat} (h : i < fs.length) : (fs.map fun f => rD K (intsT f))[i]? = some (rD K (intsT (fs.getD i []))) := by
  rw [List.getElem?_map, List.getD_eq_getElem?_getD, List.getElem?_eq_getElem h]
  rfl
theorem shp_intsL {ns : List Int} : SeqAt.shaped (.list (ns.map PyData.int)) = true := (shp_lst (k := 0) (shp_map fun _ _ => shp_int)).ok
theorem any_int (ns : List Int) (z : Int) : ((ns.map PyData.int).any fun y => PyData.eqv y (.int z)) = ns.any fun b => decide (b = z) := by
  rw [List.any_map]
  congr 1
theorem ew_eqInt {X : Cx} {W : Py.World} {rs : Rs} {a b : Expr} {pos : Pos} {i j : Int} (hu : X.A.units + 64 < cLine) (ha : Ew X W rs a (rD X.K (.int i))) (hb : Ew X W rs b (rD X.K (.int j))) : Ew X W rs (.Compare a [.Eq] [b] pos) (rD X.K (.bool (decide (i = j)))) := by
  rw [← eqv_ints]
  exact ew_eqD hu ha hb shp_int.ok shp_int.ok
section
variable {P : Program} {w : PySem.World} {K : PySem.W.Frag} {mg : Str → Option Value} {base : Heap} {d : Ad} {e : Ld} {t : Ae} {g : Ag}
theorem ok_allRanks (G : Gx P K mg d t g) : FnR P w K mg base CX0 7 g.fAllRanks (spW (α := TabD × List PartD) (fun _ z => TabOk z.1 ∧ KeyOk z.1.cols z.2) (fun z => [rTab K t z.1, rKey K d z.2]) (fun z => rRs K (ranksR z.1 z.2))) := by
  obtain ⟨fd, F⟩ := G.lAllRanks
  refine fn_w F scAllRanks (F.binds fun _ _ _ _ _ _ us hl => match us, hl with | [_, _], _ => rfl) (fun _ => rfl) fun cdv A outer s H E W z hr hp => ⟨none, ?_, fun _ e => nomatch e⟩
  obtain ⟨c, ps⟩ := z
  obtain ⟨hT, hk⟩ := hp
  change TabOk c at hT
  change KeyOk c.cols ps at hk
  have h8 := hT.most
  refine bw_ret ?_
  have er : (ranksR c ps).map (rInts K) = (List.range c.rows.length).map fun i => rInts K (ranks c.cols (rowAt c i) ps) := by
    unfold ranksR
    rw [List.map_map]
    exact (range_map _ _ c.rows fun i hi => by unfold rowAt; rw [List.getD_eq_getElem?_getD, List.getElem?_eq_getElem hi] <;> rfl).symm
  show Ew _ W _ _ (rLst ((ranksR c ps).map (rInts K)))
  rw [er]
  refine ew_lcAll 2 (y := "row") _ rfl scAllRanks.nd (n := c.rows.length) (item := fun i => ((c.rows.map rowD).map (rD K)).getD i rNon) (iw_n (by exact iw_tupD (ds := c.rows.map rowD) (by exact fl (ew_name 0 rfl (pv 0)) G.Y.isiT.cl G.Y.nTr)) (by simp)) (blkOk_by (N := ["self", "key", "row"]) (sc := defScope sAllRanks) (by decide +kernel)) (by omega) (fun _ _ _ _ _ => pg_name scAllRanks.nd rfl (.inl rfl)) ?_
  intro s' H' C cl' fp D o i hi
  have ei : ((c.rows.map rowD).map (rD K)).getD i rNon = rD K (rowD (rowAt c i)) := by rw [List.map_map, getD_map' (rowAt_get hi)] <;> rfl
  rw [ei]
  exact mtE (c, rowAt c i, ps) (ew_name 0 rfl (pv 0)) G.Y.isiT.cl G.Y.mTRanks (ok_tRanks G.Y) hr (aw_cons (ew_name 2 rfl (pv 2)) (aw_cons (ew_name 1 rfl (pv 1)) aw_nil)) ⟨hT.cols, rowAt_ok hT hi, hk⟩
theorem ok_holdEach (G : Gx P K mg d t g) : FnR P w K mg base CX0 1 g.fHoldEach (spW (α := List (List Int) × Nat) (fun _ z => z.1.length ≤ 1000 ∧ z.1.flatten.length ≤ 1000 ∧ z.2 ≤ 1000) (fun z => [rFs' K z.1, rN K z.2]) (fun z => rD K (.bool (onceB z.2 z.1)))) := by
  obtain ⟨fd, F⟩ := G.lHoldEach
  refine fn_w F scHoldEach (F.binds fun _ _ _ _ _ _ us hl => match us, hl with | [_, _], _ => rfl) (fun _ => rfl) fun cdv A outer s H E W z hr hp => ⟨none, ?_, fun _ e => nomatch e⟩
  obtain ⟨fs, n⟩ := z
  obtain ⟨h1, h2, h3⟩ := hp
  change fs.length ≤ 1000 at h1
  change fs.flatten.length ≤ 1000 at h2
  change n ≤ 1000 at h3
  have T := G.Y.T
  have hlen : (rl2 (fun i => (fs.getD i []).length) (fun i j => rD K (.int ((fs.getD i []).getD j 0))) fs.length).length = fs.flatten.length := by rw [flat_rl, List.length_map, List.length_map]
  refine bw_st (N := [some (rFs' K fs), some (rN K n), some (rD K (.list (fs.flatten.map PyData.int))), none, none]) 2 rfl (of_lst ?lc) scHoldEach.nd (bw_ret (ew_and (c := decide ((fs.flatten.length : Int) = (n : Nat))) (ew_eqInt hr.units (by have e9 : (fs.flatten.length : Int) = ((fs.flatten.map PyData.int).length : Int) := (by rw [List.length_map]); rw [e9]; exact ew_lenD rfl T.bLen (ew_name 2 rfl (pv 2))) (ew_name 1 rfl (pv 1))) fun _ => ew_one ?_))
  case lc =>
    show Ew _ W _ _ (rLst ((fs.flatten.map PyData.int).map (rD K)))
    rw [← flat_rl]
    exact ew_lc2 (g := gName 3) (g1 := gName 4) (own := [("fall", 3), ("at", 4)]) (vs1 := [4]) (n := fs.length) (item := fun i => (fs.map fun f => rD K (intsT f)).getD i rNon) _ (fun i j => (((fs.getD i []).map PyData.int).map (rD K)).getD j rNon) _ (fun i => [some (rFs' K fs), some (rN K n), none, some (rD K (intsT (fs.getD i []))), none]) (fun i j => [some (rFs' K fs), some (rN K n), none, some (rD K (intsT (fs.getD i []))), some (rD K (.int ((fs.getD i []).getD j 0)))]) rfl scHoldEach.nd (iw_n (by exact iw_lst (ew_name 0 rfl (pv 0))) (by simp)) (blkOk_by (N := ["falls", "many", "indices", "fall", "at"]) (sc := defScope sHoldEach) (by decide +kernel)) (by decide) (by rw [hlen]; exact h2) (fun _ _ _ _ _ => pg_name scHoldEach.nd rfl (.inl rfl)) (fun i hi => by rw [getD_of (falls_get hi)]; exact own_first (by decide)) (fun _ _ _ _ _ _ _ i hi => i2_n (i2_tup (as_tup (ew_name 3 rfl (pv 3)))) (by simp)) (fun _ _ _ _ _ => pg_name scHoldEach.nd rfl (.inl rfl)) (fun i j hi hj => by rw [getD_of (ints_get hj)]; exact own_name) (fun _ _ _ _ _ _ _ i j hi hj => (ew_name 4 rfl (pv 4)))
  refine ew_allOf (fun a => fs.flatten.any fun b => decide (b = (a : Int))) rfl rfl T.bAll (ew_lcAll 4 (y := "at") _ rfl scHoldEach.nd (n := n) (item := fun i => rD K (.int i)) (iw_n (by exact iw_range1 (j := (n : Int)) rfl G.Y.bRange (ew_name 1 rfl (pv 1)) (by omega)) (by omega)) (blkOk_by (N := ["falls", "many", "indices", "fall", "at"]) (sc := defScope sHoldEach) (by decide +kernel)) h3 (fun _ _ _ _ _ => pg_name scHoldEach.nd rfl (.inl rfl)) fun s' H' C cl' fp D o i hi => ?_)
  rw [← any_int]
  exact ew_inD (units65 hr) (ew_name 4 rfl (pv 4)) (ew_name 2 rfl (pv 2)) shp_int.ok shp_intsL
theorem ok_aInit (G : Gx P K mg d t g) : FnR P w K mg base CX0 1 g.fAInit (spI g.cArr (fun z : List Int × List (List Int) => z.2.length ≤ 1000) (fun z => [rD K (intsT z.1), rFs' K z.2]) (fsArr K)) := by
  obtain ⟨fd, F⟩ := G.lAInit
  refine fn_i F scAInit (F.binds fun _ _ _ _ _ _ us hl => match us, hl with | [_, _, _], _ => rfl) (fun _ => rfl) fun cdv A outer s H E W x dx z hr hp => ?_
  exact ib_set (i := 0) (r := rD K (intsT z.1)) (pv 0) rfl (fun gs => (ew_name 1 rfl (pv 1))) G.isiA.cl G.nAs rfl (by decide) (ib_set (i := 0) (r := rFs' K z.2) (pv 0) rfl (fun gs => ew_listL rfl G.Y.T.bList (lst_as (ew_name 2 rfl (pv 2)))) G.isiA.cl G.nAf rfl (by simp) ib_nil rfl) rfl
end
end K11
namespace K11
open PySem L2 Py
/-! ### the arrangement of a table -/
theorem ew_succ {X : Cx} {W : Py.World} {rs : Rs} {a b : Expr} {pos : Pos} {i : Nat} (h : Ew X W rs a (rN X.K i)) (h1 : Ew X W rs b (rD X.K (.int 1))) : Ew X W rs (.BinOp a .Add b pos) (rN X.K (i + 1)) := by
  show Ew X W rs _ (rD X.K (.int ((i + 1 : Nat) : Int)))
  rw [show ((i + 1 : Nat) : Int) = (i : Int) + 1 from by omega]
  exact ew_add h h1
def zs (L : List Nat) : List Int := L.map fun (n : Nat) => (n : Int)
theorem natsT_eq (L : List Nat) : natsT L = intsT (zs L) := by unfold natsT intsT zs; rw [List.map_map] <;> rfl
def arrR (R : List (List Int)) : List Int × List (List Int) := (zs (steadyR R (lengthsR R)), (List.range (steadyR R (lengthsR R)).length).map fun l => zs (rowsW (lengthsR R) (l + 1)))
theorem all_range {α : Type} (L : List α) (z : α) (p : α → Bool) : (List.range L.length).all (fun i => p (L.getD i z)) = L.all p := by
  have e : L = (List.range L.length).map fun i => L.getD i z := by
    apply List.ext_getElem?
    intro i
    by_cases hi : i < L.length
    · rw [List.getElem?_map, List.getElem?_range hi]
      show L[i]? = some (L.getD i z)
      rw [List.getD_eq_getElem?_getD, List.getElem?_eq_getElem hi]
      rfl
    · rw [List.getElem?_eq_none (by omega), List.getElem?_eq_none (by simpa using Nat.le_of_not_lt hi)]
  conv => rhs; rw [e]
  rw [List.all_map]
  rfl
def placeB (R : List (List Int)) (r : List Int) (a : Nat) : Bool := ((R.take a).all fun b => leX b r) && (R.drop a).all fun b => leX r b
def placesR (R : List (List Int)) (r : List Int) : List Nat := (List.range (R.length + 1)).filter (placeB R r)
def sIx (R : List (List Int)) (a : Nat) : Nat := (R.filter fun r => HT.lexLt r (rk R a)).length + (R.take a).countP fun r => decide (r = rk R a)
theorem sIx_lt {R : List (List Int)} {a : Nat} (h : a < R.length) : sIx R a < R.length := by
  unfold sIx
  have hx : R[a]? = some (rk R a) := by unfold rk; rw [List.getD_eq_getElem?_getD, List.getElem?_eq_getElem h] <;> rfl
  generalize rk R a = x at hx
  have irr : HT.lexLt x x = false := by
    cases c : HT.lexLt x x with
    | false => rfl
    | true => have := NtL.lex_asym x x c; rw [c] at this; cases this
  have e1 : (R.filter fun r => HT.lexLt r x).length = (R.take a).countP (fun r => HT.lexLt r x) + ((R.drop a).countP fun r => HT.lexLt r x) := by
    rw [← List.countP_eq_length_filter, ← List.countP_append, List.take_append_drop]
  have e2 : (R.drop a).countP (fun r => HT.lexLt r x) ≤ R.length - a - 1 := by
    have ed : R.drop a = x :: R.drop (a + 1) := by
      rw [List.drop_eq_getElem_cons h]
      congr 1
      exact Option.some.inj ((List.getElem?_eq_getElem h).symm.trans hx)
    rw [ed, List.countP_cons_of_neg (by rw [irr]; decide)]
    refine Nat.le_trans List.countP_le_length ?_
    rw [List.length_drop]
    omega
  have e3 : ∀ l : List (List Int), l.countP (fun r => HT.lexLt r x) + l.countP (fun r => decide (r = x)) ≤ l.length := by
    intro l
    induction l with
    | nil => exact Nat.le_refl _
    | cons y l ih =>
      rw [List.countP_cons, List.countP_cons, List.length_cons]
      by_cases hy : y = x
      · subst hy
        rw [irr]
        simp
        omega
      · have : decide (y = x) = false := decide_eq_false hy
        rw [this]
        cases HT.lexLt y x <;> simp <;> omega
  have e4 := e3 (R.take a)
  rw [List.length_take] at e4
  omega
def sortF (R : List (List Int)) (c : TabD) (i : Nat) : List (List Cell) := (List.range i).foldl (fun fs i => fs.set (sIx R i) (rowAt c i)) c.rows
def sortT (c : TabD) (ps : List PartD) : TabD := ⟨c.cols, sortF (ranksR c ps) c c.rows.length⟩
theorem sortF_ok (R : List (List Int)) (c : TabD) (hT : TabOk c) : ∀ i, i ≤ c.rows.length → (sortF R c i).length = c.rows.length ∧ ∀ r ∈ sortF R c i, RowOk c.cols r
  | 0, _ => ⟨rfl, hT.rows⟩
  | i + 1, hi => by
    obtain ⟨h1, h2⟩ := sortF_ok R c hT i (by omega)
    have e : sortF R c (i + 1) = (sortF R c i).set (sIx R i) (rowAt c i) := by unfold sortF; rw [List.range_succ, List.foldl_append]; rfl
    rw [e]
    refine ⟨by rw [List.length_set]; exact h1, fun r hr => ?_⟩
    rcases List.mem_or_eq_of_mem_set hr with h | h
    · exact h2 r h
    · rw [h]; exact rowAt_ok hT (by omega)
theorem sortT_ok {c : TabD} (hT : TabOk c) (ps : List PartD) : TabOk (sortT c ps) := by
  obtain ⟨h1, h2⟩ := sortF_ok (ranksR c ps) c hT _ (Nat.le_refl _)
  exact ⟨hT.cols, by show 2 ≤ (sortF _ c c.rows.length).length; rw [h1]; exact hT.two, by show (sortF _ c c.rows.length).length ≤ 8; rw [h1]; exact hT.most, h2⟩
section
variable {P : Program} {w : PySem.World} {K : PySem.W.Frag} {mg : Str → Option Value} {base : Heap} {d : Ad} {e : Ld} {t : Ae} {g : Ag}
theorem ok_arrangement (G : Gx P K mg d t g) : FnR P w K mg base CX0 9 g.fArrangement (spW (α := TabD × List PartD) (fun _ z => TabOk z.1 ∧ KeyOk z.1.cols z.2) (fun z => [rTab K t z.1, rKey K d z.2]) (fun z => rArr K g (arrR (ranksR z.1 z.2)))) := by
  obtain ⟨fd, F⟩ := G.lArrangement
  refine fn_w F scArrangement (F.binds fun _ _ _ _ _ _ us hl => match us, hl with | [_, _], _ => rfl) (fun _ => rfl) fun cdv A outer s H E W z hr hp => ⟨none, ?_, fun _ e => nomatch e⟩
  obtain ⟨c, ps⟩ := z
  obtain ⟨hT, hk⟩ := hp
  change TabOk c at hT
  change KeyOk c.cols ps at hk
  have h2 := hT.two
  have h8 := hT.most
  have hRl := ranksR_len (c := c) (ps := ps)
  refine bw_ex1 (cl c G.Y.lCkTable (ok_ckTable G.Y) hr G.Y.gCkTable (aw_cons (ew_name 0 rfl (pv 0)) aw_nil) trivial) ?_
  refine bw_ex1 (mtE (c, ps) (ew_name 0 rfl (pv 0)) G.Y.isiT.cl G.Y.mTCkKey (ok_tCkKey G.Y) hr (aw_cons (ew_name 1 rfl (pv 1)) aw_nil) ⟨hT.cols, hk⟩) ?_
  refine bw_st (N := [some (rTab K t c), some (rKey K d ps), some (rRs K (ranksR c ps)), none, none, none]) 2 rfl (mtE (c, ps) (ew_name 0 rfl (pv 0)) G.Y.isiT.cl G.mAllRanks (ok_allRanks G) hr (aw_cons (ew_name 1 rfl (pv 1)) aw_nil) ⟨hT, hk⟩) scArrangement.nd ?_
  show Bw _ W _ _ ⟨rArr K g (arrR (ranksR c ps)), none, none, none⟩
  generalize ranksR c ps = R at hRl ⊢
  refine bw_st (N := [some (rTab K t c), some (rKey K d ps), some (rRs K R), some (rNats K (lengthsR R)), none, none]) 3 rfl (cl R G.lSteadyLengths (ok_steadyLengths G) hr G.gSteadyLengths (aw_cons (ew_name 2 rfl (pv 2)) aw_nil) (by show R.length ≤ 1000; omega)) scArrangement.nd ?_
  have hL : (lengthsR R).length = R.length := lenF_len R _
  have hS : (steadyR R (lengthsR R)).length ≤ R.length + 1 := by
    have hfg : firstG (lengthsR R) < R.length := Nat.lt_of_lt_of_eq (fgF_lt (lengthsR R) (by omega) _ (Nat.le_refl _)) hL
    obtain ⟨_, hs, _⟩ := stF_ok R (lengthsR R) hfg (R.length - (firstG (lengthsR R) + 1)) (by omega)
    exact Nat.le_trans hs (by omega)
  refine bw_st (N := [some (rTab K t c), some (rKey K d ps), some (rRs K R), some (rNats K (lengthsR R)), some (rD K (natsT (steadyR R (lengthsR R)))), none]) 4 rfl (cl (R, lengthsR R) G.lFirstSteady (ok_firstSteady G) hr G.gFirstSteady (aw_cons (ew_name 2 rfl (pv 2)) (aw_cons (ew_name 3 rfl (pv 3)) aw_nil)) ⟨by show R.length ≤ 900; omega, by show 0 < R.length; omega, hL⟩) scArrangement.nd (bw_ret ?_)
  refine mk (fs := fsArr K) (arrR R) G.mkA (ok_aInit G) hr G.gArr (aw_cons (ew_sub (by exact (ew_name 4 rfl (pv 4))) fun v H p => by rw [natsT_eq] at p; exact p) (aw_cons ?falls aw_nil)) (by show ((List.range (steadyR R (lengthsR R)).length).map fun l => zs (rowsW (lengthsR R) (l + 1))).length ≤ 1000; rw [List.length_map, List.length_range]; omega)
  have ef : (((List.range (steadyR R (lengthsR R)).length).map fun l => zs (rowsW (lengthsR R) (l + 1))).map fun f => rD K (intsT f)) = (List.range (steadyR R (lengthsR R)).length).map fun l => rD K (natsT (rowsW (lengthsR R) (l + 1))) := by
    rw [List.map_map]
    exact List.map_congr_left fun l _ => by rw [natsT_eq] <;> rfl
  show Ew _ W _ _ (rLst (((List.range (steadyR R (lengthsR R)).length).map fun l => zs (rowsW (lengthsR R) (l + 1))).map fun f => rD K (intsT f)))
  rw [ef]
  have el : (steadyR R (lengthsR R)).length = (((steadyR R (lengthsR R)).map fun (n : Nat) => PyData.int n).map (rD K)).length := by rw [List.length_map, List.length_map]
  refine ew_lcAll 5 (y := "length") _ rfl scArrangement.nd (n := (steadyR R (lengthsR R)).length) (item := fun i => rD K (.int i)) (iw_n (by exact iw_range1 (j := ((steadyR R (lengthsR R)).length : Int)) rfl G.Y.bRange (by rw [el]; exact ew_lenTup rfl G.Y.T.bLen (as_tup (ew_name 4 rfl (pv 4)))) (by omega)) (by omega)) (blkOk_by (N := ["table", "key", "ranks", "lengths", "steady", "length"]) (sc := defScope sArrangement) (by decide +kernel)) (by omega) (fun _ _ _ _ _ => pg_name scArrangement.nd rfl (.inl rfl)) fun s' H' C cl' fp D o i hi => ?_
  exact clE (lengthsR R, i + 1) G.lRowsWith (ok_rowsWith G) hr G.gRowsWith (aw_cons (ew_name 3 rfl (pv 3)) (aw_cons (by exact ew_succ (ew_name 5 rfl (pv 5)) ew_int) aw_nil)) (by show (lengthsR R).length ≤ 1000; omega)
theorem ok_aShows (G : Gx P K mg d t g) : FnR P w K mg base CX0 9 g.fAShows (spW (α := (List Int × List (List Int)) × TabD × List PartD) (fun _ z => TabOk z.2.1 ∧ KeyOk z.2.1.cols z.2.2 ∧ z.1.1.length ≤ 1000 ∧ z.1.2.length ≤ 1000 ∧ z.1.2.flatten.length ≤ 1000) (fun z => [rArr K g z.1, rTab K t z.2.1, rKey K d z.2.2]) (fun z => rD K (.bool (showsB (ranksR z.2.1 z.2.2) z.1)))) := by
  obtain ⟨fd, F⟩ := G.lAShows
  refine fn_w F scAShows (F.binds fun _ _ _ _ _ _ us hl => match us, hl with | [_, _, _], _ => rfl) (fun _ => rfl) fun cdv A outer s H E W z hr hp => ⟨none, ?_, fun _ e => nomatch e⟩
  obtain ⟨⟨ns, fs⟩, c, ps⟩ := z
  obtain ⟨hT, hk, hn, hf, hff⟩ := hp
  change TabOk c at hT
  change KeyOk c.cols ps at hk
  change ns.length ≤ 1000 at hn
  change fs.length ≤ 1000 at hf
  change fs.flatten.length ≤ 1000 at hff
  have h2 := hT.two
  have h8 := hT.most
  have T := G.Y.T
  have hRl := ranksR_len (c := c) (ps := ps)
  refine bw_ex1 (cl c G.Y.lCkTable (ok_ckTable G.Y) hr G.Y.gCkTable (aw_cons (ew_name 1 rfl (pv 1)) aw_nil) trivial) ?_
  refine bw_ex1 (mtE (c, ps) (ew_name 1 rfl (pv 1)) G.Y.isiT.cl G.Y.mTCkKey (ok_tCkKey G.Y) hr (aw_cons (ew_name 2 rfl (pv 2)) aw_nil) ⟨hT.cols, hk⟩) ?_
  refine bw_st (N := [some (rArr K g (ns, fs)), some (rTab K t c), some (rKey K d ps), some (rRs K (ranksR c ps)), none]) 3 rfl (mtE (c, ps) (ew_name 1 rfl (pv 1)) G.Y.isiT.cl G.mAllRanks (ok_allRanks G) hr (aw_cons (ew_name 2 rfl (pv 2)) aw_nil) ⟨hT, hk⟩) scAShows.nd ?_
  show Bw _ W _ _ ⟨rD K (.bool (showsB (ranksR c ps) (ns, fs))), none, none, none⟩
  generalize ranksR c ps = R at hRl ⊢
  have hcap : (R.map (rInts K)).length = R.length := List.length_map _
  refine bw_cons (N := [some (rArr K g (ns, fs)), some (rTab K t c), some (rKey K d ps), some (rAnd ((stB R ns && fs.all (flB R)) = true) (rRs K R)), none]) (sw_if (d := (!stB R ns) || !fs.all (flB R)) (tw_l (lw_or (c := !stB R ns) (d := !fs.all (flB R)) (tw_not (tw_val (clE (R, ns) G.lAreSteady (ok_areSteady G) hr G.gAreSteady (aw_cons (ew_name 3 rfl (pv 3)) (aw_cons (fl (ew_name 0 rfl (pv 0)) G.isiA.cl G.nAs) aw_nil)) ⟨by show R.length ≤ 1000; omega, hn⟩) (by intro _; rfl))) fun _ => lw_one (tw_not (tw_val ?hall (by intro _; rfl))))) (fun h => bw_one (sw_nx (sw_ret ?hno))) fun h => bw_say 3 rfl (show (stB R ns && fs.all (flB R)) = true by cases h1 : stB R ns <;> cases h3 : fs.all (flB R) <;> simp_all) (bw_nilN rfl)) ?_
  case hall =>
    rw [← all_range fs [] (flB R)]
    refine ew_allOf (fun i => flB R (fs.getD i [])) rfl rfl T.bAll (ew_lcAll 4 (y := "fall") _ rfl scAShows.nd (n := fs.length) (item := fun i => (fs.map fun f => rD K (intsT f)).getD i rNon) (iw_n (by exact iw_lst (rl := fs.map fun f => rD K (intsT f)) (by exact fl (ew_name 0 rfl (pv 0)) G.isiA.cl G.nAf)) (by simp)) (blkOk_by (N := ["self", "table", "key", "ranks", "fall"]) (sc := defScope sAShows) (by decide +kernel)) hf (fun _ _ _ _ _ => pg_name scAShows.nd rfl (.inl rfl)) fun s' H' C cl' fp D o i hi => ?_)
    rw [getD_of (falls_get hi)]
    refine clE (R, fs.getD i []) G.lAreFall (ok_areFall G) hr G.gAreFall (aw_cons (ew_name 3 rfl (pv 3)) (aw_cons (ew_name 4 rfl (pv 4)) aw_nil)) ⟨by show R.length ≤ 1000; omega, ?_⟩
    show (fs.getD i []).length ≤ 1000
    refine Nat.le_trans ?_ hff
    have e1 : fs.getD i [] = fs[i] := by rw [List.getD_eq_getElem?_getD, List.getElem?_eq_getElem hi] <;> rfl
    rw [e1]
    exact (List.sublist_flatten_of_mem (List.getElem_mem hi)).length_le
  case hno =>
    have e1 : showsB R (ns, fs) = false := by
      show ((stB R ns && fs.all (flB R)) && _) = false
      cases h1 : stB R ns <;> cases h3 : fs.all (flB R) <;> simp_all
    show Ew _ W _ _ (rD K (.bool (showsB R (ns, fs))))
    rw [e1]
    exact ew_bl
  refine bw_know 3 rfl fun hb => bw_ret ?_
  have e1 : showsB R (ns, fs) = (decide ((ns.length : Int) = (fs.length : Nat)) && onceB R.length fs) := by
    show ((stB R ns && fs.all (flB R)) && _) = _
    cases h1 : stB R ns <;> cases h3 : fs.all (flB R) <;> simp_all
  show Ew _ W _ _ (rD K (.bool (showsB R (ns, fs))))
  rw [e1]
  have el : fs.length = (fs.map fun f => rD K (intsT f)).length := by rw [List.length_map]
  exact ew_and (ew_eqInt hr.units (ew_lenInts rfl T.bLen (fl (ew_name 0 rfl (pv 0)) G.isiA.cl G.nAs)) (by rw [el]; exact ew_lenSeq rfl T.bLen (lst_as (by exact fl (ew_name 0 rfl (pv 0)) G.isiA.cl G.nAf)))) fun _ => ew_one (clE (fs, R.length) G.lHoldEach (ok_holdEach G) hr G.gHoldEach (aw_cons (by exact fl (ew_name 0 rfl (pv 0)) G.isiA.cl G.nAf) (aw_cons (by rw [← hcap]; exact ew_lenSeq rfl T.bLen (lst_as (ew_name 3 rfl (pv 3)))) aw_nil)) ⟨hf, hff, by show R.length ≤ 1000; omega⟩)
end
end K11
namespace K11
open PySem L2 Py
theorem len_map_ints {K : PySem.W.Frag} {R : List (List Int)} : (R.map (rInts K)).length = R.length := List.length_map _
theorem cnt_eq {R : List (List Int)} {x : List Int} : ((R.map intsT).countP fun z => PyData.eqv z (intsT x)) = R.countP fun r => decide (r = x) := by
  rw [List.countP_map]
  congr 1
  funext r
  exact eqv_intsT
section
variable {P : Program} {w : PySem.World} {K : PySem.W.Frag} {mg : Str → Option Value} {base : Heap} {d : Ad} {e : Ld} {t : Ae} {g : Ag}
theorem rs_seqD {X : Cx} {W : Py.World} {rs : Rs} {o : Expr} {R : List (List Int)} (h : Ew X W rs o (rLst (R.map (rInts X.K)))) : Ew X W rs o (rD X.K (.list (R.map intsT))) := by
  refine of_lst (ew_sub h fun v H p => ?_)
  obtain ⟨a, xs, h1, h2, h3⟩ := p
  refine ⟨a, xs, h1, h2, ?_⟩
  clear h h2
  induction R generalizing xs with
  | nil => exact h3
  | cons r R ih =>
    cases xs with
    | nil => exact h3.elim
    | cons x xs =>
      refine ⟨?_, ih xs h3.2⟩
      obtain ⟨b, ys, g1, g2, g3⟩ := h3.1
      exact rD_tup.mpr ⟨b, ys, g1, g2, by rw [List.map_map]; exact g3⟩
theorem ok_isPlace (G : Gx P K mg d t g) : FnR P w K mg base CX0 1 g.fIsPlace (spW (α := List (List Int) × List Int × Nat) (fun _ z => z.1.length ≤ 1000) (fun z => [rRs K z.1, rInts K z.2.1, rN K z.2.2]) (fun z => rD K (.bool (placeB z.1 z.2.1 z.2.2)))) := by
  obtain ⟨fd, F⟩ := G.lIsPlace
  refine fn_w F scIsPlace (F.binds fun _ _ _ _ _ _ us hl => match us, hl with | [_, _, _], _ => rfl) (fun _ => rfl) fun cdv A outer s H E W z hr hp => ⟨none, ?_, fun _ e => nomatch e⟩
  obtain ⟨R, x, a⟩ := z
  change R.length ≤ 1000 at hp
  have T := G.Y.T
  refine bw_cons (N := [some (rRs K R), some (rAnd (((R.take a).all fun b => leX b x) = true) (rInts K x)), some (rN K a), none, none]) (sw_if (d := !(R.take a).all fun b => leX b x) (tw_not (tw_val ?hall (by intro _; rfl))) (fun h => bw_one (sw_nx (sw_ret ?hno))) fun h => bw_say 1 rfl (by simpa using h) (bw_nilN rfl)) ?_
  case hall =>
    rw [← all_range (R.take a) [] (fun b => leX b x)]
    refine ew_allOf (fun i => leX (rk (R.take a) i) x) rfl rfl T.bAll (ew_lcAll 3 (y := "before") _ rfl scIsPlace.nd (n := (R.take a).length) (item := fun i => ((R.take a).map (rInts K)).getD i rNon) (iw_n (by exact iw_lst (rl := (R.take a).map (rInts K)) (by rw [List.map_take]; exact ew_takeL (lst_as (ew_name 0 rfl (pv 0))) (ew_name 2 rfl (pv 2)))) len_map_ints) (blkOk_by (N := ["ranks", "rank", "at", "before", "behind"]) (sc := defScope sIsPlace) (by decide +kernel)) (by rw [List.length_take]; omega) (fun _ _ _ _ _ => pg_name scIsPlace.nd rfl (.inl rfl)) fun s' H' C cl' fp D o i hi => ?_)
    rw [getD_of (rs_get hi)]
    exact ew_leT (units0 hr) (ew_name 3 rfl (pv 3)) (ew_name 1 rfl (pv 1))
  case hno =>
    have e1 : placeB R x a = false := by
      unfold placeB
      rw [(by simpa using h : ((R.take a).all fun b => leX b x) = false)] <;> rfl
    show Ew _ W _ _ (rD K (.bool (placeB R x a)))
    rw [e1]
    exact ew_bl
  refine bw_know 1 rfl fun hb => bw_ret ?_
  have e1 : placeB R x a = (R.drop a).all fun b => leX x b := by
    unfold placeB
    rw [hb] <;> rfl
  show Ew _ W _ _ (rD K (.bool (placeB R x a)))
  rw [e1, ← all_range (R.drop a) [] (fun b => leX x b)]
  refine ew_allOf (fun i => leX x (rk (R.drop a) i)) rfl rfl T.bAll (ew_lcAll 4 (y := "behind") _ rfl scIsPlace.nd (n := (R.drop a).length) (item := fun i => ((R.drop a).map (rInts K)).getD i rNon) (iw_n (by exact iw_lst (rl := (R.drop a).map (rInts K)) (by rw [List.map_drop]; exact ew_dropL (lst_as (ew_name 0 rfl (pv 0))) (ew_name 2 rfl (pv 2)))) len_map_ints) (blkOk_by (N := ["ranks", "rank", "at", "before", "behind"]) (sc := defScope sIsPlace) (by decide +kernel)) (by rw [List.length_drop]; omega) (fun _ _ _ _ _ => pg_name scIsPlace.nd rfl (.inl rfl)) fun s' H' C cl' fp D o i hi => ?_)
  rw [getD_of (rs_get hi)]
  exact ew_leT (units0 hr) (ew_name 1 rfl (pv 1)) (ew_name 4 rfl (pv 4))
theorem ok_places (G : Gx P K mg d t g) : FnR P w K mg base CX0 9 g.fPlaces (spW (α := TabD × List Cell × List PartD) (fun _ z => TabOk z.1 ∧ RowOk z.1.cols z.2.1 ∧ KeyOk z.1.cols z.2.2) (fun z => [rTab K t z.1, rD K (rowD z.2.1), rKey K d z.2.2]) (fun z => rNats K (placesR (ranksR z.1 z.2.2) (ranks z.1.cols z.2.1 z.2.2)))) := by
  obtain ⟨fd, F⟩ := G.lPlaces
  refine fn_w F scPlaces (F.binds fun _ _ _ _ _ _ us hl => match us, hl with | [_, _, _], _ => rfl) (fun _ => rfl) fun cdv A outer s H E W z hr hp => ⟨none, ?_, fun _ e => nomatch e⟩
  obtain ⟨c, row, ps⟩ := z
  obtain ⟨hT, hrow, hk⟩ := hp
  change TabOk c at hT
  change RowOk c.cols row at hrow
  change KeyOk c.cols ps at hk
  have h8 := hT.most
  have T := G.Y.T
  have hRl := ranksR_len (c := c) (ps := ps)
  refine bw_ex1 (cl c G.Y.lCkTable (ok_ckTable G.Y) hr G.Y.gCkTable (aw_cons (ew_name 0 rfl (pv 0)) aw_nil) trivial) ?_
  refine bw_ex1 (mtE (c, row) (ew_name 0 rfl (pv 0)) G.Y.isiT.cl G.Y.mTCkRow (ok_tCkRow G.Y) hr (aw_cons (ew_name 1 rfl (pv 1)) aw_nil) ⟨hT.cols, hrow⟩) ?_
  refine bw_ex1 (mtE (c, ps) (ew_name 0 rfl (pv 0)) G.Y.isiT.cl G.Y.mTCkKey (ok_tCkKey G.Y) hr (aw_cons (ew_name 2 rfl (pv 2)) aw_nil) ⟨hT.cols, hk⟩) ?_
  refine bw_st (N := [some (rTab K t c), some (rD K (rowD row)), some (rKey K d ps), some (rRs K (ranksR c ps)), none]) 3 rfl (mtE (c, ps) (ew_name 0 rfl (pv 0)) G.Y.isiT.cl G.mAllRanks (ok_allRanks G) hr (aw_cons (ew_name 2 rfl (pv 2)) aw_nil) ⟨hT, hk⟩) scPlaces.nd (bw_ret ?_)
  show Ew _ W _ _ (rNats K (placesR (ranksR c ps) (ranks c.cols row ps)))
  generalize ranksR c ps = R at hRl ⊢
  have hcap : (R.map (rInts K)).length = R.length := List.length_map _
  show Ew _ W _ _ (rLst (takes (fun i => rN K i) (placeB R (ranks c.cols row ps)) (R.length + 1)))
  refine ew_lc (g := gName 4) (n := R.length + 1) (item := fun i => rD K (.int i)) (own := [("at", 4)]) _ _ (fun i => [some (rTab K t c), some (rD K (rowD row)), some (rKey K d ps), some (rRs K R), some (rN K i)]) rfl scPlaces.nd (iw_n (by exact iw_range1 (j := ((R.length : Int) + 1)) rfl G.Y.bRange (ew_add (by rw [← hcap]; exact ew_lenSeq rfl T.bLen (lst_as (ew_name 3 rfl (pv 3)))) ew_int) (by omega)) (by omega)) (blkOk_by (N := ["table", "row", "key", "ranks", "at"]) (sc := defScope sPlaces) (by decide +kernel)) (by omega) (fun _ _ _ _ _ => pg_name scPlaces.nd rfl (.inl rfl)) (fun i hi => own_name) ?_ ?_
  · intro s' H' C cl' fp D o i hi
    exact pts_w (tw_val (clE (R, ranks c.cols row ps, i) G.lIsPlace (ok_isPlace G) hr G.gIsPlace (aw_cons (ew_name 3 rfl (pv 3)) (aw_cons (mtE (c, row, ps) (ew_name 0 rfl (pv 0)) G.Y.isiT.cl G.Y.mTRanks (ok_tRanks G.Y) hr (aw_cons (ew_name 1 rfl (pv 1)) (aw_cons (ew_name 2 rfl (pv 2)) aw_nil)) ⟨hT.cols, hrow, hk⟩) (aw_cons (ew_name 4 rfl (pv 4)) aw_nil))) (by show R.length ≤ 1000; omega)) (by intro _; rfl))
  · intro s' H' C cl' fp D o i hi _
    exact (ew_name 4 rfl (pv 4))
theorem ok_sortedIndex (G : Gx P K mg d t g) : FnR P w K mg base CX0 1 g.fSortedIndex (spW (α := List (List Int) × Nat) (fun _ z => z.1.length ≤ 1000 ∧ z.2 < z.1.length) (fun z => [rRs K z.1, rN K z.2]) (fun z => rN K (sIx z.1 z.2))) := by
  obtain ⟨fd, F⟩ := G.lSortedIndex
  refine fn_w F scSortedIndex (F.binds fun _ _ _ _ _ _ us hl => match us, hl with | [_, _], _ => rfl) (fun _ => rfl) fun cdv A outer s H E W z hr hp => ⟨none, ?_, fun _ e => nomatch e⟩
  obtain ⟨R, a⟩ := z
  obtain ⟨hR, ha⟩ := hp
  change R.length ≤ 1000 at hR
  change a < R.length at ha
  have T := G.Y.T
  have pi : ∀ {x : Str} {pp : Pos}, PlainIx (.Name x pp) := fun _ _ => rfl
  refine bw_cons (N := [some (rRs K R), some (rN K a), some (rLst (takes (fun i => rInts K (rk R i)) (fun i => HT.lexLt (rk R i) (rk R a)) R.length)), none]) (sw_lc 2 (n := R.length) (item := fun i => (R.map (rInts K)).getD i rNon) (own := [("rank", 3)]) (g := gName 3) _ _ (fun i => [some (rRs K R), some (rN K a), none, some (rInts K (rk R i))]) rfl scSortedIndex.nd (iw_n (by exact iw_lst (ew_name 0 rfl (pv 0))) len_map_ints) (blkOk_by (N := ["ranks", "at", "smaller", "rank"]) (sc := defScope sSortedIndex) (by decide +kernel)) hR rfl rfl rfl (fun _ _ _ _ _ => pg_name scSortedIndex.nd rfl (.inl rfl)) (fun i hi => by rw [getD_of (rs_get hi)]; exact own_name) (fun s' H' C cl' fp D o i hi => pts_w (tw_ltT (units0 hr) (ew_name 3 rfl (pv 3)) (ew_rk a (ew_name 0 rfl (pv 0)) (ew_name 1 rfl (pv 1)) rfl ha pi))) (fun s' H' C cl' fp D o i hi _ => (ew_name 3 rfl (pv 3)))) (bw_ret ?_)
  show Ew _ W _ _ (rD K (.int (((R.filter fun r => HT.lexLt r (rk R a)).length + (R.take a).countP fun r => decide (r = rk R a) : Nat) : Int)))
  have e1 : (((R.filter fun r => HT.lexLt r (rk R a)).length + ((R.take a).countP fun r => decide (r = rk R a)) : Nat) : Int) = ((takes (fun i => rInts K (rk R i)) (fun i => HT.lexLt (rk R i) (rk R a)) R.length).length : Int) + (((R.take a).map intsT).countP (fun z => PyData.eqv z (intsT (rk R a))) : Nat) := by
    have := takes_filter R [] (rInts K) (fun r => HT.lexLt r (rk R a))
    have e2 : takes (fun i => rInts K (rk R i)) (fun i => HT.lexLt (rk R i) (rk R a)) R.length = (R.filter fun r => HT.lexLt r (rk R a)).map (rInts K) := this
    rw [e2, List.length_map, cnt_eq]
    omega
  rw [e1]
  exact ew_add (ew_lenSeq rfl T.bLen (lst_as (ew_name 2 rfl (pv 2)))) (ew_countD (units65 hr) (rs_seqD (by rw [List.map_take]; exact ew_takeL (lst_as (ew_name 0 rfl (pv 0))) (ew_name 1 rfl (pv 1)))) (ints_D (ew_rk a (ew_name 0 rfl (pv 0)) (ew_name 1 rfl (pv 1)) rfl ha pi)) (shp_lst (k := 1) (shp_map fun _ _ => shp_intsT)).ok shp_intsT.ok)
theorem ok_sortedRows (G : Gx P K mg d t g) : FnR P w K mg base CX0 9 g.fSortedRows (spW (α := TabD × List PartD) (fun _ z => TabOk z.1 ∧ KeyOk z.1.cols z.2) (fun z => [rTab K t z.1, rKey K d z.2]) (fun z => rTab K t (sortT z.1 z.2))) := by
  obtain ⟨fd, F⟩ := G.lSortedRows
  refine fn_w F scSortedRows (F.binds fun _ _ _ _ _ _ us hl => match us, hl with | [_, _], _ => rfl) (fun _ => rfl) fun cdv A outer s H E W z hr hp => ⟨none, ?_, fun _ e => nomatch e⟩
  obtain ⟨c, ps⟩ := z
  obtain ⟨hT, hk⟩ := hp
  change TabOk c at hT
  change KeyOk c.cols ps at hk
  have h8 := hT.most
  have T := G.Y.T
  have hRl := ranksR_len (c := c) (ps := ps)
  have hsT := sortT_ok hT ps
  refine bw_ex1 (cl c G.Y.lCkTable (ok_ckTable G.Y) hr G.Y.gCkTable (aw_cons (ew_name 0 rfl (pv 0)) aw_nil) trivial) ?_
  refine bw_ex1 (mtE (c, ps) (ew_name 0 rfl (pv 0)) G.Y.isiT.cl G.Y.mTCkKey (ok_tCkKey G.Y) hr (aw_cons (ew_name 1 rfl (pv 1)) aw_nil) ⟨hT.cols, hk⟩) ?_
  refine bw_st (N := [some (rTab K t c), some (rKey K d ps), some (rRs K (ranksR c ps)), none, none, none, none]) 2 rfl (mtE (c, ps) (ew_name 0 rfl (pv 0)) G.Y.isiT.cl G.mAllRanks (ok_allRanks G) hr (aw_cons (ew_name 1 rfl (pv 1)) aw_nil) ⟨hT, hk⟩) scSortedRows.nd ?_
  show Bw _ W _ _ ⟨rTab K t (sortT c ps), none, none, none⟩
  have hd : sortT c ps = ⟨c.cols, sortF (ranksR c ps) c c.rows.length⟩ := rfl
  rw [hd] at hsT ⊢
  generalize ranksR c ps = R at hRl hsT ⊢
  refine bw_st (N := [some (rTab K t c), some (rKey K d ps), some (rRs K R), some (rLst ((c.rows.map rowD).map (rD K))), none, none, none]) 3 rfl (by exact pr c (ew_name 0 rfl (pv 0)) G.Y.isiT.cl G.Y.qTRows (ok_tRows G.Y) hr trivial) scSortedRows.nd ?_
  refine bw_of_br (br_new (rl := ((sortF R c 0).map rowD).map (rD K)) 4 (en_listL rfl T.bList (lst_as (ew_name 3 rfl (pv 3)))) scSortedRows.nd fun D xs => ?_)
  refine br_cons (sz_for (β := List V) (n := c.rows.length) (item := fun i => rTup K [rD K (.int i), ((c.rows.map rowD).map (rD K)).getD i rNon]) (fun xs => .lst xs) (fun i xs => [some (rTab K t c), some (rKey K d ps), some (rRs K R), some (rLst ((c.rows.map rowD).map (rD K))), some (rAtL D (((sortF R c i).map rowD).map (rD K)) xs), none, none]) (fun i xs => [some (rTab K t c), some (rKey K d ps), some (rRs K R), some (rLst ((c.rows.map rowD).map (rD K))), some (rAtL D (((sortF R c i).map rowD).map (rD K)) xs), some (rD K (.int i)), some (((c.rows.map rowD).map (rD K)).getD i rNon)]) xs (i2_n (i2_enum rfl G.Y.bEnum (lst_as (ew_name 3 rfl (pv 3)))) (by simp)) (fun i b hi => gw_tup rfl (gws_cons (gw_name 5 (pg_name scSortedRows.nd rfl (.inl rfl))) (gws_cons (gw_name 6 (pg_name scSortedRows.nd rfl (.inl rfl))) gws_nil))) (fun i b hi => ?_) .never rfl) fun xs => br_out 4 rfl (br_of (W' := fun _ : Unit => W) (rr := fun _ => rTab K t ⟨c.cols, sortF R c c.rows.length⟩) () (bw_ret (mk (fs := fsTab K) ⟨c.cols, sortF R c c.rows.length⟩ G.Y.mkT (ok_tInit G.Y) hr G.Y.gTable (aw_cons (pr c (ew_name 0 rfl (pv 0)) G.Y.isiT.cl G.Y.qTCols (ok_tCols G.Y) hr hT.cols) (aw_cons (of_lst (by exact (ew_name 4 rfl (pv 4)))) aw_nil)) hsT)))
  have ei : ((c.rows.map rowD).map (rD K)).getD i rNon = rD K (rowD (rowAt c i)) := by rw [List.map_map, getD_map' (rowAt_get hi)] <;> rfl
  rw [ei]
  obtain ⟨hl, _⟩ := sortF_ok R c hT i (by omega)
  have es : sortF R c (i + 1) = (sortF R c i).set (sIx R i) (rowAt c i) := by unfold sortF; rw [List.range_succ, List.foldl_append]; rfl
  rw [es]
  generalize sortF R c i = fs at hl ⊢
  have hiR : i < R.length := by omega
  have hs := sIx_lt hiR
  refine bz_cons (sz_setAt 4 rfl (j := sIx R i) rfl (by rw [List.length_map, List.length_map]; omega) (ew_name 4 rfl (pv 4)) (cl (R, i) G.lSortedIndex (ok_sortedIndex G) hr G.gSortedIndex (aw_cons (ew_name 2 rfl (pv 2)) (aw_cons (ew_name 5 rfl (pv 5)) aw_nil)) ⟨by show R.length ≤ 1000; omega, hiR⟩) (ew_name 6 rfl (pv 6))) fun y => bz_wipe 5 (bz_wipe 6 (bz_nilN _ rfl ?_))
  have e3 : ((fs.set (sIx R i) (rowAt c i)).map rowD).map (rD K) = ((fs.map rowD).map (rD K)).set (sIx R i) (rD K (rowD (rowAt c i))) := by rw [List.map_set, List.map_set]
  rw [e3] <;> rfl
end
end K11
namespace K11
open PySem L2 Py
/-! ### what the rows come to -/
section
variable {P : Program} {w : PySem.World} {K : PySem.W.Frag} {mg : Str → Option Value} {base : Heap} {d : Ad} {e : Ld} {t : Ae}
theorem dtab {m : Nat} {c : TabD} (h : DOk m c) (hm : m ≤ 8) : TabOk c := ⟨h.1, h.2.1, Nat.le_trans h.2.2.1 hm, h.2.2.2⟩
theorem ok_ltable (L : Lx P K mg d e) (Y : Ty P K mg d t) : FnR P w K mg base CX0 7 e.fLTable (spW (α := TabD) (fun _ z => TabOk z) (fun z => [rDrawn K z]) (fun z => rTab K t z)) := by
  obtain ⟨fd, F⟩ := L.lLTable
  refine fn_w F scLTable (F.binds fun _ _ _ _ _ _ us hl => match us, hl with | [_], _ => rfl) (fun _ => rfl) fun cdv A outer s H E W z hr hp => ⟨none, ?_, fun _ e => nomatch e⟩
  exact bw_one (sw_ret (mk z Y.mkT (ok_tInit Y) hr Y.gTable (aw_cons (ew_ixT (r := rDict (dCols z.cols)) 0 (by exact (ew_name 0 rfl (pv 0))) ew_int rfl rfl (by intro _ _; rfl)) (aw_cons (ew_ixT (r := rRows K z.rows) 1 (by exact (ew_name 0 rfl (pv 0))) ew_int rfl rfl (by intro _ _; rfl)) aw_nil)) hp))
abbrev NRR : List Str := ["_law_state", "_law_drawn_here", "_law_table_here", "_law_columns", "_law_rows", "_law_turn", "_law_parts", "_law_whole", "_law_row", "_law_other", "_law_due", "_law_one", "_law_late", "_law_found", "_law_some", "_law_item", "_law_at", "_law_times", "_law_name", "_law_part_here"]
theorem conv_qs {K : PySem.W.Frag} {cs : Cols} {α : Type} {n : α → Nat} (hn : ∀ c, n c ≤ 4) (v : V) (H : Hp) (h : (rEx fun c => rLst ((List.range (n c)).map fun _ => rQ K cs)).p v H) : ∃ qs : {qs : List QD // qs.length ≤ 4 ∧ ∀ q ∈ qs, QFit cs q}, (rQs K qs.1).p v H := by
  obtain ⟨c, h⟩ := h
  obtain ⟨qs, e, h⟩ := lst_ex h
  have e2 : (qs.map fun q : {q : QD // QFit cs q} => rD K q.1.t) = ((qs.map (·.1)).map QD.t).map (rD K) := by rw [List.map_map, List.map_map]; rfl
  rw [e2] at h
  exact ⟨⟨qs.map (·.1), by rw [List.length_map, e]; exact hn c, fun q hq => by obtain ⟨q', _, rfl⟩ := List.mem_map.mp hq; exact q'.2⟩, rD_lst.mpr (lst_seq h)⟩
theorem pick_row {K : PySem.W.Frag} {cs : Cols} {rows : List (List Cell)} (hr : ∀ r ∈ rows, RowOk cs r) {v : V} {H : Hp} (h : (rEx (α := Fin ((rows.map rowD).map (rD K)).length) fun i => ((rows.map rowD).map (rD K))[i]).p v H) : ∃ row : {row : List Cell // RowOk cs row}, (rD K (rowD row.1)).p v H := by
  obtain ⟨i, h⟩ := h
  have hm : ((rows.map rowD).map (rD K))[i] ∈ (rows.map rowD).map (rD K) := List.getElem_mem _
  obtain ⟨dd, hd, e⟩ := List.mem_map.mp hm
  obtain ⟨r, hr', rfl⟩ := List.mem_map.mp hd
  change (((rows.map rowD).map (rD K))[i]).p v H at h
  exact ⟨⟨r, hr r hr'⟩, by rw [← e] at h; exact h⟩
def dueD (cs : Cols) (row : List Cell) (qs : List QD) (i : Nat) : PyData := ofD (qs.getD i ⟨.plain, "", 0, false⟩).m (cellOf cs row (qs.getD i ⟨.plain, "", 0, false⟩).name).d
theorem due_eq {K : PySem.W.Frag} {cs : Cols} {row : List Cell} {qs : List QD} : ((List.range qs.length).map fun i => rD K (dueD cs row qs i)) = (placeD cs row (parts qs)).map (rD K) := by
  unfold placeD
  rw [List.map_map, List.map_map]
  refine range_map _ _ qs fun i hi => ?_
  unfold dueD
  rw [List.getD_eq_getElem?_getD, List.getElem?_eq_getElem hi]
  show rD K (ofD (qs[i]).m (cellOf cs row (qs[i]).name).d) = rD K (ofD (qs[i]).m (cellOf cs row (qs[i]).m.name).d)
  rw [q_name]
theorem lex_irr : ∀ a : List Int, HT.lexLt a a = false
  | [] => rfl
  | x :: xs => by simp [HT.lexLt, lex_irr xs]
theorem lex_tri : ∀ a b : List Int, a ≠ b → HT.lexLt b a = !HT.lexLt a b
  | [], [], h => absurd rfl h
  | [], _ :: _, _ => rfl
  | _ :: _, [], _ => rfl
  | x :: xs, y :: ys, h => by
    by_cases e : x = y
    · subst e
      have h' : xs ≠ ys := fun c => h (by rw [c])
      have := lex_tri xs ys h'
      simp [HT.lexLt, this]
    · simp only [HT.lexLt]
      have e' : ¬ y = x := fun c => e c.symm
      by_cases l : x < y
      · have : ¬ y < x := by omega
        simp [e, e', l, this]
      · have : y < x := by omega
        simp [e, e', l, this]
theorem lt_cmp (a b : List Int) : HT.lexLt a b = decide (cmpI a b = -1) ∧ HT.lexLt b a = decide (cmpI a b = 1) ∧ decide (a = b) = decide (cmpI a b = 0) := by
  unfold cmpI
  by_cases h : a = b
  · subst h
    rw [if_pos rfl, lex_irr]
    exact ⟨rfl, rfl, by simp⟩
  · rw [if_neg h, lex_tri a b h]
    cases HT.lexLt a b <;> simp [h]
theorem lt_outc {cs : Cols} {r o : List Cell} {ps : List PartD} (h : ColsOk cs) (hr : RowOk cs r) (ho : RowOk cs o) (hp : ∀ p ∈ ps, MeasOk cs p.m) : HT.lexLt (ranks cs r ps) (ranks cs o ps) = decide (outc cs r o ps = -1) ∧ HT.lexLt (ranks cs o ps) (ranks cs r ps) = decide (outc cs r o ps = 1) ∧ decide (ranks cs r ps = ranks cs o ps) = decide (outc cs r o ps = 0) := by
  rw [← cmp_outc h hr ho hp]
  exact lt_cmp _ _
theorem outc_nn {cs : Cols} {r o : List Cell} {ps : List PartD} (h : ColsOk cs) (hr : RowOk cs r) (ho : RowOk cs o) (hp : ∀ p ∈ ps, MeasOk cs p.m) : decide (0 ≤ outc cs r o ps) = !HT.lexLt (ranks cs r ps) (ranks cs o ps) := by
  rw [(lt_outc h hr ho hp).1]
  have h2 := cmp_outc h hr ho hp
  generalize outc cs r o ps = x at h2 ⊢
  have h3 : x = 0 ∨ x = -1 ∨ x = 1 := by
    rw [← h2]
    unfold cmpI
    split
    · exact .inl rfl
    · split
      · exact .inr (.inl rfl)
      · exact .inr (.inr rfl)
  rcases h3 with rfl | rfl | rfl <;> rfl
end
end K11
namespace Py
open PySem PySem.Spec PyProof.Rows L2 RZ
theorem walk_zipTT {K : PySem.W.Frag} {a b : Addr} {xs ys : List V} {n : Nat} (hn : n = min xs.length ys.length) : Walk (ItzT K a b) n (fun H => SqT K H a xs ∧ SqT K H b ys) (YPair (fun i => xs[i]?) (fun i => ys[i]?)) := by
  subst hn
  refine ⟨fun i _ hi q => ?_, fun _ q => ⟨xs, ys, q.1, q.2, by omega⟩, fun i H v H' _ q y => ?_⟩
  · exact ⟨xs, ys, xs[i]'(by omega), ys[i]'(by omega), q.1, q.2, List.getElem?_eq_getElem _, List.getElem?_eq_getElem _⟩
  · obtain ⟨T, x, z, h1, h2, h3, h4, h5⟩ := y
    exact ⟨T, x, z, h1, h2, h3, h4 xs q.1, h5 ys q.2⟩
section
variable {X : Cx} {W : World} {rs : Rs} {a b : Expr} {pos : Pos}
theorem iw_zipT {rl rl' : List Rep} {p tpos : Pos} {elts : List Expr} {kk : Nat} (hg : Gl X "zip") (hm : X.mg "zip" = none) (h : Ew X W rs a (rTup X.K rl)) (h' : Ew X W rs b (rTup X.K rl'))
    (hs : starEach [a, b] X.env = (false, eval a X.env) :: starEach [b] X.env := by rfl) (hs' : starEach [b] X.env = (false, eval b X.env) :: starEach [] X.env := by rfl) (hpl : (backTo pos (starEach [b] X.env)).any (·.1) = false := by rfl) :
    Iw X W rs (.Tuple elts kk tpos) (.Call (.Name "zip" p) [a, b] [] pos) (min rl.length rl'.length) (fun i => rTup X.K [rl.getD i rNon, rl'.getD i rNon]) := by
  refine pi_cs (pi_zipA hg hm (aw_cons h (aw_cons h' aw_nil hs') hs) hs hpl) ?_
  rintro σ H R ⟨k, g, q⟩
  refine ⟨k, g, ?_⟩
  intro vs H1 k1 e1 hp
  obtain ⟨v, v', rfl, ⟨p, xs, ev, hsq, hr⟩, p', xs', ev', hsq', hr'⟩ := reps2 hp
  subst ev
  subst ev'
  have w : Walk (ItzT X.K p p') (min rl.length rl'.length) (fun H => SqT X.K H p xs ∧ SqT X.K H p' xs') (YPair (fun i => xs[i]?) (fun i => xs'[i]?)) := walk_zipTT (by rw [hr.len, hr'.len])
  refine ⟨p, p', xs, xs', rfl, .inr ⟨sqT_mono (W.sub H1) hsq, sqT_mono (W.sub H1) hsq', q (ItzT X.K p p') _ _ H1 w k1 e1 (fun H2 _ e2 => ⟨sqT_mono (e2.trans (W.sub H2)) hsq, sqT_mono (e2.trans (W.sub H2)) hsq'⟩) ?_⟩⟩
  intro i x H2 H3 hi y
  refine .inr (pair_new (G := W.vis H1) y (fun x hx => ?_) (fun x hx => ?_))
  · obtain ⟨r, h1, h2⟩ := hr.get' hx
    rw [getD_of h1]
    exact h2
  · obtain ⟨r, h1, h2⟩ := hr'.get' hx
    rw [getD_of h1]
    exact h2
theorem ew_any {bs : List Bool} {p : Pos} (hc : X.calm = true) (hg : Gl X "any") (hm : X.mg "any" = none) (ha : Ew X W rs a (rLst (bs.map fun q => rD X.K (.bool q)))) (he : starEach [a] X.env = (false, eval a X.env) :: starEach [] X.env := by rfl) (hpl : (backTo pos (starEach [] X.env)).any (·.1) = false := by rfl) : Ew X W rs (.Call (.Name "any" p) [a] [] pos) (rD X.K (.bool (bs.any id))) :=
  ew_callB (cr_any hc) hg hm (by decide +kernel) ha (fun v H k ⟨a, xs, ev, hs, hr⟩ Q q => ⟨a, bs, by rw [ev], .inl (.inl (by rw [← bools hr]; exact W.sub H _ _ hs)), q _ H k (Ex.refl _) (Dp.bl _)⟩) (by decide) (by decide) he hpl
theorem ew_anyOf {pos p : Pos} {n : Nat} (f : Nat → Bool) (hc : X.calm = true) (hg : Gl X "any") (hm : X.mg "any" = none) (h : Ew X W rs a (rLst ((List.range n).map fun i => rD X.K (.bool (f i))))) (he : starEach [a] X.env = (false, eval a X.env) :: starEach [] X.env := by rfl) (hpl : (backTo pos (starEach [] X.env)).any (·.1) = false := by rfl) : Ew X W rs (.Call (.Name "any" p) [a] [] pos) (rD X.K (.bool ((List.range n).any f))) := by
  have e : (List.range n).any f = ((List.range n).map f).any id := by rw [List.any_map] <;> rfl
  rw [e]
  exact ew_any hc hg hm (by rw [List.map_map]; exact h) he hpl
end
end Py
namespace Py
open PySem L2
section
variable {X : Cx} {W : World} {rs : Rs} {a b tg : Expr} {pos p : Pos}
theorem iw_range2 {i j : Int} (hg : Gl X "range") (hm : X.mg "range" = none) (ha : Ew X W rs a (rD X.K (.int i))) (hb : Ew X W rs b (rD X.K (.int j))) (hi : -(2 ^ 62) ≤ i ∧ i < 2 ^ 62) (hj : -(2 ^ 62) ≤ j ∧ j < 2 ^ 62)
    (hs : starEach [a, b] X.env = [(false, eval a X.env), (false, eval b X.env)] := by rfl) (hs2 : starEach [b] X.env = [(false, eval b X.env)] := by rfl) :
    Iw X W rs tg (.Call (.Name "range" p) [a, b] [] pos) (j - i).toNat (fun k => rD X.K (.int (i + k))) := by
  refine pi_cs (pi_range2 hg hm (aw_cons ha (aw_cons hb aw_nil hs2) (by rw [hs, hs2])) hs hs2) ?_
  rintro σ H R ⟨k, g, q⟩
  refine ⟨k, g, ?_⟩
  intro vs H1 k1 e1 hp
  obtain ⟨x, y, rfl, p1, p2⟩ := reps2 hp
  refine ⟨i, j, by rw [rD_int.mp p1, rD_int.mp p2], ⟨hi.1, hi.2, hj.1, hj.2⟩, q (Itr i (j - i).toNat) (fun _ => True) _ H1 walk_range k1 e1 (fun _ _ _ => trivial) ?_⟩
  rintro n x H2 H3 hn ⟨eH, hx⟩
  exact .inl ⟨eH, fun G2 _ _ => rD_int.mpr hx⟩
end
end Py
namespace Py
open PySem L2
section
variable {X : Cx} {W : World} {rs : Rs} {a b : Expr} {pos : Pos}
theorem tw_notInD {d : PyData} {ds : List PyData} (hu : X.A.units + 65 < cLine) (ha : Ew X W rs a (rD X.K d)) (hb : Ew X W rs b (rD X.K (.list ds))) (h1 : SeqAt.shaped d = true) (h2 : SeqAt.shaped (.list ds) = true) (hm : behindInMarks .NotIn b = false := by rfl) : Tw X W rs (.Compare a [.NotIn] [b] pos) (!ds.any fun z => PyData.eqv z d) := tw_cmp (op_notInD hu) ha hb (r2_notInD h1 h2) hm
theorem tw_inD {d : PyData} {ds : List PyData} (hu : X.A.units + 65 < cLine) (ha : Ew X W rs a (rD X.K d)) (hb : Ew X W rs b (rD X.K (.list ds))) (h1 : SeqAt.shaped d = true) (h2 : SeqAt.shaped (.list ds) = true) (hm : behindInMarks .In b = false := by rfl) : Tw X W rs (.Compare a [.In] [b] pos) (ds.any fun z => PyData.eqv z d) := tw_cmp (op_inD hu) ha hb (r2_inD h1 h2) hm
end
end Py
namespace K11
open PySem L2 Py
/-! ### the law's own words for sets -/
abbrev RR (c : TabD) (qs : List QD) : List (List Int) := ranksR c (parts qs)
theorem rk_R {c : TabD} {ps : List PartD} {i : Nat} (h : i < c.rows.length) : rk (ranksR c ps) i = ranks c.cols (rowAt c i) ps := by
  unfold rk ranksR rowAt
  rw [List.getD_eq_getElem?_getD, List.getD_eq_getElem?_getD, List.getElem?_map, List.getElem?_eq_getElem h]
  rfl
theorem gt_le {c : TabD} {qs : List QD} {i j : Nat} (hT : TabOk c) (hq : ∀ q ∈ qs, QFit c.cols q) (hi : i < c.rows.length) (hj : j < c.rows.length) : decide (outc c.cols (rowAt c i) (rowAt c j) (parts qs) = 1) = !leR (RR c qs) i j := by
  unfold leR leX
  rw [Bool.not_not, rk_R hi, rk_R hj]
  exact (lt_outc hT.cols (rowAt_ok hT hi) (rowAt_ok hT hj) (parts_ok hq)).2.1.symm
abbrev rSt (K : PySem.W.Frag) (L : List Nat) : Rep := rD K (natsT L)
theorem nats_tup {X : Cx} {W : Py.World} {rs : Rs} {e : Expr} {L : List Nat} (h : Ew X W rs e (rSt X.K L)) : Ew X W rs e (rTup X.K (nl X.K L)) := by
  have := as_tup h
  rw [List.map_map] at this
  exact this
theorem of_nats {X : Cx} {W : Py.World} {rs : Rs} {e : Expr} {L : List Nat} (h : Ew X W rs e (rTup X.K (nl X.K L))) : Ew X W rs e (rSt X.K L) := of_tup (by rw [List.map_map]; exact h)
theorem any_range {α : Type} (L : List α) (z : α) (p : α → Bool) : (List.range L.length).any (fun i => p (L.getD i z)) = L.any p := by
  have h := all_range L z (fun a => !p a)
  rw [List.any_eq_not_all_not, List.any_eq_not_all_not, h]
def stAt (R : List (List Int)) (L : List Nat) (i : Nat) : Bool := (L.drop (i + 1)).any fun b => !leR R (L.getD i 0) b
def flAt (R : List (List Int)) (L : List Nat) (i : Nat) : Bool := (L.drop (i + 1)).all fun b => !leR R (L.getD i 0) b
def stAll (R : List (List Int)) (L : List Nat) : Bool := (List.range L.length).all fun i => !stAt R L i
def flAll (R : List (List Int)) (L : List Nat) : Bool := (List.range L.length).all fun i => flAt R L i
theorem mem_drop {L : List Nat} {m j : Nat} {n : Nat} (h : ∀ x ∈ L, x < n) (hj : j < (L.drop m).length) : (L.drop m).getD j 0 < n := by
  have e1 : (L.drop m).getD j 0 = (L.drop m)[j] := by rw [List.getD_eq_getElem?_getD, List.getElem?_eq_getElem hj] <;> rfl
  rw [e1]
  exact h _ (List.mem_of_mem_drop (List.getElem_mem hj))
theorem mem_at {L : List Nat} {j : Nat} {n : Nat} (h : ∀ x ∈ L, x < n) (hj : j < L.length) : L.getD j 0 < n := mem_drop (m := 0) h hj
section
variable {P : Program} {w : PySem.World} {K : PySem.W.Frag} {mg : Str → Option Value} {base : Heap} {d : Ad} {e : Ld} {t : Ae} {g : Ag}
theorem rows_at {c : TabD} {i : Nat} (h : i < c.rows.length) : (c.rows.map rowD)[i]? = some (rowD (rowAt c i)) := by
  rw [List.getElem?_map, rowAt_get h]
  rfl
theorem scTurns : FnScope ["_law_drawn_here", "_law_parts", "_law_one", "_law_other"] ["_law_drawn_here", "_law_parts", "_law_one", "_law_other"] (defScope sTurns) := ⟨rfl, rfl, rfl, by decide +kernel, rfl, by decide +kernel, by decide +kernel⟩
theorem ok_turns (L : Lx P K mg d e) (Y : Ty P K mg d t) : FnR P w K mg base CX0 3 e.fTurns (spW (α := TabD × List QD × Nat × Nat) (fun _ z => TabOk z.1 ∧ (∀ q ∈ z.2.1, QFit z.1.cols q) ∧ z.2.2.1 < z.1.rows.length ∧ z.2.2.2 < z.1.rows.length) (fun z => [rDrawn K z.1, rQs K z.2.1, rN K z.2.2.1, rN K z.2.2.2]) (fun z => rD K (.bool (!leR (RR z.1 z.2.1) z.2.2.1 z.2.2.2)))) := by
  obtain ⟨fd, F⟩ := L.lTurns
  refine fn_w F scTurns (F.binds fun _ _ _ _ _ _ us hl => match us, hl with | [_, _, _, _], _ => rfl) (fun _ => rfl) fun cdv A outer s H E W z hr hp => ⟨none, ?_, fun _ e => nomatch e⟩
  obtain ⟨c, qs, i, j⟩ := z
  obtain ⟨hT, hq, hi, hj⟩ := hp
  change TabOk c at hT
  change ∀ q ∈ qs, QFit c.cols q at hq
  change i < c.rows.length at hi
  change j < c.rows.length at hj
  have pi : ∀ {j : Nat} {pp : Pos} {i : Int}, PlainIx (.Constant (.int i) j pp) := fun _ _ => rfl
  have pn : ∀ {x : Str} {pp : Pos}, PlainIx (.Name x pp) := fun _ _ => rfl
  refine bw_ret ?_
  show Ew _ W _ _ (rD K (.bool (!leR (RR c qs) i j)))
  rw [← gt_le hT hq hi hj]
  exact ew_eqInt hr.units (clE (c.cols, rowAt c i, rowAt c j, qs) L.lOutcome (ok_outcome L Y) hr L.gOutcome (aw_cons (ew_ixT (r := rDict (dCols c.cols)) 0 (by exact (ew_name 0 rfl (pv 0))) ew_int rfl rfl pi) (aw_cons (ew_ixLD (ds := c.rows.map rowD) (d := rowD (rowAt c i)) i (ew_ixT (r := rRows K c.rows) 1 (by exact (ew_name 0 rfl (pv 0))) ew_int rfl rfl pi) (ew_name 2 rfl (pv 2)) rfl (rows_at hi) pn) (aw_cons (ew_ixLD (ds := c.rows.map rowD) (d := rowD (rowAt c j)) j (ew_ixT (r := rRows K c.rows) 1 (by exact (ew_name 0 rfl (pv 0))) ew_int rfl rfl pi) (ew_name 3 rfl (pv 3)) rfl (rows_at hj) pn) (aw_cons (ew_name 1 rfl (pv 1)) aw_nil)))) ⟨hT.cols, rowAt_ok hT hi, rowAt_ok hT hj, hq⟩) ew_int
theorem scIsSteady : FnScope ["_law_drawn_here", "_law_parts", "_law_some", "_law_at", "_law_one", "_law_other"] ["_law_drawn_here", "_law_parts", "_law_some"] (defScope sIsSteady) := ⟨rfl, rfl, rfl, by decide +kernel, rfl, by decide +kernel, by decide +kernel⟩
theorem ok_isSteady (L : Lx P K mg d e) (Y : Ty P K mg d t) (hany : mg "any" = none) : FnR P w K mg base CX0 4 e.fIsSteady (spW (α := TabD × List QD × List Nat) (fun _ z => TabOk z.1 ∧ (∀ q ∈ z.2.1, QFit z.1.cols q) ∧ (∀ x ∈ z.2.2, x < z.1.rows.length) ∧ z.2.2.length ≤ 900) (fun z => [rDrawn K z.1, rQs K z.2.1, rSt K z.2.2]) (fun z => rD K (.bool (stAll (RR z.1 z.2.1) z.2.2)))) := by
  obtain ⟨fd, F⟩ := L.lIsSteady
  refine fn_w F scIsSteady (F.binds fun _ _ _ _ _ _ us hl => match us, hl with | [_, _, _], _ => rfl) (fun _ => rfl) fun cdv A outer s H E W z hr hp => ⟨none, ?_, fun _ e => nomatch e⟩
  obtain ⟨c, qs, M⟩ := z
  obtain ⟨hT, hq, hM, h9⟩ := hp
  change TabOk c at hT
  change ∀ q ∈ qs, QFit c.cols q at hq
  change ∀ x ∈ M, x < c.rows.length at hM
  change M.length ≤ 900 at h9
  refine bw_say (q := ∀ j, j < 0 → stAt (RR c qs) M j = false) 1 rfl (fun j hj => absurd hj (Nat.not_lt_zero j)) ?_
  refine bw_cons (N := [some (rDrawn K c), some (rAnd (∀ j, j < M.length → stAt (RR c qs) M j = false) (rQs K qs)), some (rSt K M), none, none, none]) (sw_for (n := M.length) (item := fun i => rTup K [rD K (.int i), (nl K M).getD i rNon]) (fun i => [some (rDrawn K c), some (rAnd (∀ j, j < i → stAt (RR c qs) M j = false) (rQs K qs)), some (rSt K M), none, none, none]) (fun i => [some (rDrawn K c), some (rAnd (∀ j, j < i → stAt (RR c qs) M j = false) (rQs K qs)), some (rSt K M), some (rD K (.int i)), some ((nl K M).getD i rNon), none]) rfl rfl (iw_n (by exact iw_enumT rfl Y.bEnum (nats_tup (ew_name 2 rfl (pv 2)))) nl_len) (fun i hi => gw_tup rfl (gws_cons (gw_name 3 (pg_name scIsSteady.nd rfl (.inl rfl))) (gws_cons (gw_name 4 (pg_name scIsSteady.nd rfl (.inr rfl))) gws_nil))) (fun i hi => ?_) .never rfl) ?_
  · refine bw_know 1 rfl fun hP => ?_
    rw [getD_of (nl_get hi)]
    refine bw_cons (N := [some (rDrawn K c), some (rAnd (∀ j, j < i + 1 → stAt (RR c qs) M j = false) (rQs K qs)), some (rSt K M), some (rD K (.int i)), some (rN K (M.getD i 0)), none]) (sw_if (d := stAt (RR c qs) M i) (tw_val ?hany (by intro _; rfl)) (fun h => bw_one (sw_nx (sw_ret ?hno))) fun h => bw_say 1 rfl (fun j hj => by rcases Nat.lt_succ_iff_lt_or_eq.mp hj with hj | rfl; exact hP j hj; exact h) (bw_nilN rfl)) (bw_wipe 3 (bw_wipe 4 (bw_nilN rfl)))
    case hany =>
      unfold stAt
      rw [← any_range (M.drop (i + 1)) 0 (fun b => !leR (RR c qs) (M.getD i 0) b)]
      refine ew_anyOf (fun j => !leR (RR c qs) (M.getD i 0) ((M.drop (i + 1)).getD j 0)) rfl rfl hany (ew_lcAll 5 (y := "_law_other") _ rfl scIsSteady.nd (n := (M.drop (i + 1)).length) (item := fun j => (nl K (M.drop (i + 1))).getD j rNon) (iw_n (by exact iw_tup (rl := nl K (M.drop (i + 1))) (by unfold nl; rw [List.map_drop]; exact ew_dropA (nats_tup (ew_name 2 rfl (pv 2))) (by exact ew_succ (ew_name 3 rfl (pv 3)) ew_int))) nl_len) (blkOk_by (N := ["_law_drawn_here", "_law_parts", "_law_some", "_law_at", "_law_one", "_law_other"]) (sc := defScope sIsSteady) (by decide +kernel)) (by rw [List.length_drop]; omega) (fun _ _ _ _ _ => pg_name scIsSteady.nd rfl (.inl rfl)) fun s' H' C cl' fp D o j hj => ?_)
      rw [getD_of (nl_get hj)]
      exact clE (c, qs, M.getD i 0, (M.drop (i + 1)).getD j 0) L.lTurns (ok_turns L Y) hr L.gTurns (aw_cons (ew_name 0 rfl (pv 0)) (aw_cons (ew_name 1 rfl (pv 1)) (aw_cons (ew_name 4 rfl (pv 4)) (aw_cons (ew_name 5 rfl (pv 5)) aw_nil)))) ⟨hT, hq, mem_at hM hi, mem_drop hM hj⟩
    case hno =>
      have e1 : stAll (RR c qs) M = false := by
        unfold stAll
        rw [List.all_eq_false]
        exact ⟨i, List.mem_range.mpr hi, by rw [h]; decide⟩
      show Ew _ W _ _ (rD K (.bool (stAll (RR c qs) M)))
      rw [e1]
      exact ew_bl
  · refine bw_know 1 rfl fun hP => bw_ret ?_
    have e1 : stAll (RR c qs) M = true := by
      unfold stAll
      rw [List.all_eq_true]
      exact fun i hi => by rw [hP i (List.mem_range.mp hi)] <;> rfl
    show Ew _ W _ _ (rD K (.bool (stAll (RR c qs) M)))
    rw [e1]
    exact ew_bl
theorem scIsFall : FnScope ["_law_drawn_here", "_law_parts", "_law_some", "_law_at", "_law_one", "_law_other"] ["_law_drawn_here", "_law_parts", "_law_some"] (defScope sIsFall) := ⟨rfl, rfl, rfl, by decide +kernel, rfl, by decide +kernel, by decide +kernel⟩
theorem ok_isFall (L : Lx P K mg d e) (Y : Ty P K mg d t) : FnR P w K mg base CX0 4 e.fIsFall (spW (α := TabD × List QD × List Nat) (fun _ z => TabOk z.1 ∧ (∀ q ∈ z.2.1, QFit z.1.cols q) ∧ (∀ x ∈ z.2.2, x < z.1.rows.length) ∧ z.2.2.length ≤ 900) (fun z => [rDrawn K z.1, rQs K z.2.1, rSt K z.2.2]) (fun z => rD K (.bool (flAll (RR z.1 z.2.1) z.2.2)))) := by
  obtain ⟨fd, F⟩ := L.lIsFall
  refine fn_w F scIsFall (F.binds fun _ _ _ _ _ _ us hl => match us, hl with | [_, _, _], _ => rfl) (fun _ => rfl) fun cdv A outer s H E W z hr hp => ⟨none, ?_, fun _ e => nomatch e⟩
  obtain ⟨c, qs, M⟩ := z
  obtain ⟨hT, hq, hM, h9⟩ := hp
  change TabOk c at hT
  change ∀ q ∈ qs, QFit c.cols q at hq
  change ∀ x ∈ M, x < c.rows.length at hM
  change M.length ≤ 900 at h9
  refine bw_say (q := ∀ j, j < 0 → flAt (RR c qs) M j = true) 1 rfl (fun j hj => absurd hj (Nat.not_lt_zero j)) ?_
  refine bw_cons (N := [some (rDrawn K c), some (rAnd (∀ j, j < M.length → flAt (RR c qs) M j = true) (rQs K qs)), some (rSt K M), none, none, none]) (sw_for (n := M.length) (item := fun i => rTup K [rD K (.int i), (nl K M).getD i rNon]) (fun i => [some (rDrawn K c), some (rAnd (∀ j, j < i → flAt (RR c qs) M j = true) (rQs K qs)), some (rSt K M), none, none, none]) (fun i => [some (rDrawn K c), some (rAnd (∀ j, j < i → flAt (RR c qs) M j = true) (rQs K qs)), some (rSt K M), some (rD K (.int i)), some ((nl K M).getD i rNon), none]) rfl rfl (iw_n (by exact iw_enumT rfl Y.bEnum (nats_tup (ew_name 2 rfl (pv 2)))) nl_len) (fun i hi => gw_tup rfl (gws_cons (gw_name 3 (pg_name scIsFall.nd rfl (.inl rfl))) (gws_cons (gw_name 4 (pg_name scIsFall.nd rfl (.inr rfl))) gws_nil))) (fun i hi => ?_) .never rfl) ?_
  · refine bw_know 1 rfl fun hP => ?_
    rw [getD_of (nl_get hi)]
    refine bw_cons (N := [some (rDrawn K c), some (rAnd (∀ j, j < i + 1 → flAt (RR c qs) M j = true) (rQs K qs)), some (rSt K M), some (rD K (.int i)), some (rN K (M.getD i 0)), none]) (sw_if (d := !flAt (RR c qs) M i) (tw_not (tw_val ?hall (by intro _; rfl))) (fun h => bw_one (sw_nx (sw_ret ?hno))) fun h => bw_say 1 rfl (fun j hj => by rcases Nat.lt_succ_iff_lt_or_eq.mp hj with hj | rfl; exact hP j hj; simpa using h) (bw_nilN rfl)) (bw_wipe 3 (bw_wipe 4 (bw_nilN rfl)))
    case hall =>
      unfold flAt
      rw [← all_range (M.drop (i + 1)) 0 (fun b => !leR (RR c qs) (M.getD i 0) b)]
      refine ew_allOf (fun j => !leR (RR c qs) (M.getD i 0) ((M.drop (i + 1)).getD j 0)) rfl rfl L.T.bAll (ew_lcAll 5 (y := "_law_other") _ rfl scIsFall.nd (n := (M.drop (i + 1)).length) (item := fun j => (nl K (M.drop (i + 1))).getD j rNon) (iw_n (by exact iw_tup (rl := nl K (M.drop (i + 1))) (by unfold nl; rw [List.map_drop]; exact ew_dropA (nats_tup (ew_name 2 rfl (pv 2))) (by exact ew_succ (ew_name 3 rfl (pv 3)) ew_int))) nl_len) (blkOk_by (N := ["_law_drawn_here", "_law_parts", "_law_some", "_law_at", "_law_one", "_law_other"]) (sc := defScope sIsFall) (by decide +kernel)) (by rw [List.length_drop]; omega) (fun _ _ _ _ _ => pg_name scIsFall.nd rfl (.inl rfl)) fun s' H' C cl' fp D o j hj => ?_)
      rw [getD_of (nl_get hj)]
      exact clE (c, qs, M.getD i 0, (M.drop (i + 1)).getD j 0) L.lTurns (ok_turns L Y) hr L.gTurns (aw_cons (ew_name 0 rfl (pv 0)) (aw_cons (ew_name 1 rfl (pv 1)) (aw_cons (ew_name 4 rfl (pv 4)) (aw_cons (ew_name 5 rfl (pv 5)) aw_nil)))) ⟨hT, hq, mem_at hM hi, mem_drop hM hj⟩
    case hno =>
      have e1 : flAll (RR c qs) M = false := by
        unfold flAll
        rw [List.all_eq_false]
        exact ⟨i, List.mem_range.mpr hi, by simpa using h⟩
      show Ew _ W _ _ (rD K (.bool (flAll (RR c qs) M)))
      rw [e1]
      exact ew_bl
  · refine bw_know 1 rfl fun hP => bw_ret ?_
    have e1 : flAll (RR c qs) M = true := by
      unfold flAll
      rw [List.all_eq_true]
      exact fun i hi => hP i (List.mem_range.mp hi)
    show Ew _ W _ _ (rD K (.bool (flAll (RR c qs) M)))
    rw [e1]
    exact ew_bl
end
end K11
namespace K11
open PySem L2 Py
/-! ### all sets of a size, all sets -/
def ofS (n : Nat) : Nat → Nat → List (List Nat)
  | 0, _ => [[]]
  | s + 1, st => (List.range (n - st)).flatMap fun k => (ofS n s (st + k + 1)).map ((st + k) :: ·)
def ofF (n s st m : Nat) : List (List Nat) := (List.range m).flatMap fun k => (ofS n s (st + k + 1)).map ((st + k) :: ·)
def setF (n m : Nat) : List (List Nat) := (List.range m).flatMap fun k => ofS n (n - k) 0
def setsR (n : Nat) : List (List Nat) := setF n (n + 1)
theorem ofF_succ (n s st m : Nat) : ofF n s st (m + 1) = ofF n s st m ++ (ofS n s (st + m + 1)).map ((st + m) :: ·) := by unfold ofF; rw [List.range_succ, List.flatMap_append]; simp
theorem setF_succ (n m : Nat) : setF n (m + 1) = setF n m ++ ofS n (n - m) 0 := by unfold setF; rw [List.range_succ, List.flatMap_append]; simp
theorem ofF_le (n s st : Nat) {m m' : Nat} (h : m ≤ m') : (ofF n s st m).length ≤ (ofF n s st m').length := by
  induction m' with
  | zero => obtain rfl : m = 0 := by omega
            exact Nat.le_refl _
  | succ k ih =>
    by_cases c : m = k + 1
    · subst c; exact Nat.le_refl _
    · exact Nat.le_trans (ih (by omega)) (by rw [ofF_succ, List.length_append]; omega)
theorem setF_le (n : Nat) {m m' : Nat} (h : m ≤ m') : (setF n m).length ≤ (setF n m').length := by
  induction m' with
  | zero => obtain rfl : m = 0 := by omega
            exact Nat.le_refl _
  | succ k ih =>
    by_cases c : m = k + 1
    · subst c; exact Nat.le_refl _
    · exact Nat.le_trans (ih (by omega)) (by rw [setF_succ, List.length_append]; omega)
theorem ofS_mem (n : Nat) : ∀ (s st : Nat) (M : List Nat), M ∈ ofS n s st → M.length = s ∧ ∀ x ∈ M, st ≤ x ∧ x < n
  | 0, st, M, h => by
    obtain rfl : M = [] := by simpa [ofS] using h
    exact ⟨rfl, fun x hx => nomatch hx⟩
  | s + 1, st, M, h => by
    unfold ofS at h
    obtain ⟨k, hk, h⟩ := List.mem_flatMap.mp h
    obtain ⟨M', h1, rfl⟩ := List.mem_map.mp h
    have hk := List.mem_range.mp hk
    obtain ⟨a, b⟩ := ofS_mem n s _ M' h1
    refine ⟨by rw [List.length_cons, a], fun x hx => ?_⟩
    rcases List.mem_cons.mp hx with rfl | hx
    · omega
    · have := b x hx
      omega
theorem ofS_few : ∀ n, n < 7 → ∀ s, s < 7 → ∀ st, st < 8 → (ofS n s st).length ≤ 64 := by decide +kernel
theorem sets_few : ∀ n, n < 7 → (setsR n).length ≤ 64 := by decide +kernel
theorem sets_mem {n : Nat} {M : List Nat} (h : M ∈ setsR n) : M.length ≤ n ∧ ∀ x ∈ M, x < n := by
  unfold setsR setF at h
  obtain ⟨k, hk, h⟩ := List.mem_flatMap.mp h
  obtain ⟨a, b⟩ := ofS_mem n _ _ M h
  exact ⟨by omega, fun x hx => (b x hx).2⟩
def ascN (L : List Nat) : Bool := (List.range (L.length - 1)).all fun i => decide ((L.getD i 0 : Int) < (L.getD (i + 1) 0 : Nat))
theorem r2_I0K {K : PySem.W.Frag} {W : Py.World} {g : Int → Int → V} {i j : Int} {d : PyData} (hd : ∀ H, Dp K H (g i j) d) : R2w W (rI0 g) (rD K (.int i)) (rD K (.int j)) (rD K d) := fun x y H k p q Q h => ⟨i, j, rD_int.mp p, rD_int.mp q, h _ H k (Ex.refl _) (hd _)⟩
theorem ew_pred {X : Cx} {W : Py.World} {rs : Rs} {a b : Expr} {pos : Pos} {i : Nat} (h : Ew X W rs a (rN X.K (i + 1))) (h1 : Ew X W rs b (rD X.K (.int 1))) : Ew X W rs (.BinOp a .Sub b pos) (rN X.K i) := by
  show Ew X W rs _ (rD X.K (.int (i : Int)))
  rw [show (i : Int) = ((i + 1 : Nat) : Int) - 1 from by omega]
  exact ew_subI h h1
section
variable {P : Program} {w : PySem.World} {K : PySem.W.Frag} {mg : Str → Option Value} {base : Heap} {d : Ad} {e : Ld} {t : Ae} {g : Ag}
theorem scOfSize : FnScope ["_law_many", "_law_size", "_law_start", "_law_found", "_law_at", "_law_one"] ["_law_many", "_law_size", "_law_start"] (defScope sOfSize) := ⟨rfl, rfl, rfl, by decide +kernel, rfl, by decide +kernel, by decide +kernel⟩
theorem ok_ofSize (L : Lx P K mg d e) (Y : Ty P K mg d t) : ∀ sz : Nat, FnR P w K mg base CX0 (sz + 1) e.fOfSize (spW (α := Nat × Nat) (fun _ z => z.1 ≤ 6 ∧ sz ≤ 6 ∧ z.2 ≤ z.1) (fun z => [rN K z.1, rN K sz, rN K z.2]) (fun z => rLst ((ofS z.1 sz z.2).map (rSt K))))
  | 0 => by
    obtain ⟨fd, F⟩ := L.lOfSize
    refine fn_w F scOfSize (F.binds fun _ _ _ _ _ _ us hl => match us, hl with | [_, _, _], _ => rfl) (fun _ => rfl) fun cdv A outer s H E W z hr hp => ⟨none, ?_, fun _ e => nomatch e⟩
    obtain ⟨n, st⟩ := z
    refine bw_yes (tw_eq (tw_eqD hr.units (ew_name 1 rfl (pv 1)) ew_int shp_int.ok shp_int.ok) (by rw [eqv_ints] <;> rfl)) (bw_ret ?_)
    show Ew _ W _ _ (rLst [rSt K []])
    exact ew_lst (aw_cons (ew_tupD aw_nil (by simp)) aw_nil) (by simp)
  | sz + 1 => by
    have ih := ok_ofSize L Y sz
    obtain ⟨fd, F⟩ := L.lOfSize
    refine fn_w F scOfSize (F.binds fun _ _ _ _ _ _ us hl => match us, hl with | [_, _, _], _ => rfl) (fun _ => rfl) fun cdv A outer s H E W z hr hp => ⟨none, ?_, fun _ e => nomatch e⟩
    obtain ⟨n, st⟩ := z
    obtain ⟨hn, hs, hst⟩ := hp
    change n ≤ 6 at hn
    change st ≤ n at hst
    refine bw_no (tw_eq (tw_eqD (d := .int ((sz + 1 : Nat) : Int)) hr.units (ew_name 1 rfl (pv 1)) ew_int shp_int.ok shp_int.ok) (by rw [eqv_ints]; exact decide_eq_false (by omega))) ?_
    refine bw_st (N := [some (rN K n), some (rN K (sz + 1)), some (rN K st), some (rLst ((ofF n sz st 0).map (rSt K))), none, none]) 3 rfl (ew_lst aw_nil (by simp [ofF])) scOfSize.nd ?_
    refine bw_cons (N := [some (rN K n), some (rN K (sz + 1)), some (rN K st), some (rLst ((ofF n sz st (n - st)).map (rSt K))), none, none]) (sw_for (n := n - st) (item := fun k => rD K (.int ((st : Int) + (k : Nat)))) (fun k => [some (rN K n), some (rN K (sz + 1)), some (rN K st), some (rLst ((ofF n sz st k).map (rSt K))), none, none]) (fun k => [some (rN K n), some (rN K (sz + 1)), some (rN K st), some (rLst ((ofF n sz st k).map (rSt K))), some (rD K (.int ((st : Int) + (k : Nat)))), none]) rfl rfl (iw_n (by exact iw_range2 (i := (st : Int)) (j := (n : Int)) rfl L.bRange (ew_name 2 rfl (pv 2)) (ew_name 0 rfl (pv 0)) (by omega) (by omega)) (by omega)) (fun k hk => gw_name 4 (pg_name scOfSize.nd rfl (.inr rfl))) (fun k hk => ?_) .never rfl) (bw_ret (ew_name 3 rfl (pv 3)))
    have hz : (st : Int) + (k : Nat) = ((st + k : Nat) : Int) := by omega
    rw [hz]
    have hf1 := ofS_few n (by omega) sz (by omega) (st + k + 1) (by omega)
    have hf2 := ofS_few n (by omega) (sz + 1) (by omega) st (by omega)
    have hf3 : (ofF n sz st (k + 1)).length ≤ 64 := Nat.le_trans (ofF_le n sz st (show k + 1 ≤ n - st by omega)) hf2
    rw [ofF_succ, List.length_append] at hf3
    rw [ofF_succ n sz st k, List.map_append]
    refine bw_st (N := [some (rN K n), some (rN K (sz + 1)), some (rN K st), some (rLst ((ofF n sz st k).map (rSt K) ++ ((ofS n sz (st + k + 1)).map ((st + k) :: ·)).map (rSt K))), some (rN K (st + k)), none]) 3 rfl (ew_catL (by exact (ew_name 3 rfl (pv 3))) ?lc (by rw [List.length_map, List.length_map]; omega)) scOfSize.nd (bw_wipe 4 (bw_nilN rfl))
    case lc =>
      have er : ((ofS n sz (st + k + 1)).map ((st + k) :: ·)).map (rSt K) = (List.range (ofS n sz (st + k + 1)).length).map fun i => rSt K ((st + k) :: (ofS n sz (st + k + 1)).getD i []) := by
        rw [List.map_map]
        exact (range_map _ _ _ fun i hi => by rw [List.getD_eq_getElem?_getD, List.getElem?_eq_getElem hi] <;> rfl).symm
      rw [er]
      refine ew_lcAll 5 (y := "_law_one") _ rfl scOfSize.nd (n := (ofS n sz (st + k + 1)).length) (item := fun i => ((ofS n sz (st + k + 1)).map (rSt K)).getD i rNon) (iw_n (by exact iw_lst (rl := (ofS n sz (st + k + 1)).map (rSt K)) (clE (n, st + k + 1) L.lOfSize ih hr L.gOfSize (aw_cons (ew_name 0 rfl (pv 0)) (aw_cons (by exact ew_pred (ew_name 1 rfl (pv 1)) ew_int) (aw_cons (by exact ew_succ (ew_name 4 rfl (pv 4)) ew_int) aw_nil))) ⟨hn, by omega, by show st + k + 1 ≤ n; omega⟩ (hk := by omega))) (List.length_map _)) (blkOk_by (N := ["_law_many", "_law_size", "_law_start", "_law_found", "_law_at", "_law_one"]) (sc := defScope sOfSize) (by decide +kernel)) (by omega) (fun _ _ _ _ _ => pg_name scOfSize.nd rfl (.inl rfl)) fun s' H' C cl' fp D o i hi => ?_
      have ei : ((ofS n sz (st + k + 1)).map (rSt K)).getD i rNon = rSt K ((ofS n sz (st + k + 1)).getD i []) := by
        rw [List.getD_eq_getElem?_getD, List.getD_eq_getElem?_getD, List.getElem?_map, List.getElem?_eq_getElem hi]
        rfl
      rw [ei]
      have hlen : ((ofS n sz (st + k + 1)).getD i []).length = sz := by
        rw [List.getD_eq_getElem?_getD, List.getElem?_eq_getElem hi]
        exact (ofS_mem n sz _ _ (List.getElem_mem hi)).1
      exact ew_catTD (ds := [.int ((st + k : Nat) : Int)]) (ew_tupD (aw_cons (ew_name 4 rfl (pv 4)) aw_nil) (by simp)) (ew_name 5 rfl (pv 5)) (by simp only [List.length_map, List.length_singleton]; omega)
theorem scSets : FnScope ["_law_many", "_law_found", "_law_less"] ["_law_many"] (defScope sSets) := ⟨rfl, rfl, rfl, by decide +kernel, rfl, by decide +kernel, by decide +kernel⟩
theorem ok_sets (L : Lx P K mg d e) (Y : Ty P K mg d t) : FnR P w K mg base CX0 8 e.fSets (spW (α := Nat) (fun _ z => z ≤ 6) (fun z => [rN K z]) (fun z => rLst ((setsR z).map (rSt K)))) := by
  obtain ⟨fd, F⟩ := L.lSets
  refine fn_w F scSets (F.binds fun _ _ _ _ _ _ us hl => match us, hl with | [_], _ => rfl) (fun _ => rfl) fun cdv A outer s H E W z hr hp => ⟨none, ?_, fun _ e => nomatch e⟩
  obtain ⟨n, en⟩ : ∃ n, n = z := ⟨z, rfl⟩
  subst en
  change n ≤ 6 at hp
  refine bw_st (N := [some (rN K n), some (rLst ((setF n 0).map (rSt K))), none]) 1 rfl (ew_lst aw_nil (by simp [setF])) scSets.nd ?_
  refine bw_cons (N := [some (rN K n), some (rLst ((setF n (n + 1)).map (rSt K))), none]) (sw_for (n := n + 1) (item := fun k => rD K (.int k)) (fun k => [some (rN K n), some (rLst ((setF n k).map (rSt K))), none]) (fun k => [some (rN K n), some (rLst ((setF n k).map (rSt K))), some (rN K k)]) rfl rfl (iw_n (by exact iw_range1 (j := ((n : Int) + 1)) rfl L.bRange (ew_add (ew_name 0 rfl (pv 0)) ew_int) (by omega)) (by omega)) (fun k hk => gw_name 2 (pg_name scSets.nd rfl (.inl rfl))) (fun k hk => ?_) .never rfl) (bw_ret (ew_name 1 rfl (pv 1)))
  have hf1 := sets_few n (by omega)
  have hf3 : (setF n (k + 1)).length ≤ 64 := Nat.le_trans (setF_le n (show k + 1 ≤ n + 1 by omega)) hf1
  rw [setF_succ, List.length_append] at hf3
  rw [setF_succ n k, List.map_append]
  refine bw_st (N := [some (rN K n), some (rLst ((setF n k).map (rSt K) ++ (ofS n (n - k) 0).map (rSt K))), some (rN K k)]) 1 rfl (ew_catL (by exact (ew_name 1 rfl (pv 1))) (clE (n, 0) L.lOfSize (ok_ofSize L Y (n - k)) hr L.gOfSize (aw_cons (ew_name 0 rfl (pv 0)) (aw_cons ?sub (aw_cons ew_int aw_nil))) ⟨hp, by omega, by show 0 ≤ n; omega⟩ (hk := by omega)) (by rw [List.length_map, List.length_map]; omega)) scSets.nd (bw_wipe 2 (bw_nilN rfl))
  case sub =>
    show Ew _ W _ _ (rD K (.int ((n - k : Nat) : Int)))
    rw [show ((n - k : Nat) : Int) = (n : Int) - (k : Int) from by omega]
    exact ew_subI (ew_name 0 rfl (pv 0)) (ew_name 2 rfl (pv 2))
theorem scAscends : FnScope ["_law_some", "_law_many", "_law_one", "_law_other"] ["_law_some", "_law_many"] (defScope sAscends) := ⟨rfl, rfl, rfl, by decide +kernel, rfl, by decide +kernel, by decide +kernel⟩
theorem ok_ascends (L : Lx P K mg d e) (Y : Ty P K mg d t) : FnR P w K mg base CX0 1 e.fAscends (spW (α := List Nat × Nat) (fun _ z => (∀ x ∈ z.1, x < z.2) ∧ z.1.length ≤ 900) (fun z => [rSt K z.1, rN K z.2]) (fun z => rD K (.bool (ascN z.1)))) := by
  obtain ⟨fd, F⟩ := L.lAscends
  refine fn_w F scAscends (F.binds fun _ _ _ _ _ _ us hl => match us, hl with | [_, _], _ => rfl) (fun _ => rfl) fun cdv A outer s H E W z hr hp => ⟨none, ?_, fun _ e => nomatch e⟩
  obtain ⟨M, n⟩ := z
  obtain ⟨hM, h9⟩ := hp
  change ∀ x ∈ M, x < n at hM
  change M.length ≤ 900 at h9
  have T := L.T
  show Bw _ W [some (rSt K M), some (rN K n), none, none] _ ⟨rD K (.bool (ascN M)), none, none, none⟩
  refine bw_no (tw_eq (tw_not (c := true) (tw_val ?hall (by intro _; rfl))) rfl) ?_
  case hall =>
    have et : ((List.range M.length).all fun i => decide ((0 : Int) ≤ (M.getD i 0 : Nat)) && decide ((M.getD i 0 : Int) < (n : Nat))) = true := by
      rw [List.all_eq_true]
      intro i hi
      have := mem_at hM (List.mem_range.mp hi)
      rw [decide_eq_true (by omega), decide_eq_true (by omega)] <;> rfl
    rw [← et]
    refine ew_allOf _ rfl rfl T.bAll (ew_lcAll 2 (y := "_law_one") _ rfl scAscends.nd (n := M.length) (item := fun j => (nl K M).getD j rNon) (iw_n (by exact iw_tup (nats_tup (ew_name 0 rfl (pv 0)))) nl_len) (blkOk_by (N := ["_law_some", "_law_many", "_law_one", "_law_other"]) (sc := defScope sAscends) (by decide +kernel)) (by omega) (fun _ _ _ _ _ => pg_name scAscends.nd rfl (.inl rfl)) fun s' H' C cl' fp D o j hj => ?_)
    rw [getD_of (nl_get hj)]
    exact ew_chain op_le op_lt ew_int (ew_name 2 rfl (pv 2)) (ew_name 1 rfl (pv 1)) (r2_I0K fun _ => Dp.bl _) (fun _ => r2_I0K fun _ => Dp.bl _)
  refine bw_ret ?_
  show Ew _ W _ _ (rD K (.bool (ascN M)))
  unfold ascN
  refine ew_allOf _ rfl rfl T.bAll ?_
  rw [← Py.takes_all]
  refine ew_lc (g := gTup K 2 (gCons (gName 2) (gCons (gName 3) gNil))) (n := M.length - 1) (item := fun i => rTup K [(nl K M).getD i rNon, ((nl K M).drop 1).getD i rNon]) (own := [("_law_one", 2), ("_law_other", 3)]) _ _ (fun i => [some (rSt K M), some (rN K n), some (rN K (M.getD i 0)), some (rN K (M.getD (i + 1) 0))]) rfl scAscends.nd (iw_n (by exact iw_zipT rfl Y.bZip (nats_tup (ew_name 0 rfl (pv 0))) (ew_dropA (m := 1) (nats_tup (ew_name 0 rfl (pv 0))) ew_int)) (by rw [List.length_drop, nl_len]; omega)) (blkOk_by (N := ["_law_some", "_law_many", "_law_one", "_law_other"]) (sc := defScope sAscends) (by decide +kernel)) (by omega) (fun _ _ _ _ _ => pg_tup rfl (pgs_cons (pg_name (i := 2) scAscends.nd rfl (.inl rfl)) (pgs_cons (pg_name (i := 3) scAscends.nd rfl (.inl rfl)) pgs_nil))) (fun i hi => ?_) (fun _ _ _ _ _ _ _ _ _ => pts_yes) ?_
  · have e2 : ((nl K M).drop 1).getD i rNon = rN K (M.getD (i + 1) 0) := getD_of (by rw [List.getElem?_drop, Nat.add_comm]; exact nl_get (by omega))
    rw [getD_of (nl_get (show i < M.length by omega)), e2]
    exact own_pair (K := K) (i := 2) (j := 3) (by decide)
  · intro s' H' C cl' fp D o i hi _
    exact ew_lt (ew_name 2 rfl (pv 2)) (ew_name 3 rfl (pv 3))
end
end K11
namespace K11
open PySem L2 Py
/-! ### what the law asks of an arrangement; its places -/
def coverB (n : Nat) (L : List Nat) : Bool := decide ((L.length : Int) = (n : Nat)) && (List.range n).all fun a => L.any fun b => decide ((b : Int) = (a : Nat))
def fallB (R : List (List Int)) (f : List Nat) : Bool := ascN f && flAll R f
def shownB (R : List (List Int)) (S : List Nat) (fs : List (List Nat)) : Bool := ascN S && (stAll R S && (decide ((fs.length : Int) = (S.length : Nat)) && (fs.all (fallB R) && coverB R.length fs.flatten)))
def rFn (K : PySem.W.Frag) (fs : List (List Nat)) : Rep := rLst (fs.map (rSt K))
theorem fn_get {K : PySem.W.Frag} {fs : List (List Nat)} {i : Nat} (h : i < fs.length) : (fs.map (rSt K))[i]? = some (rSt K (fs.getD i [])) := by
  rw [List.getElem?_map, List.getD_eq_getElem?_getD, List.getElem?_eq_getElem h]
  rfl
theorem any_nat (L : List Nat) (z : Int) : ((L.map fun (n : Nat) => PyData.int n).any fun y => PyData.eqv y (.int z)) = L.any fun b => decide ((b : Int) = z) := by
  rw [List.any_map]
  congr 1
theorem shp_natsL {L : List Nat} : SeqAt.shaped (.list (L.map fun (n : Nat) => PyData.int n)) = true := (shp_lst (k := 0) (shp_map fun _ _ => shp_int)).ok
theorem nats_lst {X : Cx} {W : Py.World} {rs : Rs} {e : Expr} {L : List Nat} (h : Ew X W rs e (rNats X.K L)) : Ew X W rs e (rD X.K (.list (L.map fun (n : Nat) => PyData.int n))) := of_lst (by rw [List.map_map]; exact h)
theorem take_flat (fs : List (List Nat)) {i : Nat} (h : i < fs.length) : (fs.take (i + 1)).flatten = (fs.take i).flatten ++ fs.getD i [] := by
  have e1 : fs.getD i [] = fs[i] := by rw [List.getD_eq_getElem?_getD, List.getElem?_eq_getElem h] <;> rfl
  rw [List.take_succ_eq_append_getElem h, List.flatten_append, e1]
  simp
theorem flat_le (fs : List (List Nat)) (i : Nat) : (fs.take i).flatten.length ≤ fs.flatten.length := by
  conv => rhs; rw [← List.take_append_drop i fs, List.flatten_append, List.length_append]
  omega
theorem mem_le {fs : List (List Nat)} {i : Nat} (h : i < fs.length) : (fs.getD i []).length ≤ fs.flatten.length := by
  have e1 : fs.getD i [] = fs[i] := by rw [List.getD_eq_getElem?_getD, List.getElem?_eq_getElem h] <;> rfl
  rw [e1]
  exact (List.sublist_flatten_of_mem (List.getElem_mem h)).length_le
theorem mem_of {fs : List (List Nat)} {i : Nat} {P : List Nat → Prop} (hP : ∀ f ∈ fs, P f) (h : i < fs.length) : P (fs.getD i []) := by
  have e1 : fs.getD i [] = fs[i] := by rw [List.getD_eq_getElem?_getD, List.getElem?_eq_getElem h] <;> rfl
  rw [e1]
  exact hP _ (List.getElem_mem h)
section
variable {P : Program} {w : PySem.World} {K : PySem.W.Frag} {mg : Str → Option Value} {base : Heap} {d : Ad} {e : Ld} {t : Ae} {g : Ag}
abbrev NSh : List Str := ["_law_drawn_here", "_law_parts", "_law_steady", "_law_falls", "_law_many", "_law_every", "_law_some", "_law_at"]
theorem scShown : FnScope ["_law_drawn_here", "_law_parts", "_law_steady", "_law_falls", "_law_many", "_law_every", "_law_some", "_law_at"] ["_law_drawn_here", "_law_parts", "_law_steady", "_law_falls"] (defScope sShown) := ⟨rfl, rfl, rfl, by decide +kernel, rfl, by decide +kernel, by decide +kernel⟩
theorem ok_shown (L : Lx P K mg d e) (Y : Ty P K mg d t) (hany : mg "any" = none) : FnR P w K mg base CX0 5 e.fShown (spW (α := TabD × List QD × List Nat × List (List Nat)) (fun _ z => TabOk z.1 ∧ (∀ q ∈ z.2.1, QFit z.1.cols q) ∧ (∀ x ∈ z.2.2.1, x < z.1.rows.length) ∧ z.2.2.1.length ≤ 900 ∧ (∀ f ∈ z.2.2.2, ∀ x ∈ f, x < z.1.rows.length) ∧ z.2.2.2.length ≤ 900 ∧ z.2.2.2.flatten.length ≤ 900) (fun z => [rDrawn K z.1, rQs K z.2.1, rSt K z.2.2.1, rFn K z.2.2.2]) (fun z => rD K (.bool (shownB (RR z.1 z.2.1) z.2.2.1 z.2.2.2)))) := by
  obtain ⟨fd, F⟩ := L.lShown
  refine fn_w F scShown (F.binds fun _ _ _ _ _ _ us hl => match us, hl with | [_, _, _, _], _ => rfl) (fun _ => rfl) fun cdv A outer s H E W z hr hp => ⟨none, ?_, fun _ e => nomatch e⟩
  obtain ⟨c, qs, S, fs⟩ := z
  obtain ⟨hT, hq, hS, h9, hF, hf9, hff⟩ := hp
  change TabOk c at hT
  change ∀ q ∈ qs, QFit c.cols q at hq
  change ∀ x ∈ S, x < c.rows.length at hS
  change S.length ≤ 900 at h9
  change ∀ f ∈ fs, ∀ x ∈ f, x < c.rows.length at hF
  change fs.length ≤ 900 at hf9
  change fs.flatten.length ≤ 900 at hff
  have T := L.T
  have h8 := hT.most
  have pi : ∀ {j : Nat} {pp : Pos} {i : Int}, PlainIx (.Constant (.int i) j pp) := fun _ _ => rfl
  have hRl : (RR c qs).length = c.rows.length := ranksR_len
  show Bw _ W _ _ ⟨rD K (.bool (shownB (RR c qs) S fs)), none, none, none⟩
  refine bw_st (N := [some (rDrawn K c), some (rQs K qs), some (rSt K S), some (rFn K fs), some (rN K c.rows.length), none, none, none]) 4 rfl (by have e9 : (c.rows.length : Int) = ((c.rows.map rowD).length : Int) := (by rw [List.length_map]); show Ew _ W _ _ (rD K (.int (c.rows.length : Int))); rw [e9]; exact ew_lenD rfl T.bLen (ew_ixT (r := rRows K c.rows) 1 (by exact (ew_name 0 rfl (pv 0))) ew_int rfl rfl pi)) scShown.nd ?_
  refine bw_cons (N := [some (rDrawn K c), some (rQs K qs), some (rSt K S), some (rFn K fs), some (rAnd (ascN S = true) (rN K c.rows.length)), none, none, none]) (sw_if (d := !ascN S) (tw_not (tw_val (clE (S, c.rows.length) L.lAscends (ok_ascends L Y) hr L.gAscends (aw_cons (ew_name 2 rfl (pv 2)) (aw_cons (ew_name 4 rfl (pv 4)) aw_nil)) ⟨hS, h9⟩) (by intro _; rfl))) (fun h => bw_one (sw_nx (sw_ret ?hn1))) fun h => bw_say 4 rfl (by simpa using h) (bw_nilN rfl)) ?_
  case hn1 =>
    have e1 : shownB (RR c qs) S fs = false := by unfold shownB; rw [(by simpa using h : ascN S = false)] <;> rfl
    show Ew _ W _ _ (rD K (.bool (shownB (RR c qs) S fs)))
    rw [e1]
    exact ew_bl
  refine bw_know 4 rfl fun k1 => ?_
  refine bw_cons (N := [some (rDrawn K c), some (rQs K qs), some (rSt K S), some (rFn K fs), some (rAnd (stAll (RR c qs) S = true ∧ (fs.length : Int) = (S.length : Nat)) (rN K c.rows.length)), none, none, none]) (sw_if (d := (!stAll (RR c qs) S) || !decide ((fs.length : Int) = (S.length : Nat))) (tw_l (lw_or (c := !stAll (RR c qs) S) (d := !decide ((fs.length : Int) = (S.length : Nat))) (tw_not (tw_val (clE (c, qs, S) L.lIsSteady (ok_isSteady L Y hany) hr L.gIsSteady (aw_cons (ew_name 0 rfl (pv 0)) (aw_cons (ew_name 1 rfl (pv 1)) (aw_cons (ew_name 2 rfl (pv 2)) aw_nil))) ⟨hT, hq, hS, h9⟩) (by intro _; rfl))) fun _ => lw_one (tw_eq (tw_neD (d := .int (fs.length : Int)) (d' := .int (S.length : Int)) hr.units ?l1 ?l2 shp_int.ok shp_int.ok) (by rw [eqv_ints])))) (fun h => bw_one (sw_nx (sw_ret ?hn2))) fun h => bw_say 4 rfl (by simpa using h) (bw_nilN rfl)) ?_
  case l1 =>
    have el : fs.length = (fs.map (rSt K)).length := by rw [List.length_map]
    rw [el]
    exact ew_lenSeq rfl T.bLen (lst_as (by exact (ew_name 3 rfl (pv 3))))
  case l2 =>
    have el : S.length = (nl K S).length := nl_len.symm
    rw [el]
    exact ew_lenTup rfl T.bLen (nats_tup (by exact (ew_name 2 rfl (pv 2))))
  case hn2 =>
    have e1 : shownB (RR c qs) S fs = false := by
      unfold shownB
      cases h1 : stAll (RR c qs) S <;> cases h3 : decide ((fs.length : Int) = (S.length : Nat)) <;> simp_all
    show Ew _ W _ _ (rD K (.bool (shownB (RR c qs) S fs)))
    rw [e1]
    exact ew_bl
  refine bw_know 4 rfl fun k2 => ?_
  have k3 : shownB (RR c qs) S fs = (fs.all (fallB (RR c qs)) && coverB c.rows.length fs.flatten) := by
    unfold shownB
    rw [k1, k2.1, decide_eq_true k2.2, hRl] <;> rfl
  rw [k3]
  refine bw_st (N := [some (rDrawn K c), some (rQs K qs), some (rSt K S), some (rFn K fs), some (rN K c.rows.length), some (rNats K (fs.take 0).flatten), none, none]) 5 rfl (ew_lst aw_nil (by simp [nl])) scShown.nd ?_
  refine bw_say (q := ∀ j, j < 0 → fallB (RR c qs) (fs.getD j []) = true) 4 rfl (fun j hj => absurd hj (Nat.not_lt_zero j)) ?_
  refine bw_cons (N := [some (rDrawn K c), some (rQs K qs), some (rSt K S), some (rFn K fs), some (rAnd (∀ j, j < fs.length → fallB (RR c qs) (fs.getD j []) = true) (rN K c.rows.length)), some (rNats K (fs.take fs.length).flatten), none, none]) (sw_for (n := fs.length) (item := fun i => (fs.map (rSt K)).getD i rNon) (fun i => [some (rDrawn K c), some (rQs K qs), some (rSt K S), some (rFn K fs), some (rAnd (∀ j, j < i → fallB (RR c qs) (fs.getD j []) = true) (rN K c.rows.length)), some (rNats K (fs.take i).flatten), none, none]) (fun i => [some (rDrawn K c), some (rQs K qs), some (rSt K S), some (rFn K fs), some (rAnd (∀ j, j < i → fallB (RR c qs) (fs.getD j []) = true) (rN K c.rows.length)), some (rNats K (fs.take i).flatten), some ((fs.map (rSt K)).getD i rNon), none]) rfl rfl (iw_n (by exact iw_lst (rl := fs.map (rSt K)) (by exact (ew_name 3 rfl (pv 3)))) (List.length_map _)) (fun i hi => gw_name 6 (pg_name scShown.nd rfl (.inl rfl))) (fun i hi => ?_) .never rfl) ?_
  · refine bw_know 4 rfl fun hP => ?_
    rw [getD_of (fn_get hi)]
    have hM := mem_of hF hi
    have hml := mem_le hi
    have htf := take_flat fs hi
    have hfl := flat_le fs (i + 1)
    rw [htf, List.length_append] at hfl
    rw [htf]
    generalize hM' : fs.getD i [] = M at hM hml hfl ⊢
    refine bw_cons (N := [some (rDrawn K c), some (rQs K qs), some (rSt K S), some (rFn K fs), some (rAnd (ascN M = true) (rN K c.rows.length)), some (rNats K (fs.take i).flatten), some (rSt K M), none]) (sw_if (d := !ascN M) (tw_not (tw_val (clE (M, c.rows.length) L.lAscends (ok_ascends L Y) hr L.gAscends (aw_cons (ew_name 6 rfl (pv 6)) (aw_cons (ew_name 4 rfl (pv 4)) aw_nil)) ⟨hM, by show M.length ≤ 900; omega⟩) (by intro _; rfl))) (fun h => bw_one (sw_nx (sw_ret ?hn3))) fun h => bw_say 4 rfl (by simpa using h) (bw_nilN rfl)) ?_
    case hn3 =>
      have e1 : fs.all (fallB (RR c qs)) = false := by
        rw [← all_range fs [] (fallB (RR c qs)), List.all_eq_false]
        exact ⟨i, List.mem_range.mpr hi, by rw [hM']; unfold fallB; rw [(by simpa using h : ascN M = false)]; simp⟩
      show Ew _ W _ _ (rD K (.bool (fs.all (fallB (RR c qs)) && coverB c.rows.length fs.flatten)))
      rw [e1]
      exact ew_bl
    refine bw_know 4 rfl fun k4 => ?_
    refine bw_cons (N := [some (rDrawn K c), some (rQs K qs), some (rSt K S), some (rFn K fs), some (rAnd (∀ j, j < i + 1 → fallB (RR c qs) (fs.getD j []) = true) (rN K c.rows.length)), some (rNats K (fs.take i).flatten), some (rSt K M), none]) (sw_if (d := !flAll (RR c qs) M) (tw_not (tw_val (clE (c, qs, M) L.lIsFall (ok_isFall L Y) hr L.gIsFall (aw_cons (ew_name 0 rfl (pv 0)) (aw_cons (ew_name 1 rfl (pv 1)) (aw_cons (ew_name 6 rfl (pv 6)) aw_nil))) ⟨hT, hq, hM, by show M.length ≤ 900; omega⟩) (by intro _; rfl))) (fun h => bw_one (sw_nx (sw_ret ?hn4))) fun h => bw_say 4 rfl (fun j hj => ?hn5) (bw_nilN rfl)) ?_
    case hn4 =>
      have e1 : fs.all (fallB (RR c qs)) = false := by
        rw [← all_range fs [] (fallB (RR c qs)), List.all_eq_false]
        exact ⟨i, List.mem_range.mpr hi, by rw [hM']; unfold fallB; rw [(by simpa using h : flAll (RR c qs) M = false), Bool.and_false]; decide⟩
      show Ew _ W _ _ (rD K (.bool (fs.all (fallB (RR c qs)) && coverB c.rows.length fs.flatten)))
      rw [e1]
      exact ew_bl
    case hn5 =>
      rcases Nat.lt_succ_iff_lt_or_eq.mp hj with hj | rfl
      · exact hP j hj
      · rw [hM']
        unfold fallB
        rw [k4, (by simpa using h : flAll (RR c qs) M = true)] <;> rfl
    refine bw_st (N := [some (rDrawn K c), some (rQs K qs), some (rSt K S), some (rFn K fs), some (rAnd (∀ j, j < i + 1 → fallB (RR c qs) (fs.getD j []) = true) (rN K c.rows.length)), some (rNats K ((fs.take i).flatten ++ M)), some (rSt K M), none]) 5 rfl ?lc scShown.nd (bw_wipe 6 (bw_nilN rfl))
    case lc =>
      show Ew _ W _ _ (rLst (nl K ((fs.take i).flatten ++ M)))
      unfold nl
      rw [List.map_append]
      exact ew_catL (by exact (ew_name 5 rfl (pv 5))) (ew_listT rfl T.bList (nats_tup (ew_name 6 rfl (pv 6)))) (by rw [List.length_map, List.length_map]; omega)
  · refine bw_know 4 rfl fun hP => bw_ret ?_
    have e1 : fs.all (fallB (RR c qs)) = true := by
      rw [← all_range fs [] (fallB (RR c qs)), List.all_eq_true]
      exact fun i hi => hP i (List.mem_range.mp hi)
    show Ew _ W _ _ (rD K (.bool (fs.all (fallB (RR c qs)) && coverB c.rows.length fs.flatten)))
    rw [e1, List.take_length, Bool.true_and]
    generalize hL : fs.flatten = F at hff ⊢
    show Ew _ W [some (rDrawn K c), some (rQs K qs), some (rSt K S), some (rFn K fs), some (rN K c.rows.length), some (rNats K F), none, none] _ (rD K (.bool (coverB c.rows.length F)))
    unfold coverB
    refine ew_and (ew_eqInt hr.units (by have el : F.length = (nl K F).length := nl_len.symm; rw [el]; exact ew_lenSeq rfl T.bLen (lst_as (by exact (ew_name 5 rfl (pv 5))))) (ew_name 4 rfl (pv 4))) fun _ => ew_one ?_
    refine ew_allOf _ rfl rfl T.bAll (ew_lcAll 7 (y := "_law_at") _ rfl scShown.nd (n := c.rows.length) (item := fun i => rD K (.int i)) (iw_n (by exact iw_range1 (j := (c.rows.length : Int)) rfl L.bRange (ew_name 4 rfl (pv 4)) (by omega)) (by omega)) (blkOk_by (N := NSh) (sc := defScope sShown) (by decide +kernel)) (by omega) (fun _ _ _ _ _ => pg_name scShown.nd rfl (.inl rfl)) fun s' H' C cl' fp D o i hi => ?_)
    rw [← any_nat]
    exact ew_inD (units65 hr) (ew_name 7 rfl (pv 7)) (nats_lst (ew_name 5 rfl (pv 5))) shp_int.ok shp_natsL
end
end K11
namespace K11
open PySem L2 Py
/-! ### the law's places -/
def o1 (c : TabD) (row : List Cell) (ps : List PartD) (i : Nat) : Int := outc c.cols (rowAt c i) row ps
def o2 (c : TabD) (row : List Cell) (ps : List PartD) (i : Nat) : Int := outc c.cols row (rowAt c i) ps
def oL (c : TabD) (row : List Cell) (ps : List PartD) (a : Nat) : List Int := ((List.range a).map (o1 c row ps)) ++ (List.range (c.rows.length - a)).map fun k => o2 c row ps (a + k)
theorem oL_place {c : TabD} {row : List Cell} {qs : List QD} {a : Nat} (hT : TabOk c) (hrow : RowOk c.cols row) (hq : ∀ q ∈ qs, QFit c.cols q) (ha : a ≤ c.rows.length) : (!(oL c row (parts qs) a).any fun b => decide (b = 1)) = placeB (RR c qs) (ranks c.cols row (parts qs)) a := by
  have hRl : (RR c qs).length = c.rows.length := ranksR_len
  unfold placeB oL
  rw [← all_range ((RR c qs).take a) [] (fun b => leX b (ranks c.cols row (parts qs))), ← all_range ((RR c qs).drop a) [] (fun b => leX (ranks c.cols row (parts qs)) b), List.any_append, Bool.not_or, List.any_map, List.any_map, List.length_take, List.length_drop, hRl, Nat.min_eq_left ha]
  congr 1
  · rw [List.any_eq_not_all_not, Bool.not_not]
    apply Bool.eq_iff_iff.mpr
    rw [List.all_eq_true, List.all_eq_true]
    have key : ∀ i ∈ List.range a, ((!((fun b => decide (b = 1)) ∘ o1 c row (parts qs)) i) = true ↔ leX (((RR c qs).take a).getD i []) (ranks c.cols row (parts qs)) = true) := by
      intro i hi
      have hi := List.mem_range.mp hi
      have e1 : ((RR c qs).take a).getD i [] = ranks c.cols (rowAt c i) (parts qs) := by
        rw [← rk_R (show i < c.rows.length by omega)]
        unfold rk
        rw [List.getD_eq_getElem?_getD, List.getD_eq_getElem?_getD, List.getElem?_take_of_lt hi]
      rw [e1]
      unfold leX
      rw [(lt_outc hT.cols (rowAt_ok hT (show i < c.rows.length by omega)) hrow (parts_ok hq)).2.1]
      exact Iff.rfl
    exact ⟨fun h i hi => (key i hi).mp (h i hi), fun h i hi => (key i hi).mpr (h i hi)⟩
  · rw [List.any_eq_not_all_not, Bool.not_not]
    apply Bool.eq_iff_iff.mpr
    rw [List.all_eq_true, List.all_eq_true]
    have key : ∀ i ∈ List.range (c.rows.length - a), ((!((fun b => decide (b = 1)) ∘ fun k => o2 c row (parts qs) (a + k)) i) = true ↔ leX (ranks c.cols row (parts qs)) (((RR c qs).drop a).getD i []) = true) := by
      intro i hi
      have hi := List.mem_range.mp hi
      have e1 : ((RR c qs).drop a).getD i [] = ranks c.cols (rowAt c (a + i)) (parts qs) := by
        rw [← rk_R (show a + i < c.rows.length by omega)]
        unfold rk
        rw [List.getD_eq_getElem?_getD, List.getD_eq_getElem?_getD, List.getElem?_drop]
      rw [e1]
      unfold leX
      rw [(lt_outc hT.cols hrow (rowAt_ok hT (show a + i < c.rows.length by omega)) (parts_ok hq)).2.1]
      exact Iff.rfl
    exact ⟨fun h i hi => (key i hi).mp (h i hi), fun h i hi => (key i hi).mpr (h i hi)⟩
def plF (R : List (List Int)) (r : List Int) (i : Nat) : List Nat := (List.range i).filter (placeB R r)
theorem plF_succ (R : List (List Int)) (r : List Int) (i : Nat) : plF R r (i + 1) = if placeB R r i = true then plF R r i ++ [i] else plF R r i := by
  unfold plF
  rw [List.range_succ, List.filter_append]
  cases h : placeB R r i <;> simp [h]
theorem plF_len (R : List (List Int)) (r : List Int) (i : Nat) : (plF R r i).length ≤ i := by
  unfold plF
  exact Nat.le_trans (List.length_filter_le _ _) (by rw [List.length_range]; exact Nat.le_refl _)
section
variable {P : Program} {w : PySem.World} {K : PySem.W.Frag} {mg : Str → Option Value} {base : Heap} {d : Ad} {e : Ld} {t : Ae} {g : Ag}
abbrev NLp : List Str := ["_law_drawn_here", "_law_row", "_law_parts", "_law_columns", "_law_rows", "_law_found", "_law_at", "_law_some", "_law_one"]
theorem scLPlaces : FnScope ["_law_drawn_here", "_law_row", "_law_parts", "_law_columns", "_law_rows", "_law_found", "_law_at", "_law_some", "_law_one"] ["_law_drawn_here", "_law_row", "_law_parts"] (defScope sLPlaces) := ⟨rfl, rfl, rfl, by decide +kernel, rfl, by decide +kernel, by decide +kernel⟩
theorem ok_lplaces (L : Lx P K mg d e) (Y : Ty P K mg d t) : FnR P w K mg base CX0 3 e.fLPlaces (spW (α := TabD × List Cell × List QD) (fun _ z => TabOk z.1 ∧ RowOk z.1.cols z.2.1 ∧ ∀ q ∈ z.2.2, QFit z.1.cols q) (fun z => [rDrawn K z.1, rD K (rowD z.2.1), rQs K z.2.2]) (fun z => rNats K (placesR (RR z.1 z.2.2) (ranks z.1.cols z.2.1 (parts z.2.2))))) := by
  obtain ⟨fd, F⟩ := L.lLPlaces
  refine fn_w F scLPlaces (F.binds fun _ _ _ _ _ _ us hl => match us, hl with | [_, _, _], _ => rfl) (fun _ => rfl) fun cdv A outer s H E W z hr hp => ⟨none, ?_, fun _ e => nomatch e⟩
  obtain ⟨c, row, qs⟩ := z
  obtain ⟨hT, hrow, hq⟩ := hp
  change TabOk c at hT
  change RowOk c.cols row at hrow
  change ∀ q ∈ qs, QFit c.cols q at hq
  have T := L.T
  have h8 := hT.most
  have hRl : (RR c qs).length = c.rows.length := ranksR_len
  show Bw _ W _ _ ⟨rNats K (placesR (RR c qs) (ranks c.cols row (parts qs))), none, none, none⟩
  refine bw_cons (N := [some (rDrawn K c), some (rD K (rowD row)), some (rQs K qs), some (rDict (dCols c.cols)), some (rRows K c.rows), none, none, none, none]) (sw_asg (r := rTup K [rDict (dCols c.cols), rRows K c.rows]) (by exact (ew_name 0 rfl (pv 0))) (gw_tup rfl (gws_cons (gw_name 3 (pg_name scLPlaces.nd rfl (.inr rfl))) (gws_cons (gw_name 4 (pg_name scLPlaces.nd rfl (.inl rfl))) gws_nil)))) ?_
  generalize hr0 : ranks c.cols row (parts qs) = r
  refine bw_of_br (br_growL (rl := nl K (plF (RR c qs) r 0)) 5 scLPlaces.nd rfl (.inl rfl) aw_nil (by simp [nl, plF]) fun D xs => ?_)
  refine br_cons (sz_for (β := List V) (n := c.rows.length + 1) (item := fun i => rD K (.int i)) (fun xs => .lst xs) (fun i xs => [some (rDrawn K c), some (rD K (rowD row)), some (rQs K qs), some (rDict (dCols c.cols)), some (rRows K c.rows), some (rAtL D (nl K (plF (RR c qs) r i)) xs), none, none, none]) (fun i xs => [some (rDrawn K c), some (rD K (rowD row)), some (rQs K qs), some (rDict (dCols c.cols)), some (rRows K c.rows), some (rAtL D (nl K (plF (RR c qs) r i)) xs), some (rN K i), none, none]) xs (i2_n (i2_range1 (j := ((c.rows.length : Int) + 1)) rfl L.bRange (ew_add (by have e9 : (c.rows.length : Int) = ((c.rows.map rowD).length : Int) := (by rw [List.length_map]); rw [e9]; exact ew_lenD rfl T.bLen (ew_name 4 rfl (pv 4))) ew_int) (by omega)) (by omega)) (fun i b hi => gw_name 6 (pg_name scLPlaces.nd rfl (.inl rfl))) (fun i b hi => ?_) .never rfl) fun xs => br_out 5 rfl (br_of (W' := fun _ : Unit => W) (rr := fun _ => rNats K (placesR (RR c qs) r)) () (bw_ret (ew_sub (by exact (ew_name 5 rfl (pv 5))) fun v H p => by unfold placesR; rw [hRl]; exact p)))
  have hpl := plF_len (RR c qs) r i
  have hps := plF_succ (RR c qs) r i
  rw [hps]
  generalize plF (RR c qs) r i = F at hpl ⊢
  have hrow1 : ∀ j, j < i → ((((c.rows.map rowD).map (rD K)).take i).getD j rNon) = rD K (rowD (rowAt c j)) := fun j hj => getD_of (by rw [List.getElem?_take_of_lt hj, List.getElem?_map, rows_at (by omega)] <;> rfl)
  have hrow2 : ∀ j, j < c.rows.length - i → ((((c.rows.map rowD).map (rD K)).drop i).getD j rNon) = rD K (rowD (rowAt c (i + j))) := fun j hj => getD_of (by rw [List.getElem?_drop, List.getElem?_map, rows_at (by omega)] <;> rfl)
  refine bz_w (M := [some (rDrawn K c), some (rD K (rowD row)), some (rQs K qs), some (rDict (dCols c.cols)), some (rRows K c.rows), some (rAtL D (nl K F) b), some (rN K i), some (rLst (takes (fun j => rD K (.int (o1 c row (parts qs) j))) (fun _ => true) i)), none]) (sw_lc 7 (n := i) (item := fun j => (((c.rows.map rowD).map (rD K)).take i).getD j rNon) (own := [("_law_one", 8)]) (g := gName 8) _ _ (fun j => [some (rDrawn K c), some (rD K (rowD row)), some (rQs K qs), some (rDict (dCols c.cols)), some (rRows K c.rows), some (rAtL D (nl K F) b), some (rN K i), none, some (rD K (rowD (rowAt c j)))]) rfl scLPlaces.nd (iw_n (by exact iw_lst (ew_takeL (as_seq (ew_name 4 rfl (pv 4))) (ew_name 6 rfl (pv 6)))) (by rw [List.length_take, List.length_map, List.length_map]; omega)) (blkOk_by (N := NLp) (sc := defScope sLPlaces) (by decide +kernel)) (by omega) rfl rfl rfl (fun _ _ _ _ _ => pg_name scLPlaces.nd rfl (.inl rfl)) (fun j hj => by rw [hrow1 j hj]; exact own_name) (fun _ _ _ _ _ _ _ _ _ => pts_yes) (fun s' H' C cl' fp D o j hj _ => ?e1)) ?_
  case e1 => exact clE (c.cols, rowAt c j, row, qs) L.lOutcome (ok_outcome L Y) hr L.gOutcome (aw_cons (ew_name 3 rfl (pv 3)) (aw_cons (ew_name 8 rfl (pv 8)) (aw_cons (ew_name 1 rfl (pv 1)) (aw_cons (ew_name 2 rfl (pv 2)) aw_nil)))) ⟨hT.cols, rowAt_ok hT (by omega), hrow, hq⟩
  have eo : (takes (fun j => rD K (.int (o1 c row (parts qs) j))) (fun _ => true) i ++ (List.range (c.rows.length - i)).map fun k => rD K (.int (o2 c row (parts qs) (i + k)))) = ((oL c row (parts qs) i).map PyData.int).map (rD K) := by
    rw [Py.takes_all]
    unfold oL
    rw [List.map_append, List.map_append, List.map_map, List.map_map, List.map_map, List.map_map] <;> rfl
  refine bz_st (N := [some (rDrawn K c), some (rD K (rowD row)), some (rQs K qs), some (rDict (dCols c.cols)), some (rRows K c.rows), some (rAtL D (nl K F) b), some (rN K i), some (rD K (.list ((oL c row (parts qs) i).map PyData.int))), none]) 7 rfl (of_lst ?lc2) scLPlaces.nd ?_
  case lc2 =>
    show Ew _ _ _ _ (rLst (((oL c row (parts qs) i).map PyData.int).map (rD K)))
    rw [← eo]
    refine ew_catL (by exact (ew_name 7 rfl (pv 7))) ?_ (by rw [Py.takes_all, List.length_map, List.length_map, List.length_range, List.length_range]; omega)
    refine ew_lcAll 8 (y := "_law_one") _ rfl scLPlaces.nd (n := c.rows.length - i) (item := fun j => (((c.rows.map rowD).map (rD K)).drop i).getD j rNon) (iw_n (by exact iw_lst (ew_dropL (as_seq (ew_name 4 rfl (pv 4))) (ew_name 6 rfl (pv 6)))) (by rw [List.length_drop, List.length_map, List.length_map])) (blkOk_by (N := NLp) (sc := defScope sLPlaces) (by decide +kernel)) (by omega) (fun _ _ _ _ _ => pg_name scLPlaces.nd rfl (.inl rfl)) fun s' H' C cl' fp D o j hj => ?_
    rw [hrow2 j hj]
    exact clE (c.cols, row, rowAt c (i + j), qs) L.lOutcome (ok_outcome L Y) hr L.gOutcome (aw_cons (ew_name 3 rfl (pv 3)) (aw_cons (ew_name 1 rfl (pv 1)) (aw_cons (ew_name 8 rfl (pv 8)) (aw_cons (ew_name 2 rfl (pv 2)) aw_nil)))) ⟨hT.cols, hrow, rowAt_ok hT (by omega), hq⟩
  refine bz_cons (V1 := fun b => W.hold D (.lst b)) (N1 := fun b => [some (rDrawn K c), some (rD K (rowD row)), some (rQs K qs), some (rDict (dCols c.cols)), some (rRows K c.rows), some (rAtL D (nl K (if placeB (RR c qs) r i = true then F ++ [i] else F)) b), some (rN K i), some (rD K (.list ((oL c row (parts qs) i).map PyData.int))), none]) (sz_if (d := placeB (RR c qs) r i) (tw_eq (tw_notInD (units65 hr) ew_int (ew_name 7 rfl (pv 7)) shp_int.ok shp_intsL) (by rw [any_int, ← hr0, oL_place hT hrow hq (by omega)])) (fun h => ?_) fun h => ?_) fun b => bz_wipe 6 (bz_wipe 7 (bz_nilN b rfl rfl))
  · refine bz_cons (sz_append 5 rfl (ew_name 5 rfl (pv 5)) (ew_name 6 rfl (pv 6)) (by rw [nl_len]; omega)) fun y => bz_nilN _ rfl ?_
    rw [if_pos h]
    unfold nl
    rw [List.map_append] <;> rfl
  · refine bz_nilN _ rfl ?_
    rw [if_neg (by rw [h]; decide)] <;> rfl
end
end K11
namespace Py
open PySem L2
section
variable {α γ : Type} {X : Cx} {W : World} {W' : α → World} {N : α → Rs} {rs : Rs} {a b c e o : Expr} {r r1 r3 : Rep} {rl : List Rep} {pos p2 apos cpos pos' : Pos} {D : Addr} {sts : List Stmt}
/-- x, y, z = a, b, c, the value of b a new list, held apart from here on -/
theorem bz_par3 (i j l : Nat) {x y z : Str} {px py pz pt pt2 : Pos} {kt k2 : Nat} (hc : X.calm = true) (hN : X.N.Nodup) (hi : X.N[i]? = some x) (hj : X.N[j]? = some y) (hl : X.N[l]? = some z) (hij : i ≠ j) (hil : i ≠ l) (hjl : j ≠ l)
    (hx : X.env.scope.names.lookup x = some .local) (hy : X.env.scope.names.lookup y = some .local) (hz : X.env.scope.names.lookup z = some .local)
    (ha : Ew X W rs a r1) (hb : En X W rs b rl) (h3 : ∀ D xs, Ew X (W.hold D (.lst xs)) rs c r3) (h : ∀ D xs, Bz X (W.hold D (.lst xs)) (((rs.set i (some r1)).set j (some (rAtL D rl xs))).set l (some r3)) sts W' N)
    (hw : swappedStores [.Tuple [.Name x px, .Name y py, .Name z pz] kt pt] (.Tuple [a, b, c] k2 pt2) X.env = pure (some [x, y, z]))
    (hs : swapsWithSole [.Tuple [.Name x px, .Name y py, .Name z pz] kt pt] (.Tuple [a, b, c] k2 pt2) pos.line X.env = pure false := by rfl)
    (h1 : starEach [a, b, c] X.env = (false, eval a X.env) :: starEach [b, c] X.env := by rfl) (h2 : starEach [b, c] X.env = (false, eval b X.env) :: starEach [c] X.env := by rfl) (h4 : starEach [c] X.env = (false, eval c X.env) :: starEach [] X.env := by rfl) :
    Bz X W rs (.Assign [.Tuple [.Name x px, .Name y py, .Name z pz] kt pt] (.Tuple [a, b, c] k2 pt2) pos :: sts) W' N := by
  have hB : PSs X sts (fun DD σ H => ∃ D xs, sWz (W.hold D (.lst xs)) (((rs.set i (some r1)).set j (some (rAtL D rl xs))).set l (some r3)) W' N DD σ H) := ⟨fun pins s σ H DD I ⟨D, xs, q⟩ => (h D xs).run pins s σ H DD I q⟩
  have hC : PE X c (fun σ H Q => ∃ D xs, tW (W.hold D (.lst xs)) rs r3 σ H Q) := ⟨fun pins s σ H Q I ⟨D, xs, q⟩ => (h3 D xs).run pins s σ H Q I q⟩
  refine pss_cs (pss_cons (ps_par3 hc hN hi hj hl hij hil hjl hx hy hz (pa_cons ha (pa_cons hb (pa_cons hC pa_nil (hs := h4)) (hs := h2)) (hs := h1)) hw hs) hB) ?_
  rintro DD σ H ⟨k, g, q⟩
  refine ⟨k, g, fun v1 H1 k1 e1 p1 => ⟨k1, g.mono e1, fun D xs H2 kk e2 p2 => ⟨D, xs, kk, (g.mono e1).mono e2, fun v3 H3 k3 e3 p3 => ⟨v1, .ref D, v3, rfl, ?_⟩⟩⟩⟩
  refine ⟨D, xs, k3, ?_, fun a σ' H' k' e' g' => q a σ' H' k' (e1.trans (e2.trans (e3.trans e'))) g'⟩
  exact ((((g.mono e1).mono (e2.trans e3)).set (r1.mono (e2.trans e3) p1)).set (r := rAtL D rl xs) ⟨rfl, p2.mono e3⟩).set p3
theorem reps_erase : ∀ {rl : List Rep} {xs : List V} {H : Hp} (k : Nat), Reps rl xs H → Reps (rl.eraseIdx k) (xs.eraseIdx k) H
  | [], [], _, _, h => h
  | r :: rl, x :: xs, H, 0, h => h.2
  | r :: rl, x :: xs, H, k + 1, h => ⟨h.1, reps_erase (rl := rl) k h.2⟩
  | [], _ :: _, _, _, h => h.elim
  | _ :: _, [], _, _, h => h.elim
/-- xs.pop(e), xs held apart, the place not told -/
theorem sz_popE (i : Nat) {xs : List V} {m : γ → Nat} (hi : rs[i]? = some (some (rAtL D rl xs))) (hm : ∀ c, m c < rl.length) (hl : rl.length ≤ 1000) (ho : Ew X (W.hold D (.lst xs)) rs o (rAtL D rl xs)) (he : Ew X (W.hold D (.lst xs)) rs e (rEx fun c => rD X.K (.int (m c : Nat))))
    (hbase : attributeBase o "pop" X.env (eval o X.env) = eval o X.env := by rfl)
    (hfew : ((backTo cpos (starEach [e] X.env)).all (fun x => !x.1) && (backToKw cpos (keywordEach [] X.env)).all (fun x => x.1.isSome) && decide ([e].length + ([] : List Keyword).length + (if ([] : List Keyword).isEmpty then 0 else 1) < 30)) = true := by rfl)
    (hline : (apos.endLine == cpos.line) = true := by rfl) (hs : starEach [e] X.env = (false, eval e X.env) :: starEach [] X.env := by rfl) (hplain : (backTo cpos (starEach [] X.env)).any (·.1) = false := by rfl)
    (hw : swapsWith (.Call (.Attribute o "pop" apos) [e] [] cpos) none pos.line X.env = pure false := by rfl) :
    Sz X (W.hold D (.lst xs)) rs (.Expr (.Call (.Attribute o "pop" apos) [e] [] cpos) pos) (fun c : γ => W.hold D (.lst (xs.eraseIdx (m c)))) (fun c => rs.set i (some (rAtL D (rl.eraseIdx (m c)) (xs.eraseIdx (m c))))) := by
  refine ps_cs (ps_expr (pe_bm PySem.F.plainAttrs_list PySem.F.slot_list_pop PySem.F.type_list_pop mt_popAt ho (pa_cons he pa_nil (hs := hs)) hbase hfew hline hs hplain) hw) ?_
  rintro DD σ H ⟨k, g, q⟩
  refine ⟨k, g, ?_⟩
  rintro v H1 k1 e1 ⟨rfl, p1⟩
  refine ⟨.inl ⟨rfl, xs, .of k1.2.2⟩, k1, g.mono e1, ?_⟩
  rintro y H2 k2 e2 ⟨c, pc⟩
  have hlen : rl.length = xs.length := p1.len
  have hmc : m c < xs.length := hlen ▸ hm c
  have hbig : (m c : Int) ≤ 1000 := by have := hm c; omega
  refine ⟨D, xs, (m c : Int), m c, xs[m c], rfl, by rw [rD_int.mp pc], k2.2.2, by omega, by omega, ?_, List.getElem?_eq_getElem hmc, ?_⟩
  · have hn : ¬ ((m c : Int) < 0) := by omega
    have hh : (decide (0 ≤ (m c : Int)) && decide ((m c : Int) < (xs.length : Int))) = true := by rw [decide_eq_true (show 0 ≤ (m c : Int) by omega), decide_eq_true (show (m c : Int) < (xs.length : Int) by omega)] <;> rfl
    show (if (decide (0 ≤ (if (m c : Int) < 0 then (m c : Int) + (xs.length : Int) else (m c : Int))) && decide ((if (m c : Int) < 0 then (m c : Int) + (xs.length : Int) else (m c : Int)) < (xs.length : Int))) = true then some (if (m c : Int) < 0 then (m c : Int) + (xs.length : Int) else (m c : Int)).toNat else none) = some (m c)
    rw [if_neg hn, if_pos hh, Int.toNat_natCast]
  · have hv : (W.hold D (.lst (xs.eraseIdx (m c)))).vis (upd H2 D (.lst (xs.eraseIdx (m c)))) = (W.hold D (.lst xs)).vis H2 := hold_upd
    refine q c σ _ (hold_okUpd k2) (by rw [hv]; exact e1.trans e2) ?_
    rw [hv]
    exact (g.mono (e1.trans e2)).re hi fun v p => ⟨p.1, reps_erase _ p.2⟩
/-- xs[e] = f, xs held apart, the place and the value not told -/
theorem sz_setAtE (i : Nat) {xs : List V} {m : γ → Nat} {δ : Type} {f : δ → Rep} (hi : rs[i]? = some (some (rAtL D rl xs))) (hm : ∀ c, m c < rl.length) (ho : Ew X (W.hold D (.lst xs)) rs o (rAtL D rl xs)) (ha : Ew X (W.hold D (.lst xs)) rs a (rEx fun c => rD X.K (.int (m c : Nat)))) (he : Ew X (W.hold D (.lst xs)) rs e (rEx f))
    (hass : ∀ v, assign (.Subscript o a pos') X.env v = (do
      let ov ← holding [v] (eval o X.env)
      let iv ← holding [v, ov] (eval a X.env)
      standAt pos'
      holding [v, ov, iv] (setItem ov iv v)
      release [v, ov, iv] []) := by intro _; rfl)
    (hs : swapsWithSole [.Subscript o a pos'] e pos.line X.env = pure false := by rfl) (hw : swappedStores [.Subscript o a pos'] e X.env = pure none := by rfl)
    (h1 : (assignEach [.Subscript o a pos'] X.env).map (·.2) = [assign (.Subscript o a pos') X.env] := by rfl) :
    Sz X (W.hold D (.lst xs)) rs (.Assign [.Subscript o a pos'] e pos) (fun y : γ × δ × V => W.hold D (.lst (xs.set (m y.1) y.2.2))) (fun y => rs.set i (some (rAtL D (rl.set (m y.1) (f y.2.1)) (xs.set (m y.1) y.2.2)))) := by
  refine ps_cs (ps_asg he (pg_sub ho ha set_list hass) hs hw h1) ?_
  rintro DD σ H ⟨k, g, q⟩
  refine ⟨k, g, fun v H1 k1 e1 ⟨u, p1⟩ => ⟨k1, g.mono e1, fun x H2 k2 e2 p2 => ⟨k2, g.mono (e1.trans e2), fun y H3 k3 e3 ⟨c, p3⟩ => ?_⟩⟩⟩
  have hlen : rl.length = xs.length := p2.2.len
  have hmc := hm c
  refine ⟨D, xs, (m c : Int), m c, p2.1, rD_int.mp p3, k3.2.2, ?_, ?_⟩
  · unfold ixN
    rw [if_pos (by omega), if_pos (by omega)]
    congr 1
  · have hv : (W.hold D (.lst (xs.set (m c) v))).vis (upd H3 D (.lst (xs.set (m c) v))) = (W.hold D (.lst xs)).vis H3 := hold_upd
    refine q (c, u, v) σ _ (hold_okUpd k3) (by rw [hv]; exact (e1.trans e2).trans e3) ?_
    rw [hv]
    exact (g.mono ((e1.trans e2).trans e3)).re hi fun w pw => ⟨pw.1, reps_set _ pw.2 ((f u).mono (e2.trans e3) p1)⟩
/-- xs[:-1] -/
theorem ew_initL (ha : Ew X W rs a (rSeq X.K rl)) (hb : Ew X W rs b (rD X.K (.int (-1)))) : Ew X W rs (.Subscript a (.Slice none (some b) none p2) pos) (rLst (rl.take (rl.length - 1))) := by
  refine pe_cs (pe_slice sl_list ha po_none (po_some hb)) ?_
  rintro σ H Q ⟨k, g, q⟩
  refine ⟨k, g, fun v H1 k1 e1 pv => ?_⟩
  show tW W rs _ σ H1 _
  refine ⟨k1, g.mono e1, fun w H2 k2 e2 pw => ⟨-1, rD_int.mp pw, ?_⟩⟩
  obtain ⟨a', xs, ev, hs, hr⟩ := (rSeq X.K rl).mono e2 pv
  refine ⟨a', xs, ev, sqL_mono (W.sub H2) hs, fun z hz => ?_⟩
  have hlen : rl.length = xs.length := hr.len
  have e3 : cutV xs none (some (-1)) = xs.take (rl.length - 1) := by
    unfold cutV
    rw [HT.sIx_none, List.drop_zero]
    congr 1
    have e4 : HT.sIx xs.length xs.length (some (-1)) = ((-1 : Int) + (xs.length : Int)).toNat := by
      show (if (-1 : Int) < 0 then ((-1 : Int) + (xs.length : Int)).toNat else min (-1 : Int).toNat xs.length) = _
      rw [if_pos (by decide)]
    rw [e4]
    omega
  rw [e3]
  exact q _ _ (World.okNew k2 hz) ((e1.trans e2).trans (World.visEx k2 (Ex.new hz))) ⟨z, _, rfl, by rw [World.visNew k2 hz, upd_same], (reps_take (rl.length - 1) hr).mono (World.visEx k2 (Ex.new hz))⟩
/-- e is not True -/
theorem tw_isNotTrue {u v : Bool} (ha : Ew X W rs a (rD X.K (.bool u))) (hb : Ew X W rs b (rD X.K (.bool v))) (hm : behindInMarks .IsNot b = false := by rfl) : Tw X W rs (.Compare a [.IsNot] [b] pos) (!decide (u = v)) :=
  tw_cmp op_isnot_bl ha hb (fun x y H k p q Q n => ⟨u, v, rD_bl.mp p, rD_bl.mp q, n _ H k (Ex.refl _) (Dp.bl _)⟩) hm
end
end Py
namespace K11
open PySem L2 Py
def fallsN (R : List (List Int)) : List (List Nat) := (List.range (steadyR R (lengthsR R)).length).map fun l => rowsW (lengthsR R) (l + 1)
/-! ### the order of rows by their ranks -/
abbrev Le (R : List (List Int)) (i j : Nat) : Prop := leR R i j = true
theorem le_tr {R : List (List Int)} {i j k : Nat} (h1 : Le R i j) (h2 : Le R j k) : Le R i k := by
  unfold Le leR leX at *
  rw [Bool.not_eq_true'] at *
  exact NtL.lex_tr _ _ _ h1 h2
theorem le_tot {R : List (List Int)} {i j : Nat} (h : ¬ Le R i j) : Le R j i := by
  unfold Le leR leX at *
  rw [Bool.not_eq_true', Bool.not_eq_false] at h
  rw [Bool.not_eq_true']
  exact NtL.lex_asym _ _ h
theorem le_refl {R : List (List Int)} {i : Nat} : Le R i i := by
  by_cases h : Le R i i
  · exact h
  · exact le_tot h
/-! ### the lengths -/
theorem get_set (L : List Nat) (a b x : Nat) (h : a < L.length) : (L.set a x).getD b 0 = if a = b then x else L.getD b 0 := by
  rw [List.getD_eq_getElem?_getD, List.getElem?_set]
  by_cases c : a = b
  · subst c
    rw [if_pos rfl, if_pos rfl, if_pos h]
    rfl
  · rw [if_neg c, if_neg c, List.getD_eq_getElem?_getD]
def Fin1 (R : List (List Int)) (L : List Nat) (a e x : Nat) : Prop := 1 ≤ x ∧ (∀ b, a < b → b < e → Le R a b → L.getD b 0 + 1 ≤ x) ∧ (x = 1 ∨ ∃ b, a < b ∧ b < e ∧ Le R a b ∧ x = L.getD b 0 + 1)
theorem inner_ok (R : List (List Int)) (L : List Nat) (a : Nat) (ha : a < L.length) (h1 : L.getD a 0 = 1) (hp : ∀ b, a < b → b < L.length → 1 ≤ L.getD b 0) : ∀ k, a + 1 + k ≤ L.length → (∀ b, b ≠ a → ((List.range k).foldl (stepL R a) L).getD b 0 = L.getD b 0) ∧ Fin1 R L a (a + 1 + k) (((List.range k).foldl (stepL R a) L).getD a 0)
  | 0, _ => ⟨fun _ _ => rfl, by show Fin1 R L a (a + 1) (L.getD a 0); rw [h1]; exact ⟨Nat.le_refl _, fun b hb1 hb2 => by omega, .inl rfl⟩⟩
  | k + 1, hk => by
    obtain ⟨i1, i2, i3, i4⟩ := inner_ok R L a ha h1 hp k (by omega)
    have hl := fstep_len R a L k
    rw [fold_succ]
    generalize (List.range k).foldl (stepL R a) L = M at i1 i2 i3 i4 hl ⊢
    have hlat := i1 (a + 1 + k) (by omega)
    have hpos := hp (a + 1 + k) (by omega) (by omega)
    unfold stepL
    by_cases c : (leR R a (a + 1 + k) && decide ((M.getD a 0 : Int) ≤ (M.getD (a + 1 + k) 0 : Nat))) = true
    · rw [if_pos c]
      have c2 := c
      rw [Bool.and_eq_true] at c2
      have hle : Le R a (a + 1 + k) := c2.1
      have hge := of_decide_eq_true c2.2
      rw [hlat] at hge
      refine ⟨fun b hb => by rw [get_set _ _ _ _ (by omega), if_neg (Ne.symm hb)]; exact i1 b hb, ?_⟩
      rw [get_set _ _ _ _ (by omega), if_pos rfl, hlat]
      refine ⟨by omega, fun b hb1 hb2 hb3 => ?_, .inr ⟨a + 1 + k, by omega, by omega, hle, rfl⟩⟩
      by_cases hb : b = a + 1 + k
      · subst hb; exact Nat.le_refl _
      · have := i3 b hb1 (by omega) hb3
        omega
    · rw [if_neg c]
      refine ⟨i1, i2, fun b hb1 hb2 hb3 => ?_, ?_⟩
      · by_cases hb : b = a + 1 + k
        · subst hb
          have hnd : ¬ ((M.getD a 0 : Int) ≤ (M.getD (a + 1 + k) 0 : Nat)) := fun hh => c (by rw [Bool.and_eq_true]; exact ⟨hb3, decide_eq_true hh⟩)
          rw [hlat] at hnd
          omega
        · exact i3 b hb1 (by omega) hb3
      · rcases i4 with h | ⟨b, b1, b2, b3, b4⟩
        · exact .inl h
        · exact .inr ⟨b, b1, by omega, b3, b4⟩
theorem outer_ok (R : List (List Int)) : ∀ i, i ≤ R.length → (∀ a, a < R.length - i → (lenF R i).getD a 0 = 1) ∧ ∀ a, R.length - i ≤ a → a < R.length → Fin1 R (lenF R i) a R.length ((lenF R i).getD a 0)
  | 0, _ => ⟨fun a ha => by show (List.replicate R.length 1).getD a 0 = 1; rw [List.getD_eq_getElem?_getD, List.getElem?_replicate, if_pos (by omega)]; rfl, fun a h1 h2 => by omega⟩
  | i + 1, hi => by
    obtain ⟨o1, o2⟩ := outer_ok R i (by omega)
    have hl := lenF_len R i
    have e : lenF R (i + 1) = (List.range i).foldl (stepL R (R.length - 1 - i)) (lenF R i) := by
      unfold lenF
      rw [fold_succ]
      rfl
    rw [e]
    generalize lenF R i = L at o1 o2 hl ⊢
    obtain ⟨i1, i2⟩ := inner_ok R L (R.length - 1 - i) (by omega) (o1 _ (by omega)) (fun b hb1 hb2 => (o2 b (by omega) (by omega)).1) i (by omega)
    generalize (List.range i).foldl (stepL R (R.length - 1 - i)) L = M at i1 i2 ⊢
    refine ⟨fun a ha => by rw [i1 a (by omega)]; exact o1 a (by omega), fun a ha1 ha2 => ?_⟩
    have tr : ∀ x, Fin1 R L a R.length x → R.length - 1 - i ≤ a → Fin1 R M a R.length x := by
      rintro x ⟨x1, x2, x3⟩ hge
      refine ⟨x1, fun b hb1 hb2 hb3 => by rw [i1 b (by omega)]; exact x2 b hb1 hb2 hb3, ?_⟩
      rcases x3 with h | ⟨b, b1, b2, b3, b4⟩
      · exact .inl h
      · exact .inr ⟨b, b1, b2, b3, by rw [i1 b (by omega)]; exact b4⟩
    by_cases c : a = R.length - 1 - i
    · subst c
      have e2 : R.length - 1 - i + 1 + i = R.length := by omega
      rw [e2] at i2
      exact tr _ i2 (Nat.le_refl _)
    · rw [i1 a c]
      exact tr _ (o2 a (by omega) ha2) (by omega)
/-- what the lengths tell -/
structure LenOk (R : List (List Int)) (L : List Nat) : Prop where
  len : L.length = R.length
  ok : ∀ a, a < R.length → Fin1 R L a R.length (L.getD a 0)
theorem lens_ok (R : List (List Int)) : LenOk R (lengthsR R) := ⟨lenF_len R _, fun a ha => (outer_ok R R.length (Nat.le_refl _)).2 a (by omega) ha⟩
theorem len_le {R : List (List Int)} {L : List Nat} (h : LenOk R L) : ∀ m a, a < R.length → R.length - a ≤ m → L.getD a 0 ≤ R.length - a
  | 0, a, ha, hm => by omega
  | m + 1, a, ha, hm => by
    rcases (h.ok a ha).2.2 with h1 | ⟨b, b1, b2, b3, b4⟩
    · omega
    · have := len_le h m b b2 (by omega)
      omega
/-! ### the first of the greatest -/
theorem fg_ok (L : List Nat) (h : 0 < L.length) : ∀ i, i ≤ L.length → (∀ b, b < i → L.getD b 0 ≤ L.getD (fgF L i) 0) ∧ ∀ b, b < fgF L i → L.getD b 0 < L.getD (fgF L i) 0
  | 0, _ => ⟨fun b hb => by omega, fun b hb => by have e : fgF L 0 = 0 := rfl; omega⟩
  | i + 1, hi => by
    obtain ⟨h1, h2⟩ := fg_ok L h i (by omega)
    have e : fgF L (i + 1) = fgStep L (fgF L i) i := by unfold fgF; rw [fold_succ]
    have hfi : fgF L i ≤ i := by
      clear h1 h2 e
      induction i with
      | zero => exact Nat.le_refl _
      | succ i ih =>
        have e : fgF L (i + 1) = fgStep L (fgF L i) i := by unfold fgF; rw [fold_succ]
        have := ih (by omega)
        rw [e]
        unfold fgStep
        split <;> omega
    rw [e]
    generalize fgF L i = f at h1 h2 hfi
    unfold fgStep
    split
    · rename_i c
      refine ⟨fun b hb => ?_, fun b hb => ?_⟩
      · by_cases hbi : b = i
        · rw [hbi]; exact Nat.le_refl _
        · have := h1 b (by omega); omega
      · have := h1 b hb; omega
    · rename_i c
      refine ⟨fun b hb => ?_, h2⟩
      by_cases hbi : b = i
      · rw [hbi]; omega
      · exact h1 b (by omega)
end K11
namespace K11
open PySem L2 Py
/-! ### sets, first by first -/
theorem ofS_cut (n s a : Nat) (h : a < n) : ofS n (s + 1) a = (ofS n s (a + 1)).map (a :: ·) ++ ofS n (s + 1) (a + 1) := by
  show (List.range (n - a)).flatMap (fun k => (ofS n s (a + k + 1)).map ((a + k) :: ·)) = _ ++ (List.range (n - (a + 1))).flatMap (fun k => (ofS n s (a + 1 + k + 1)).map ((a + 1 + k) :: ·))
  have e : n - a = (n - (a + 1)) + 1 := by omega
  rw [e, List.range_succ_eq_map, List.flatMap_cons, List.flatMap_map]
  congr 1
  congr 1
  funext k
  rw [show a + Nat.succ k = a + 1 + k from by omega]
theorem ofS_end (n s a : Nat) (h : n ≤ a) : ofS n (s + 1) a = [] := by
  show (List.range (n - a)).flatMap _ = []
  rw [show n - a = 0 from by omega]
  rfl
theorem stAll_cons (R : List (List Int)) (a : Nat) (M : List Nat) : stAll R (a :: M) = ((M.all fun b => leR R a b) && stAll R M) := by
  unfold stAll
  rw [List.length_cons, List.range_succ_eq_map, List.all_cons, List.all_map]
  congr 1
  · unfold stAt
    rw [List.drop_succ_cons, List.drop_zero, List.getD_cons_zero, List.all_eq_not_any_not]
def Qx (R : List (List Int)) (x : Nat) (M : List Nat) : Bool := stAll R (x :: M)
theorem Qx_cons {R : List (List Int)} {x a : Nat} {M : List Nat} : Qx R x (a :: M) = (leR R x a && Qx R a M) := by
  unfold Qx
  rw [stAll_cons R x (a :: M), stAll_cons R a M, List.all_cons]
  cases h1 : leR R x a with
  | false => rfl
  | true =>
    cases h2 : (M.all fun b => leR R a b) with
    | false => simp
    | true =>
      have h3 : (M.all fun b => leR R x b) = true := by
        rw [List.all_eq_true] at h2 ⊢
        exact fun b hb => le_tr h1 (h2 b hb)
      rw [h3]
      simp
section
variable {R : List (List Int)} {L : List Nat}
/-- no chain is longer than its first one's length -/
theorem chain_le (h : LenOk R L) : ∀ (M : List Nat) (s st x : Nat), x < R.length → x < st → M ∈ ofS R.length s st → Qx R x M = true → s + 1 ≤ L.getD x 0
  | [], s, st, x, hx, hst, hm, hq => by
    have := (ofS_mem _ _ _ _ hm).1
    have h3 := (h.ok x hx).1
    rw [List.length_nil] at this
    omega
  | a :: M, s, st, x, hx, hst, hm, hq => by
    obtain ⟨h1, h2⟩ := ofS_mem _ _ _ _ hm
    cases s with
    | zero => simp at h1
    | succ s =>
      have ha := h2 a (List.mem_cons_self ..)
      rw [Qx_cons, Bool.and_eq_true] at hq
      have hm2 : M ∈ ofS R.length s (a + 1) := by
        unfold ofS at hm
        obtain ⟨k, hk, hm⟩ := List.mem_flatMap.mp hm
        obtain ⟨M', h3, h4⟩ := List.mem_map.mp hm
        obtain ⟨e1, e2⟩ := List.cons.inj h4
        subst e2
        rw [← e1]
        exact h3
      have ih := chain_le h M s (a + 1) a ha.2 (by omega) hm2 hq.2
      have := (h.ok x hx).2.1 a (by omega) ha.2 hq.1
      omega
def fnd (R : List (List Int)) (x s st : Nat) : Option (List Nat) := (ofS R.length s st).find? (Qx R x)
theorem fnd_zero (x st : Nat) : fnd R x 0 st = some [] := by
  unfold fnd ofS
  rw [List.find?_cons]
  have e : Qx R x [] = true := by unfold Qx; rw [stAll_cons]; rfl
  rw [e]
theorem find_none_of {s a : Nat} {p : List Nat → Bool} (h : ∀ M ∈ ofS R.length s (a + 1), p (a :: M) = false) : ((ofS R.length s (a + 1)).map (a :: ·)).find? p = none := by
  rw [List.find?_map, Option.map_eq_none_iff, List.find?_eq_none]
  intro M hM
  show ¬ p (a :: M) = true
  rw [h M hM]
  decide
theorem fnd_skip (h : LenOk R L) {x s a : Nat} (ha : a < R.length) (hx : x < R.length) (hxa : x < a) (hL : L.getD x 0 = s + 2) (hn : ¬ (Le R x a ∧ L.getD a 0 = s + 1)) : fnd R x (s + 1) a = fnd R x (s + 1) (a + 1) := by
  unfold fnd
  rw [ofS_cut _ _ _ ha, List.find?_append, find_none_of fun M hM => ?_]
  · rfl
  · rw [Qx_cons]
    by_cases c : Le R x a
    · cases q : Qx R a M with
      | false => rw [Bool.and_false]
      | true =>
        have h1 := chain_le h M s (a + 1) a ha (by omega) hM q
        have h2 := (h.ok x hx).2.1 a hxa ha c
        exact absurd ⟨c, by omega⟩ hn
    · rw [Bool.not_eq_true] at c
      rw [c] <;> rfl
theorem fnd_take {x s a : Nat} {M : List Nat} (ha : a < R.length) (hle : Le R x a) (hf : fnd R a s (a + 1) = some M) : fnd R x (s + 1) a = some (a :: M) := by
  unfold fnd at hf ⊢
  rw [ofS_cut _ _ _ ha, List.find?_append, List.find?_map]
  have e : (Qx R x ∘ (a :: ·)) = Qx R a := by
    funext M
    show Qx R x (a :: M) = Qx R a M
    rw [Qx_cons, hle, Bool.true_and]
  rw [e, hf]
  rfl
def runC (R : List (List Int)) (L C : List Nat) (a m : Nat) : List Nat := (List.range m).foldl (fun C j => stepC R L C (a + j)) C
theorem runC_succ (C : List Nat) (a m : Nat) : runC R L C a (m + 1) = runC R L (stepC R L C a) (a + 1) m := by
  unfold runC
  rw [List.range_succ_eq_map, List.foldl_cons, List.foldl_map]
  congr 1
  funext C j
  rw [show a + Nat.succ j = a + 1 + j from by omega]
theorem run_ok (h : LenOk R L) : ∀ (m a : Nat) (C : List Nat) (x s : Nat), a + m = R.length → x < a → C ≠ [] → C.getD (C.length - 1) 0 = x → L.getD x 0 = s + 1 → (∀ b, x < b → b < a → Le R x b → L.getD b 0 ≠ s) → ∃ M, runC R L C a m = C ++ M ∧ fnd R x s a = some M
  | 0, a, C, x, s, hm, hxa, hC, hlast, hL, hno => by
    refine ⟨[], by rw [List.append_nil]; rfl, ?_⟩
    cases s with
    | zero => exact fnd_zero x a
    | succ s =>
      rcases (h.ok x (by omega)).2.2 with h1 | ⟨b, b1, b2, b3, b4⟩
      · omega
      · exact absurd (by omega) (hno b b1 (by omega) b3)
  | m + 1, a, C, x, s, hm, hxa, hC, hlast, hL, hno => by
    rw [runC_succ]
    have ha : a < R.length := by omega
    have hx : x < R.length := by omega
    unfold stepC
    rw [hlast]
    by_cases c : Le R x a ∧ L.getD a 0 = s
    · have hs : 1 ≤ s := by have := (h.ok a ha).1; omega
      obtain ⟨s', rfl⟩ : ∃ s', s = s' + 1 := ⟨s - 1, by omega⟩
      rw [if_pos (by rw [Bool.and_eq_true]; exact ⟨c.1, decide_eq_true (by rw [c.2, hL]; omega)⟩)]
      obtain ⟨M, e1, e2⟩ := run_ok h m (a + 1) (C ++ [a]) a s' (by omega) (by omega) (by simp) (by rw [List.length_append]; simp [List.getD_eq_getElem?_getD]) c.2 (fun b hb1 hb2 => by omega)
      exact ⟨a :: M, by rw [e1]; simp, fnd_take ha c.1 e2⟩
    · rw [if_neg (fun q => c (by
        rw [Bool.and_eq_true] at q
        have := of_decide_eq_true q.2
        exact ⟨q.1, by omega⟩))]
      obtain ⟨M, e1, e2⟩ := run_ok h m (a + 1) C x s (by omega) (by omega) hC hlast hL (fun b hb1 hb2 hb3 => by
        by_cases hba : b = a
        · subst hba
          exact fun q => c ⟨hb3, q⟩
        · exact hno b hb1 (by omega) hb3)
      refine ⟨M, e1, ?_⟩
      cases s with
      | zero => rw [fnd_zero] at e2 ⊢; exact e2
      | succ s => rw [fnd_skip h ha hx hxa (by omega) c]; exact e2
/-! ### of all sets -/
def tps (R : List (List Int)) (s a : Nat) : Option (List Nat) := (ofS R.length s a).find? (stAll R)
theorem top_skip (h : LenOk R L) {s a : Nat} (ha : a < R.length) (hL : L.getD a 0 < s + 1) : tps R (s + 1) a = tps R (s + 1) (a + 1) := by
  unfold tps
  rw [ofS_cut _ _ _ ha, List.find?_append, find_none_of fun M hM => ?_]
  · rfl
  · cases q : stAll R (a :: M) with
    | false => rfl
    | true =>
      have h1 := chain_le h M s (a + 1) a ha (by omega) hM q
      omega
theorem top_take {s a : Nat} {M : List Nat} (ha : a < R.length) (hf : fnd R a s (a + 1) = some M) : tps R (s + 1) a = some (a :: M) := by
  unfold tps
  unfold fnd at hf
  rw [ofS_cut _ _ _ ha, List.find?_append, List.find?_map]
  have e : (stAll R ∘ (a :: ·)) = Qx R a := rfl
  rw [e, hf]
  rfl
theorem top_to (h : LenOk R L) {s f : Nat} (hf : f < R.length) : ∀ k, k ≤ f → (∀ b, b < f → L.getD b 0 < s + 1) → tps R (s + 1) (f - k) = tps R (s + 1) f
  | 0, _, _ => rfl
  | k + 1, hk, hb => by
    rw [top_skip h (by omega) (hb _ (by omega)), show f - (k + 1) + 1 = f - k from by omega]
    exact top_to h hf k (by omega) hb
theorem top_none (h : LenOk R L) {s : Nat} (hs : ∀ b, b < R.length → L.getD b 0 < s + 1) : ∀ k, k ≤ R.length → tps R (s + 1) (R.length - k) = none
  | 0, _ => by
    unfold tps
    rw [ofS_end _ _ _ (by omega)]
    rfl
  | k + 1, hk => by
    rw [top_skip h (by omega) (hs _ (by omega)), show R.length - (k + 1) + 1 = R.length - k from by omega]
    exact top_none h hs k (by omega)
end
theorem setF_none {R : List (List Int)} {L : List Nat} (h : LenOk R L) {s : Nat} (hs : ∀ b, b < R.length → L.getD b 0 ≤ s + 1) : ∀ m, m + (s + 1) ≤ R.length → (setF R.length m).find? (stAll R) = none
  | 0, _ => rfl
  | m + 1, hm => by
    rw [setF_succ, List.find?_append, setF_none h hs m (by omega)]
    obtain ⟨s', e⟩ : ∃ s', R.length - m = s' + 1 := ⟨R.length - m - 1, by omega⟩
    have := top_none h (s := s') (fun b hb => by have := hs b hb; omega) R.length (Nat.le_refl _)
    rw [Nat.sub_self] at this
    unfold tps at this
    rw [e, this]
    rfl
theorem setF_some {R : List (List Int)} {C : List Nat} {m0 : Nat} (h : (setF R.length m0).find? (stAll R) = some C) : ∀ k, (setF R.length (m0 + k)).find? (stAll R) = some C
  | 0 => h
  | k + 1 => by
    rw [← Nat.add_assoc, setF_succ, List.find?_append, setF_some h k]
    rfl
theorem best_all {R : List (List Int)} (h0 : 0 < R.length) : (setsR R.length).find? (stAll R) = some (steadyR R (lengthsR R)) ∧ (∀ b, b < R.length → (lengthsR R).getD b 0 ≤ (steadyR R (lengthsR R)).length) ∧ ∃ s, steadyR R (lengthsR R) ∈ ofS R.length s 0 := by
  have h := lens_ok R
  generalize hL : lengthsR R = L at h ⊢
  have hlen := h.len
  obtain ⟨g1, g2⟩ := fg_ok L (by omega) L.length (Nat.le_refl _)
  have hf : firstG L < R.length := by rw [← hlen]; exact fgF_lt L (by omega) _ (Nat.le_refl _)
  have e0 : steadyR R L = runC R L [firstG L] (firstG L + 1) (R.length - (firstG L + 1)) := rfl
  have g1 : ∀ b, b < R.length → L.getD b 0 ≤ L.getD (firstG L) 0 := fun b hb => g1 b (by omega)
  have g2 : ∀ b, b < firstG L → L.getD b 0 < L.getD (firstG L) 0 := g2
  rw [e0]
  generalize firstG L = f at hf g1 g2 ⊢
  have hpos := (h.ok f hf).1
  obtain ⟨s, hs⟩ : ∃ s, L.getD f 0 = s + 1 := ⟨L.getD f 0 - 1, by omega⟩
  have hln := len_le h _ f hf (Nat.le_refl _)
  obtain ⟨M, e1, e2⟩ := run_ok h (R.length - (f + 1)) (f + 1) [f] f s (by omega) (by omega) (by simp) rfl hs (fun b hb1 hb2 => by omega)
  have t1 := top_take hf e2
  have t2 := top_to h (s := s) hf f (Nat.le_refl _) (fun b hb => by have := g2 b hb; omega)
  rw [Nat.sub_self, t1] at t2
  rw [e1]
  have hmem : f :: M ∈ ofS R.length (s + 1) 0 := by
    unfold tps at t2
    exact List.mem_of_find?_eq_some t2
  have hfin : (setF R.length (R.length - (s + 1) + 1)).find? (stAll R) = some (f :: M) := by
    rw [setF_succ, List.find?_append, setF_none h (s := s) (fun b hb => by have := g1 b hb; omega) _ (by omega), show R.length - (R.length - (s + 1)) = s + 1 from by omega]
    unfold tps at t2
    rw [t2]
    rfl
  refine ⟨?_, fun b hb => ?_, s + 1, hmem⟩
  · have := setF_some hfin s
    rw [show R.length - (s + 1) + 1 + s = R.length from by omega] at this
    have h2 := setF_some hfin (s + 1)
    rw [show R.length - (s + 1) + 1 + (s + 1) = R.length + 1 from by omega] at h2
    exact h2
  · have h1 := g1 b hb
    have h2 := (ofS_mem _ _ _ _ hmem).1
    show L.getD b 0 ≤ (f :: M).length
    omega
theorem best_find {R : List (List Int)} (h : 0 < R.length) : (setsR R.length).find? (stAll R) = some (steadyR R (lengthsR R)) := (best_all h).1
end K11
namespace K11
open PySem L2 Py
/-! ### the arrangement is right -/
theorem pw_asc {M : List Nat} (h : M.Pairwise (· < ·)) : ascN M = true := by
  unfold ascN
  rw [List.all_eq_true]
  intro i hi
  have hi := List.mem_range.mp hi
  have := List.pairwise_iff_getElem.mp h i (i + 1) (by omega) (by omega) (by omega)
  refine decide_eq_true ?_
  rw [List.getD_eq_getElem?_getD, List.getD_eq_getElem?_getD, List.getElem?_eq_getElem (by omega), List.getElem?_eq_getElem (by omega)]
  show (M[i] : Int) < (M[i + 1] : Nat)
  omega
theorem ofS_pw (n : Nat) : ∀ (s st : Nat) (M : List Nat), M ∈ ofS n s st → M.Pairwise (· < ·)
  | 0, st, M, h => by
    obtain rfl : M = [] := by simpa [ofS] using h
    exact .nil
  | s + 1, st, M, h => by
    unfold ofS at h
    obtain ⟨k, hk, h⟩ := List.mem_flatMap.mp h
    obtain ⟨M', h1, rfl⟩ := List.mem_map.mp h
    exact List.pairwise_cons.mpr ⟨fun x hx => by have := (ofS_mem n s _ M' h1).2 x hx; omega, ofS_pw n s _ M' h1⟩
theorem flAll_cons (R : List (List Int)) (a : Nat) (M : List Nat) : flAll R (a :: M) = ((M.all fun b => !leR R a b) && flAll R M) := by
  unfold flAll
  rw [List.length_cons, List.range_succ_eq_map, List.all_cons, List.all_map]
  congr 1
theorem pw_fall {R : List (List Int)} : ∀ {M : List Nat}, M.Pairwise (fun a b => leR R a b = false) → flAll R M = true
  | [], _ => rfl
  | a :: M, h => by
    obtain ⟨h1, h2⟩ := List.pairwise_cons.mp h
    rw [flAll_cons, pw_fall h2, Bool.and_true, List.all_eq_true]
    exact fun b hb => by rw [h1 b hb] <;> rfl
theorem cnt_step (g : Nat → Nat) (m : Nat) : ∀ xs : List Nat, (xs.filter fun a => decide (1 ≤ g a ∧ g a ≤ m + 1)).length = (xs.filter fun a => decide (1 ≤ g a ∧ g a ≤ m)).length + (xs.filter fun a => decide (g a = m + 1)).length
  | [] => rfl
  | x :: xs => by
    have ih := cnt_step g m xs
    rw [List.filter_cons, List.filter_cons, List.filter_cons]
    by_cases h1 : g x = m + 1
    · rw [if_pos (decide_eq_true (by omega)), if_neg (by rw [decide_eq_true_eq]; omega), if_pos (decide_eq_true h1)]
      simp only [List.length_cons]
      omega
    · by_cases h2 : 1 ≤ g x ∧ g x ≤ m
      · rw [if_pos (decide_eq_true (by omega)), if_pos (decide_eq_true h2), if_neg (by rw [decide_eq_true_eq]; exact h1)]
        simp only [List.length_cons]
        omega
      · rw [if_neg (by rw [decide_eq_true_eq]; omega), if_neg (by rw [decide_eq_true_eq]; exact h2), if_neg (by rw [decide_eq_true_eq]; exact h1)]
        exact ih
theorem cnt_sum (g : Nat → Nat) (xs : List Nat) : ∀ m, (((List.range m).map fun l => xs.filter fun a => decide (g a = l + 1)).flatten).length = (xs.filter fun a => decide (1 ≤ g a ∧ g a ≤ m)).length
  | 0 => by
    show 0 = _
    symm
    rw [List.length_eq_zero_iff, List.filter_eq_nil_iff]
    intro a _
    rw [decide_eq_true_eq]
    omega
  | m + 1 => by
    rw [List.range_succ, List.map_append, List.flatten_append, List.length_append, cnt_sum g xs m, cnt_step]
    simp
theorem shown_arr {R : List (List Int)} (h0 : 0 < R.length) : shownB R (steadyR R (lengthsR R)) (fallsN R) = true := by
  have h := lens_ok R
  obtain ⟨b1, b2, s, b3⟩ := best_all h0
  have e1 : stAll R (steadyR R (lengthsR R)) = true := List.find?_some b1
  have e2 := pw_asc (ofS_pw _ _ _ _ b3)
  have hlen := h.len
  unfold fallsN
  generalize steadyR R (lengthsR R) = S at e1 e2 b2 ⊢
  generalize lengthsR R = L at h b2 hlen ⊢
  unfold shownB
  rw [e1, e2, List.length_map, List.length_range, decide_eq_true rfl, Bool.true_and, Bool.true_and, Bool.true_and, Bool.and_eq_true]
  constructor
  · rw [List.all_eq_true]
    intro f hf
    obtain ⟨l, _, rfl⟩ := List.mem_map.mp hf
    have pw : (rowsW L (l + 1)).Pairwise (· < ·) := List.Pairwise.filter _ List.pairwise_lt_range
    unfold fallB
    rw [pw_asc pw, Bool.true_and]
    refine pw_fall (pw.imp_of_mem fun {a b} ha hb hab => ?_)
    have ha := List.mem_filter.mp ha
    have hb := List.mem_filter.mp hb
    have la := of_decide_eq_true ha.2
    have lb := of_decide_eq_true hb.2
    have ha := List.mem_range.mp ha.1
    have hb := List.mem_range.mp hb.1
    cases c : leR R a b with
    | false => rfl
    | true =>
      have := (h.ok a (by omega)).2.1 b hab (by omega) c
      omega
  · unfold coverB
    rw [Bool.and_eq_true]
    constructor
    · refine decide_eq_true ?_
      have := cnt_sum (fun a => L.getD a 0) (List.range L.length) S.length
      have e3 : ((List.range S.length).map fun l => rowsW L (l + 1)).flatten.length = ((List.range L.length).filter fun a => decide (1 ≤ L.getD a 0 ∧ L.getD a 0 ≤ S.length)).length := this
      rw [e3, List.filter_eq_self.mpr fun a ha => ?_, List.length_range, hlen]
      have ha := List.mem_range.mp ha
      exact decide_eq_true ⟨(h.ok a (by omega)).1, b2 a (by omega)⟩
    · rw [List.all_eq_true]
      intro a ha
      have ha := List.mem_range.mp ha
      rw [List.any_eq_true]
      have p1 := (h.ok a ha).1
      have p2 := b2 a ha
      refine ⟨a, List.mem_flatten.mpr ⟨rowsW L (L.getD a 0 - 1 + 1), List.mem_map.mpr ⟨L.getD a 0 - 1, List.mem_range.mpr (by omega), rfl⟩, ?_⟩, decide_eq_true rfl⟩
      unfold rowsW
      exact List.mem_filter.mpr ⟨List.mem_range.mpr (by omega), decide_eq_true (by omega)⟩
/-! ### both ways to say it -/
theorem zs_get (S : List Nat) (i : Nat) : (zs S).getD i 0 = (S.getD i 0 : Int) := by
  unfold zs
  rw [List.getD_eq_getElem?_getD, List.getD_eq_getElem?_getD, List.getElem?_map]
  cases S[i]? <;> rfl
def stC (f : Nat → Nat → Bool) (S : List Nat) : Bool := (List.range (S.length - 1)).all fun i => f (S.getD i 0) (S.getD (i + 1) 0)
theorem stC_cons (f : Nat → Nat → Bool) (a b : Nat) (M : List Nat) : stC f (a :: b :: M) = (f a b && stC f (b :: M)) := by
  unfold stC
  show (List.range (M.length + 1)).all _ = _
  rw [List.range_succ_eq_map, List.all_cons, List.all_map]
  rfl
theorem stC_all (R : List (List Int)) : ∀ S : List Nat, stC (leR R) S = stAll R S
  | [] => rfl
  | [a] => by rw [stAll_cons]; rfl
  | a :: b :: M => by
    rw [stC_cons, stC_all R (b :: M), stAll_cons R a (b :: M), stAll_cons R b M, List.all_cons]
    cases h1 : leR R a b with
    | false => rfl
    | true =>
      cases h2 : (M.all fun c => leR R b c) with
      | false => simp
      | true =>
        have h3 : (M.all fun c => leR R a c) = true := by
          rw [List.all_eq_true] at h2 ⊢
          exact fun c hc => le_tr h1 (h2 c hc)
        rw [h3]
        simp
theorem lt_tr {R : List (List Int)} {a b c : Nat} (h1 : (!leR R a b) = true) (h2 : (!leR R b c) = true) : (!leR R a c) = true := by
  rw [Bool.not_eq_true'] at *
  cases h : leR R a c with
  | false => rfl
  | true =>
    have h3 : Le R c b := le_tot (by rw [Bool.not_eq_true]; exact h2)
    have := le_tr (show Le R a c from h) h3
    rw [this] at h1
    cases h1
theorem flC_all (R : List (List Int)) : ∀ S : List Nat, stC (fun a b => !leR R a b) S = flAll R S
  | [] => rfl
  | [a] => by rw [flAll_cons]; rfl
  | a :: b :: M => by
    rw [stC_cons, flC_all R (b :: M), flAll_cons R a (b :: M), flAll_cons R b M, List.all_cons]
    cases h1 : !leR R a b with
    | false => rfl
    | true =>
      cases h2 : (M.all fun c => !leR R b c) with
      | false => simp
      | true =>
        have h3 : (M.all fun c => !leR R a c) = true := by
          rw [List.all_eq_true] at h2 ⊢
          exact fun c hc => lt_tr h1 (h2 c hc)
        rw [h3]
        simp
theorem ixs_zs {n : Nat} {S : List Nat} (hS : ∀ x ∈ S, x < n) : ixsB n (zs S) = ascN S := by
  have hl : (zs S).length = S.length := List.length_map _
  have e1 : inB n (zs S) = true := by
    unfold inB
    rw [List.all_eq_true]
    intro i hi
    have hi := List.mem_range.mp hi
    rw [hl] at hi
    have := mem_at hS hi
    rw [zs_get, decide_eq_true (by omega), decide_eq_true (by omega)] <;> rfl
  unfold ixsB
  rw [e1, Bool.true_and]
  unfold ascB ascN
  rw [hl]
  congr 1
  funext i
  rw [zs_get, zs_get]
theorem asc_zs (f : Nat → Nat → Bool) (S : List Nat) : ascB (fun a b => f a.toNat b.toNat) (zs S) = stC f S := by
  have hl : (zs S).length = S.length := List.length_map _
  unfold ascB stC
  rw [hl]
  congr 1
  funext i
  rw [zs_get, zs_get]
  rfl
theorem st_zs {R : List (List Int)} {S : List Nat} (hS : ∀ x ∈ S, x < R.length) : stB R (zs S) = (ascN S && stAll R S) := by
  unfold stB
  rw [ixs_zs hS, asc_zs, stC_all]
theorem fl_zs {R : List (List Int)} {S : List Nat} (hS : ∀ x ∈ S, x < R.length) : flB R (zs S) = fallB R S := by
  unfold flB fallB
  rw [ixs_zs hS, asc_zs (fun a b => !leR R a b), flC_all]
theorem flat_zs : ∀ fs : List (List Nat), (fs.map zs).flatten = zs fs.flatten
  | [] => rfl
  | f :: fs => by
    rw [List.map_cons, List.flatten_cons, List.flatten_cons, flat_zs fs]
    unfold zs
    rw [List.map_append]
theorem once_zs (n : Nat) (fs : List (List Nat)) : onceB n (fs.map zs) = coverB n fs.flatten := by
  unfold onceB coverB
  rw [flat_zs]
  unfold zs
  rw [List.length_map]
  congr 1
  congr 1
  funext a
  rw [List.any_map]
  rfl
theorem all_fl {R : List (List Int)} : ∀ {fs : List (List Nat)}, (∀ f ∈ fs, ∀ x ∈ f, x < R.length) → (fs.map zs).all (flB R) = fs.all (fallB R)
  | [], _ => rfl
  | f :: fs, h => by
    rw [List.map_cons, List.all_cons, List.all_cons, fl_zs (h f (List.mem_cons_self ..)), all_fl fun g hg => h g (List.mem_cons_of_mem _ hg)]
theorem shows_shown {R : List (List Int)} {S : List Nat} {fs : List (List Nat)} (hS : ∀ x ∈ S, x < R.length) (hf : ∀ f ∈ fs, ∀ x ∈ f, x < R.length) : showsB R (zs S, fs.map zs) = shownB R S fs := by
  have hl : (zs S).length = S.length := List.length_map _
  unfold showsB shownB
  show ((stB R (zs S) && (fs.map zs).all (flB R)) && (decide (((zs S).length : Int) = ((fs.map zs).length : Nat)) && onceB R.length (fs.map zs))) = _
  rw [st_zs hS, all_fl hf, once_zs, hl, List.length_map, show decide ((S.length : Int) = (fs.length : Nat)) = decide ((fs.length : Int) = (S.length : Nat)) from decide_eq_decide.mpr (by omega)]
  cases ascN S <;> cases stAll R S <;> cases fs.all (fallB R) <;> cases decide ((fs.length : Int) = (S.length : Nat)) <;> cases coverB R.length fs.flatten <;> rfl
end K11
namespace K11
open PySem L2 Py
/-! ### the sorted rows -/
abbrev Lt (R : List (List Int)) (i j : Nat) : Bool := HT.lexLt (rk R i) (rk R j)
theorem le_lt {R : List (List Int)} {i j : Nat} : leR R i j = !Lt R j i := rfl
def pos (R : List (List Int)) (k i : Nat) : Nat := ((List.range k).countP fun j => Lt R j i) + ((List.range i).countP fun j => decide (rk R j = rk R i))
theorem map_rk (R : List (List Int)) : R = (List.range R.length).map (rk R) := by
  apply List.ext_getElem?
  intro i
  by_cases hi : i < R.length
  · rw [List.getElem?_map, List.getElem?_range hi]
    show R[i]? = some (rk R i)
    unfold rk
    rw [List.getD_eq_getElem?_getD, List.getElem?_eq_getElem hi]
    rfl
  · rw [List.getElem?_eq_none (by omega), List.getElem?_eq_none (by simpa using Nat.le_of_not_lt hi)]
theorem sIx_pos {R : List (List Int)} {a : Nat} (ha : a < R.length) : sIx R a = pos R R.length a := by
  unfold sIx pos
  rw [← List.countP_eq_length_filter]
  have key : ∀ p : List Int → Bool, R.countP p = (List.range R.length).countP (p ∘ rk R) := fun p => by rw [← List.countP_map, ← map_rk R]
  have h1 : R.countP (fun r => HT.lexLt r (rk R a)) = (List.range R.length).countP fun j => Lt R j a := key _
  have h2 : (R.take a).countP (fun r => decide (r = rk R a)) = (List.range a).countP fun j => decide (rk R j = rk R a) := by
    have e : R.take a = (List.range a).map (rk R) := by
      conv => lhs; rw [map_rk R]
      rw [← List.map_take, List.take_range, Nat.min_eq_left (by omega)]
    rw [e, List.countP_map]
    rfl
  rw [h1, h2]
def cI (R : List (List Int)) (k : Nat) : List Nat → Nat
  | [] => 0
  | x :: I => if leR R x k = true then cI R k I + 1 else 0
def insI (R : List (List Int)) (I : List Nat) (k : Nat) : List Nat := I.take (cI R k I) ++ [k] ++ I.drop (cI R k I)
def idxs (R : List (List Int)) (k : Nat) : List Nat := (List.range k).foldl (insI R) []
theorem idxs_succ (R : List (List Int)) (k : Nat) : idxs R (k + 1) = insI R (idxs R k) k := by unfold idxs; rw [List.range_succ, List.foldl_append]; rfl
theorem cI_le (R : List (List Int)) (k : Nat) : ∀ I : List Nat, cI R k I ≤ I.length
  | [] => Nat.le_refl _
  | x :: I => by
    unfold cI
    have := cI_le R k I
    rw [List.length_cons]
    split <;> omega
theorem cI_take (R : List (List Int)) (k : Nat) : ∀ (I : List Nat), ∀ x ∈ I.take (cI R k I), leR R x k = true
  | [], x, h => by simp [cI] at h
  | y :: I, x, h => by
    unfold cI at h
    split at h
    · rename_i c
      rw [List.take_succ_cons] at h
      rcases List.mem_cons.mp h with rfl | h
      · exact c
      · exact cI_take R k I x h
    · simp at h
theorem cI_drop (R : List (List Int)) (k : Nat) : ∀ (I : List Nat), I.Pairwise (fun a b => leR R a b = true) → ∀ x ∈ I.drop (cI R k I), leR R x k = false
  | [], _, x, h => by simp [cI] at h
  | y :: I, hp, x, h => by
    obtain ⟨h1, h2⟩ := List.pairwise_cons.mp hp
    unfold cI at h
    split at h
    · rw [List.drop_succ_cons] at h
      exact cI_drop R k I h2 x h
    · rename_i c
      rw [Bool.not_eq_true] at c
      rw [List.drop_zero] at h
      rcases List.mem_cons.mp h with rfl | h
      · exact c
      · cases q : leR R x k with
        | false => rfl
        | true =>
          have := le_tr (show Le R y x from h1 x h) q
          rw [this] at c
          cases c
structure IOk (R : List (List Int)) (k : Nat) (I : List Nat) : Prop where
  perm : I.Perm (List.range k)
  pw : I.Pairwise (fun a b => leR R a b = true)
  at_ : ∀ p x, I[p]? = some x → pos R k x = p
theorem pos_succ (R : List (List Int)) (k i : Nat) : pos R (k + 1) i = pos R k i + if Lt R k i = true then 1 else 0 := by
  unfold pos
  rw [List.range_succ, List.countP_append, List.countP_singleton]
  omega
theorem cnt_le_k (R : List (List Int)) (k : Nat) : ∀ xs : List Nat, (xs.countP fun j => leR R j k) = (xs.countP fun j => Lt R j k) + (xs.countP fun j => decide (rk R j = rk R k))
  | [] => rfl
  | x :: xs => by
    have ih := cnt_le_k R k xs
    rw [List.countP_cons, List.countP_cons, List.countP_cons, ih]
    by_cases h : rk R x = rk R k
    · have e1 : Lt R x k = false := by show HT.lexLt (rk R x) (rk R k) = false; rw [h]; exact lex_irr _
      have e2 : leR R x k = true := by rw [le_lt]; show (!HT.lexLt (rk R k) (rk R x)) = true; rw [h, lex_irr] <;> rfl
      rw [e1, e2, decide_eq_true h]
      simp
      omega
    · have e1 : leR R x k = Lt R x k := by
        rw [le_lt]
        show (!HT.lexLt (rk R k) (rk R x)) = HT.lexLt (rk R x) (rk R k)
        rw [lex_tri _ _ (Ne.symm h)]
      rw [e1, decide_eq_false h]
      cases Lt R x k <;> simp <;> omega
theorem ins_ok {R : List (List Int)} {k : Nat} {I : List Nat} (h : IOk R k I) : IOk R (k + 1) (insI R I k) := by
  have hc := cI_le R k I
  have ht := cI_take R k I
  have hd := cI_drop R k I h.pw
  have hcount : cI R k I = pos R (k + 1) k := by
    have e1 : (I.countP fun j => leR R j k) = cI R k I := by
      conv => lhs; rw [← List.take_append_drop (cI R k I) I]
      rw [List.countP_append, List.countP_eq_length.mpr ht, List.countP_eq_zero.mpr (fun x hx => by rw [hd x hx]; decide), List.length_take]
      omega
    rw [pos_succ, ← e1, h.perm.countP_eq, cnt_le_k]
    have : Lt R k k = false := lex_irr _
    rw [this]
    rfl
  unfold insI
  generalize cI R k I = c at hc ht hd hcount ⊢
  refine ⟨?_, ?_, ?_⟩
  · rw [List.range_succ]
    refine List.Perm.trans ?_ (h.perm.append_right [k])
    conv => rhs; rw [← List.take_append_drop c I]
    rw [List.append_assoc, List.append_assoc]
    exact List.Perm.append_left _ List.perm_append_comm
  · rw [List.append_assoc]
    have pI := h.pw
    rw [← List.take_append_drop c I] at pI
    obtain ⟨p1, p2, p3⟩ := List.pairwise_append.mp pI
    refine List.pairwise_append.mpr ⟨p1, List.pairwise_cons.mpr ⟨fun x hx => ?_, p2⟩, fun a ha b hb => ?_⟩
    · have := hd x hx
      exact le_tot (by rw [Bool.not_eq_true]; exact this)
    · rcases List.mem_cons.mp hb with rfl | hb
      · exact ht a ha
      · exact p3 a ha b hb
  · intro p x hx
    rw [List.append_assoc] at hx
    have hlt : (I.take c).length = c := by rw [List.length_take]; omega
    by_cases h1 : p < c
    · rw [List.getElem?_append_left (by omega)] at hx
      have hm := ht x (List.mem_of_getElem? hx)
      rw [List.getElem?_take_of_lt h1] at hx
      rw [pos_succ, h.at_ p x hx]
      rw [le_lt, Bool.not_eq_true'] at hm
      rw [hm]
      rfl
    · rw [List.getElem?_append_right (by omega), hlt] at hx
      by_cases h2 : p = c
      · subst h2
        rw [Nat.sub_self] at hx
        have hx : k = x := Option.some.inj hx
        subst hx
        exact hcount.symm
      · obtain ⟨q, rfl⟩ : ∃ q, p = c + 1 + q := ⟨p - c - 1, by omega⟩
        rw [show c + 1 + q - c = q + 1 from by omega, show [k] ++ I.drop c = k :: I.drop c from rfl, List.getElem?_cons_succ] at hx
        have hm := hd x (List.mem_of_getElem? hx)
        rw [List.getElem?_drop] at hx
        rw [pos_succ, h.at_ (c + q) x hx]
        rw [le_lt, Bool.not_eq_false'] at hm
        rw [hm, if_pos rfl]
        omega
theorem idxs_ok (R : List (List Int)) : ∀ k, IOk R k (idxs R k)
  | 0 => ⟨List.Perm.refl _, .nil, fun p x h => by simp [idxs] at h⟩
  | k + 1 => by
    rw [idxs_succ]
    exact ins_ok (idxs_ok R k)
theorem cnt_cI {c : TabD} {qs : List QD} (hT : TabOk c) (hq : ∀ q ∈ qs, QFit c.cols q) {k : Nat} (hk : k < c.rows.length) : ∀ I : List Nat, (∀ x ∈ I, x < c.rows.length) → cnt c.cols (parts qs) (rowAt c k) (I.map (rowAt c)) = cI (RR c qs) k I
  | [], _ => rfl
  | x :: I, h => by
    have hx := h x (List.mem_cons_self ..)
    have ih := cnt_cI hT hq hk I fun y hy => h y (List.mem_cons_of_mem _ hy)
    have e := outc_nn hT.cols (rowAt_ok hT hk) (rowAt_ok hT hx) (parts_ok hq)
    have e2 : leR (RR c qs) x k = decide (0 ≤ outc c.cols (rowAt c k) (rowAt c x) (parts qs)) := by
      rw [e]
      unfold leR leX
      rw [rk_R hx, rk_R hk]
    rw [List.map_cons]
    unfold cnt cI
    rw [ih, e2]
    by_cases h0 : 0 ≤ outc c.cols (rowAt c k) (rowAt c x) (parts qs)
    · rw [if_pos h0, if_pos (decide_eq_true h0)]
    · rw [if_neg h0, if_neg (by rw [decide_eq_true_eq]; exact h0)]
theorem take_rows {c : TabD} {k : Nat} (hk : k < c.rows.length) : c.rows.take (k + 1) = c.rows.take k ++ [rowAt c k] := by
  rw [List.take_succ_eq_append_getElem hk]
  congr 1
  congr 1
  exact (Option.some.inj ((List.getElem?_eq_getElem hk).symm.trans (rowAt_get hk)))
theorem sorted_idx {c : TabD} {qs : List QD} (hT : TabOk c) (hq : ∀ q ∈ qs, QFit c.cols q) : ∀ k, k ≤ c.rows.length → sortedR c.cols (parts qs) (c.rows.take k) = (idxs (RR c qs) k).map (rowAt c)
  | 0, _ => rfl
  | k + 1, hk => by
    have hmem : ∀ x ∈ idxs (RR c qs) k, x < c.rows.length := fun x hx => by
      have := List.mem_range.mp ((idxs_ok (RR c qs) k).perm.mem_iff.mp hx)
      omega
    rw [take_rows (by omega), sorted_snoc, sorted_idx hT hq k (by omega), idxs_succ]
    unfold insR insI
    rw [cnt_cI hT hq (by omega) _ hmem, List.map_append, List.map_append, List.map_take, List.map_drop]
    rfl
theorem sortF_get {R : List (List Int)} {c : TabD} (T : List (List Cell)) (hl : T.length = c.rows.length) (hR : R.length = c.rows.length) (hT : ∀ i, i < c.rows.length → T[sIx R i]? = some (rowAt c i)) : ∀ m, m ≤ c.rows.length → (sortF R c m).length = c.rows.length ∧ ∀ p, (∃ i, i < m ∧ sIx R i = p) → (sortF R c m)[p]? = T[p]?
  | 0, _ => ⟨rfl, fun p ⟨i, hi, _⟩ => by omega⟩
  | m + 1, hm => by
    obtain ⟨h1, h2⟩ := sortF_get T hl hR hT m (by omega)
    have e : sortF R c (m + 1) = (sortF R c m).set (sIx R m) (rowAt c m) := by unfold sortF; rw [List.range_succ, List.foldl_append]; rfl
    rw [e]
    have hlt := sIx_lt (R := R) (a := m) (by omega)
    refine ⟨by rw [List.length_set]; exact h1, fun p ⟨i, hi, hp⟩ => ?_⟩
    rw [List.getElem?_set]
    by_cases hc : sIx R m = p
    · subst hc
      rw [if_pos rfl, if_pos (by omega)]
      exact (hT m (by omega)).symm
    · rw [if_neg hc]
      refine h2 p ⟨i, ?_, hp⟩
      rcases Nat.lt_succ_iff_lt_or_eq.mp hi with h | h
      · exact h
      · subst h
        exact absurd hp hc
theorem sort_eq {c : TabD} {qs : List QD} (hT : TabOk c) (hq : ∀ q ∈ qs, QFit c.cols q) (hk : KeyOk c.cols (parts qs)) : sortT c (parts qs) = ⟨c.cols, sortedR c.cols (parts qs) c.rows⟩ := by
  have hRl : (RR c qs).length = c.rows.length := ranksR_len
  have hs := sorted_idx hT hq c.rows.length (Nat.le_refl _)
  rw [List.take_length] at hs
  have hI := idxs_ok (RR c qs) c.rows.length
  rw [hs]
  show TabD.mk c.cols (sortF (RR c qs) c c.rows.length) = _
  congr 1
  generalize idxs (RR c qs) c.rows.length = I at hI
  generalize RR c qs = R at hI hRl
  have hIl : I.length = c.rows.length := by rw [hI.perm.length_eq, List.length_range]
  have hat : ∀ p x, I[p]? = some x → x < c.rows.length ∧ sIx R x = p := fun p x hx => by
    have hx1 := List.mem_range.mp (hI.perm.mem_iff.mp (List.mem_of_getElem? hx))
    refine ⟨hx1, ?_⟩
    rw [sIx_pos (by omega), hRl]
    exact hI.at_ p x hx
  have hTt : ∀ i, i < c.rows.length → (I.map (rowAt c))[sIx R i]? = some (rowAt c i) := fun i hi => by
    have hmem : i ∈ I := hI.perm.mem_iff.mpr (List.mem_range.mpr hi)
    obtain ⟨p, hp, e⟩ := List.getElem_of_mem hmem
    have e' : I[p]? = some i := by rw [List.getElem?_eq_getElem hp, e]
    rw [(hat p i e').2, List.getElem?_map, e']
    rfl
  obtain ⟨g1, g2⟩ := sortF_get (R := R) (I.map (rowAt c)) (by rw [List.length_map]; exact hIl) hRl hTt c.rows.length (Nat.le_refl _)
  apply List.ext_getElem?
  intro p
  by_cases hp : p < c.rows.length
  · have hx : I[p]? = some I[p] := List.getElem?_eq_getElem (by omega)
    obtain ⟨a, b⟩ := hat p _ hx
    exact g2 p ⟨I[p], a, b⟩
  · rw [List.getElem?_eq_none (by omega), List.getElem?_eq_none (by rw [List.length_map]; omega)]
end K11
namespace K11
open PySem L2 Py
/-! ### one arrangement is right -/
def GoodM (n : Nat) (M : List Nat) : Prop := M.length ≤ n + 1 ∧ ∀ x ∈ M, x < n
def GoodF (n : Nat) (F : List (List Nat)) : Prop := F.length ≤ n + 1 ∧ ∀ f ∈ F, GoodM n f
theorem flat_bound {n : Nat} {F : List (List Nat)} (h : GoodF n F) (hn : n ≤ 6) : F.flatten.length ≤ 900 := by
  have key : ∀ F : List (List Nat), (∀ f ∈ F, f.length ≤ 7) → F.flatten.length ≤ 7 * F.length := by
    intro F
    induction F with
    | nil => intro _; exact Nat.le_refl _
    | cons f F ih =>
      intro h
      rw [List.flatten_cons, List.length_append, List.length_cons]
      have h1 := h f (List.mem_cons_self ..)
      have h2 := ih fun g hg => h g (List.mem_cons_of_mem _ hg)
      omega
  have := key F fun f hf => by have := (h.2 f hf).1; omega
  have := h.1
  omega
theorem steady_good {R : List (List Int)} (h : 0 < R.length) : GoodM R.length (steadyR R (lengthsR R)) := by
  have hL : (lengthsR R).length = R.length := lenF_len R _
  have hfg : firstG (lengthsR R) < R.length := Nat.lt_of_lt_of_eq (fgF_lt (lengthsR R) (by omega) _ (Nat.le_refl _)) hL
  obtain ⟨_, h2, h3⟩ := stF_ok R (lengthsR R) hfg (R.length - (firstG (lengthsR R) + 1)) (by omega)
  exact ⟨Nat.le_trans h2 (by omega), h3⟩
theorem steady_ne {R : List (List Int)} (h : 0 < R.length) : steadyR R (lengthsR R) ≠ [] := by
  have hL : (lengthsR R).length = R.length := lenF_len R _
  have hfg : firstG (lengthsR R) < R.length := Nat.lt_of_lt_of_eq (fgF_lt (lengthsR R) (by omega) _ (Nat.le_refl _)) hL
  exact (stF_ok R (lengthsR R) hfg (R.length - (firstG (lengthsR R) + 1)) (by omega)).1
theorem rowsW_good {R : List (List Int)} (x : Nat) : GoodM R.length (rowsW (lengthsR R) x) := by
  have hL : (lengthsR R).length = R.length := lenF_len R _
  unfold rowsW
  refine ⟨Nat.le_trans (List.length_filter_le _ _) (by rw [List.length_range]; omega), fun x hx => ?_⟩
  have := List.mem_range.mp (List.mem_filter.mp hx).1
  omega
theorem falls_good {R : List (List Int)} (h : 0 < R.length) : GoodF R.length (fallsN R) := by
  unfold fallsN
  refine ⟨by rw [List.length_map, List.length_range]; exact (steady_good h).1, fun f hf => ?_⟩
  obtain ⟨l, _, rfl⟩ := List.mem_map.mp hf
  exact rowsW_good _
theorem arr_eq (R : List (List Int)) : arrR R = (zs (steadyR R (lengthsR R)), (fallsN R).map zs) := by
  unfold arrR fallsN
  rw [List.map_map] <;> rfl
theorem fn_eq {K : PySem.W.Frag} (F : List (List Nat)) : rFs' K (F.map zs) = rFn K F := by
  unfold rFs' rFn
  rw [List.map_map]
  congr 1
  exact List.map_congr_left fun f _ => by show rD K (intsT (zs f)) = rD K (natsT f); rw [natsT_eq]
def bestD (R : List (List Int)) (L : List (List Nat)) : PyData := match L.find? (stAll R) with | none => .none | some M => natsT M
theorem best_succ {R : List (List Int)} {L : List (List Nat)} {i : Nat} (hi : i < L.length) : bestD R (L.take (i + 1)) = if (isNonD (bestD R (L.take i)) && stAll R (L.getD i [])) = true then natsT (L.getD i []) else bestD R (L.take i) := by
  have e1 : L.getD i [] = L[i] := by rw [List.getD_eq_getElem?_getD, List.getElem?_eq_getElem hi] <;> rfl
  unfold bestD
  rw [List.take_succ_eq_append_getElem hi, List.find?_append, e1]
  cases h : (L.take i).find? (stAll R) with
  | some M => simp [isNonD]
  | none =>
    cases h2 : stAll R L[i] <;> simp [h2, isNonD]
theorem best_shp (R : List (List Int)) (L : List (List Nat)) : Shp 1 (bestD R L) := by
  unfold bestD
  split
  · exact shp_non.mono (by omega)
  · exact shp_tup (shp_map fun _ _ => shp_int)
theorem pick_set {K : PySem.W.Frag} {n : Nat} {Ms : List (List Nat)} (hg : ∀ M ∈ Ms, GoodM n M) {v : V} {H : Hp} (h : (rEx (α := Fin (Ms.map (rSt K)).length) fun i => (Ms.map (rSt K))[i]).p v H) : (rEx (α := {M : List Nat // GoodM n M}) fun M => rSt K M.1).p v H := by
  obtain ⟨i, p⟩ := h
  have hi : i.1 < Ms.length := Nat.lt_of_lt_of_eq i.2 (List.length_map _)
  have e1 : (Ms.map (rSt K))[i] = rSt K Ms[i.1] := by
    show (Ms.map (rSt K))[i.1] = _
    rw [List.getElem_map]
  change ((Ms.map (rSt K))[i]).p v H at p
  rw [e1] at p
  exact ⟨⟨Ms[i.1], hg _ (List.getElem_mem hi)⟩, p⟩
theorem bel_nat {K : PySem.W.Frag} {m : Nat} {v : V} {H : Hp} (h : (rBel K (m : Int)).p v H) : (rEx (α := Fin m) fun c => rD K (.int ((c.1 : Nat) : Int))).p v H := by
  obtain ⟨⟨i, h0, h1⟩, p⟩ := h
  refine ⟨⟨i.toNat, by omega⟩, ?_⟩
  show (rD K (.int ((i.toNat : Nat) : Int))).p v H
  rw [Int.toNat_of_nonneg h0]
  exact p
theorem sets_pos (n : Nat) : 0 < (setsR n).length := by
  have h : ([] : List Nat) ∈ setsR n := by
    unfold setsR setF
    exact List.mem_flatMap.mpr ⟨n, List.mem_range.mpr (by omega), by rw [Nat.sub_self]; simp [ofS]⟩
  exact List.length_pos_of_mem h
theorem sets_two : ∀ n, n < 7 → 2 ≤ (setsR n).length ∨ n = 0 := by decide +kernel
theorem map_erase {K : PySem.W.Frag} {F : List (List Nat)} {i : Nat} : (F.map (rSt K)).eraseIdx i = (F.eraseIdx i).map (rSt K) := by
  induction F generalizing i with
  | nil => rfl
  | cons f F ih => cases i with
    | zero => rfl
    | succ i => show rSt K f :: (F.map (rSt K)).eraseIdx i = _; rw [ih]; rfl
theorem sets_good {n : Nat} : ∀ M ∈ setsR n, GoodM n M := fun M h => by
  have := sets_mem h
  exact ⟨by omega, this.2⟩
theorem conv_qs3 {K : PySem.W.Frag} {cs : Cols} (v : V) (H : Hp) (h : (rEx fun c : {i : Int // 0 ≤ i ∧ i < 3} => rLst ((List.range c.1.toNat).map fun _ => rQ K cs)).p v H) : ∃ qs : {qs : List QD // qs.length ≤ 4 ∧ ∀ q ∈ qs, QFit cs q}, (rQs K qs.1).p v H := conv_qs (n := fun c : {i : Int // 0 ≤ i ∧ i < 3} => c.1.toNat) (fun c => by have := c.2; omega) v H h
section
variable {P : Program} {w : PySem.World} {K : PySem.W.Frag} {mg : Str → Option Value} {base : Heap} {d : Ad} {e : Ld} {t : Ae} {g : Ag}
abbrev NOR : List Str := ["_law_state", "_law_drawn_here", "_law_columns", "_law_rows", "_law_table_here", "_law_turn", "_law_parts", "_law_whole", "_law_best", "_law_some", "_law_found", "_law_steady", "_law_falls", "_law_sort", "_law_due", "_law_row", "_law_times", "_law_name"]
theorem scOneRight : FnScope ["_law_state", "_law_drawn_here", "_law_columns", "_law_rows", "_law_table_here", "_law_turn", "_law_parts", "_law_whole", "_law_best", "_law_some", "_law_found", "_law_steady", "_law_falls", "_law_sort", "_law_due", "_law_row", "_law_times", "_law_name"] ["_law_state"] (defScope sOneRight) := ⟨rfl, rfl, rfl, by decide +kernel, rfl, by decide +kernel, by decide +kernel⟩
theorem ok_oneRight (L : Lx P K mg d e) (G : Gx P K mg d t g) : FnR P w K mg base CX0 12 e.fOneRight (spW (α := DZ) (fun W z => Draws K W z.p z.l z.zs) (fun z => [rRef z.p]) (fun _ => rD K (.bool true))) := by
  obtain ⟨fdn, Fn⟩ := L.lNext
  obtain ⟨fdc, Fc⟩ := L.lCell
  obtain ⟨fd, F⟩ := L.lOneRight
  refine fn_w F scOneRight (F.binds fun _ _ _ _ _ _ us hl => match us, hl with | [_], _ => rfl) (fun _ => rfl) fun cdv A outer s H E W z hr hp => ⟨none, ?_, fun _ e => nomatch e⟩
  have Y := G.Y
  have T := L.T
  refine bw_st (N := [some (rRef z.p), some (rEx (α := {c : TabD // DOk 6 c}) fun c => rDrawn K c.1), none, none, none, none, none, none, none, none, none, none, none, none, none, none, none, none]) 1 rfl (cl (z, 6) L.lDrawn (ok_drawn L Y) hr L.gDrawn (aw_cons (ew_name 0 rfl (pv 0)) (aw_cons ew_int aw_nil)) ⟨hp, (by decide : (2 : Nat) ≤ 6), (by decide : (6 : Nat) ≤ 8)⟩) scOneRight.nd (bw_ex 1 rfl fun c => ?_)
  obtain ⟨c, hd⟩ := c
  have hT : TabOk c := dtab hd (by decide)
  have h6 : c.rows.length ≤ 6 := hd.2.2.1
  have hc := hT.cols
  have h2 := hT.two
  have h8 := hT.most
  have hc3 := hc.le
  refine bw_cons (N := [some (rRef z.p), some (rDrawn K c), some (rDict (dCols c.cols)), some (rRows K c.rows), none, none, none, none, none, none, none, none, none, none, none, none, none, none]) (sw_asg (r := rTup K [rDict (dCols c.cols), rRows K c.rows]) (by exact (ew_name 1 rfl (pv 1))) (gw_tup rfl (gws_cons (gw_name 2 (pg_name scOneRight.nd rfl (.inr rfl))) (gws_cons (gw_name 3 (pg_name scOneRight.nd rfl (.inl rfl))) gws_nil)))) ?_
  refine bw_st (N := [some (rRef z.p), some (rDrawn K c), some (rDict (dCols c.cols)), some (rRows K c.rows), some (rTab K t c), none, none, none, none, none, none, none, none, none, none, none, none, none]) 4 rfl (cl c L.lLTable (ok_ltable L Y) hr L.gLTable (aw_cons (ew_name 1 rfl (pv 1)) aw_nil) hT) scOneRight.nd ?_
  refine bw_cons (N := [some (rRef z.p), some (rDrawn K c), some (rDict (dCols c.cols)), some (rRows K c.rows), some (rTab K t c), none, none, none, none, none, none, none, none, none, none, none, none, none]) (sw_for (n := 3) (item := fun i => rD K (.int i)) (fun _ => [some (rRef z.p), some (rDrawn K c), some (rDict (dCols c.cols)), some (rRows K c.rows), some (rTab K t c), none, none, none, none, none, none, none, none, none, none, none, none, none]) (fun i => [some (rRef z.p), some (rDrawn K c), some (rDict (dCols c.cols)), some (rRows K c.rows), some (rTab K t c), some (rD K (.int i)), none, none, none, none, none, none, none, none, none, none, none, none]) rfl rfl (iw_range1 (j := 3) rfl Y.bRange ew_int (by decide)) (fun i hi => gw_name 5 (pg_name scOneRight.nd rfl (.inl rfl))) (fun i hi => ?_) .never rfl) (bw_ret ew_bl)
  refine bw_wipe 5 ?_
  refine bw_cons (N := [some (rRef z.p), some (rDrawn K c), some (rDict (dCols c.cols)), some (rRows K c.rows), some (rTab K t c), none, some _, none, none, none, none, none, none, none, none, none, none, none]) (sw_lcE (x := "_law_times") (N := fun c : {i : Int // 0 ≤ i ∧ i < 3} => c.1.toNat) (item := fun i => rD K (.int i)) 6 16 3 (fun _ => rQ K c.cols) rfl scOneRight.nd (ie_range1 rfl Y.bRange (ew_call (z, 3) (ok_next L) (hr.mono (by decide)) Fn.kp rfl L.gNext (aw_cons (ew_name 0 rfl (pv 0)) (aw_cons ew_int aw_nil)) ⟨hp, show (0 : Int) < 3 by decide⟩) (fun c => by have := c.2; omega)) (fun c => by have := c.2; omega) (blkOk_by (N := NOR) (sc := defScope sOneRight) (by decide +kernel)) (by decide) rfl rfl rfl (fun _ _ _ _ _ => pg_name scOneRight.nd rfl (.inl rfl)) ?_) ?_
  · intro s' H' C cl' fp D o j hj
    exact clE (z, c.cols) L.lLPart (ok_lpart L) hr L.gLPart (aw_cons (ew_name 0 rfl (pv 0)) (aw_cons (ew_name 2 rfl (pv 2)) aw_nil)) ⟨hp.hold D o, hc⟩
  refine bw_open (α := {qs : List QD // qs.length ≤ 4 ∧ ∀ q ∈ qs, QFit c.cols q}) (f := fun qs => rQs K qs.1) 6 rfl (fun v H h => conv_qs3 v H h) fun qs => ?_
  obtain ⟨qs, hql, hq⟩ := qs
  have hk : KeyOk c.cols (parts qs) := ⟨by rw [List.length_map]; omega, parts_ok hq⟩
  have hqo : ∀ q ∈ qs, QOk q := fun q h => q_ok hc (hq q h)
  have hRl : (RR c qs).length = c.rows.length := ranksR_len
  have hR0 : 0 < (RR c qs).length := by omega
  have gS := steady_good hR0
  have gF := falls_good hR0
  have hSne := steady_ne hR0
  have m1 := best_find hR0
  have m2 := shown_arr hR0
  have m4 := fun (S : List Nat) (fs : List (List Nat)) => @shows_shown (RR c qs) S fs
  have ea := arr_eq (RR c qs)
  rw [hRl] at gS gF m1 m4
  have rlen : ∀ {X : Cx} {W : Py.World} {rs : Rs} {a : Expr} {p pos : Pos} (_ : X.mg = mg) (_ : X.K = K), True := fun _ _ => trivial
  refine bw_cons (N := [some (rRef z.p), some (rDrawn K c), some (rDict (dCols c.cols)), some (rRows K c.rows), some (rTab K t c), none, some (rQs K qs), some (rKey K d (parts qs)), some (rD K .none), none, none, none, none, none, none, none, none, none]) (sw_par 7 8 rfl scOneRight.nd rfl rfl (by decide) rfl rfl (aw_cons (cl qs L.lLKey (ok_lkey L) hr L.gLKey (aw_cons (ew_name 6 rfl (pv 6)) aw_nil) ⟨by omega, hqo⟩) (aw_cons ew_non aw_nil)) rfl) ?_
  refine bw_cons (N := [some (rRef z.p), some (rDrawn K c), some (rDict (dCols c.cols)), some (rRows K c.rows), some (rTab K t c), none, some (rQs K qs), some (rKey K d (parts qs)), some (rD K (bestD (RR c qs) ((setsR c.rows.length).take (setsR c.rows.length).length))), none, none, none, none, none, none, none, none, none]) (sw_for (n := (setsR c.rows.length).length) (item := fun i => ((setsR c.rows.length).map (rSt K)).getD i rNon) (fun i => [some (rRef z.p), some (rDrawn K c), some (rDict (dCols c.cols)), some (rRows K c.rows), some (rTab K t c), none, some (rQs K qs), some (rKey K d (parts qs)), some (rD K (bestD (RR c qs) ((setsR c.rows.length).take i))), none, none, none, none, none, none, none, none, none]) (fun i => [some (rRef z.p), some (rDrawn K c), some (rDict (dCols c.cols)), some (rRows K c.rows), some (rTab K t c), none, some (rQs K qs), some (rKey K d (parts qs)), some (rD K (bestD (RR c qs) ((setsR c.rows.length).take i))), some (((setsR c.rows.length).map (rSt K)).getD i rNon), none, none, none, none, none, none, none, none]) rfl rfl (iw_n (by exact iw_lst (rl := (setsR c.rows.length).map (rSt K)) (clE c.rows.length L.lSets (ok_sets L Y) hr L.gSets (aw_cons (by have e9 : (c.rows.length : Int) = ((c.rows.map rowD).length : Int) := (by rw [List.length_map]); show Ew _ W _ _ (rD K (.int (c.rows.length : Int))); rw [e9]; exact ew_lenD rfl T.bLen (ew_name 3 rfl (pv 3))) aw_nil) h6)) (List.length_map _)) (fun i hi => gw_name 9 (pg_name scOneRight.nd rfl (.inl rfl))) (fun i hi => ?_) .never rfl) ?_
  · rw [getD_of (fn_get hi), best_succ hi]
    have hM := mem_of sets_good hi
    generalize (setsR c.rows.length).getD i [] = M at hM ⊢
    generalize bestD (RR c qs) ((setsR c.rows.length).take i) = B
    refine bw_cons (N := [some (rRef z.p), some (rDrawn K c), some (rDict (dCols c.cols)), some (rRows K c.rows), some (rTab K t c), none, some (rQs K qs), some (rKey K d (parts qs)), some (rD K (if (isNonD B && stAll (RR c qs) M) = true then natsT M else B)), some (rSt K M), none, none, none, none, none, none, none, none]) (sw_if (d := isNonD B && stAll (RR c qs) M) (tw_l (lw_and (tw_isN (ew_name 8 rfl (pv 8))) fun _ => lw_one (tw_val (clE (c, qs, M) L.lIsSteady (ok_isSteady L Y G.bAny) hr L.gIsSteady (aw_cons (ew_name 1 rfl (pv 1)) (aw_cons (ew_name 6 rfl (pv 6)) (aw_cons (ew_name 9 rfl (pv 9)) aw_nil))) ⟨hT, hq, hM.2, by have := hM.1; show M.length ≤ 900; omega⟩) (by intro _; rfl)))) (fun h => ?_) fun h => ?_) (bw_wipe 9 (bw_nilN rfl))
    · rw [if_pos h]
      exact bw_st 8 rfl (ew_name 9 rfl (pv 9)) scOneRight.nd bw_nil
    · rw [if_neg (by rw [h]; decide)]
      exact bw_nil
  rw [List.take_length]
  have eb : bestD (RR c qs) (setsR c.rows.length) = natsT (steadyR (RR c qs) (lengthsR (RR c qs))) := by unfold bestD; rw [m1]
  rw [eb]
  refine bw_st (N := [some (rRef z.p), some (rDrawn K c), some (rDict (dCols c.cols)), some (rRows K c.rows), some (rTab K t c), none, some (rQs K qs), some (rKey K d (parts qs)), some (rSt K (steadyR (RR c qs) (lengthsR (RR c qs)))), none, some (rArr K g (zs (steadyR (RR c qs) (lengthsR (RR c qs))), (fallsN (RR c qs)).map zs)), none, none, none, none, none, none, none]) 10 rfl (by rw [← ea]; exact cl (c, parts qs) G.lArrangement (ok_arrangement G) hr G.gArrangement (aw_cons (ew_name 4 rfl (pv 4)) (aw_cons (ew_name 7 rfl (pv 7)) aw_nil)) ⟨hT, hk⟩) scOneRight.nd ?_
  generalize steadyR (RR c qs) (lengthsR (RR c qs)) = S at gS m1 m2 hSne
  generalize fallsN (RR c qs) = F at gF m2
  have shS : Shp 1 (natsT S) := shp_tup (shp_map fun _ _ => shp_int)
  have stdy : ∀ {X : Cx} {W : Py.World} {rs : Rs} {e : Expr} {M : List Nat}, Ew X W rs e (rD X.K (intsT (zs M))) → Ew X W rs e (rSt X.K M) := fun h => by rw [← natsT_eq] at h; exact h
  have fall : ∀ {X : Cx} {W : Py.World} {rs : Rs} {e : Expr} {Q : List (List Nat)}, Ew X W rs e (rFs' X.K (Q.map zs)) → Ew X W rs e (rFn X.K Q) := fun h => by rw [fn_eq] at h; exact h
  refine bw_no (tw_eq (tw_neD (d := natsT S) (d' := natsT S) hr.units (stdy (by exact fl (ew_name 10 rfl (pv 10)) G.isiA.cl G.nAs)) (ew_name 8 rfl (pv 8)) shS.ok shS.ok) (by rw [PySem.SeqAt.eqv_refl _ shS.1] <;> rfl)) ?_
  have fF := flat_bound gF h6
  have hF9 : F.length ≤ 900 := by have := gF.1; omega
  have hS9 : S.length ≤ 900 := by have := gS.1; omega
  refine bw_no (tw_eq (tw_not (tw_val (clE (c, qs, S, F) L.lShown (ok_shown L Y G.bAny) hr L.gShown (aw_cons (ew_name 1 rfl (pv 1)) (aw_cons (ew_name 6 rfl (pv 6)) (aw_cons (stdy (by exact fl (ew_name 10 rfl (pv 10)) G.isiA.cl G.nAs)) (aw_cons (fall (by exact fl (ew_name 10 rfl (pv 10)) G.isiA.cl G.nAf)) aw_nil)))) ⟨hT, hq, gS.2, hS9, fun f hf => (gF.2 f hf).2, hF9, fF⟩) (by intro _; rfl))) (by rw [m2] <;> rfl)) ?_
  have zlen : ∀ M : List Nat, (zs M).length = M.length := fun M => List.length_map _
  have zflat : ∀ Q : List (List Nat), (Q.map zs).flatten.length = Q.flatten.length := fun Q => by
    induction Q with
    | nil => rfl
    | cons f Q ih => rw [List.map_cons, List.flatten_cons, List.flatten_cons, List.length_append, List.length_append, ih, zlen]
  refine bw_no (tw_eq (tw_isNotTrue (mtE ((zs S, F.map zs), c, parts qs) (ew_name 10 rfl (pv 10)) G.isiA.cl G.mShows (ok_aShows G) hr (aw_cons (ew_name 4 rfl (pv 4)) (aw_cons (ew_name 7 rfl (pv 7)) aw_nil)) ⟨hT, hk, by show (zs S).length ≤ 1000; rw [zlen]; omega, by show (F.map zs).length ≤ 1000; rw [List.length_map]; omega, by show (F.map zs).flatten.length ≤ 1000; rw [zflat]; omega⟩) ew_bl) (by show (!decide (showsB (RR c qs) (zs S, F.map zs) = true)) = false; rw [m4 S F gS.2 (fun f hf => (gF.2 f hf).2), m2]; decide)) ?_
  refine bw_wipe 8 ?_
  refine bw_into [some (rRef z.p), some (rDrawn K c), some (rDict (dCols c.cols)), some (rRows K c.rows), some (rTab K t c), none, none, none, none, none, none, none, none, none, none, none, none, none] rfl ?_
  have hpos : 0 < F.length := by
    have h1 : decide ((F.length : Int) = (S.length : Nat)) = true := by
      unfold shownB at m2
      simp only [Bool.and_eq_true] at m2
      exact m2.2.2.1
    have h2 := of_decide_eq_true h1
    have := List.length_pos_iff.mpr hSne
    omega
  refine bz_par3 (rl := F.map (rSt K)) (r1 := rSt K S) (r3 := rBel K 3) 11 12 13 rfl scOneRight.nd rfl rfl rfl (by decide) (by decide) (by decide) rfl rfl rfl (stdy (by exact fl (ew_name 10 rfl (pv 10)) G.isiA.cl G.nAs)) (en_listL rfl T.bList (lst_as (fall (by exact fl (ew_name 10 rfl (pv 10)) G.isiA.cl G.nAf)))) (fun D xs => cl (z, 3) L.lNext (ok_next L) hr L.gNext (aw_cons (ew_name 0 rfl (pv 0)) (aw_cons ew_int aw_nil)) ⟨hp.hold D _, show (0 : Int) < 3 by decide⟩) (fun D xs => ?_) rfl
  refine bz_open (γ := {i : Int // 0 ≤ i ∧ i < 3}) (f := fun i => rD K (.int i.1)) 13 rfl (fun v H p => p) fun k => ?_
  obtain ⟨k, hk3⟩ := k
  refine bz_cons (V1 := fun y : {y : List Nat × List (List Nat) × List V // GoodM c.rows.length y.1 ∧ GoodF c.rows.length y.2.1} => W.hold D (.lst y.1.2.2)) (N1 := fun y => [some (rRef z.p), some (rDrawn K c), some (rDict (dCols c.cols)), some (rRows K c.rows), some (rTab K t c), none, some (rQs K qs), some (rKey K d (parts qs)), none, none, some (rArr K g (zs S, F.map zs)), some (rSt K y.1.1), some (rAtL D (y.1.2.1.map (rSt K)) y.1.2.2), some (rD K (.int k)), none, none, none, none]) ?hif fun y => ?_
  case hif =>
    have sln : ∀ {X : Cx} {rs : Rs}, True := fun {_ _} => trivial
    refine sz_if (d := decide (k = 0)) (tw_eq (tw_eqD hr.units (ew_name 13 rfl (pv 13)) ew_int shp_int.ok shp_int.ok) (by rw [eqv_ints])) (fun h0 => ?_) fun h0 => ?_
    · refine bz_st (N := [some (rRef z.p), some (rDrawn K c), some (rDict (dCols c.cols)), some (rRows K c.rows), some (rTab K t c), none, some (rQs K qs), some (rKey K d (parts qs)), none, none, some (rArr K g (zs S, F.map zs)), some (rEx (α := Fin ((setsR c.rows.length).map (rSt K)).length) fun i => ((setsR c.rows.length).map (rSt K))[i]), some (rAtL D (F.map (rSt K)) xs), some (rD K (.int k)), none, none, none, none]) 11 rfl (cl (z, (setsR c.rows.length).map (rSt K)) L.lPick (ok_pick L) hr L.gPick (aw_cons (ew_name 0 rfl (pv 0)) (aw_cons (lst_as (clE c.rows.length L.lSets (ok_sets L Y) hr L.gSets (aw_cons ?len aw_nil) h6)) aw_nil)) ⟨hp.hold D _, ?pos⟩) scOneRight.nd (bz_open (γ := {M : List Nat // GoodM c.rows.length M}) (f := fun M => rSt K M.1) 11 rfl (fun v H p => pick_set sets_good p) fun M => bz_nilN ⟨(M.1, F, xs), M.2, gF⟩ rfl rfl)
      case len =>
        have e9 : (c.rows.length : Int) = ((c.rows.map rowD).length : Int) := by rw [List.length_map]
        show Ew _ _ _ _ (rD K (.int (c.rows.length : Int)))
        rw [e9]
        exact ew_lenD rfl T.bLen (ew_name 3 rfl (pv 3))
      case pos =>
        show 0 < ((setsR c.rows.length).map (rSt K)).length
        rw [List.length_map]
        exact sets_pos _
    · refine bz_cons (V1 := fun y : {y : List Nat × List (List Nat) × List V // GoodM c.rows.length y.1 ∧ GoodF c.rows.length y.2.1} => W.hold D (.lst y.1.2.2)) (N1 := fun y => [some (rRef z.p), some (rDrawn K c), some (rDict (dCols c.cols)), some (rRows K c.rows), some (rTab K t c), none, some (rQs K qs), some (rKey K d (parts qs)), none, none, some (rArr K g (zs S, F.map zs)), some (rSt K y.1.1), some (rAtL D (y.1.2.1.map (rSt K)) y.1.2.2), some (rD K (.int k)), none, none, none, none]) (sz_if (d := decide (k = 1)) (tw_eq (tw_eqD hr.units (ew_name 13 rfl (pv 13)) ew_int shp_int.ok shp_int.ok) (by rw [eqv_ints])) (fun h1 => ?_) fun h1 => ?_) fun y => bz_nilN y rfl rfl
      · refine bz_cons (sz_popE (γ := Fin F.length) (m := fun c => c.1) 12 rfl (fun c => by rw [List.length_map]; exact c.2) (by rw [List.length_map]; omega) (ew_name 12 rfl (pv 12)) (ew_sub (cl (z, (F.length : Int)) L.lNext (ok_next L) hr L.gNext (aw_cons (ew_name 0 rfl (pv 0)) (aw_cons ?flen aw_nil)) ⟨hp.hold D _, by show (0 : Int) < (F.length : Int); omega⟩) fun v H p => bel_nat p)) fun i => bz_nilN ⟨(S, F.eraseIdx i.1, xs.eraseIdx i.1), gS, by have := gF.1; show (F.eraseIdx i.1).length ≤ _; exact Nat.le_trans (List.length_eraseIdx_le ..) this, fun f hf => gF.2 f (List.mem_of_mem_eraseIdx hf)⟩ rfl (by rw [map_erase] <;> rfl)
        case flen =>
          have e9 : F.length = (F.map (rSt K)).length := by rw [List.length_map]
          show Ew _ _ _ _ (rD K (.int (F.length : Int)))
          rw [e9]
          exact ew_lenA rfl T.bLen (ew_name 12 rfl (pv 12))
      · refine bz_cons (sz_setAtE (γ := Fin F.length) (m := fun c => c.1) (δ := {M : List Nat // GoodM c.rows.length M}) (f := fun M => rSt K M.1) 12 rfl (fun c => by rw [List.length_map]; exact c.2) (ew_name 12 rfl (pv 12)) (ew_sub (cl (z, (F.length : Int)) L.lNext (ok_next L) hr L.gNext (aw_cons (ew_name 0 rfl (pv 0)) (aw_cons ?flen2 aw_nil)) ⟨hp.hold D _, by show (0 : Int) < (F.length : Int); omega⟩) fun v H p => bel_nat p) (ew_sub (cl (z, ((setsR c.rows.length).take ((setsR c.rows.length).length - 1)).map (rSt K)) L.lPick (ok_pick L) hr L.gPick (aw_cons (ew_name 0 rfl (pv 0)) (aw_cons (lst_as ?sinit) aw_nil)) ⟨hp.hold D _, ?pos2⟩) fun v H p => pick_set (fun M hM => sets_good M (List.mem_of_mem_take hM)) p)) fun i => bz_nilN ⟨(S, F.set i.1.1 i.2.1.1, xs.set i.1.1 i.2.2), gS, by have := gF.1; show (F.set i.1.1 i.2.1.1).length ≤ _; rw [List.length_set]; exact this, fun f hf => by rcases List.mem_or_eq_of_mem_set hf with h | h; exact gF.2 f h; rw [h]; exact i.2.1.2⟩ rfl (by rw [List.map_set] <;> rfl)
        case flen2 =>
          have e9 : F.length = (F.map (rSt K)).length := by rw [List.length_map]
          show Ew _ _ _ _ (rD K (.int (F.length : Int)))
          rw [e9]
          exact ew_lenA rfl T.bLen (ew_name 12 rfl (pv 12))
        case sinit =>
          have e9 : ((setsR c.rows.length).take ((setsR c.rows.length).length - 1)).map (rSt K) = ((setsR c.rows.length).map (rSt K)).take (((setsR c.rows.length).map (rSt K)).length - 1) := by rw [List.map_take, List.length_map]
          rw [e9]
          refine ew_initL (lst_as (clE c.rows.length L.lSets (ok_sets L Y) hr L.gSets (aw_cons ?len3 aw_nil) h6)) (ew_negI ew_int)
          have e9 : (c.rows.length : Int) = ((c.rows.map rowD).length : Int) := by rw [List.length_map]
          show Ew _ _ _ _ (rD K (.int (c.rows.length : Int)))
          rw [e9]
          exact ew_lenD rfl T.bLen (ew_name 3 rfl (pv 3))
        case pos2 =>
          show 0 < (((setsR c.rows.length).take ((setsR c.rows.length).length - 1)).map (rSt K)).length
          rw [List.length_map, List.length_take]
          have := sets_two c.rows.length (by omega)
          omega
  obtain ⟨⟨S', F', ys⟩, gS', gF'⟩ := y
  change GoodM c.rows.length S' at gS'
  change GoodF c.rows.length F' at gF'
  refine bz_out 12 rfl ?_
  have fF' := flat_bound gF' h6
  have hF9' : F'.length ≤ 900 := by have := gF'.1; omega
  have hS9' : S'.length ≤ 900 := by have := gS'.1; omega
  refine bz_wipe 13 (bz_wipe 10 ?_)
  refine bz_st (N := [some (rRef z.p), some (rDrawn K c), some (rDict (dCols c.cols)), some (rRows K c.rows), some (rTab K t c), none, some (rQs K qs), some (rKey K d (parts qs)), none, none, none, some (rSt K S'), some (rFn K F'), none, some (rD K (.bool (shownB (RR c qs) S' F'))), none, none, none]) 14 rfl (cl (c, qs, S', F') L.lShown (ok_shown L Y G.bAny) hr L.gShown (aw_cons (ew_name 1 rfl (pv 1)) (aw_cons (ew_name 6 rfl (pv 6)) (aw_cons (ew_name 11 rfl (pv 11)) (aw_cons (ew_name 12 rfl (pv 12)) aw_nil)))) ⟨hT, hq, gS'.2, hS9', fun f hf => (gF'.2 f hf).2, hF9', fF'⟩) scOneRight.nd ?_
  refine bz_no (tw_eq (tw_neD (d := .bool (showsB (RR c qs) (zs S', F'.map zs))) (d' := .bool (shownB (RR c qs) S' F')) hr.units (mtE ((zs S', F'.map zs), c, parts qs) (mk (fs := fsArr K) (zs S', F'.map zs) G.mkA (ok_aInit G) hr G.gArr (aw_cons (ew_sub (by exact (ew_name 11 rfl (pv 11))) fun v H p => by have p : (rD K (natsT S')).p v H := p; rw [natsT_eq] at p; exact p) (aw_cons (ew_sub (by exact (ew_name 12 rfl (pv 12))) fun v H p => by have p : (rFn K F').p v H := p; rw [← fn_eq] at p; exact p) aw_nil)) (by show (F'.map zs).length ≤ 1000; rw [List.length_map]; omega)) G.isiA.cl G.mShows (ok_aShows G) hr (aw_cons (ew_name 4 rfl (pv 4)) (aw_cons (ew_name 7 rfl (pv 7)) aw_nil)) ⟨hT, hk, by show (zs S').length ≤ 1000; rw [zlen]; omega, by show (F'.map zs).length ≤ 1000; rw [List.length_map]; omega, by show (F'.map zs).flatten.length ≤ 1000; rw [zflat]; omega⟩) (ew_name 14 rfl (pv 14)) shp_bl.ok shp_bl.ok) (by rw [eqv_bls, m4 S' F' gS'.2 (fun f hf => (gF'.2 f hf).2)]; simp)) ?_
  refine bz_wipe 11 (bz_wipe 12 (bz_wipe 14 ?_))
  refine bz_st (N := [some (rRef z.p), some (rDrawn K c), some (rDict (dCols c.cols)), some (rRows K c.rows), some (rTab K t c), none, some (rQs K qs), some (rKey K d (parts qs)), none, none, none, none, none, none, none, some (rSome K c.cols), none, none]) 15 rfl ?row scOneRight.nd ?_
  case row =>
    refine ew_forget 1 (ew_forget 4 (ew_forget 7 ?_))
    refine ew_walkD 2 rfl ⟨nd_rV, nd_rD, nd_rD, trivial⟩ hp fun D od hid dr => ?_
    have er : rSome K c.cols = rTup K ((List.range c.cols.length).map fun i => cellR K (c.cols.getD i q0).2) := by
      unfold rSome
      rw [range_map (fun q : Str × Bool => cellR K q.2) _ c.cols fun i hi => by rw [List.getD_eq_getElem?_getD, List.getElem?_eq_getElem hi] <;> rfl]
    rw [er]
    refine ew_tupOf rfl Y.bTuple (lst_as ?_)
    refine ew_lcAll 17 (y := "_law_name") (fun i => cellR K (c.cols.getD i q0).2) rfl scOneRight.nd (n := c.cols.length) (item := fun i => rD K (.str (c.cols.getD i q0).1)) (iw_n (iw_keys lockw_at (ew_name 2 rfl (pv 2)) (fun i => rD K (.str (c.cols.getD i q0).1)) ?_) (dCols_len c.cols)) (blkOk_by (N := NOR) (sc := defScope sOneRight) (by decide +kernel)) (by have := hc.le; omega) (fun _ _ _ _ _ => pg_name scOneRight.nd rfl (.inl rfl)) ?_
    · intro i k v H e
      obtain ⟨q, e1, rfl, rfl⟩ := kvs_at e
      rw [getD_of' e1]
      exact Dp.str _
    · intro s' H' C cl' fp D3 o3 j hj
      have hqj : c.cols[j]? = some c.cols[j] := List.getElem?_eq_getElem hj
      rw [getD_of' hqj]
      have hv := kind_at hc (n := c.cols[j].1) (b := c.cols[j].2) (List.getElem_mem hj)
      exact ew_call (z, c.cols[j].2) (ok_cell L) (hr.mono (by decide)) Fc.kp rfl L.gCell (aw_cons (ew_name 0 rfl (pv 0)) (aw_cons (ew_dgetL (kvs := dCols c.cols) (od := od) (D := D) (z := c.cols[j].1) (v := .str (kindS c.cols[j].2)) (by exact lockw_at.hold _ _) (hu_of hr) (ew_name 2 rfl (pv 2)) (ew_name 17 rfl (pv 17)) hv (fun _ => Dp.str _) (by intro _ _; rfl)) aw_nil)) (dr.hold _ _)
  refine bz_open (γ := {row : List Cell // RowOk c.cols row}) (f := fun row => rD K (rowD row.1)) 15 rfl (fun v H h => by obtain ⟨r, h1, h2⟩ := some_open h; exact ⟨⟨r, h1⟩, h2⟩) fun row => ?_
  obtain ⟨row, hrow⟩ := row
  have shP : SeqAt.shaped (.list ((placesR (RR c qs) (ranks c.cols row (parts qs))).map fun (n : Nat) => PyData.int n)) = true := shp_natsL
  have shP1 : Shp 1 (.list ((placesR (RR c qs) (ranks c.cols row (parts qs))).map fun (n : Nat) => PyData.int n)) := shp_lst (shp_map fun _ _ => shp_int)
  refine bz_no (tw_eq (tw_neD hr.units (nats_lst (cl (c, row, parts qs) G.lPlaces (ok_places G) hr G.gPlaces (aw_cons (ew_name 4 rfl (pv 4)) (aw_cons (ew_name 15 rfl (pv 15)) (aw_cons (ew_name 7 rfl (pv 7)) aw_nil))) ⟨hT, hrow, hk⟩)) (nats_lst (cl (c, row, qs) L.lLPlaces (ok_lplaces L Y) hr L.gLPlaces (aw_cons (ew_name 1 rfl (pv 1)) (aw_cons (ew_name 15 rfl (pv 15)) (aw_cons (ew_name 6 rfl (pv 6)) aw_nil))) ⟨hT, hrow, hq⟩)) shP shP) (by rw [PySem.SeqAt.eqv_refl _ shP1.1] <;> rfl)) ?_
  have m5 := sort_eq hT hq hk
  have hs5 := sortT_ok hT (parts qs)
  have hs6 : TabOk ⟨c.cols, sortedR c.cols (parts qs) c.rows⟩ := m5 ▸ hs5
  refine bz_no (tw_eq (tw_not (tw_rc (fun _ _ => rfl) (rc_tab Y hs5 hs6) (hr.mono (by decide)) (cl (c, parts qs) G.lSortedRows (ok_sortedRows G) hr G.gSortedRows (aw_cons (ew_name 4 rfl (pv 4)) (aw_cons (ew_name 7 rfl (pv 7)) aw_nil)) ⟨hT, hk⟩) (mk (fs := fsTab K) ⟨c.cols, sortedR c.cols (parts qs) c.rows⟩ Y.mkT (ok_tInit Y) hr Y.gTable (aw_cons (ew_name 2 rfl (pv 2)) (aw_cons (of_lst (by show Ew _ _ _ _ (rLst (((sortedR c.cols (parts qs) c.rows).map rowD).map (rD K))); rw [← rlR_eq]; exact cl (c.cols, c.rows, qs) L.lSorted (ok_sorted L Y) hr L.gSorted (aw_cons (ew_name 2 rfl (pv 2)) (aw_cons (ew_name 3 rfl (pv 3)) (aw_cons (ew_name 6 rfl (pv 6)) aw_nil))) ⟨hc, hT.rows, hq, by show c.rows.length ≤ 100; omega⟩)) aw_nil)) hs6) (nomark _))) (by rw [m5]; simp)) ?_
  exact bz_wipe 6 (bz_wipe 7 (bz_wipe 15 (bz_nilN () rfl rfl)))
end
end K11
namespace K11
open PySem L2 Py
theorem iw_range3 {X : Cx} {W : Py.World} {rs : Rs} {tg a b c : Expr} {p pos : Pos} {i j k : Int} {n : Nat} (hg : Gl X "range") (hm : X.mg "range" = none) (h : Aw X W rs [a, b, c] [rD X.K (.int i), rD X.K (.int j), rD X.K (.int k)]) (hr : RgC i j k n)
    (hs : starEach [a, b, c] X.env = (false, eval a X.env) :: starEach [b, c] X.env := by rfl) (hpl : (backTo pos (starEach [b, c] X.env)).any (·.1) = false := by rfl) :
    Iw X W rs tg (.Call (.Name "range" p) [a, b, c] [] pos) n (fun m => rD X.K (.int (i + (m : Nat) * k))) := by
  refine pi_cs (pi_range3 hg hm h hs hpl) ?_
  rintro σ H R ⟨kk, g, q⟩
  refine ⟨kk, g, ?_⟩
  intro vs H1 k1 e1 hp
  obtain ⟨x, y, z, rfl, h1, h2, h3⟩ := reps3 hp
  refine ⟨i, j, k, n, by rw [rD_int.mp h1, rD_int.mp h2, rD_int.mp h3], hr, q (Itc i k n) (fun _ => True) (fun m H x H' => H' = H ∧ x = .int (i + (m : Nat) * k)) H1 ⟨fun m H hm _ => hm, fun H _ => Nat.le_refl n, fun m H x H' _ _ h => h⟩ k1 e1 (fun _ _ _ => trivial) ?_⟩
  rintro m x H2 H3 hi ⟨eH, hx⟩
  exact .inl ⟨eH, fun G2 _ _ => rD_int.mpr hx⟩
section
variable {P : Program} {w : PySem.World} {K : PySem.W.Frag} {mg : Str → Option Value} {base : Heap} {d : Ad} {e : Ld} {t : Ae} {g : Ag}
theorem scLaw : FnScope ["_law_script", "_law_by"] ["_law_script"] (defScope sLaw) := ⟨rfl, rfl, rfl, by decide +kernel, rfl, by decide +kernel, by decide +kernel⟩
def spLaw (K : PySem.W.Frag) : Sp := fun vs H Q _ => ∃ (a : Addr) (ns : List Int), vs = [.ref a] ∧ SqL K H a (ns.map V.int) ∧ ns.length ≤ 63 ∧ ∀ H', Q (.bl true) H'
theorem law_body (L : Lx P K mg d e) (G : Gx P K mg d t g) {f : Addr} (cdv : Value) (A : Around) (outer : List Env) (s : Shared) (H : Hp) (E : XK) (W : Py.World) (l : Addr) (zs : List Int) (hl : zs.length ≤ 63) (hs : ∀ H, W.ok H → SqL K H l (zs.map V.int)) (hr : Room 12 (A.deeper (PyProof.Rows.envOfC "law" (defScope sLaw) s.heap.objs.size f cdv))) :
    Bw (cxOf CX0 P w K mg base ["_law_script", "_law_by"] "law" (defScope sLaw) f cdv A outer s H E).nox W [some (rRef l), none] (defBody sLaw) ⟨rD K (.bool true), none, none, none⟩ := by
  obtain ⟨fd1, F1⟩ := L.lOneRight
  have hm : ∃ m : Nat, m < 19 ∧ ((if (if ((zs.map V.int).length : Int) < 18 then ((zs.map V.int).length : Int) else 18) > 1 then (if ((zs.map V.int).length : Int) < 18 then ((zs.map V.int).length : Int) else 18) else 1) : Int) = m := by
    rw [List.length_map]
    refine ⟨(if (if (zs.length : Int) < 18 then (zs.length : Int) else 18) > 1 then (if (zs.length : Int) < 18 then (zs.length : Int) else 18) else 1 : Int).toNat, ?_, ?_⟩ <;> split <;> split at * <;> omega
  obtain ⟨m, hm1, hm2⟩ := hm
  have hrg : ∀ m : Fin 19, RgC 0 ((m.1 : Nat) : Int) 3 (Builtin.Range.rangeSize 0 ((m.1 : Nat) : Int) 3).toNat := by
    unfold RgC
    decide +kernel
  have hrm := hrg ⟨m, hm1⟩
  refine bw_cons (N := [some (rRef l), none]) (sw_for (fun _ => [some (rRef l), none]) (fun i => [some (rRef l), some (rD K (.int (0 + (i : Nat) * 3)))]) rfl rfl (iw_range3 (j := (m : Int)) rfl L.bRange (aw_cons ew_int (aw_cons ?h1 (aw_cons ew_int aw_nil))) hrm) (fun i hi => gw_name 1 (pg_name scLaw.nd rfl (.inl rfl))) (fun i hi => ?h2) .never rfl) (bw_one (sw_ret ew_bl))
  case h1 =>
    rw [← hm2]
    exact ew_max2 rfl rfl L.bMax (aw_cons ew_int (aw_cons (ew_min2 rfl rfl L.bMin (aw_cons ew_int (aw_cons (ew_lenH hs rfl L.T.bLen (ew_name 0 rfl (pv 0))) aw_nil))) aw_nil))
  case h2 =>
    refine bw_cons (N := [some (rRef l), some (rD K (.int (0 + (i : Nat) * 3)))]) (sw_if (d := false) (tw_not (c := true) (tw_val (ew_drawCall (zs := zs) (l := l) (fun p => (⟨p, l, zs⟩ : DZ)) (res := rD K (.bool true)) (ok_oneRight L G) hs (fun p W' h => h) (fun p => rfl) hr F1.kp rfl L.gOneRight (aw_cons (ew_name 0 rfl (pv 0)) (aw_cons (ew_name 1 rfl (pv 1)) (aw_cons ew_int aw_nil))) (by omega)) (by intro _; rfl))) (fun e => nomatch e) fun _ => bw_nil) (bw_wipe 1 (bw_nilN rfl))
theorem ok_law (L : Lx P K mg d e) (G : Gx P K mg d t g) {f : Addr} {fd : FuncData} (F : Fun K "law" "law" sLaw f fd) : FnOk P w K mg base CX0 13 f fd ["_law_script"] (spLaw K) := by
  refine F.ok scLaw (fun vs H Q E ⟨a, ns, ev, _⟩ => by rw [ev] <;> rfl) ?_
  rintro cdv A outer s H vs Q E hr ⟨a, ns, ev, hs, hl, q⟩
  subst ev
  have key : ∃ W : Py.World, W.ok H ∧ ∀ H, W.ok H → SqL K H a (ns.map V.int) := by
    rcases hs with h | h
    · cases ho : H a with
      | none => rcases h with h | ⟨o, h⟩ <;> (rw [ho] at h; cases h)
      | some o =>
        refine ⟨World.all.hold a o, ⟨trivial, id, ho⟩, fun H' k => .inl ?_⟩
        unfold Rd
        rw [k.2.2, ← ho]
        exact h
    · exact ⟨World.all, trivial, fun H' _ => .inr h⟩
  obtain ⟨W, kW, hW⟩ := key
  exact ⟨_, (law_body L G cdv A outer s H E W a ns hl hW hr), kW, ⟨⟨_, rfl, rfl⟩, trivial⟩, fun v H' _ _ p => by rw [rD_bl.mp p]; exact q H', (fun N z => nomatch z), (fun N z => nomatch z), (fun N z => nomatch z)⟩
end
end K11
namespace K11
open PySem L2 Py PyProof.Rows
section
variable {K : PySem.W.Frag} {x qual : Str} {st : Stmt} {f : Addr} {oc : Value} {od an : Option Addr} {osl : Array (Option Value)} {kV doc pm cdv ct : Value}
theorem funE (l : K.lookup f = some ⟨oc, od, .func (PySem.W.fnOf x qual (defArgs st) (defBody st) (defScope st) .none kV doc pm an cdv ct), osl⟩) (c : PySem.W.codeIn K cdv qual = true) (k : PySem.W.keepIn K (.ref f) = true) : ∃ fd, Fun K x qual st f fd := ⟨_, fun_mk l c k⟩
theorem funD1 {D : Addr} (l : K.lookup f = some ⟨oc, od, .func (PySem.W.fnOf "__init__" "Part.__init__" (defArgs sPInit) (defBody sPInit) (defScope sPInit) .none (.ref D) doc pm an cdv ct), osl⟩) (c : PySem.W.codeIn K cdv "Part.__init__" = true) (k : PySem.W.keepIn K (.ref f) = true) (kw : PySem.W.nsIn K D "down" = some (some (.bool false))) :
    ∃ fd, FunD K "__init__" "Part.__init__" (defArgs sPInit) (defBody sPInit) (defScope sPInit) [] [("down", .bl false)] f fd :=
  ⟨_, ⟨_, _, _, _, _, _, _, _, _, _, rfl, l, c, .inl ⟨rfl, rfl⟩, .inr ⟨D, rfl, fun q hq => by
    have e : q = (("down" : Str), V.bl false) := by simpa using hq
    subst e
    exact ⟨_, kw, rfl⟩⟩⟩, k⟩
theorem funC1 {P : Program} {cda cc D : Addr} {ccl cl : Value} {cdd cld : Option Addr} {ccs csl : Array (Option Value)} {vs : Array Value} {file : Str} {tf : Tok} {cd : ClassData} (l : K.lookup f = some ⟨oc, od, .func (PySem.W.fnX "__init__" "Rest.__init__" (defArgs sRInit) (defBody sRInit) (defScope sRInit) [("__class__", cc)] .none .none doc pm an (.ref cda) ct), osl⟩)
    (c : PySem.W.codeIn K (.ref cda) "Rest.__init__" = true) (lc : K.lookup cda = some ⟨ccl, cdd, .fields vs, ccs⟩) (hv : vs[2]? = some (.str file tf)) (hf : ((P.main.file : Str) == file) = true) (le : K.lookup cc = some ⟨cl, cld, .cell (some (.ref D)), csl⟩) (hcl : PySem.W.clsIn K D = some cd) (ns : PySem.W.nsIn K mainGlobals "super" = some none) (tp : (P.main.scope.names.lookup ("super" : Str)).isSome = false) (ay : PySem.W.nsIn K cStatics "thirdparty.any" = some none) :
    ∃ cda cc, FunC P K "__init__" "Rest.__init__" (defArgs sRInit) (defBody sRInit) (defScope sRInit) f cda cc D :=
  ⟨cda, cc, ⟨_, _, _, _, _, _, _, l⟩, c, ⟨_, _, _, _, _, _, lc, hv, hf⟩, ⟨_, _, _, le⟩, ⟨_, hcl⟩, ns, tp, ay⟩
end
theorem all_mk {P : Program} {K : PySem.W.Frag} {h : Heap} {mg : Str → Option Value} {cPlain cSize cRest cEnding cPart cKey cMeasure cBadKey fIsName fIsInteger fIsBetween fMInit fMEq fMName fPlainOf fSizeOf fRInit fREq fROf fEOf fPInit fPEq fPNeg fPUp fPDownw fPMeas fPDown fKInit fKEq fKLen fKAdd fKNeg fKCont fKGet fKParts fCellAt fDraw fNumber fNext fPick fCell fMeasured fMade fCands fOutcome fLPart fSorted fDrawn fLTable fLKey fTurns fIsSteady fIsFall fOfSize fSets fAscends fShown fLPlaces fOneRight cTable fIsKind fAsNum fPRank fFitsP fFitsS fFitsR fFitsE fTInit fTEq fTCols fTRows fTRanks fTPoss fTCkRow fTCkKey fTCells fCkTable fAreCols fIsRow fIsCell cArr fArrangement fPlaces fSortedRows fSteadyLengths fFirstSteady fFirstGreatest fRowsWith fSortedIndex fIsPlace fAreSteady fAreFall fHoldEach fAreIndices fAInit fAShows fAllRanks fLaw qTCols qTRows qN qPm qPd qKp pUp_ pDw_ : Addr} {tL tN tM tk1 tk2 tk3 tk4 tk5 tk6 : Tok} {mc : Value} {rest_qN rest_qPm rest_qPd rest_qKp rest_pUp_ rest_pDw_ rest_qTCols rest_qTRows : List Value} {w : PySem.World} {fa : Addr} (X : K.In h) (G : h.Ns mainGlobals mg) (hfa : mg "law" = some (.ref fa)) (vL : PySem.W.nsIn K mainGlobals "LETTERS" = some (some (.str "abcdefghijklmnopqrstuvwxyz" tL))) (vN : PySem.W.nsIn K mainGlobals "LONGEST" = some (some (.int 8 tN))) (vM : PySem.W.nsIn K mainGlobals "MOST_PARTS" = some (some (.int 6 tM))) (v_NUMBERS : PySem.W.nsIn K mainGlobals "NUMBERS" = some (some (.str "numbers" tk1))) (v_WORDS : PySem.W.nsIn K mainGlobals "WORDS" = some (some (.str "words" tk2))) (v_MOST_COLUMNS : PySem.W.nsIn K mainGlobals "MOST_COLUMNS" = some (some (.int 3 tk3))) (v_FEWEST_ROWS : PySem.W.nsIn K mainGlobals "FEWEST_ROWS" = some (some (.int 2 tk4))) (v_MOST_ROWS : PySem.W.nsIn K mainGlobals "MOST_ROWS" = some (some (.int 8 tk5))) (v_LARGEST : PySem.W.nsIn K mainGlobals "LARGEST" = some (some (.int 99 tk6))) (n_dict : PySem.W.nsIn K mainGlobals "dict" = some none) (n_tuple : PySem.W.nsIn K mainGlobals "tuple" = some none) (n_zip : PySem.W.nsIn K mainGlobals "zip" = some none) (n_len : PySem.W.nsIn K mainGlobals "len" = some none) (n_all : PySem.W.nsIn K mainGlobals "all" = some none) (n_isinstance : PySem.W.nsIn K mainGlobals "isinstance" = some none) (n_str : PySem.W.nsIn K mainGlobals "str" = some none) (n_int : PySem.W.nsIn K mainGlobals "int" = some none) (n_bool : PySem.W.nsIn K mainGlobals "bool" = some none) (n_type : PySem.W.nsIn K mainGlobals "type" = some none) (n_abs : PySem.W.nsIn K mainGlobals "abs" = some none) (n_list : PySem.W.nsIn K mainGlobals "list" = some none) (n_range : PySem.W.nsIn K mainGlobals "range" = some none) (n_max : PySem.W.nsIn K mainGlobals "max" = some none) (n_min : PySem.W.nsIn K mainGlobals "min" = some none) (n_enumerate : PySem.W.nsIn K mainGlobals "enumerate" = some none) (n_sum : PySem.W.nsIn K mainGlobals "sum" = some none) (r_fIsName : PySem.W.nsIn K mainGlobals "is_name" = some (some (.ref fIsName))) (r_fIsInteger : PySem.W.nsIn K mainGlobals "is_integer" = some (some (.ref fIsInteger))) (r_fIsBetween : PySem.W.nsIn K mainGlobals "is_between" = some (some (.ref fIsBetween))) (r_cMeasure : PySem.W.nsIn K mainGlobals "Measure" = some (some (.ref cMeasure))) (r_cPlain : PySem.W.nsIn K mainGlobals "Plain" = some (some (.ref cPlain))) (r_cSize : PySem.W.nsIn K mainGlobals "Size" = some (some (.ref cSize))) (r_cRest : PySem.W.nsIn K mainGlobals "Rest" = some (some (.ref cRest))) (r_cEnding : PySem.W.nsIn K mainGlobals "Ending" = some (some (.ref cEnding))) (r_cPart : PySem.W.nsIn K mainGlobals "Part" = some (some (.ref cPart))) (r_cKey : PySem.W.nsIn K mainGlobals "Key" = some (some (.ref cKey))) (r_cBadKey : PySem.W.nsIn K mainGlobals "BadKey" = some (some (.ref cBadKey))) (r_cTable : PySem.W.nsIn K mainGlobals "Table" = some (some (.ref cTable))) (r_fIsKind : PySem.W.nsIn K mainGlobals "is_kind" = some (some (.ref fIsKind))) (r_fAsNum : PySem.W.nsIn K mainGlobals "_as_number" = some (some (.ref fAsNum))) (r_fCkTable : PySem.W.nsIn K mainGlobals "check_table" = some (some (.ref fCkTable))) (r_fAreCols : PySem.W.nsIn K mainGlobals "_are_columns" = some (some (.ref fAreCols))) (r_fIsRow : PySem.W.nsIn K mainGlobals "_is_row" = some (some (.ref fIsRow))) (r_fIsCell : PySem.W.nsIn K mainGlobals "_is_cell" = some (some (.ref fIsCell))) (r_fCellAt : PySem.W.nsIn K mainGlobals "_law_cell_at" = some (some (.ref fCellAt))) (r_fDraw : PySem.W.nsIn K mainGlobals "_law_draw" = some (some (.ref fDraw))) (r_fNumber : PySem.W.nsIn K mainGlobals "_law_number" = some (some (.ref fNumber))) (r_fNext : PySem.W.nsIn K mainGlobals "_law_next" = some (some (.ref fNext))) (r_fPick : PySem.W.nsIn K mainGlobals "_law_pick" = some (some (.ref fPick))) (r_fCell : PySem.W.nsIn K mainGlobals "_law_cell" = some (some (.ref fCell))) (r_fMeasured : PySem.W.nsIn K mainGlobals "_law_measured" = some (some (.ref fMeasured))) (r_fMade : PySem.W.nsIn K mainGlobals "_law_made" = some (some (.ref fMade))) (r_fCands : PySem.W.nsIn K mainGlobals "_law_candidates" = some (some (.ref fCands))) (r_fOutcome : PySem.W.nsIn K mainGlobals "_law_outcome" = some (some (.ref fOutcome))) (r_fLPart : PySem.W.nsIn K mainGlobals "_law_part" = some (some (.ref fLPart))) (r_fSorted : PySem.W.nsIn K mainGlobals "_law_sorted" = some (some (.ref fSorted))) (r_fDrawn : PySem.W.nsIn K mainGlobals "_law_drawn" = some (some (.ref fDrawn))) (r_fLTable : PySem.W.nsIn K mainGlobals "_law_table" = some (some (.ref fLTable))) (r_fLKey : PySem.W.nsIn K mainGlobals "_law_key" = some (some (.ref fLKey))) (r_fTurns : PySem.W.nsIn K mainGlobals "_law_turns" = some (some (.ref fTurns))) (r_fIsSteady : PySem.W.nsIn K mainGlobals "_law_is_steady" = some (some (.ref fIsSteady))) (r_fIsFall : PySem.W.nsIn K mainGlobals "_law_is_fall" = some (some (.ref fIsFall))) (r_fOfSize : PySem.W.nsIn K mainGlobals "_law_of_size" = some (some (.ref fOfSize))) (r_fSets : PySem.W.nsIn K mainGlobals "_law_sets" = some (some (.ref fSets))) (r_fAscends : PySem.W.nsIn K mainGlobals "_law_ascends" = some (some (.ref fAscends))) (r_fShown : PySem.W.nsIn K mainGlobals "_law_shown" = some (some (.ref fShown))) (r_fLPlaces : PySem.W.nsIn K mainGlobals "_law_places" = some (some (.ref fLPlaces))) (r_fOneRight : PySem.W.nsIn K mainGlobals "_law_one_right" = some (some (.ref fOneRight))) (r_law : PySem.W.nsIn K mainGlobals "law" = some (some (.ref fLaw))) (mkPlain : Mk K cPlain fMInit) (mkSize : Mk K cSize fMInit) (mkEnding : Mk K cEnding fMInit) (mkRest : Mk K cRest fRInit) (mkPart : Mk K cPart fPInit) (mkKey : Mk K cKey fKInit) (i_Plain : IsiC K cPlain) (nn_Plain : NoAttr K cPlain "_name") (nd_Plain : NoAttr K cPlain "_divisor") (of_Plain : Meth K cPlain "of" fPlainOf) (eq_Plain : Meth K cPlain "__eq__" fMEq) (qa_Plain : PySem.W.findIn K (.ref cPlain) "name" = some (some (.ref qN))) (nf_Plain_Plain : PySem.W.notFirst K cPlain (.ref cPlain) = true) (nf_Plain_Size : PySem.W.notFirst K cPlain (.ref cSize) = true) (nf_Plain_Rest : PySem.W.notFirst K cPlain (.ref cRest) = true) (nf_Plain_Ending : PySem.W.notFirst K cPlain (.ref cEnding) = true) (kr_Plain : PySem.W.kitOne K (.ref cPlain) (.ref cRest) = some false) (km_Plain : PySem.W.kitOne K (.ref cPlain) (.ref cMeasure) = some true) (ms_Plain : PySem.W.makesIn K cPlain = true) (i_Size : IsiC K cSize) (nn_Size : NoAttr K cSize "_name") (nd_Size : NoAttr K cSize "_divisor") (of_Size : Meth K cSize "of" fSizeOf) (eq_Size : Meth K cSize "__eq__" fMEq) (qa_Size : PySem.W.findIn K (.ref cSize) "name" = some (some (.ref qN))) (nf_Size_Plain : PySem.W.notFirst K cSize (.ref cPlain) = true) (nf_Size_Size : PySem.W.notFirst K cSize (.ref cSize) = true) (nf_Size_Rest : PySem.W.notFirst K cSize (.ref cRest) = true) (nf_Size_Ending : PySem.W.notFirst K cSize (.ref cEnding) = true) (kr_Size : PySem.W.kitOne K (.ref cSize) (.ref cRest) = some false) (km_Size : PySem.W.kitOne K (.ref cSize) (.ref cMeasure) = some true) (ms_Size : PySem.W.makesIn K cSize = true) (i_Rest : IsiC K cRest) (nn_Rest : NoAttr K cRest "_name") (nd_Rest : NoAttr K cRest "_divisor") (of_Rest : Meth K cRest "of" fROf) (eq_Rest : Meth K cRest "__eq__" fREq) (qa_Rest : PySem.W.findIn K (.ref cRest) "name" = some (some (.ref qN))) (nf_Rest_Plain : PySem.W.notFirst K cRest (.ref cPlain) = true) (nf_Rest_Size : PySem.W.notFirst K cRest (.ref cSize) = true) (nf_Rest_Rest : PySem.W.notFirst K cRest (.ref cRest) = true) (nf_Rest_Ending : PySem.W.notFirst K cRest (.ref cEnding) = true) (kr_Rest : PySem.W.kitOne K (.ref cRest) (.ref cRest) = some true) (km_Rest : PySem.W.kitOne K (.ref cRest) (.ref cMeasure) = some true) (ms_Rest : PySem.W.makesIn K cRest = true) (i_Ending : IsiC K cEnding) (nn_Ending : NoAttr K cEnding "_name") (nd_Ending : NoAttr K cEnding "_divisor") (of_Ending : Meth K cEnding "of" fEOf) (eq_Ending : Meth K cEnding "__eq__" fMEq) (qa_Ending : PySem.W.findIn K (.ref cEnding) "name" = some (some (.ref qN))) (nf_Ending_Plain : PySem.W.notFirst K cEnding (.ref cPlain) = true) (nf_Ending_Size : PySem.W.notFirst K cEnding (.ref cSize) = true) (nf_Ending_Rest : PySem.W.notFirst K cEnding (.ref cRest) = true) (nf_Ending_Ending : PySem.W.notFirst K cEnding (.ref cEnding) = true) (kr_Ending : PySem.W.kitOne K (.ref cEnding) (.ref cRest) = some false) (km_Ending : PySem.W.kitOne K (.ref cEnding) (.ref cMeasure) = some true) (ms_Ending : PySem.W.makesIn K cEnding = true) (qb_qN : PySem.W.specialIn K (.ref qN) "__get__" = some (some (.builtin "property.__get__"))) (qc_qN : PySem.W.takesIn K (.ref qN) = some true) (qd_qN : PySem.W.recIn K qN "property" = some (.ref fMName :: rest_qN)) (inj : [cPlain, cSize, cRest, cEnding].Nodup) (iP : IsiC K cPart) (nPm : NoAttr K cPart "_measure") (nPd : NoAttr K cPart "_down") (mPEq : Meth K cPart "__eq__" fPEq) (mPNeg : Meth K cPart "__neg__" fPNeg) (qa_qPm : PySem.W.findIn K (.ref cPart) "measure" = some (some (.ref qPm))) (qb_qPm : PySem.W.specialIn K (.ref qPm) "__get__" = some (some (.builtin "property.__get__"))) (qc_qPm : PySem.W.takesIn K (.ref qPm) = some true) (qd_qPm : PySem.W.recIn K qPm "property" = some (.ref fPMeas :: rest_qPm)) (qa_qPd : PySem.W.findIn K (.ref cPart) "down" = some (some (.ref qPd))) (qb_qPd : PySem.W.specialIn K (.ref qPd) "__get__" = some (some (.builtin "property.__get__"))) (qc_qPd : PySem.W.takesIn K (.ref qPd) = some true) (qd_qPd : PySem.W.recIn K qPd "property" = some (.ref fPDown :: rest_qPd)) (nfP : PySem.W.notFirst K cPart (.ref cPart) = true) (kP : PySem.W.kitOne K (.ref cPart) (.ref cPart) = some true) (ty_cP : PySem.W.typeIn K (.ref cPart) = some mc) (cr1 : PySem.W.readsIn K cPart mc = true) (cr2 : PySem.W.specialIn K (.ref cPart) "__getattribute__" = some (some (.builtin "type.__getattribute__"))) (ca_pUp_ : PySem.W.findCls K (.ref cPart) mc "up" = some (.get (.builtin "classmethod.__get__") (.ref pUp_) .none (.ref cPart))) (cb_pUp_ : PySem.W.recIn K pUp_ "classmethod" = some (.ref fPUp :: rest_pUp_)) (cc_pUp_ : PySem.W.fnIn K fPUp = true) (ca_pDw_ : PySem.W.findCls K (.ref cPart) mc "downward" = some (.get (.builtin "classmethod.__get__") (.ref pDw_) .none (.ref cPart))) (cb_pDw_ : PySem.W.recIn K pDw_ "classmethod" = some (.ref fPDownw :: rest_pDw_)) (cc_pDw_ : PySem.W.fnIn K fPDownw = true) (iK : IsiC K cKey) (nKp : NoAttr K cKey "_parts") (mfKEq : Meth K cKey "__eq__" fKEq) (mfKLen : Meth K cKey "__len__" fKLen) (mfKAdd : Meth K cKey "__add__" fKAdd) (mfKNeg : Meth K cKey "__neg__" fKNeg) (mfKCont : Meth K cKey "__contains__" fKCont) (mfKGet : Meth K cKey "__getitem__" fKGet) (fnKGet : PySem.W.fnIn K fKGet = true) (qa_qKp : PySem.W.findIn K (.ref cKey) "parts" = some (some (.ref qKp))) (qb_qKp : PySem.W.specialIn K (.ref qKp) "__get__" = some (some (.builtin "property.__get__"))) (qc_qKp : PySem.W.takesIn K (.ref qKp) = some true) (qd_qKp : PySem.W.recIn K qKp "property" = some (.ref fKParts :: rest_qKp)) (nfK : PySem.W.notFirst K cKey (.ref cKey) = true) (kK : PySem.W.kitOne K (.ref cKey) (.ref cKey) = some true) (sfK : PySem.W.selfFirst K cKey = true) (nbK : PySem.W.findIn K (.ref cKey) "__bool__" = some none) (xBad : PySem.W.excIn K cBadKey [.type "ValueError", .type "Exception", .type "BaseException", .type "object"] "ValueError.__new__" = true) (kBad : PySem.W.keepIn K (.ref cBadKey) = true) (bBad : PySem.W.subIn K (.ref cBadKey) (.type "BaseException") = some true) (tBad : PySem.W.typeIn K (.ref cBadKey) = some (.type "type")) (eBad : PySem.W.exmOne K (.ref cBadKey) (.ref cBadKey) = some true) (F_isName : ∃ fd, Fun K "is_name" "is_name" sIsName fIsName fd) (F_isInteger : ∃ fd, Fun K "is_integer" "is_integer" sIsInteger fIsInteger fd) (F_isBetween : ∃ fd, Fun K "is_between" "is_between" sIsBetween fIsBetween fd) (F_mInit : ∃ fd, Fun K "__init__" "Measure.__init__" sMInit fMInit fd) (F_mEq : ∃ fd, Fun K "__eq__" "Measure.__eq__" sMEq fMEq fd) (F_mName : ∃ fd, Fun K "name" "Measure.name" sMName fMName fd) (F_plainOf : ∃ fd, Fun K "of" "Plain.of" sPlainOf fPlainOf fd) (F_sizeOf : ∃ fd, Fun K "of" "Size.of" sSizeOf fSizeOf fd) (F_rEq : ∃ fd, Fun K "__eq__" "Rest.__eq__" sREq fREq fd) (F_rOf : ∃ fd, Fun K "of" "Rest.of" sROf fROf fd) (F_eOf : ∃ fd, Fun K "of" "Ending.of" sEOf fEOf fd) (F_pEq : ∃ fd, Fun K "__eq__" "Part.__eq__" sPEq fPEq fd) (F_pNeg : ∃ fd, Fun K "__neg__" "Part.__neg__" sPNeg fPNeg fd) (F_pUp : ∃ fd, Fun K "up" "Part.up" sPUp fPUp fd) (F_pDownw : ∃ fd, Fun K "downward" "Part.downward" sPDownw fPDownw fd) (F_pMeas : ∃ fd, Fun K "measure" "Part.measure" sPMeas fPMeas fd) (F_pDown : ∃ fd, Fun K "down" "Part.down" sPDown fPDown fd) (F_kInit : ∃ fd, Fun K "__init__" "Key.__init__" sKInit fKInit fd) (F_kEq : ∃ fd, Fun K "__eq__" "Key.__eq__" sKEq fKEq fd) (F_kLen : ∃ fd, Fun K "__len__" "Key.__len__" sKLen fKLen fd) (F_kAdd : ∃ fd, Fun K "__add__" "Key.__add__" sKAdd fKAdd fd) (F_kNeg : ∃ fd, Fun K "__neg__" "Key.__neg__" sKNeg fKNeg fd) (F_kCont : ∃ fd, Fun K "__contains__" "Key.__contains__" sKCont fKCont fd) (F_kGet : ∃ fd, Fun K "__getitem__" "Key.__getitem__" sKGet fKGet fd) (F_kParts : ∃ fd, Fun K "parts" "Key.parts" sKParts fKParts fd) (F_lCellAt : ∃ fd, Fun K "_law_cell_at" "_law_cell_at" sCellAt fCellAt fd) (F_lDraw : ∃ fd, Fun K "_law_draw" "_law_draw" sDraw fDraw fd) (F_lNumber : ∃ fd, Fun K "_law_number" "_law_number" sNumber fNumber fd) (F_lNext : ∃ fd, Fun K "_law_next" "_law_next" sNext fNext fd) (F_lPick : ∃ fd, Fun K "_law_pick" "_law_pick" sPick fPick fd) (F_lCell : ∃ fd, Fun K "_law_cell" "_law_cell" sCell fCell fd) (F_lMeasured : ∃ fd, Fun K "_law_measured" "_law_measured" sMeasured fMeasured fd) (F_lMade : ∃ fd, Fun K "_law_made" "_law_made" sMade fMade fd) (F_lCands : ∃ fd, Fun K "_law_candidates" "_law_candidates" sCands fCands fd) (F_lOutcome : ∃ fd, Fun K "_law_outcome" "_law_outcome" sOutcome fOutcome fd) (F_lLPart : ∃ fd, Fun K "_law_part" "_law_part" sLPart fLPart fd) (F_lSorted : ∃ fd, Fun K "_law_sorted" "_law_sorted" sSorted fSorted fd) (F_lDrawn : ∃ fd, Fun K "_law_drawn" "_law_drawn" sDrawn fDrawn fd) (F_lLTable : ∃ fd, Fun K "_law_table" "_law_table" sLTable fLTable fd) (F_lLKey : ∃ fd, Fun K "_law_key" "_law_key" sLKey fLKey fd) (F_lTurns : ∃ fd, Fun K "_law_turns" "_law_turns" sTurns fTurns fd) (F_lIsSteady : ∃ fd, Fun K "_law_is_steady" "_law_is_steady" sIsSteady fIsSteady fd) (F_lIsFall : ∃ fd, Fun K "_law_is_fall" "_law_is_fall" sIsFall fIsFall fd) (F_lOfSize : ∃ fd, Fun K "_law_of_size" "_law_of_size" sOfSize fOfSize fd) (F_lSets : ∃ fd, Fun K "_law_sets" "_law_sets" sSets fSets fd) (F_lAscends : ∃ fd, Fun K "_law_ascends" "_law_ascends" sAscends fAscends fd) (F_lShown : ∃ fd, Fun K "_law_shown" "_law_shown" sShown fShown fd) (F_lLPlaces : ∃ fd, Fun K "_law_places" "_law_places" sLPlaces fLPlaces fd) (F_lOneRight : ∃ fd, Fun K "_law_one_right" "_law_one_right" sOneRight fOneRight fd) (F_law : ∃ fd, Fun K "law" "law" sLaw fLaw fd) (F_pInit : ∃ fd, FunD K "__init__" "Part.__init__" (defArgs sPInit) (defBody sPInit) (defScope sPInit) [] [("down", .bl false)] fPInit fd) (F_rInit : ∃ cda cc, FunC P K "__init__" "Rest.__init__" (defArgs sRInit) (defBody sRInit) (defScope sRInit) fRInit cda cc cRest) (rSup : SupM K cRest cRest "__init__" fMInit) (iT : IsiC K cTable) (nTc : NoAttr K cTable "_columns") (nTr : NoAttr K cTable "_rows") (mkT : Mk K cTable fTInit) (nfT : PySem.W.notFirst K cTable (.ref cTable) = true) (kT : PySem.W.kitOne K (.ref cTable) (.ref cTable) = some true) (ft_Plain : Meth K cPlain "fits" fFitsP) (ft_Size : Meth K cSize "fits" fFitsS) (ft_Rest : Meth K cRest "fits" fFitsR) (ft_Ending : Meth K cEnding "fits" fFitsE) (mPRank : Meth K cPart "rank" fPRank) (mTEq : Meth K cTable "__eq__" fTEq) (mTRanks : Meth K cTable "ranks" fTRanks) (mTPoss : Meth K cTable "is_possible" fTPoss) (mTCkRow : Meth K cTable "check_row" fTCkRow) (mTCkKey : Meth K cTable "check_key" fTCkKey) (mTCells : Meth K cTable "_cells" fTCells) (qa_qTCols : PySem.W.findIn K (.ref cTable) "columns" = some (some (.ref qTCols))) (qb_qTCols : PySem.W.specialIn K (.ref qTCols) "__get__" = some (some (.builtin "property.__get__"))) (qc_qTCols : PySem.W.takesIn K (.ref qTCols) = some true) (qd_qTCols : PySem.W.recIn K qTCols "property" = some (.ref fTCols :: rest_qTCols)) (qa_qTRows : PySem.W.findIn K (.ref cTable) "rows" = some (some (.ref qTRows))) (qb_qTRows : PySem.W.specialIn K (.ref qTRows) "__get__" = some (some (.builtin "property.__get__"))) (qc_qTRows : PySem.W.takesIn K (.ref qTRows) = some true) (qd_qTRows : PySem.W.recIn K qTRows "property" = some (.ref fTRows :: rest_qTRows)) (F_lIsKind : ∃ fd, Fun K "is_kind" "is_kind" sIsKind fIsKind fd) (F_lAsNum : ∃ fd, Fun K "_as_number" "_as_number" sAsNum fAsNum fd) (F_lPRank : ∃ fd, Fun K "rank" "Part.rank" sPRank fPRank fd) (F_lFitsP : ∃ fd, Fun K "fits" "Plain.fits" sFitsP fFitsP fd) (F_lFitsS : ∃ fd, Fun K "fits" "Size.fits" sFitsS fFitsS fd) (F_lFitsR : ∃ fd, Fun K "fits" "Rest.fits" sFitsR fFitsR fd) (F_lFitsE : ∃ fd, Fun K "fits" "Ending.fits" sFitsE fFitsE fd) (F_lTInit : ∃ fd, Fun K "__init__" "Table.__init__" sTInit fTInit fd) (F_lTEq : ∃ fd, Fun K "__eq__" "Table.__eq__" sTEq fTEq fd) (F_lTCols : ∃ fd, Fun K "columns" "Table.columns" sTCols fTCols fd) (F_lTRows : ∃ fd, Fun K "rows" "Table.rows" sTRows fTRows fd) (F_lTRanks : ∃ fd, Fun K "ranks" "Table.ranks" sTRanks fTRanks fd) (F_lTPoss : ∃ fd, Fun K "is_possible" "Table.is_possible" sTPoss fTPoss fd) (F_lTCkRow : ∃ fd, Fun K "check_row" "Table.check_row" sTCkRow fTCkRow fd) (F_lTCkKey : ∃ fd, Fun K "check_key" "Table.check_key" sTCkKey fTCkKey fd) (F_lTCells : ∃ fd, Fun K "_cells" "Table._cells" sTCells fTCells fd) (F_lCkTable : ∃ fd, Fun K "check_table" "check_table" sCkTable fCkTable fd) (F_lAreCols : ∃ fd, Fun K "_are_columns" "_are_columns" sAreCols fAreCols fd) (F_lIsRow : ∃ fd, Fun K "_is_row" "_is_row" sIsRow fIsRow fd) (F_lIsCell : ∃ fd, Fun K "_is_cell" "_is_cell" sIsCell fIsCell fd) (n_reversed : PySem.W.nsIn K mainGlobals "reversed" = some none) (n_any : PySem.W.nsIn K mainGlobals "any" = some none) (r_gArr : PySem.W.nsIn K mainGlobals "Arrangement" = some (some (.ref cArr))) (g_isiA : IsiC K cArr) (g_nAs : NoAttr K cArr "steady") (g_nAf : NoAttr K cArr "falls") (g_mkA : Mk K cArr fAInit) (g_mShows : Meth K cArr "shows" fAShows) (g_mAllRanks : Meth K cTable "all_ranks" fAllRanks) (r_gArrangement : PySem.W.nsIn K mainGlobals "arrangement" = some (some (.ref fArrangement))) (r_gPlaces : PySem.W.nsIn K mainGlobals "places" = some (some (.ref fPlaces))) (r_gSortedRows : PySem.W.nsIn K mainGlobals "sorted_rows" = some (some (.ref fSortedRows))) (r_gSteadyLengths : PySem.W.nsIn K mainGlobals "_steady_lengths" = some (some (.ref fSteadyLengths))) (r_gFirstSteady : PySem.W.nsIn K mainGlobals "_first_steady" = some (some (.ref fFirstSteady))) (r_gFirstGreatest : PySem.W.nsIn K mainGlobals "_first_greatest" = some (some (.ref fFirstGreatest))) (r_gRowsWith : PySem.W.nsIn K mainGlobals "_rows_with" = some (some (.ref fRowsWith))) (r_gSortedIndex : PySem.W.nsIn K mainGlobals "_sorted_index" = some (some (.ref fSortedIndex))) (r_gIsPlace : PySem.W.nsIn K mainGlobals "_is_place" = some (some (.ref fIsPlace))) (r_gAreSteady : PySem.W.nsIn K mainGlobals "_are_steady" = some (some (.ref fAreSteady))) (r_gAreFall : PySem.W.nsIn K mainGlobals "_are_fall" = some (some (.ref fAreFall))) (r_gHoldEach : PySem.W.nsIn K mainGlobals "_hold_each_once" = some (some (.ref fHoldEach))) (r_gAreIndices : PySem.W.nsIn K mainGlobals "are_indices" = some (some (.ref fAreIndices))) (F_lArrangement : ∃ fd, Fun K "arrangement" "arrangement" sArrangement fArrangement fd) (F_lPlaces : ∃ fd, Fun K "places" "places" sPlaces fPlaces fd) (F_lSortedRows : ∃ fd, Fun K "sorted_rows" "sorted_rows" sSortedRows fSortedRows fd) (F_lSteadyLengths : ∃ fd, Fun K "_steady_lengths" "_steady_lengths" sSteadyLengths fSteadyLengths fd) (F_lFirstSteady : ∃ fd, Fun K "_first_steady" "_first_steady" sFirstSteady fFirstSteady fd) (F_lFirstGreatest : ∃ fd, Fun K "_first_greatest" "_first_greatest" sFirstGreatest fFirstGreatest fd) (F_lRowsWith : ∃ fd, Fun K "_rows_with" "_rows_with" sRowsWith fRowsWith fd) (F_lSortedIndex : ∃ fd, Fun K "_sorted_index" "_sorted_index" sSortedIndex fSortedIndex fd) (F_lIsPlace : ∃ fd, Fun K "_is_place" "_is_place" sIsPlace fIsPlace fd) (F_lAreSteady : ∃ fd, Fun K "_are_steady" "_are_steady" sAreSteady fAreSteady fd) (F_lAreFall : ∃ fd, Fun K "_are_fall" "_are_fall" sAreFall fAreFall fd) (F_lHoldEach : ∃ fd, Fun K "_hold_each_once" "_hold_each_once" sHoldEach fHoldEach fd) (F_lAreIndices : ∃ fd, Fun K "are_indices" "are_indices" sAreIndices fAreIndices fd) (F_lAInit : ∃ fd, Fun K "__init__" "Arrangement.__init__" sAInit fAInit fd) (F_lAShows : ∃ fd, Fun K "shows" "Arrangement.shows" sAShows fAShows fd) (F_lAllRanks : ∃ fd, Fun K "all_ranks" "Table.all_ranks" sAllRanks fAllRanks fd) :
    ∃ fd : FuncData, (∀ (s : Shared) (v : Value), BindsTo s fd ⟨[v], []⟩ [("_law_script", v)]) ∧ ∀ base : Heap, K.In base → base.Ns mainGlobals mg → FnOk P w K mg base CX0 13 fa fd ["_law_script"] (spLaw K) := by
  have L : Lx P K mg ⟨cPlain, cSize, cRest, cEnding, cPart, cKey, cMeasure, cBadKey, fIsName, fIsInteger, fIsBetween, fMInit, fMEq, fMName, fPlainOf, fSizeOf, fRInit, fREq, fROf, fEOf, fPInit, fPEq, fPNeg, fPUp, fPDownw, fPMeas, fPDown, fKInit, fKEq, fKLen, fKAdd, fKNeg, fKCont, fKGet, fKParts⟩ ⟨fCellAt, fDraw, fNumber, fNext, fPick, fCell, fMeasured, fMade, fCands, fOutcome, fLPart, fSorted, fDrawn, fLTable, fLKey, fTurns, fIsSteady, fIsFall, fOfSize, fSets, fAscends, fShown, fLPlaces, fOneRight⟩ := { T := { gLetters := ⟨_, PySem.W.mg_of X G vL⟩, gLongest := ⟨_, PySem.W.mg_of X G vN⟩, gMost := ⟨_, PySem.W.mg_of X G vM⟩, bLen := PySem.W.mg_none_of X G n_len, bAll := PySem.W.mg_none_of X G n_all, bIsi := PySem.W.mg_none_of X G n_isinstance, bStr := PySem.W.mg_none_of X G n_str, bInt := PySem.W.mg_none_of X G n_int, bBool := PySem.W.mg_none_of X G n_bool, bType := PySem.W.mg_none_of X G n_type, bAbs := PySem.W.mg_none_of X G n_abs, bList := PySem.W.mg_none_of X G n_list, gIsName := PySem.W.mg_of X G r_fIsName, gIsInteger := PySem.W.mg_of X G r_fIsInteger, gIsBetween := PySem.W.mg_of X G r_fIsBetween, gMeasure := PySem.W.mg_of X G r_cMeasure, gPlain := PySem.W.mg_of X G r_cPlain, gSize := PySem.W.mg_of X G r_cSize, gRest := PySem.W.mg_of X G r_cRest, gEnding := PySem.W.mg_of X G r_cEnding, gPart := PySem.W.mg_of X G r_cPart, gKey := PySem.W.mg_of X G r_cKey, isName := F_isName, isInteger := F_isInteger, isBetween := F_isBetween, mInit := F_mInit, mEq := F_mEq, mName := F_mName, plainOf := F_plainOf, sizeOf := F_sizeOf, rEq := F_rEq, rOf := F_rOf, eOf := F_eOf, pEq := F_pEq, pNeg := F_pNeg, pUp := F_pUp, pDownw := F_pDownw, pMeas := F_pMeas, pDown := F_pDown, kInit := F_kInit, kEq := F_kEq, kLen := F_kLen, kAdd := F_kAdd, kNeg := F_kNeg, kCont := F_kCont, kGet := F_kGet, kParts := F_kParts, rInit := F_rInit, rSup := rSup, pInit := F_pInit, isi := fun m => match m with | .plain _ => i_Plain | .size _ => i_Size | .rest _ _ => i_Rest | .ending _ => i_Ending, nName := fun m => match m with | .plain _ => nn_Plain | .size _ => nn_Size | .rest _ _ => nn_Rest | .ending _ => nn_Ending, nDiv := fun m => match m with | .plain _ => nd_Plain | .size _ => nd_Size | .rest _ _ => nd_Rest | .ending _ => nd_Ending, mOf := fun m => match m with | .plain _ => of_Plain | .size _ => of_Size | .rest _ _ => of_Rest | .ending _ => of_Ending, mmEq := fun m => match m with | .plain _ => eq_Plain | .size _ => eq_Size | .rest _ _ => eq_Rest | .ending _ => eq_Ending, qName := ⟨qN, fun m => match m with | .plain _ => ⟨qa_Plain, qb_qN, qc_qN, _, qd_qN⟩ | .size _ => ⟨qa_Size, qb_qN, qc_qN, _, qd_qN⟩ | .rest _ _ => ⟨qa_Rest, qb_qN, qc_qN, _, qd_qN⟩ | .ending _ => ⟨qa_Ending, qb_qN, qc_qN, _, qd_qN⟩⟩, nf := fun m m' => match m, m' with | .plain _, .plain _ => nf_Plain_Plain | .plain _, .size _ => nf_Plain_Size | .plain _, .rest _ _ => nf_Plain_Rest | .plain _, .ending _ => nf_Plain_Ending | .size _, .plain _ => nf_Size_Plain | .size _, .size _ => nf_Size_Size | .size _, .rest _ _ => nf_Size_Rest | .size _, .ending _ => nf_Size_Ending | .rest _ _, .plain _ => nf_Rest_Plain | .rest _ _, .size _ => nf_Rest_Size | .rest _ _, .rest _ _ => nf_Rest_Rest | .rest _ _, .ending _ => nf_Rest_Ending | .ending _, .plain _ => nf_Ending_Plain | .ending _, .size _ => nf_Ending_Size | .ending _, .rest _ _ => nf_Ending_Rest | .ending _, .ending _ => nf_Ending_Ending, kRest := fun m => match m with | .plain _ => kr_Plain | .size _ => kr_Size | .rest _ _ => kr_Rest | .ending _ => kr_Ending, kMeas := fun m => match m with | .plain _ => km_Plain | .size _ => km_Size | .rest _ _ => km_Rest | .ending _ => km_Ending, mks := fun m => match m with | .plain _ => ms_Plain | .size _ => ms_Size | .rest _ _ => ms_Rest | .ending _ => ms_Ending, inj := inj, mkPlain := mkPlain, mkSize := mkSize, mkEnding := mkEnding, mkRest := mkRest, isiP := iP, nPm := nPm, nPd := nPd, mPEq := mPEq, mPNeg := mPNeg, qPm := ⟨qPm, qa_qPm, qb_qPm, qc_qPm, _, qd_qPm⟩, qPd := ⟨qPd, qa_qPd, qb_qPd, qc_qPd, _, qd_qPd⟩, nfP := nfP, kP := kP, mkPart := mkPart, cmPart := ⟨mc, pUp_, pDw_, ⟨cr1, cr2⟩, ⟨ca_pUp_, ⟨_, cb_pUp_⟩, cc_pUp_⟩, ⟨ca_pDw_, ⟨_, cb_pDw_⟩, cc_pDw_⟩⟩, isiK := iK, nKp := nKp, mKEq := mfKEq, mKLen := mfKLen, mKAdd := mfKAdd, mKNeg := mfKNeg, mKCont := mfKCont, mKGet := mfKGet, fnKGet := fnKGet, qKp := ⟨qKp, qa_qKp, qb_qKp, qc_qKp, _, qd_qKp⟩, nfK := nfK, kK := kK, sfK := sfK, nbK := nbK, mkKey := mkKey, gBad := PySem.W.mg_of X G r_cBadKey, xBad := xBad, kBad := kBad, bBad := bBad, tBad := tBad, eBad := eBad }, bRange := PySem.W.mg_none_of X G n_range, bMax := PySem.W.mg_none_of X G n_max, bMin := PySem.W.mg_none_of X G n_min, bEnum := PySem.W.mg_none_of X G n_enumerate, gCellAt := PySem.W.mg_of X G r_fCellAt, lCellAt := F_lCellAt, gDraw := PySem.W.mg_of X G r_fDraw, lDraw := F_lDraw, gNumber := PySem.W.mg_of X G r_fNumber, lNumber := F_lNumber, gNext := PySem.W.mg_of X G r_fNext, lNext := F_lNext, gPick := PySem.W.mg_of X G r_fPick, lPick := F_lPick, gCell := PySem.W.mg_of X G r_fCell, lCell := F_lCell, gMeasured := PySem.W.mg_of X G r_fMeasured, lMeasured := F_lMeasured, gMade := PySem.W.mg_of X G r_fMade, lMade := F_lMade, gCands := PySem.W.mg_of X G r_fCands, lCands := F_lCands, gOutcome := PySem.W.mg_of X G r_fOutcome, lOutcome := F_lOutcome, gLPart := PySem.W.mg_of X G r_fLPart, lLPart := F_lLPart, gSorted := PySem.W.mg_of X G r_fSorted, lSorted := F_lSorted, gDrawn := PySem.W.mg_of X G r_fDrawn, lDrawn := F_lDrawn, gLTable := PySem.W.mg_of X G r_fLTable, lLTable := F_lLTable, gLKey := PySem.W.mg_of X G r_fLKey, lLKey := F_lLKey, gTurns := PySem.W.mg_of X G r_fTurns, lTurns := F_lTurns, gIsSteady := PySem.W.mg_of X G r_fIsSteady, lIsSteady := F_lIsSteady, gIsFall := PySem.W.mg_of X G r_fIsFall, lIsFall := F_lIsFall, gOfSize := PySem.W.mg_of X G r_fOfSize, lOfSize := F_lOfSize, gSets := PySem.W.mg_of X G r_fSets, lSets := F_lSets, gAscends := PySem.W.mg_of X G r_fAscends, lAscends := F_lAscends, gShown := PySem.W.mg_of X G r_fShown, lShown := F_lShown, gLPlaces := PySem.W.mg_of X G r_fLPlaces, lLPlaces := F_lLPlaces, gOneRight := PySem.W.mg_of X G r_fOneRight, lOneRight := F_lOneRight }
  have Y : Ty P K mg ⟨cPlain, cSize, cRest, cEnding, cPart, cKey, cMeasure, cBadKey, fIsName, fIsInteger, fIsBetween, fMInit, fMEq, fMName, fPlainOf, fSizeOf, fRInit, fREq, fROf, fEOf, fPInit, fPEq, fPNeg, fPUp, fPDownw, fPMeas, fPDown, fKInit, fKEq, fKLen, fKAdd, fKNeg, fKCont, fKGet, fKParts⟩ ⟨cTable, cTable, fIsKind, fAsNum, fPRank, fFitsP, fFitsS, fFitsR, fFitsE, fTInit, fTEq, fTCols, fTRows, fTRanks, fTPoss, fTCkRow, fTCkKey, fTCells, fCkTable, fAreCols, fIsRow, fIsCell⟩ := { T := L.T, gNumbers := ⟨_, PySem.W.mg_of X G v_NUMBERS⟩, gWords := ⟨_, PySem.W.mg_of X G v_WORDS⟩, gMostC := ⟨_, PySem.W.mg_of X G v_MOST_COLUMNS⟩, gFewR := ⟨_, PySem.W.mg_of X G v_FEWEST_ROWS⟩, gMostR := ⟨_, PySem.W.mg_of X G v_MOST_ROWS⟩, gLargest := ⟨_, PySem.W.mg_of X G v_LARGEST⟩, bDict := PySem.W.mg_none_of X G n_dict, bTuple := PySem.W.mg_none_of X G n_tuple, bRange := PySem.W.mg_none_of X G n_range, bZip := PySem.W.mg_none_of X G n_zip, bEnum := PySem.W.mg_none_of X G n_enumerate, gTable := PySem.W.mg_of X G r_cTable, gIsKind := PySem.W.mg_of X G r_fIsKind, gAsNum := PySem.W.mg_of X G r_fAsNum, gCkTable := PySem.W.mg_of X G r_fCkTable, gAreCols := PySem.W.mg_of X G r_fAreCols, gIsRow := PySem.W.mg_of X G r_fIsRow, gIsCell := PySem.W.mg_of X G r_fIsCell, lIsKind := F_lIsKind, lAsNum := F_lAsNum, lPRank := F_lPRank, lFitsP := F_lFitsP, lFitsS := F_lFitsS, lFitsR := F_lFitsR, lFitsE := F_lFitsE, lTInit := F_lTInit, lTEq := F_lTEq, lTCols := F_lTCols, lTRows := F_lTRows, lTRanks := F_lTRanks, lTPoss := F_lTPoss, lTCkRow := F_lTCkRow, lTCkKey := F_lTCkKey, lTCells := F_lTCells, lCkTable := F_lCkTable, lAreCols := F_lAreCols, lIsRow := F_lIsRow, lIsCell := F_lIsCell, mFits := fun m => match m with | .plain _ => ft_Plain | .size _ => ft_Size | .rest _ _ => ft_Rest | .ending _ => ft_Ending, mPRank := mPRank, isiT := iT, nTc := nTc, nTr := nTr, mkT := mkT, nfT := nfT, kT := kT, mTEq := mTEq, mTRanks := mTRanks, mTPoss := mTPoss, mTCkRow := mTCkRow, mTCkKey := mTCkKey, mTCells := mTCells, qTCols := ⟨qTCols, qa_qTCols, qb_qTCols, qc_qTCols, _, qd_qTCols⟩, qTRows := ⟨qTRows, qa_qTRows, qb_qTRows, qc_qTRows, _, qd_qTRows⟩ }
  have GG : Gx P K mg ⟨cPlain, cSize, cRest, cEnding, cPart, cKey, cMeasure, cBadKey, fIsName, fIsInteger, fIsBetween, fMInit, fMEq, fMName, fPlainOf, fSizeOf, fRInit, fREq, fROf, fEOf, fPInit, fPEq, fPNeg, fPUp, fPDownw, fPMeas, fPDown, fKInit, fKEq, fKLen, fKAdd, fKNeg, fKCont, fKGet, fKParts⟩ ⟨cTable, cTable, fIsKind, fAsNum, fPRank, fFitsP, fFitsS, fFitsR, fFitsE, fTInit, fTEq, fTCols, fTRows, fTRanks, fTPoss, fTCkRow, fTCkKey, fTCells, fCkTable, fAreCols, fIsRow, fIsCell⟩ ⟨cArr, fArrangement, fPlaces, fSortedRows, fSteadyLengths, fFirstSteady, fFirstGreatest, fRowsWith, fSortedIndex, fIsPlace, fAreSteady, fAreFall, fHoldEach, fAreIndices, fAInit, fAShows, fAllRanks⟩ := { Y := Y, bReversed := PySem.W.mg_none_of X G n_reversed, bAny := PySem.W.mg_none_of X G n_any, gArr := PySem.W.mg_of X G r_gArr, isiA := g_isiA, nAs := g_nAs, nAf := g_nAf, mkA := g_mkA, mShows := g_mShows, mAllRanks := g_mAllRanks, gArrangement := PySem.W.mg_of X G r_gArrangement, gPlaces := PySem.W.mg_of X G r_gPlaces, gSortedRows := PySem.W.mg_of X G r_gSortedRows, gSteadyLengths := PySem.W.mg_of X G r_gSteadyLengths, gFirstSteady := PySem.W.mg_of X G r_gFirstSteady, gFirstGreatest := PySem.W.mg_of X G r_gFirstGreatest, gRowsWith := PySem.W.mg_of X G r_gRowsWith, gSortedIndex := PySem.W.mg_of X G r_gSortedIndex, gIsPlace := PySem.W.mg_of X G r_gIsPlace, gAreSteady := PySem.W.mg_of X G r_gAreSteady, gAreFall := PySem.W.mg_of X G r_gAreFall, gHoldEach := PySem.W.mg_of X G r_gHoldEach, gAreIndices := PySem.W.mg_of X G r_gAreIndices, lArrangement := F_lArrangement, lPlaces := F_lPlaces, lSortedRows := F_lSortedRows, lSteadyLengths := F_lSteadyLengths, lFirstSteady := F_lFirstSteady, lFirstGreatest := F_lFirstGreatest, lRowsWith := F_lRowsWith, lSortedIndex := F_lSortedIndex, lIsPlace := F_lIsPlace, lAreSteady := F_lAreSteady, lAreFall := F_lAreFall, lHoldEach := F_lHoldEach, lAreIndices := F_lAreIndices, lAInit := F_lAInit, lAShows := F_lAShows, lAllRanks := F_lAllRanks }
  have ee := hfa.symm.trans (PySem.W.mg_of X G r_law)
  cases ee
  obtain ⟨fd, F⟩ := F_law
  refine ⟨fd, fun s v => ?_, fun base _ _ => ok_law L GG F⟩
  obtain ⟨oc, od, kV, doc, pm, an, cdv, ct, osl, rfl, lk, hcd⟩ := F.ex
  exact .of_eq rfl
theorem walk {l : PySem.W.OpenLaw} {q : Program} {loose : List Str} {XP : (Str → Option Value) → Heap → Prop} {YP : PySem.World → Heap → Prop} {d : DefRec} {K : Params → PySem.W.Frag} (hn : l.most = some 63) (hdf : d.params.defaults = [])
    (hY : ∀ (w : PySem.World) (h : Heap), YP w h → (K w.params).In h)
    (F : ∀ (w : PySem.World) (mg : Str → Option Value) (fa : Addr) (h : Heap), (K w.params).In h → h.Ns mainGlobals mg → mg d.name = some (.ref fa) →
      ∃ fd : FuncData, (∀ (s : Shared) (u : Value), BindsTo s fd ⟨[u], []⟩ [("_law_script", u)]) ∧ ∀ base : Heap, (K w.params).In base → base.Ns mainGlobals mg → FnOk l.prog w (K w.params) mg base CX0 13 fa fd ["_law_script"] (spLaw (K w.params))) :
    PySem.W.WalkO q loose XP YP l.row.toRowW d [] (fun f vs => PySem.call f vs) :=
  L2.walk_of (n := 63) (k := 13) (x := "_law_script") (CX := fun _ => CX0) (sp := fun w => spLaw (K w.params)) hn (by decide) hdf ⟨rfl, by decide, by decide⟩ hY F (fun _ _ a ns hl _ hS => ⟨a, ns, rfl, hS, hl, fun _ => rfl⟩) fun _ _ _ _ _ z => z
end K11
open PySem PySem.W PyProof.Rows
open L2 Py K11 in
set_option maxRecDepth 100000 in
set_option maxHeartbeats 0 in
theorem PySem.Challenge.cw_sortreason_k11_whole_arrangements_holds : PySem.Challenge.rw_sortreason_k11_whole_arrangements.Holds := by
  w_on
  o_law
  k_headL
  (case hw => w_witness2)
  k_fill
  refine K11.walk (l := PySem.Challenge.rw_sortreason_k11_whole_arrangements) rfl rfl (fun w h Y => PySem.W.kIn_of Y) ?F
  case F =>
    intro w mg fa h KX G hmg
    refine' K11.all_mk KX G hmg ?vL ?vN ?vM ?v_NUMBERS ?v_WORDS ?v_MOST_COLUMNS ?v_FEWEST_ROWS ?v_MOST_ROWS ?v_LARGEST ?n_dict ?n_tuple ?n_zip ?n_len ?n_all ?n_isinstance ?n_str ?n_int ?n_bool ?n_type ?n_abs ?n_list ?n_range ?n_max ?n_min ?n_enumerate ?n_sum ?r_fIsName ?r_fIsInteger ?r_fIsBetween ?r_cMeasure ?r_cPlain ?r_cSize ?r_cRest ?r_cEnding ?r_cPart ?r_cKey ?r_cBadKey ?r_cTable ?r_fIsKind ?r_fAsNum ?r_fCkTable ?r_fAreCols ?r_fIsRow ?r_fIsCell ?r_fCellAt ?r_fDraw ?r_fNumber ?r_fNext ?r_fPick ?r_fCell ?r_fMeasured ?r_fMade ?r_fCands ?r_fOutcome ?r_fLPart ?r_fSorted ?r_fDrawn ?r_fLTable ?r_fLKey ?r_fTurns ?r_fIsSteady ?r_fIsFall ?r_fOfSize ?r_fSets ?r_fAscends ?r_fShown ?r_fLPlaces ?r_fOneRight ?r_law ?mkPlain ?mkSize ?mkEnding ?mkRest ?mkPart ?mkKey ?i_Plain ?nn_Plain ?nd_Plain ?of_Plain ?eq_Plain ?qa_Plain ?nf_Plain_Plain ?nf_Plain_Size ?nf_Plain_Rest ?nf_Plain_Ending ?kr_Plain ?km_Plain ?ms_Plain ?i_Size ?nn_Size ?nd_Size ?of_Size ?eq_Size ?qa_Size ?nf_Size_Plain ?nf_Size_Size ?nf_Size_Rest ?nf_Size_Ending ?kr_Size ?km_Size ?ms_Size ?i_Rest ?nn_Rest ?nd_Rest ?of_Rest ?eq_Rest ?qa_Rest ?nf_Rest_Plain ?nf_Rest_Size ?nf_Rest_Rest ?nf_Rest_Ending ?kr_Rest ?km_Rest ?ms_Rest ?i_Ending ?nn_Ending ?nd_Ending ?of_Ending ?eq_Ending ?qa_Ending ?nf_Ending_Plain ?nf_Ending_Size ?nf_Ending_Rest ?nf_Ending_Ending ?kr_Ending ?km_Ending ?ms_Ending ?qb_qN ?qc_qN ?qd_qN ?inj ?iP ?nPm ?nPd ?mPEq ?mPNeg ?qa_qPm ?qb_qPm ?qc_qPm ?qd_qPm ?qa_qPd ?qb_qPd ?qc_qPd ?qd_qPd ?nfP ?kP ?ty_cP ?cr1 ?cr2 ?ca_pUp_ ?cb_pUp_ ?cc_pUp_ ?ca_pDw_ ?cb_pDw_ ?cc_pDw_ ?iK ?nKp ?mfKEq ?mfKLen ?mfKAdd ?mfKNeg ?mfKCont ?mfKGet ?fnKGet ?qa_qKp ?qb_qKp ?qc_qKp ?qd_qKp ?nfK ?kK ?sfK ?nbK ?xBad ?kBad ?bBad ?tBad ?eBad ?F_isName ?F_isInteger ?F_isBetween ?F_mInit ?F_mEq ?F_mName ?F_plainOf ?F_sizeOf ?F_rEq ?F_rOf ?F_eOf ?F_pEq ?F_pNeg ?F_pUp ?F_pDownw ?F_pMeas ?F_pDown ?F_kInit ?F_kEq ?F_kLen ?F_kAdd ?F_kNeg ?F_kCont ?F_kGet ?F_kParts ?F_lCellAt ?F_lDraw ?F_lNumber ?F_lNext ?F_lPick ?F_lCell ?F_lMeasured ?F_lMade ?F_lCands ?F_lOutcome ?F_lLPart ?F_lSorted ?F_lDrawn ?F_lLTable ?F_lLKey ?F_lTurns ?F_lIsSteady ?F_lIsFall ?F_lOfSize ?F_lSets ?F_lAscends ?F_lShown ?F_lLPlaces ?F_lOneRight ?F_law ?F_pInit ?F_rInit ?rSup ?iT ?nTc ?nTr ?mkT ?nfT ?kT ?ft_Plain ?ft_Size ?ft_Rest ?ft_Ending ?mPRank ?mTEq ?mTRanks ?mTPoss ?mTCkRow ?mTCkKey ?mTCells ?qa_qTCols ?qb_qTCols ?qc_qTCols ?qd_qTCols ?qa_qTRows ?qb_qTRows ?qc_qTRows ?qd_qTRows ?F_lIsKind ?F_lAsNum ?F_lPRank ?F_lFitsP ?F_lFitsS ?F_lFitsR ?F_lFitsE ?F_lTInit ?F_lTEq ?F_lTCols ?F_lTRows ?F_lTRanks ?F_lTPoss ?F_lTCkRow ?F_lTCkKey ?F_lTCells ?F_lCkTable ?F_lAreCols ?F_lIsRow ?F_lIsCell ?n_reversed ?n_any ?r_gArr ?g_isiA ?g_nAs ?g_nAf ?g_mkA ?g_mShows ?g_mAllRanks ?r_gArrangement ?r_gPlaces ?r_gSortedRows ?r_gSteadyLengths ?r_gFirstSteady ?r_gFirstGreatest ?r_gRowsWith ?r_gSortedIndex ?r_gIsPlace ?r_gAreSteady ?r_gAreFall ?r_gHoldEach ?r_gAreIndices ?F_lArrangement ?F_lPlaces ?F_lSortedRows ?F_lSteadyLengths ?F_lFirstSteady ?F_lFirstGreatest ?F_lRowsWith ?F_lSortedIndex ?F_lIsPlace ?F_lAreSteady ?F_lAreFall ?F_lHoldEach ?F_lAreIndices ?F_lAInit ?F_lAShows ?F_lAllRanks
    (case vL => k_is)
    (case vN => k_is)
    (case vM => k_is)
    (case v_NUMBERS => k_is)
    (case v_WORDS => k_is)
    (case v_MOST_COLUMNS => k_is)
    (case v_FEWEST_ROWS => k_is)
    (case v_MOST_ROWS => k_is)
    (case v_LARGEST => k_is)
    (case n_dict => k_is)
    (case n_tuple => k_is)
    (case n_zip => k_is)
    (case n_len => k_is)
    (case n_all => k_is)
    (case n_isinstance => k_is)
    (case n_str => k_is)
    (case n_int => k_is)
    (case n_bool => k_is)
    (case n_type => k_is)
    (case n_abs => k_is)
    (case n_list => k_is)
    (case n_range => k_is)
    (case n_max => k_is)
    (case n_min => k_is)
    (case n_enumerate => k_is)
    (case n_sum => k_is)
    (case r_fIsName => k_is)
    (case r_fIsInteger => k_is)
    (case r_fIsBetween => k_is)
    (case r_cMeasure => k_is)
    (case r_cPlain => k_is)
    (case r_cSize => k_is)
    (case r_cRest => k_is)
    (case r_cEnding => k_is)
    (case r_cPart => k_is)
    (case r_cKey => k_is)
    (case r_cBadKey => k_is)
    (case r_cTable => k_is)
    (case r_fIsKind => k_is)
    (case r_fAsNum => k_is)
    (case r_fCkTable => k_is)
    (case r_fAreCols => k_is)
    (case r_fIsRow => k_is)
    (case r_fIsCell => k_is)
    (case r_fCellAt => k_is)
    (case r_fDraw => k_is)
    (case r_fNumber => k_is)
    (case r_fNext => k_is)
    (case r_fPick => k_is)
    (case r_fCell => k_is)
    (case r_fMeasured => k_is)
    (case r_fMade => k_is)
    (case r_fCands => k_is)
    (case r_fOutcome => k_is)
    (case r_fLPart => k_is)
    (case r_fSorted => k_is)
    (case r_fDrawn => k_is)
    (case r_fLTable => k_is)
    (case r_fLKey => k_is)
    (case r_fTurns => k_is)
    (case r_fIsSteady => k_is)
    (case r_fIsFall => k_is)
    (case r_fOfSize => k_is)
    (case r_fSets => k_is)
    (case r_fAscends => k_is)
    (case r_fShown => k_is)
    (case r_fLPlaces => k_is)
    (case r_fOneRight => k_is)
    (case r_law => k_is)
    (case mkPlain => (refine' Mk.mk ?m0 ?m1 ?m2 ?m3; (case m0 => k_is); (case m1 => k_is); (case m2 => k_is); (case m3 => k_is)))
    (case mkSize => (refine' Mk.mk ?m0 ?m1 ?m2 ?m3; (case m0 => k_is); (case m1 => k_is); (case m2 => k_is); (case m3 => k_is)))
    (case mkEnding => (refine' Mk.mk ?m0 ?m1 ?m2 ?m3; (case m0 => k_is); (case m1 => k_is); (case m2 => k_is); (case m3 => k_is)))
    (case mkRest => (refine' Mk.mk ?m0 ?m1 ?m2 ?m3; (case m0 => k_is); (case m1 => k_is); (case m2 => k_is); (case m3 => k_is)))
    (case mkPart => (refine' Mk.mk ?m0 ?m1 ?m2 ?m3; (case m0 => k_is); (case m1 => k_is); (case m2 => k_is); (case m3 => k_is)))
    (case mkKey => (refine' Mk.mk ?m0 ?m1 ?m2 ?m3; (case m0 => k_is); (case m1 => k_is); (case m2 => k_is); (case m3 => k_is)))
    (case i_Plain => (refine' IsiC.mk (Cls.mk ?m0 ?m1 ?m2 ?m3) ?m4 ?m5 ?m6 ?m7; (case m0 => k_is); (case m1 => k_is); (case m2 => k_is); (case m3 => k_is); (case m4 => k_is); (case m5 => k_is); (case m6 => k_is); (case m7 => k_is)))
    (case nn_Plain => (show PySem.W.findIn _ _ _ = _; k_is))
    (case nd_Plain => (show PySem.W.findIn _ _ _ = _; k_is))
    (case of_Plain => (refine' Meth.mk ?m0 ?m1 ?m2; (case m0 => k_is); (case m1 => k_is); (case m2 => k_is)))
    (case eq_Plain => (refine' Meth.mk ?m0 ?m1 ?m2; (case m0 => k_is); (case m1 => k_is); (case m2 => k_is)))
    (case qa_Plain => k_is)
    (case nf_Plain_Plain => k_is)
    (case nf_Plain_Size => k_is)
    (case nf_Plain_Rest => k_is)
    (case nf_Plain_Ending => k_is)
    (case kr_Plain => kernel_rfl)
    (case km_Plain => kernel_rfl)
    (case ms_Plain => k_is)
    (case i_Size => (refine' IsiC.mk (Cls.mk ?m0 ?m1 ?m2 ?m3) ?m4 ?m5 ?m6 ?m7; (case m0 => k_is); (case m1 => k_is); (case m2 => k_is); (case m3 => k_is); (case m4 => k_is); (case m5 => k_is); (case m6 => k_is); (case m7 => k_is)))
    (case nn_Size => (show PySem.W.findIn _ _ _ = _; k_is))
    (case nd_Size => (show PySem.W.findIn _ _ _ = _; k_is))
    (case of_Size => (refine' Meth.mk ?m0 ?m1 ?m2; (case m0 => k_is); (case m1 => k_is); (case m2 => k_is)))
    (case eq_Size => (refine' Meth.mk ?m0 ?m1 ?m2; (case m0 => k_is); (case m1 => k_is); (case m2 => k_is)))
    (case qa_Size => k_is)
    (case nf_Size_Plain => k_is)
    (case nf_Size_Size => k_is)
    (case nf_Size_Rest => k_is)
    (case nf_Size_Ending => k_is)
    (case kr_Size => kernel_rfl)
    (case km_Size => kernel_rfl)
    (case ms_Size => k_is)
    (case i_Rest => (refine' IsiC.mk (Cls.mk ?m0 ?m1 ?m2 ?m3) ?m4 ?m5 ?m6 ?m7; (case m0 => k_is); (case m1 => k_is); (case m2 => k_is); (case m3 => k_is); (case m4 => k_is); (case m5 => k_is); (case m6 => k_is); (case m7 => k_is)))
    (case nn_Rest => (show PySem.W.findIn _ _ _ = _; k_is))
    (case nd_Rest => (show PySem.W.findIn _ _ _ = _; k_is))
    (case of_Rest => (refine' Meth.mk ?m0 ?m1 ?m2; (case m0 => k_is); (case m1 => k_is); (case m2 => k_is)))
    (case eq_Rest => (refine' Meth.mk ?m0 ?m1 ?m2; (case m0 => k_is); (case m1 => k_is); (case m2 => k_is)))
    (case qa_Rest => k_is)
    (case nf_Rest_Plain => k_is)
    (case nf_Rest_Size => k_is)
    (case nf_Rest_Rest => k_is)
    (case nf_Rest_Ending => k_is)
    (case kr_Rest => kernel_rfl)
    (case km_Rest => kernel_rfl)
    (case ms_Rest => k_is)
    (case i_Ending => (refine' IsiC.mk (Cls.mk ?m0 ?m1 ?m2 ?m3) ?m4 ?m5 ?m6 ?m7; (case m0 => k_is); (case m1 => k_is); (case m2 => k_is); (case m3 => k_is); (case m4 => k_is); (case m5 => k_is); (case m6 => k_is); (case m7 => k_is)))
    (case nn_Ending => (show PySem.W.findIn _ _ _ = _; k_is))
    (case nd_Ending => (show PySem.W.findIn _ _ _ = _; k_is))
    (case of_Ending => (refine' Meth.mk ?m0 ?m1 ?m2; (case m0 => k_is); (case m1 => k_is); (case m2 => k_is)))
    (case eq_Ending => (refine' Meth.mk ?m0 ?m1 ?m2; (case m0 => k_is); (case m1 => k_is); (case m2 => k_is)))
    (case qa_Ending => k_is)
    (case nf_Ending_Plain => k_is)
    (case nf_Ending_Size => k_is)
    (case nf_Ending_Rest => k_is)
    (case nf_Ending_Ending => k_is)
    (case kr_Ending => kernel_rfl)
    (case km_Ending => kernel_rfl)
    (case ms_Ending => k_is)
    (case qb_qN => k_is)
    (case qc_qN => k_is)
    (case qd_qN => k_is)
    (case inj => decide)
    (case iP => (refine' IsiC.mk (Cls.mk ?m0 ?m1 ?m2 ?m3) ?m4 ?m5 ?m6 ?m7; (case m0 => k_is); (case m1 => k_is); (case m2 => k_is); (case m3 => k_is); (case m4 => k_is); (case m5 => k_is); (case m6 => k_is); (case m7 => k_is)))
    (case nPm => (show PySem.W.findIn _ _ _ = _; k_is))
    (case nPd => (show PySem.W.findIn _ _ _ = _; k_is))
    (case mPEq => (refine' Meth.mk ?m0 ?m1 ?m2; (case m0 => k_is); (case m1 => k_is); (case m2 => k_is)))
    (case mPNeg => (refine' Meth.mk ?m0 ?m1 ?m2; (case m0 => k_is); (case m1 => k_is); (case m2 => k_is)))
    (case qa_qPm => k_is)
    (case qb_qPm => k_is)
    (case qc_qPm => k_is)
    (case qd_qPm => k_is)
    (case qa_qPd => k_is)
    (case qb_qPd => k_is)
    (case qc_qPd => k_is)
    (case qd_qPd => k_is)
    (case nfP => k_is)
    (case kP => kernel_rfl)
    (case ty_cP => k_is)
    (case cr1 => k_is)
    (case cr2 => k_is)
    (case ca_pUp_ => k_is)
    (case cb_pUp_ => k_is)
    (case cc_pUp_ => k_is)
    (case ca_pDw_ => k_is)
    (case cb_pDw_ => k_is)
    (case cc_pDw_ => k_is)
    (case iK => (refine' IsiC.mk (Cls.mk ?m0 ?m1 ?m2 ?m3) ?m4 ?m5 ?m6 ?m7; (case m0 => k_is); (case m1 => k_is); (case m2 => k_is); (case m3 => k_is); (case m4 => k_is); (case m5 => k_is); (case m6 => k_is); (case m7 => k_is)))
    (case nKp => (show PySem.W.findIn _ _ _ = _; k_is))
    (case mfKEq => (refine' Meth.mk ?m0 ?m1 ?m2; (case m0 => k_is); (case m1 => k_is); (case m2 => k_is)))
    (case mfKLen => (refine' Meth.mk ?m0 ?m1 ?m2; (case m0 => k_is); (case m1 => k_is); (case m2 => k_is)))
    (case mfKAdd => (refine' Meth.mk ?m0 ?m1 ?m2; (case m0 => k_is); (case m1 => k_is); (case m2 => k_is)))
    (case mfKNeg => (refine' Meth.mk ?m0 ?m1 ?m2; (case m0 => k_is); (case m1 => k_is); (case m2 => k_is)))
    (case mfKCont => (refine' Meth.mk ?m0 ?m1 ?m2; (case m0 => k_is); (case m1 => k_is); (case m2 => k_is)))
    (case mfKGet => (refine' Meth.mk ?m0 ?m1 ?m2; (case m0 => k_is); (case m1 => k_is); (case m2 => k_is)))
    (case fnKGet => k_is)
    (case qa_qKp => k_is)
    (case qb_qKp => k_is)
    (case qc_qKp => k_is)
    (case qd_qKp => k_is)
    (case nfK => k_is)
    (case kK => kernel_rfl)
    (case sfK => k_is)
    (case nbK => k_is)
    (case xBad => k_exc)
    (case kBad => k_is)
    (case bBad => k_is)
    (case tBad => k_is)
    (case eBad => kernel_rfl)
    (case F_isName => (refine' K11.funE ?l ?c ?k; (case l => k_is); (case c => k_is); (case k => k_is)))
    (case F_isInteger => (refine' K11.funE ?l ?c ?k; (case l => k_is); (case c => k_is); (case k => k_is)))
    (case F_isBetween => (refine' K11.funE ?l ?c ?k; (case l => k_is); (case c => k_is); (case k => k_is)))
    (case F_mInit => (refine' K11.funE ?l ?c ?k; (case l => k_is); (case c => k_is); (case k => k_is)))
    (case F_mEq => (refine' K11.funE ?l ?c ?k; (case l => k_is); (case c => k_is); (case k => k_is)))
    (case F_mName => (refine' K11.funE ?l ?c ?k; (case l => k_is); (case c => k_is); (case k => k_is)))
    (case F_plainOf => (refine' K11.funE ?l ?c ?k; (case l => k_is); (case c => k_is); (case k => k_is)))
    (case F_sizeOf => (refine' K11.funE ?l ?c ?k; (case l => k_is); (case c => k_is); (case k => k_is)))
    (case F_rEq => (refine' K11.funE ?l ?c ?k; (case l => k_is); (case c => k_is); (case k => k_is)))
    (case F_rOf => (refine' K11.funE ?l ?c ?k; (case l => k_is); (case c => k_is); (case k => k_is)))
    (case F_eOf => (refine' K11.funE ?l ?c ?k; (case l => k_is); (case c => k_is); (case k => k_is)))
    (case F_pEq => (refine' K11.funE ?l ?c ?k; (case l => k_is); (case c => k_is); (case k => k_is)))
    (case F_pNeg => (refine' K11.funE ?l ?c ?k; (case l => k_is); (case c => k_is); (case k => k_is)))
    (case F_pUp => (refine' K11.funE ?l ?c ?k; (case l => k_is); (case c => k_is); (case k => k_is)))
    (case F_pDownw => (refine' K11.funE ?l ?c ?k; (case l => k_is); (case c => k_is); (case k => k_is)))
    (case F_pMeas => (refine' K11.funE ?l ?c ?k; (case l => k_is); (case c => k_is); (case k => k_is)))
    (case F_pDown => (refine' K11.funE ?l ?c ?k; (case l => k_is); (case c => k_is); (case k => k_is)))
    (case F_kInit => (refine' K11.funE ?l ?c ?k; (case l => k_is); (case c => k_is); (case k => k_is)))
    (case F_kEq => (refine' K11.funE ?l ?c ?k; (case l => k_is); (case c => k_is); (case k => k_is)))
    (case F_kLen => (refine' K11.funE ?l ?c ?k; (case l => k_is); (case c => k_is); (case k => k_is)))
    (case F_kAdd => (refine' K11.funE ?l ?c ?k; (case l => k_is); (case c => k_is); (case k => k_is)))
    (case F_kNeg => (refine' K11.funE ?l ?c ?k; (case l => k_is); (case c => k_is); (case k => k_is)))
    (case F_kCont => (refine' K11.funE ?l ?c ?k; (case l => k_is); (case c => k_is); (case k => k_is)))
    (case F_kGet => (refine' K11.funE ?l ?c ?k; (case l => k_is); (case c => k_is); (case k => k_is)))
    (case F_kParts => (refine' K11.funE ?l ?c ?k; (case l => k_is); (case c => k_is); (case k => k_is)))
    (case F_lCellAt => (refine' K11.funE ?l ?c ?k; (case l => k_is); (case c => k_is); (case k => k_is)))
    (case F_lDraw => (refine' K11.funE ?l ?c ?k; (case l => k_is); (case c => k_is); (case k => k_is)))
    (case F_lNumber => (refine' K11.funE ?l ?c ?k; (case l => k_is); (case c => k_is); (case k => k_is)))
    (case F_lNext => (refine' K11.funE ?l ?c ?k; (case l => k_is); (case c => k_is); (case k => k_is)))
    (case F_lPick => (refine' K11.funE ?l ?c ?k; (case l => k_is); (case c => k_is); (case k => k_is)))
    (case F_lCell => (refine' K11.funE ?l ?c ?k; (case l => k_is); (case c => k_is); (case k => k_is)))
    (case F_lMeasured => (refine' K11.funE ?l ?c ?k; (case l => k_is); (case c => k_is); (case k => k_is)))
    (case F_lMade => (refine' K11.funE ?l ?c ?k; (case l => k_is); (case c => k_is); (case k => k_is)))
    (case F_lCands => (refine' K11.funE ?l ?c ?k; (case l => k_is); (case c => k_is); (case k => k_is)))
    (case F_lOutcome => (refine' K11.funE ?l ?c ?k; (case l => k_is); (case c => k_is); (case k => k_is)))
    (case F_lLPart => (refine' K11.funE ?l ?c ?k; (case l => k_is); (case c => k_is); (case k => k_is)))
    (case F_lSorted => (refine' K11.funE ?l ?c ?k; (case l => k_is); (case c => k_is); (case k => k_is)))
    (case F_lDrawn => (refine' K11.funE ?l ?c ?k; (case l => k_is); (case c => k_is); (case k => k_is)))
    (case F_lLTable => (refine' K11.funE ?l ?c ?k; (case l => k_is); (case c => k_is); (case k => k_is)))
    (case F_lLKey => (refine' K11.funE ?l ?c ?k; (case l => k_is); (case c => k_is); (case k => k_is)))
    (case F_lTurns => (refine' K11.funE ?l ?c ?k; (case l => k_is); (case c => k_is); (case k => k_is)))
    (case F_lIsSteady => (refine' K11.funE ?l ?c ?k; (case l => k_is); (case c => k_is); (case k => k_is)))
    (case F_lIsFall => (refine' K11.funE ?l ?c ?k; (case l => k_is); (case c => k_is); (case k => k_is)))
    (case F_lOfSize => (refine' K11.funE ?l ?c ?k; (case l => k_is); (case c => k_is); (case k => k_is)))
    (case F_lSets => (refine' K11.funE ?l ?c ?k; (case l => k_is); (case c => k_is); (case k => k_is)))
    (case F_lAscends => (refine' K11.funE ?l ?c ?k; (case l => k_is); (case c => k_is); (case k => k_is)))
    (case F_lShown => (refine' K11.funE ?l ?c ?k; (case l => k_is); (case c => k_is); (case k => k_is)))
    (case F_lLPlaces => (refine' K11.funE ?l ?c ?k; (case l => k_is); (case c => k_is); (case k => k_is)))
    (case F_lOneRight => (refine' K11.funE ?l ?c ?k; (case l => k_is); (case c => k_is); (case k => k_is)))
    (case F_law => (refine' K11.funE ?l ?c ?k; (case l => k_is); (case c => k_is); (case k => k_is)))
    (case F_pInit => (refine' K11.funD1 ?l ?c ?k ?w; (case l => k_is); (case c => k_is); (case k => k_is); (case w => k_is)))
    (case F_rInit => (refine' K11.funC1 ?l ?c ?lc ?hv ?hf ?le ?cl ?ns ?tp ?an; (case l => k_is); (case c => k_is); (case lc => k_is); (case hv => rfl); (case hf => kernel_rfl); (case le => k_is); (case cl => k_is); (case ns => k_is); (case tp => kernel_rfl); (case an => k_is)))
    (case rSup => (refine' SupM.mk ?a ?b ?c ?d; (case a => k_is); (case b => kernel_rfl); (case c => k_is); (case d => k_is)))
    (case iT => (refine' IsiC.mk (Cls.mk ?m0 ?m1 ?m2 ?m3) ?m4 ?m5 ?m6 ?m7; (case m0 => k_is); (case m1 => k_is); (case m2 => k_is); (case m3 => k_is); (case m4 => k_is); (case m5 => k_is); (case m6 => k_is); (case m7 => k_is)))
    (case nTc => (show PySem.W.findIn _ _ _ = _; k_is))
    (case nTr => (show PySem.W.findIn _ _ _ = _; k_is))
    (case mkT => (refine' Mk.mk ?m0 ?m1 ?m2 ?m3; (case m0 => k_is); (case m1 => k_is); (case m2 => k_is); (case m3 => k_is)))
    (case nfT => k_is)
    (case kT => kernel_rfl)
    (case ft_Plain => (refine' Meth.mk ?m0 ?m1 ?m2; (case m0 => k_is); (case m1 => k_is); (case m2 => k_is)))
    (case ft_Size => (refine' Meth.mk ?m0 ?m1 ?m2; (case m0 => k_is); (case m1 => k_is); (case m2 => k_is)))
    (case ft_Rest => (refine' Meth.mk ?m0 ?m1 ?m2; (case m0 => k_is); (case m1 => k_is); (case m2 => k_is)))
    (case ft_Ending => (refine' Meth.mk ?m0 ?m1 ?m2; (case m0 => k_is); (case m1 => k_is); (case m2 => k_is)))
    (case mPRank => (refine' Meth.mk ?m0 ?m1 ?m2; (case m0 => k_is); (case m1 => k_is); (case m2 => k_is)))
    (case mTEq => (refine' Meth.mk ?m0 ?m1 ?m2; (case m0 => k_is); (case m1 => k_is); (case m2 => k_is)))
    (case mTRanks => (refine' Meth.mk ?m0 ?m1 ?m2; (case m0 => k_is); (case m1 => k_is); (case m2 => k_is)))
    (case mTPoss => (refine' Meth.mk ?m0 ?m1 ?m2; (case m0 => k_is); (case m1 => k_is); (case m2 => k_is)))
    (case mTCkRow => (refine' Meth.mk ?m0 ?m1 ?m2; (case m0 => k_is); (case m1 => k_is); (case m2 => k_is)))
    (case mTCkKey => (refine' Meth.mk ?m0 ?m1 ?m2; (case m0 => k_is); (case m1 => k_is); (case m2 => k_is)))
    (case mTCells => (refine' Meth.mk ?m0 ?m1 ?m2; (case m0 => k_is); (case m1 => k_is); (case m2 => k_is)))
    (case qa_qTCols => k_is)
    (case qb_qTCols => k_is)
    (case qc_qTCols => k_is)
    (case qd_qTCols => k_is)
    (case qa_qTRows => k_is)
    (case qb_qTRows => k_is)
    (case qc_qTRows => k_is)
    (case qd_qTRows => k_is)
    (case F_lIsKind => (refine' K11.funE ?l ?c ?k; (case l => k_is); (case c => k_is); (case k => k_is)))
    (case F_lAsNum => (refine' K11.funE ?l ?c ?k; (case l => k_is); (case c => k_is); (case k => k_is)))
    (case F_lPRank => (refine' K11.funE ?l ?c ?k; (case l => k_is); (case c => k_is); (case k => k_is)))
    (case F_lFitsP => (refine' K11.funE ?l ?c ?k; (case l => k_is); (case c => k_is); (case k => k_is)))
    (case F_lFitsS => (refine' K11.funE ?l ?c ?k; (case l => k_is); (case c => k_is); (case k => k_is)))
    (case F_lFitsR => (refine' K11.funE ?l ?c ?k; (case l => k_is); (case c => k_is); (case k => k_is)))
    (case F_lFitsE => (refine' K11.funE ?l ?c ?k; (case l => k_is); (case c => k_is); (case k => k_is)))
    (case F_lTInit => (refine' K11.funE ?l ?c ?k; (case l => k_is); (case c => k_is); (case k => k_is)))
    (case F_lTEq => (refine' K11.funE ?l ?c ?k; (case l => k_is); (case c => k_is); (case k => k_is)))
    (case F_lTCols => (refine' K11.funE ?l ?c ?k; (case l => k_is); (case c => k_is); (case k => k_is)))
    (case F_lTRows => (refine' K11.funE ?l ?c ?k; (case l => k_is); (case c => k_is); (case k => k_is)))
    (case F_lTRanks => (refine' K11.funE ?l ?c ?k; (case l => k_is); (case c => k_is); (case k => k_is)))
    (case F_lTPoss => (refine' K11.funE ?l ?c ?k; (case l => k_is); (case c => k_is); (case k => k_is)))
    (case F_lTCkRow => (refine' K11.funE ?l ?c ?k; (case l => k_is); (case c => k_is); (case k => k_is)))
    (case F_lTCkKey => (refine' K11.funE ?l ?c ?k; (case l => k_is); (case c => k_is); (case k => k_is)))
    (case F_lTCells => (refine' K11.funE ?l ?c ?k; (case l => k_is); (case c => k_is); (case k => k_is)))
    (case F_lCkTable => (refine' K11.funE ?l ?c ?k; (case l => k_is); (case c => k_is); (case k => k_is)))
    (case F_lAreCols => (refine' K11.funE ?l ?c ?k; (case l => k_is); (case c => k_is); (case k => k_is)))
    (case F_lIsRow => (refine' K11.funE ?l ?c ?k; (case l => k_is); (case c => k_is); (case k => k_is)))
    (case F_lIsCell => (refine' K11.funE ?l ?c ?k; (case l => k_is); (case c => k_is); (case k => k_is)))
    (case n_reversed => k_is)
    (case n_any => k_is)
    (case r_gArr => k_is)
    (case g_isiA => (refine' IsiC.mk (Cls.mk ?m0 ?m1 ?m2 ?m3) ?m4 ?m5 ?m6 ?m7; (case m0 => k_is); (case m1 => k_is); (case m2 => k_is); (case m3 => k_is); (case m4 => k_is); (case m5 => k_is); (case m6 => k_is); (case m7 => k_is)))
    (case g_nAs => (show PySem.W.findIn _ _ _ = _; k_is))
    (case g_nAf => (show PySem.W.findIn _ _ _ = _; k_is))
    (case g_mkA => (refine' Mk.mk ?m0 ?m1 ?m2 ?m3; (case m0 => k_is); (case m1 => k_is); (case m2 => k_is); (case m3 => k_is)))
    (case g_mShows => (refine' Meth.mk ?m0 ?m1 ?m2; (case m0 => k_is); (case m1 => k_is); (case m2 => k_is)))
    (case g_mAllRanks => (refine' Meth.mk ?m0 ?m1 ?m2; (case m0 => k_is); (case m1 => k_is); (case m2 => k_is)))
    (case r_gArrangement => k_is)
    (case r_gPlaces => k_is)
    (case r_gSortedRows => k_is)
    (case r_gSteadyLengths => k_is)
    (case r_gFirstSteady => k_is)
    (case r_gFirstGreatest => k_is)
    (case r_gRowsWith => k_is)
    (case r_gSortedIndex => k_is)
    (case r_gIsPlace => k_is)
    (case r_gAreSteady => k_is)
    (case r_gAreFall => k_is)
    (case r_gHoldEach => k_is)
    (case r_gAreIndices => k_is)
    (case F_lArrangement => (refine' K11.funE ?l ?c ?k; (case l => k_is); (case c => k_is); (case k => k_is)))
    (case F_lPlaces => (refine' K11.funE ?l ?c ?k; (case l => k_is); (case c => k_is); (case k => k_is)))
    (case F_lSortedRows => (refine' K11.funE ?l ?c ?k; (case l => k_is); (case c => k_is); (case k => k_is)))
    (case F_lSteadyLengths => (refine' K11.funE ?l ?c ?k; (case l => k_is); (case c => k_is); (case k => k_is)))
    (case F_lFirstSteady => (refine' K11.funE ?l ?c ?k; (case l => k_is); (case c => k_is); (case k => k_is)))
    (case F_lFirstGreatest => (refine' K11.funE ?l ?c ?k; (case l => k_is); (case c => k_is); (case k => k_is)))
    (case F_lRowsWith => (refine' K11.funE ?l ?c ?k; (case l => k_is); (case c => k_is); (case k => k_is)))
    (case F_lSortedIndex => (refine' K11.funE ?l ?c ?k; (case l => k_is); (case c => k_is); (case k => k_is)))
    (case F_lIsPlace => (refine' K11.funE ?l ?c ?k; (case l => k_is); (case c => k_is); (case k => k_is)))
    (case F_lAreSteady => (refine' K11.funE ?l ?c ?k; (case l => k_is); (case c => k_is); (case k => k_is)))
    (case F_lAreFall => (refine' K11.funE ?l ?c ?k; (case l => k_is); (case c => k_is); (case k => k_is)))
    (case F_lHoldEach => (refine' K11.funE ?l ?c ?k; (case l => k_is); (case c => k_is); (case k => k_is)))
    (case F_lAreIndices => (refine' K11.funE ?l ?c ?k; (case l => k_is); (case c => k_is); (case k => k_is)))
    (case F_lAInit => (refine' K11.funE ?l ?c ?k; (case l => k_is); (case c => k_is); (case k => k_is)))
    (case F_lAShows => (refine' K11.funE ?l ?c ?k; (case l => k_is); (case c => k_is); (case k => k_is)))
    (case F_lAllRanks => (refine' K11.funE ?l ?c ?k; (case l => k_is); (case c => k_is); (case k => k_is)))
