import PyProof.Rows.All
import Wide.All
import OpenK.AllK
import Wide.FinOn
import PySem.Challenge.RW_sortreason_k31_whole_keys
import HandS.ForMost
import HandS.Star
import HandS.Walk
import HandS.Property
import HandS.IsInst
import HandS.TupAny
import HandS.Deep
import HandS.Wide
import HandS.OwnEq
import KE.KOpsOwn
import HandS.Codes
import HandS.MakeKwOnly
import HandS.ClsMeth
import KE.KSuper
import HandS.Nested
import HandS.ForExc
import HandS.TryOnly
import HandS.Iter
set_option Elab.async false
set_option linter.all false
set_option maxRecDepth 100000
set_option maxHeartbeats 1000000
/-! Typed readings over the hand layer: what a piece of the text gives, by what its slots hold, in a heap of which some addresses are set apart. -/
namespace Py
open PySem L2

/-! ### heaps and worlds -/
def Ex (H H' : Hp) : Prop := ∀ a o, H a = some o → H' a = some o
theorem Ex.refl (H : Hp) : Ex H H := fun _ _ h => h
theorem Ex.trans {H H1 H2 : Hp} (a : Ex H H1) (b : Ex H1 H2) : Ex H H2 := fun x o h => b x o (a x o h)
theorem Ex.new {H : Hp} {p : Addr} {o : HO} (h : H p = none) : Ex H (upd H p o) := fun a u e => by
  rw [upd_ne (ne_of_none e h)]
  exact e

/-- addresses set apart, and what holds of them throughout -/
structure World where
  hd : Addr → Prop
  ok : Hp → Prop
  there : ∀ {H : Hp} {a : Addr}, ok H → hd a → H a ≠ none
  keep : ∀ {H H' : Hp}, ok H → (∀ a, hd a → H' a = H a) → ok H'
open Classical in
/-- the heap without them -/
noncomputable def World.vis (W : World) (H : Hp) : Hp := fun a => if W.hd a then none else H a
section
variable {W : World} {H H' : Hp} {p : Addr} {o : HO}
theorem World.sub (W : World) (H : Hp) : Ex (W.vis H) H := fun a u e => by
  unfold World.vis at e
  split at e
  · cases e
  · exact e
theorem World.seen (h : ¬ W.hd p) : W.vis H p = H p := if_neg h
theorem World.free (k : W.ok H) (h : H p = none) : ¬ W.hd p := fun z => W.there k z h
theorem World.visNone (h : H p = none) : W.vis H p = none := by
  unfold World.vis
  split
  · rfl
  · exact h
theorem World.okEx (k : W.ok H) (e : Ex H H') : W.ok H' := W.keep k fun a z => by
  cases q : H a with
  | none => exact absurd q (W.there k z)
  | some u => exact e a u q
theorem World.visEx (k : W.ok H) (e : Ex H H') : Ex (W.vis H) (W.vis H') := fun a u q => by
  unfold World.vis at q ⊢
  split at q
  · cases q
  · rename_i z
    rw [if_neg z]
    exact e a u q
theorem World.okNew (k : W.ok H) (h : H p = none) : W.ok (upd H p o) := World.okEx k (Ex.new h)
theorem World.visNew (k : W.ok H) (h : H p = none) : W.vis (upd H p o) = upd (W.vis H) p o := by
  funext a
  unfold World.vis upd
  by_cases z : a = p
  · subst z
    rw [if_neg (World.free k h), if_pos rfl, if_pos rfl]
  · rw [if_neg z, if_neg z]
end
/-- nothing is set apart -/
def World.all : World := ⟨fun _ => False, fun _ => True, fun _ z => z.elim, fun _ _ => trivial⟩

/-! ### what a value stands for -/
structure Rep where
  p : V → Hp → Prop
  mono : ∀ {v : V} {H H' : Hp}, Ex H H' → p v H → p v H'
def rV (x : V) : Rep := ⟨fun v _ => v = x, fun _ h => h⟩
abbrev rInt (i : Int) : Rep := rV (.int i)
abbrev rStr (z : Str) : Rep := rV (.str z)
abbrev rBl (b : Bool) : Rep := rV (.bl b)
abbrev rNon : Rep := rV .non
abbrev rRef (a : Addr) : Rep := rV (.ref a)
abbrev rTy (n : String) : Rep := rV (.ty n)
def rEx {α : Type} (f : α → Rep) : Rep := ⟨fun v H => ∃ a, (f a).p v H, fun e ⟨a, h⟩ => ⟨a, (f a).mono e h⟩⟩
def Reps : List Rep → List V → Hp → Prop
  | [], [], _ => True
  | r :: rs, x :: xs, H => r.p x H ∧ Reps rs xs H
  | _, _, _ => False
theorem Reps.mono : ∀ {rs : List Rep} {xs : List V} {H H' : Hp}, Ex H H' → Reps rs xs H → Reps rs xs H'
  | [], [], _, _, _, _ => trivial
  | r :: _, _ :: _, _, _, e, h => ⟨r.mono e h.1, Reps.mono e h.2⟩
  | [], _ :: _, _, _, _, h => h.elim
  | _ :: _, [], _, _, _, h => h.elim
theorem Reps.len : ∀ {rs : List Rep} {xs : List V} {H : Hp}, Reps rs xs H → rs.length = xs.length
  | [], [], _, _ => rfl
  | _ :: _, _ :: _, _, h => congrArg Nat.succ (Reps.len h.2)
  | [], _ :: _, _, h => h.elim
  | _ :: _, [], _, h => h.elim
theorem Reps.get : ∀ {rs : List Rep} {xs : List V} {H : Hp} {i : Nat} {r : Rep}, Reps rs xs H → rs[i]? = some r → ∃ x, xs[i]? = some x ∧ r.p x H
  | [], _, _, i, _, _, e => by simp at e
  | r :: _, x :: _, _, 0, _, h, e => by
    simp at e
    subst e
    exact ⟨x, rfl, h.1⟩
  | _ :: rs, _ :: xs, _, i + 1, r, h, e => by
    obtain ⟨x, h1, h2⟩ := Reps.get (i := i) h.2 (by simpa using e)
    exact ⟨x, by simpa using h1, h2⟩
  | _ :: _, [], _, _, _, h, _ => h.elim
theorem Reps.get' {rs : List Rep} {xs : List V} {H : Hp} {i : Nat} {x : V} (h : Reps rs xs H) (e : xs[i]? = some x) : ∃ r, rs[i]? = some r ∧ r.p x H := by
  have hi : i < rs.length := by
    rw [h.len]
    exact (List.getElem?_eq_some_iff.mp e).1
  obtain ⟨y, h1, h2⟩ := h.get (List.getElem?_eq_getElem hi)
  rw [e] at h1
  cases h1
  exact ⟨_, List.getElem?_eq_getElem hi, h2⟩
theorem reps0 {xs : List V} {H : Hp} (h : Reps [] xs H) : xs = [] := by
  cases xs with
  | nil => rfl
  | cons _ _ => exact h.elim
theorem reps1 {r : Rep} {xs : List V} {H : Hp} (h : Reps [r] xs H) : ∃ x, xs = [x] ∧ r.p x H := by
  cases xs with
  | nil => exact h.elim
  | cons x xs =>
    obtain ⟨h1, h2⟩ := h
    rw [reps0 h2]
    exact ⟨x, rfl, h1⟩
theorem reps2 {r r' : Rep} {xs : List V} {H : Hp} (h : Reps [r, r'] xs H) : ∃ x y, xs = [x, y] ∧ r.p x H ∧ r'.p y H := by
  cases xs with
  | nil => exact h.elim
  | cons x xs =>
    obtain ⟨h1, h2⟩ := h
    obtain ⟨y, rfl, h3⟩ := reps1 h2
    exact ⟨x, y, rfl, h1, h3⟩
theorem reps3 {r r' r'' : Rep} {xs : List V} {H : Hp} (h : Reps [r, r', r''] xs H) : ∃ x y z, xs = [x, y, z] ∧ r.p x H ∧ r'.p y H ∧ r''.p z H := by
  cases xs with
  | nil => exact h.elim
  | cons x xs =>
    obtain ⟨h1, h2⟩ := h
    obtain ⟨y, z, rfl, h3⟩ := reps2 h2
    exact ⟨x, y, z, rfl, h1, h3⟩
theorem Reps.app : ∀ {rs rs' : List Rep} {xs ys : List V} {H : Hp}, Reps rs xs H → Reps rs' ys H → Reps (rs ++ rs') (xs ++ ys) H
  | [], _, [], _, _, _, k => k
  | _ :: _, _, _ :: _, _, _, h, k => ⟨h.1, Reps.app h.2 k⟩
  | [], _, _ :: _, _, _, h, _ => h.elim
  | _ :: _, _, [], _, _, h, _ => h.elim
theorem Reps.snoc {rs : List Rep} {r : Rep} {xs : List V} {x : V} {H : Hp} (h : Reps rs xs H) (k : r.p x H) : Reps (rs ++ [r]) (xs ++ [x]) H := h.app ⟨k, trivial⟩
theorem sqT_mono {K : PySem.W.Frag} {H H' : Hp} {a : Addr} {xs : List V} (e : Ex H H') (h : SqT K H a xs) : SqT K H' a xs :=
  h.elim (fun h => .inl (h.elim (fun h => .inl (e _ _ h)) fun ⟨o, h⟩ => .inr ⟨o, e _ _ h⟩)) fun h => .inr h
theorem sqL_mono {K : PySem.W.Frag} {H H' : Hp} {a : Addr} {xs : List V} (e : Ex H H') (h : SqL K H a xs) : SqL K H' a xs :=
  h.elim (fun h => .inl (h.elim (fun h => .inl (e _ _ h)) fun ⟨o, h⟩ => .inr ⟨o, e _ _ h⟩)) fun h => .inr h
/-- a tuple, a new list, a list to be read -/
def rTup (K : PySem.W.Frag) (rs : List Rep) : Rep := ⟨fun v H => ∃ a xs, v = .ref a ∧ SqT K H a xs ∧ Reps rs xs H, fun e ⟨a, xs, h1, h2, h3⟩ => ⟨a, xs, h1, sqT_mono e h2, h3.mono e⟩⟩
def rLst (rs : List Rep) : Rep := ⟨fun v H => ∃ a xs, v = .ref a ∧ H a = some (.lst xs) ∧ Reps rs xs H, fun e ⟨a, xs, h1, h2, h3⟩ => ⟨a, xs, h1, e _ _ h2, h3.mono e⟩⟩
def rSeq (K : PySem.W.Frag) (rs : List Rep) : Rep := ⟨fun v H => ∃ a xs, v = .ref a ∧ SqL K H a xs ∧ Reps rs xs H, fun e ⟨a, xs, h1, h2, h3⟩ => ⟨a, xs, h1, sqL_mono e h2, h3.mono e⟩⟩
/-- an instance and its fields -/
def Flds : List (Str × Rep) → List (Str × V) → Hp → Prop
  | [], [], _ => True
  | (n, r) :: fs, (m, x) :: gs, H => n = m ∧ r.p x H ∧ Flds fs gs H
  | _, _, _ => False
theorem Flds.mono : ∀ {fs : List (Str × Rep)} {gs : List (Str × V)} {H H' : Hp}, Ex H H' → Flds fs gs H → Flds fs gs H'
  | [], [], _, _, _, _ => trivial
  | (_, r) :: _, (_, _) :: _, _, _, e, h => ⟨h.1, r.mono e h.2.1, Flds.mono e h.2.2⟩
  | [], _ :: _, _, _, _, h => h.elim
  | _ :: _, [], _, _, _, h => h.elim
theorem Flds.look : ∀ {fs : List (Str × Rep)} {gs : List (Str × V)} {H : Hp} {f : Str} {r : Rep}, Flds fs gs H → fs.lookup f = some r → ∃ x, gs.lookup f = some x ∧ r.p x H
  | [], _, _, _, _, _, e => by cases e
  | (n, r) :: fs, (m, x) :: gs, H, f, r', h, e => by
    obtain ⟨h1, h2, h3⟩ := h
    subst h1
    rw [List.lookup_cons] at e ⊢
    split at e
    · cases e
      exact ⟨x, rfl, h2⟩
    · exact Flds.look h3 e
  | _ :: _, [], _, _, _, h, _ => h.elim
theorem Flds.no : ∀ {fs : List (Str × Rep)} {gs : List (Str × V)} {H : Hp} {f : Str}, Flds fs gs H → fs.lookup f = none → gs.lookup f = none
  | [], [], _, _, _, _ => rfl
  | (n, r) :: fs, (m, x) :: gs, H, f, h, e => by
    obtain ⟨h1, h2, h3⟩ := h
    subst h1
    rw [List.lookup_cons] at e ⊢
    split at e
    · cases e
    · exact Flds.no h3 e
  | [], _ :: _, _, _, h, _ => h.elim
  | _ :: _, [], _, _, h, _ => h.elim
def rIns (C : Addr) (fs : List (Str × Rep)) : Rep := ⟨fun v H => ∃ a dx gs, v = .ref a ∧ H a = some (.ins C dx gs) ∧ Flds fs gs H, fun e ⟨a, dx, gs, h1, h2, h3⟩ => ⟨a, dx, gs, h1, e _ _ h2, h3.mono e⟩⟩

/-! ### plain data -/
mutual
theorem dp_mono {K : PySem.W.Frag} {H H' : Hp} (e : Ex H H') : ∀ {v : V} {d : PyData}, Dp K H v d → Dp K H' v d
  | _, _, .non => .non
  | _, _, .bl b => .bl b
  | _, _, .int i => .int i
  | _, _, .str x => .str x
  | _, _, .lst h k => .lst (sqL_mono e h) (dpAll_mono e k)
  | _, _, .tup h k => .tup (sqT_mono e h) (dpAll_mono e k)
theorem dpAll_mono {K : PySem.W.Frag} {H H' : Hp} (e : Ex H H') : ∀ {vs : List V} {ds : List PyData}, DpAll K H vs ds → DpAll K H' vs ds
  | _, _, .nil => .nil
  | _, _, .cons h k => .cons (dp_mono e h) (dpAll_mono e k)
end
def rD (K : PySem.W.Frag) (d : PyData) : Rep := ⟨fun v H => Dp K H v d, fun e h => dp_mono e h⟩
section
variable {K : PySem.W.Frag} {H : Hp} {v : V}
theorem rD_int {i : Int} : (rD K (.int i)).p v H ↔ v = .int i := ⟨fun h => by cases h; rfl, fun h => by subst h; exact Dp.int i⟩
theorem rD_str {i : Str} : (rD K (.str i)).p v H ↔ v = .str i := ⟨fun h => by cases h; rfl, fun h => by subst h; exact Dp.str i⟩
theorem rD_bl {i : Bool} : (rD K (.bool i)).p v H ↔ v = .bl i := ⟨fun h => by cases h; rfl, fun h => by subst h; exact Dp.bl i⟩
theorem rD_non : (rD K .none).p v H ↔ v = .non := ⟨fun h => by cases h; rfl, fun h => by subst h; exact Dp.non⟩
theorem dpAll_reps : ∀ {xs : List V} {ds : List PyData}, DpAll K H xs ds ↔ Reps (ds.map (rD K)) xs H
  | [], [] => ⟨fun _ => trivial, fun _ => .nil⟩
  | x :: xs, d :: ds => ⟨fun h => by cases h with | cons a b => exact ⟨a, dpAll_reps.mp b⟩, fun h => .cons h.1 (dpAll_reps.mpr h.2)⟩
  | [], _ :: _ => ⟨fun h => (by cases h), fun h => h.elim⟩
  | _ :: _, [] => ⟨fun h => (by cases h), fun h => h.elim⟩
theorem rD_tup {ds : List PyData} : (rD K (.tuple ds)).p v H ↔ (rTup K (ds.map (rD K))).p v H :=
  ⟨fun h => by cases h with | tup a b => exact ⟨_, _, rfl, a, dpAll_reps.mp b⟩, fun ⟨a, xs, h1, h2, h3⟩ => by subst h1; exact Dp.tup h2 (dpAll_reps.mpr h3)⟩
theorem rD_lst {ds : List PyData} : (rD K (.list ds)).p v H ↔ (rSeq K (ds.map (rD K))).p v H :=
  ⟨fun h => by cases h with | lst a b => exact ⟨_, _, rfl, a, dpAll_reps.mp b⟩, fun ⟨a, xs, h1, h2, h3⟩ => by subst h1; exact Dp.lst h2 (dpAll_reps.mpr h3)⟩
end

/-! ### slots -/
abbrev Rs := List (Option Rep)
def Sg : Rs → St → Hp → Prop
  | [], [], _ => True
  | some r :: rs, x :: σ, H => (∃ v, x = some v ∧ r.p v H) ∧ Sg rs σ H
  | none :: rs, _ :: σ, H => Sg rs σ H
  | _, _, _ => False
theorem Sg.mono : ∀ {rs : Rs} {σ : St} {H H' : Hp}, Ex H H' → Sg rs σ H → Sg rs σ H'
  | [], [], _, _, _, _ => trivial
  | some r :: _, _ :: _, _, _, e, ⟨⟨v, h1, h2⟩, h3⟩ => ⟨⟨v, h1, r.mono e h2⟩, Sg.mono e h3⟩
  | none :: rs, _ :: σ, H, H', e, h => Sg.mono (rs := rs) (σ := σ) (H := H) (H' := H') e h
  | [], _ :: _, _, _, _, h => h.elim
  | some _ :: _, [], _, _, _, h => h.elim
  | none :: _, [], _, _, _, h => h.elim
theorem Sg.len : ∀ {rs : Rs} {σ : St} {H : Hp}, Sg rs σ H → rs.length = σ.length
  | [], [], _, _ => rfl
  | some _ :: _, _ :: _, _, h => congrArg Nat.succ (Sg.len h.2)
  | none :: rs, _ :: σ, H, h => congrArg Nat.succ (Sg.len (rs := rs) (σ := σ) (H := H) h)
  | [], _ :: _, _, h => h.elim
  | some _ :: _, [], _, h => h.elim
  | none :: _, [], _, h => h.elim
theorem Sg.get : ∀ {rs : Rs} {σ : St} {H : Hp} {i : Nat} {r : Rep}, Sg rs σ H → rs[i]? = some (some r) → ∃ v, σ[i]? = some (some v) ∧ r.p v H
  | [], _, _, i, _, _, e => by simp at e
  | some r :: _, x :: _, _, 0, _, h, e => by
    simp at e
    subst e
    obtain ⟨⟨v, h1, h2⟩, _⟩ := h
    subst h1
    exact ⟨v, rfl, h2⟩
  | none :: _, x :: _, _, 0, _, h, e => by simp at e
  | some _ :: rs, _ :: xs, _, i + 1, r, h, e => by
    obtain ⟨x, h1, h2⟩ := Sg.get (i := i) h.2 (by simpa using e)
    exact ⟨x, by simpa using h1, h2⟩
  | none :: rs, _ :: xs, H, i + 1, r, h, e => by
    obtain ⟨x, h1, h2⟩ := Sg.get (rs := rs) (σ := xs) (H := H) (i := i) h (by simpa using e)
    exact ⟨x, by simpa using h1, h2⟩
  | some _ :: _, [], _, _, _, h, _ => h.elim
  | none :: _, [], _, _, _, h, _ => h.elim
theorem Sg.set : ∀ {rs : Rs} {σ : St} {H : Hp} {i : Nat} {r : Rep} {v : V}, Sg rs σ H → r.p v H → Sg (rs.set i (some r)) (σ.set i (some v)) H
  | [], [], _, _, _, _, _, _ => trivial
  | some _ :: _, _ :: _, _, 0, _, v, h, k => ⟨⟨v, rfl, k⟩, h.2⟩
  | none :: rs, _ :: σ, H, 0, _, v, h, k => ⟨⟨v, rfl, k⟩, h⟩
  | some _ :: rs, _ :: σ, H, i + 1, r, v, h, k => ⟨h.1, Sg.set (i := i) h.2 k⟩
  | none :: rs, _ :: σ, H, i + 1, r, v, h, k => Sg.set (rs := rs) (σ := σ) (H := H) (i := i) h k
  | [], _ :: _, _, _, _, _, h, _ => h.elim
  | some _ :: _, [], _, _, _, _, h, _ => h.elim
  | none :: _, [], _, _, _, _, h, _ => h.elim
theorem Sg.nones : ∀ {n : Nat} {H : Hp}, Sg (List.replicate n none) (List.replicate n none) H
  | 0, _ => trivial
  | n + 1, H => Sg.nones (n := n) (H := H)
theorem Sg.of : ∀ {rs : List Rep} {vs : List V} {H : Hp} (n : Nat), Reps rs vs H → Sg (rs.map some ++ List.replicate n none) (vs.map some ++ List.replicate n none) H
  | [], [], _, n, _ => Sg.nones
  | _ :: _, v :: _, _, n, h => ⟨⟨v, rfl, h.1⟩, Sg.of n h.2⟩
  | [], _ :: _, _, _, h => h.elim
  | _ :: _, [], _, _, h => h.elim
/-- slots forgotten -/
def Sg.le (rs' rs : Rs) : Prop := rs'.length = rs.length ∧ ∀ (i : Nat) (r' : Rep), rs'[i]? = some (some r') → ∃ r, rs[i]? = some (some r) ∧ ∀ v H, r.p v H → r'.p v H
end Py
namespace Py
open PySem L2

/-! ### the readings -/
def tW (W : World) (rs : Rs) (r : Rep) : TE := fun σ H Q => W.ok H ∧ Sg rs σ (W.vis H) ∧ ∀ v H', W.ok H' → Ex (W.vis H) (W.vis H') → r.p v (W.vis H') → Q v H'
def tWT (W : World) (rs : Rs) (b : Bool) : TT := fun σ H Q => W.ok H ∧ Sg rs σ (W.vis H) ∧ ∀ H', W.ok H' → Ex (W.vis H) (W.vis H') → Q b H'
def tWA (W : World) (rs : Rs) (rl : List Rep) : TA := fun σ H Q => W.ok H ∧ Sg rs σ (W.vis H) ∧ ∀ vs H', W.ok H' → Ex (W.vis H) (W.vis H') → Reps rl vs (W.vis H') → Q vs H'
/-- what a target makes of the slots, given a value -/
def gW (W : World) (rs : Rs) (r : Rep) (rs' : Rs) : TG := fun v σ H Q => W.ok H ∧ Sg rs σ (W.vis H) ∧ r.p v (W.vis H) ∧ ∀ σ' H', W.ok H' → Ex (W.vis H) (W.vis H') → Sg rs' σ' (W.vis H') → Q σ' H'
def gWs (W : World) (rs : Rs) (rl : List Rep) (rs' : Rs) : TGs := fun vs σ H Q => W.ok H ∧ Sg rs σ (W.vis H) ∧ Reps rl vs (W.vis H) ∧ ∀ σ' H', W.ok H' → Ex (W.vis H) (W.vis H') → Sg rs' σ' (W.vis H') → Q σ' H'
structure Outs where
  res : Rep
  nx : Option Rs := none
  bk : Option Rs := none
  ct : Option Rs := none
def Outs.to (O : Outs) (N : Rs) : Outs := { O with nx := some N }
def Goes (W : World) (H : Hp) (o : Option Rs) (k : St → Hp → Prop) : Prop := ∀ N, o = some N → ∀ σ' H', W.ok H' → Ex (W.vis H) (W.vis H') → Sg N σ' (W.vis H') → k σ' H'
def sW (W : World) (rs : Rs) (O : Outs) : TS := fun D σ H => W.ok H ∧ Sg rs σ (W.vis H) ∧ (∀ v H', W.ok H' → Ex (W.vis H) (W.vis H') → O.res.p v (W.vis H') → D.rt v H') ∧ Goes W H O.nx D.nx ∧ Goes W H O.bk D.bk ∧ Goes W H O.ct D.ct
/-- what an iterable gives: n items, the i-th as item i says; it may lie in a new object -/
def iW (W : World) (rs : Rs) (n : Nat) (item : Nat → Rep) : TI := fun σ H R => W.ok H ∧ Sg rs σ (W.vis H) ∧ ∀ (J : It) (G : Hp → Prop) (Y : Nat → Hp → V → Hp → Prop) (H1 : Hp), Walk J n G Y → W.ok H1 → Ex (W.vis H) (W.vis H1) →
  (∀ H2, W.ok H2 → Ex (W.vis H1) (W.vis H2) → G H2) → (∀ i x H2 H3, i < n → Y i H2 x H3 → (H3 = H2 ∧ ∀ G2, Ex (W.vis H1) G2 → Ex G2 H2 → (item i).p x G2) ∨ ∃ T o, H2 T = none ∧ H3 = upd H2 T o ∧ ∀ G2, Ex (W.vis H1) G2 → Ex G2 H2 → (item i).p x (upd G2 T o)) → R J H1

abbrev Ew (X : Cx) (W : World) (rs : Rs) (e : Expr) (r : Rep) : Prop := PE X e (tW W rs r)
abbrev Tw (X : Cx) (W : World) (rs : Rs) (e : Expr) (b : Bool) : Prop := PT X e (tWT W rs b)
abbrev Lw (X : Cx) (W : World) (rs : Rs) (e : Expr) (b : Bool) : Prop := PW X e (tWT W rs b)
abbrev Aw (X : Cx) (W : World) (rs : Rs) (es : List Expr) (rl : List Rep) : Prop := PA X es (tWA W rs rl)
abbrev Gw (X : Cx) (W : World) (rs : Rs) (tg : Expr) (r : Rep) (rs' : Rs) : Prop := PG X tg (gW W rs r rs')
abbrev Gws (X : Cx) (W : World) (rs : Rs) (tgs : List Expr) (rl : List Rep) (rs' : Rs) : Prop := PGs X tgs (gWs W rs rl rs')
abbrev Sw (X : Cx) (W : World) (rs : Rs) (st : Stmt) (O : Outs) : Prop := PS X st (sW W rs O)
abbrev Bw (X : Cx) (W : World) (rs : Rs) (sts : List Stmt) (O : Outs) : Prop := PSs X sts (sW W rs O)
abbrev Iw (X : Cx) (W : World) (rs : Rs) (tg it : Expr) (n : Nat) (item : Nat → Rep) : Prop := PI X tg it (iW W rs n item)

/-! ### weakening a reading -/
section
variable {X : Cx}
theorem pe_cs {e : Expr} {t t' : TE} (h : PE X e t) (k : ∀ σ H Q, t' σ H Q → t σ H Q) : PE X e t' := ⟨fun pins s σ H Q I q => h.run pins s σ H Q I (k σ H Q q)⟩
theorem pt_cs {e : Expr} {t t' : TT} (h : PT X e t) (k : ∀ σ H Q, t' σ H Q → t σ H Q) : PT X e t' := ⟨fun pins s σ H Q I q => h.run pins s σ H Q I (k σ H Q q)⟩
theorem pw_cs {e : Expr} {t t' : TT} (h : PW X e t) (k : ∀ σ H Q, t' σ H Q → t σ H Q) : PW X e t' := ⟨fun wh pins s σ H Q I q => h.run wh pins s σ H Q I (k σ H Q q)⟩
theorem pa_cs {es : List Expr} {t t' : TA} (h : PA X es t) (k : ∀ σ H Q, t' σ H Q → t σ H Q) : PA X es t' := ⟨fun pos pins s σ H Q I q => h.run pos pins s σ H Q I (k σ H Q q)⟩
theorem ps_cs {st : Stmt} {t t' : TS} (h : PS X st t) (k : ∀ D σ H, t' D σ H → t D σ H) : PS X st t' := ⟨fun pins s σ H D I q => h.run pins s σ H D I (k D σ H q)⟩
theorem pss_cs {st : List Stmt} {t t' : TS} (h : PSs X st t) (k : ∀ D σ H, t' D σ H → t D σ H) : PSs X st t' := ⟨fun pins s σ H D I q => h.run pins s σ H D I (k D σ H q)⟩
theorem pg_cs {e : Expr} {t t' : TG} (h : PG X e t) (k : ∀ v σ H Q, t' v σ H Q → t v σ H Q) : PG X e t' := ⟨fun pins s σ H v u Q I r q => h.run pins s σ H v u Q I r (k v σ H Q q)⟩
theorem pgs_cs {es : List Expr} {t t' : TGs} (h : PGs X es t) (k : ∀ v σ H Q, t' v σ H Q → t v σ H Q) : PGs X es t' := ⟨fun pins s σ H v u Q I r q => h.run pins s σ H v u Q I r (k v σ H Q q)⟩
theorem pi_cs {tg e : Expr} {t t' : TI} (h : PI X tg e t) (k : ∀ σ H R, t' σ H R → t σ H R) : PI X tg e t' := ⟨fun pins s σ H R I q => h.run pins s σ H R I (k σ H R q)⟩
end

section
variable {X : Cx} {W : World} {rs : Rs} {a b e : Expr} {r ra rb rc : Rep} {pos : Pos}
/-! ### names and constants -/
theorem ew_name (i : Nat) {x : Str} (hr : rs[i]? = some (some r)) (h : PE X (.Name x pos) (tVar i)) : Ew X W rs (.Name x pos) r :=
  pe_cs h fun σ H Q ⟨k, g, q⟩ => let ⟨v, e, p⟩ := g.get hr; ⟨v, e, q v H k (Ex.refl _) p⟩
theorem ew_c {v : V} (h : PE X e (tC v)) (hr : ∀ H, r.p v H) : Ew X W rs e r := pe_cs h fun σ H Q ⟨k, g, q⟩ => q v H k (Ex.refl _) (hr _)
theorem ew_int {i : Int} {j : Nat} : Ew X W rs (.Constant (.int i) j pos) (rD X.K (.int i)) := ew_c pe_int fun _ => Dp.int i
theorem ew_bl {i : Bool} {j : Nat} : Ew X W rs (.Constant (.bool i) j pos) (rD X.K (.bool i)) := ew_c pe_bl fun _ => Dp.bl i
theorem ew_str {i : Str} {j : Nat} : Ew X W rs (.Constant (.str i) j pos) (rD X.K (.str i)) := ew_c pe_str fun _ => Dp.str i
theorem ew_non {j : Nat} : Ew X W rs (.Constant .none j pos) (rD X.K .none) := ew_c pe_non fun _ => Dp.non
theorem ew_sub (h : Ew X W rs e r) (k : ∀ v H, r.p v H → ra.p v H) : Ew X W rs e ra := pe_cs h fun σ H Q ⟨o, g, q⟩ => ⟨o, g, fun v H' o' x p => q v H' o' x (k v _ p)⟩
theorem ew_in {α : Type} {f : α → Rep} (c : α) (h : Ew X W rs e (f c)) : Ew X W rs e (rEx f) := ew_sub h fun _ _ p => ⟨c, p⟩
/-! ### two-place operations -/
def R2w (W : World) (f : R2) (rx ry rz : Rep) : Prop := ∀ x y H, W.ok H → rx.p x (W.vis H) → ry.p y (W.vis H) → ∀ Q : VK, (∀ v H', W.ok H' → Ex (W.vis H) (W.vis H') → rz.p v (W.vis H') → Q v H') → f x y H Q
theorem R2w.exl {α : Type} {f : R2} {g : α → Rep} (h : ∀ c, R2w W f (g c) rb rc) : R2w W f (rEx g) rb rc := fun x y H k ⟨c, p⟩ q => h c x y H k p q
theorem R2w.exr {α : Type} {f : R2} {g : α → Rep} (h : ∀ c, R2w W f ra (g c) rc) : R2w W f ra (rEx g) rc := fun x y H k p ⟨c, q⟩ => h c x y H k p q
/-- nothing but a value comes out -/
theorem R2w.val {f : R2} (h : ∀ x y H, W.ok H → ra.p x (W.vis H) → rb.p y (W.vis H) → ∃ z, rc.p z (W.vis H) ∧ ∀ Q : VK, Q z H → f x y H Q) : R2w W f ra rb rc := fun x y H k p q Q n => by
  obtain ⟨z, h1, h2⟩ := h x y H k p q
  exact h2 Q (n z H k (Ex.refl _) h1)
theorem two (ha : Ew X W rs a ra) (hb : Ew X W rs b rb) {f : R2} (hf : R2w W f ra rb rc) {σ : St} {H : Hp} {Q : VK} (h : tW W rs rc σ H Q) : tOp f (tW W rs ra) (tW W rs rb) σ H Q := by
  obtain ⟨k, g, q⟩ := h
  refine ⟨k, g, fun x H1 k1 e1 p1 => ⟨k1, g.mono e1, fun y H2 k2 e2 p2 => ?_⟩⟩
  exact hf x y H2 k2 (ra.mono e2 p1) p2 Q fun v H3 k3 e3 p3 => q v H3 k3 ((e1.trans e2).trans e3) p3
theorem ew_op {op : Operator} {f : R2} (ho : OpR X (binaryOp op) f) (ha : Ew X W rs a ra) (hb : Ew X W rs b rb) (hf : R2w W f ra rb rc) : Ew X W rs (.BinOp a op b pos) rc := pe_cs (pe_op ho ha hb) fun _ _ _ h => two ha hb hf h
theorem ew_cmp {op : CmpOp} {f : R2} (ho : OpR X (compareOp op) f) (ha : Ew X W rs a ra) (hb : Ew X W rs b rb) (hf : R2w W f ra rb rc) (hm : behindInMarks op b = false) : Ew X W rs (.Compare a [op] [b] pos) rc := pe_cs (pe_cmpR ho ha hb hm) fun _ _ _ h => two ha hb hf h
theorem tw_cmp {op : CmpOp} {f : R2} {c : Bool} (ho : OpR X (compareOp op) f) (ha : Ew X W rs a ra) (hb : Ew X W rs b rb) (hf : R2w W f ra rb (rD X.K (.bool c))) (hm : behindInMarks op b = false) : Tw X W rs (.Compare a [op] [b] pos) c :=
  pt_cs (pt_cmpR ho ha hb hm) fun σ H Q ⟨k, g, q⟩ => two ha hb hf ⟨k, g, fun v H' k' e' p' => ⟨c, rD_bl.mp p', q H' k' e'⟩⟩
/-! ### tests -/
theorem tw_val {c : Bool} (h : Ew X W rs e (rD X.K (.bool c))) (he : ∀ whole, isTrue e X.env whole = (do let v ← whole; standAt e.pos; holding [v] (truthy v))) : Tw X W rs e c :=
  pt_cs (pt_val h he) fun σ H Q ⟨k, g, q⟩ => ⟨k, g, fun v H' k' e' p' => ⟨c, rD_bl.mp p', q H' k' e'⟩⟩
theorem tw_not {c : Bool} (h : Tw X W rs e c) : Tw X W rs (.UnaryOp .Not e pos) (!c) := pt_cs (pt_not h) fun σ H Q ⟨k, g, q⟩ => ⟨k, g, fun H' k' e' => q H' k' e'⟩
theorem tw_eq {c d : Bool} (h : Tw X W rs e c) (q : c = d) : Tw X W rs e d := q ▸ h
theorem lw_one {c : Bool} {op : BoolOp} (h : Tw X W rs a c) : Lw X W rs (.BoolOp op [a] pos) c := by cases op <;> first | exact pw_and1 h | exact pw_or1 h
theorem lw_and {c d : Bool} {rest : List Expr} (h : Tw X W rs a c) (h2 : c = true → Lw X W rs (.BoolOp .And (b :: rest) pos) d) : Lw X W rs (.BoolOp .And (a :: b :: rest) pos) (c && d) := by
  cases c with
  | true => exact pw_cs (pw_and h (h2 rfl)) fun σ H Q ⟨k, g, q⟩ => ⟨k, g, fun H1 k1 e1 => iteT ⟨k1, g.mono e1, fun H2 k2 e2 => q H2 k2 (e1.trans e2)⟩⟩
  | false => exact pw_cs (pw_and h (tB' := fun _ _ _ => False) ⟨fun _ _ _ _ _ _ _ z => z.elim⟩) fun σ H Q ⟨k, g, q⟩ => ⟨k, g, fun H1 k1 e1 => iteF (q H1 k1 e1)⟩
theorem lw_or {c d : Bool} {rest : List Expr} (h : Tw X W rs a c) (h2 : c = false → Lw X W rs (.BoolOp .Or (b :: rest) pos) d) : Lw X W rs (.BoolOp .Or (a :: b :: rest) pos) (c || d) := by
  cases c with
  | false => exact pw_cs (pw_or h (h2 rfl)) fun σ H Q ⟨k, g, q⟩ => ⟨k, g, fun H1 k1 e1 => iteF ⟨k1, g.mono e1, fun H2 k2 e2 => q H2 k2 (e1.trans e2)⟩⟩
  | true => exact pw_cs (pw_or h (tB' := fun _ _ _ => False) ⟨fun _ _ _ _ _ _ _ z => z.elim⟩) fun σ H Q ⟨k, g, q⟩ => ⟨k, g, fun H1 k1 e1 => iteT (q H1 k1 e1)⟩
theorem tw_l {c : Bool} (h : Lw X W rs e c) : Tw X W rs e c := h.pt
/-- and, or, not as values -/
theorem ew_one {op : BoolOp} (h : Ew X W rs a r) : Ew X W rs (.BoolOp op [a] pos) r := pe_one h
theorem ew_and {c d : Bool} {rest : List Expr} (h : Ew X W rs a (rD X.K (.bool c))) (h2 : c = true → Ew X W rs (.BoolOp .And (b :: rest) pos) (rD X.K (.bool d))) : Ew X W rs (.BoolOp .And (a :: b :: rest) pos) (rD X.K (.bool (c && d))) := by
  cases c with
  | true => exact pe_cs (pe_and h (h2 rfl)) fun σ H Q ⟨k, g, q⟩ => ⟨k, g, fun v H1 k1 e1 p1 => ⟨true, rD_bl.mp p1, iteT ⟨k1, g.mono e1, fun v H2 k2 e2 p2 => q v H2 k2 (e1.trans e2) p2⟩⟩⟩
  | false => exact pe_cs (pe_and h (tb := fun _ _ _ => False) ⟨fun _ _ _ _ _ _ z => z.elim⟩) fun σ H Q ⟨k, g, q⟩ => ⟨k, g, fun v H1 k1 e1 p1 => ⟨false, rD_bl.mp p1, iteF (q _ H1 k1 e1 (Dp.bl false))⟩⟩
theorem ew_or {c d : Bool} {rest : List Expr} (h : Ew X W rs a (rD X.K (.bool c))) (h2 : c = false → Ew X W rs (.BoolOp .Or (b :: rest) pos) (rD X.K (.bool d))) : Ew X W rs (.BoolOp .Or (a :: b :: rest) pos) (rD X.K (.bool (c || d))) := by
  cases c with
  | false => exact pe_cs (pe_or h (h2 rfl)) fun σ H Q ⟨k, g, q⟩ => ⟨k, g, fun v H1 k1 e1 p1 => ⟨false, rD_bl.mp p1, iteF ⟨k1, g.mono e1, fun v H2 k2 e2 p2 => q v H2 k2 (e1.trans e2) p2⟩⟩⟩
  | true => exact pe_cs (pe_or h (tb := fun _ _ _ => False) ⟨fun _ _ _ _ _ _ z => z.elim⟩) fun σ H Q ⟨k, g, q⟩ => ⟨k, g, fun v H1 k1 e1 p1 => ⟨true, rD_bl.mp p1, iteT (q _ H1 k1 e1 (Dp.bl true))⟩⟩
theorem ew_not {c : Bool} (h : Ew X W rs a (rD X.K (.bool c))) : Ew X W rs (.UnaryOp .Not a pos) (rD X.K (.bool (!c))) := pe_cs (pe_not h) fun σ H Q ⟨k, g, q⟩ => ⟨k, g, fun v H1 k1 e1 p1 => ⟨c, rD_bl.mp p1, q _ H1 k1 e1 (Dp.bl _)⟩⟩
theorem ew_if {c : Expr} {d : Bool} (h : Tw X W rs c d) (h1 : d = true → Ew X W rs a r) (h2 : d = false → Ew X W rs b r) : Ew X W rs (.IfExp c a b pos) r := by
  cases d with
  | true => exact pe_cs (pe_ifExp h (h1 rfl) (tb := fun _ _ _ => False) ⟨fun _ _ _ _ _ _ z => z.elim⟩) fun σ H Q ⟨k, g, q⟩ => ⟨k, g, fun H1 k1 e1 => iteT ⟨k1, g.mono e1, fun v H2 k2 e2 p2 => q v H2 k2 (e1.trans e2) p2⟩⟩
  | false => exact pe_cs (pe_ifExp h (ta := fun _ _ _ => False) ⟨fun _ _ _ _ _ _ z => z.elim⟩ (h2 rfl)) fun σ H Q ⟨k, g, q⟩ => ⟨k, g, fun H1 k1 e1 => iteF ⟨k1, g.mono e1, fun v H2 k2 e2 p2 => q v H2 k2 (e1.trans e2) p2⟩⟩
/-! ### argument lists, displays -/
theorem aw_nil : Aw X W rs [] [] := pa_cs pa_nil fun σ H Q ⟨k, g, q⟩ => q [] H k (Ex.refl _) trivial
theorem aw_cons {es : List Expr} {rl : List Rep} (h : Ew X W rs e r) (h2 : Aw X W rs es rl) (hs : starEach (e :: es) X.env = (false, eval e X.env) :: starEach es X.env := by rfl) : Aw X W rs (e :: es) (r :: rl) :=
  pa_cs (pa_cons h h2 hs) fun σ H Q ⟨k, g, q⟩ => ⟨k, g, fun v H1 k1 e1 p1 => ⟨k1, g.mono e1, fun vs H2 k2 e2 p2 => q _ H2 k2 (e1.trans e2) ⟨r.mono e2 p1, p2⟩⟩⟩
theorem ew_tup {es : List Expr} {rl : List Rep} {x1 : Nat} (h : Aw X W rs es rl) (hl : rl.length ≤ 1000) : Ew X W rs (.Tuple es x1 pos) (rTup X.K rl) :=
  pe_cs (pe_tup h) fun σ H Q ⟨k, g, q⟩ => ⟨k, g, fun vs H1 k1 e1 p1 => ⟨Nat.le_of_lt (small1000 (p1.len ▸ hl)), fun p hp => q _ _ (World.okNew k1 hp) (e1.trans (World.visEx k1 (Ex.new hp)))
    ⟨p, vs, rfl, .inl (.inl (by rw [World.visNew k1 hp, upd_same])), p1.mono (World.visEx k1 (Ex.new hp))⟩⟩⟩
theorem ew_lst {es : List Expr} {rl : List Rep} (h : Aw X W rs es rl) (hl : rl.length ≤ 1000) : Ew X W rs (.List es pos) (rLst rl) :=
  pe_cs (pe_lst h) fun σ H Q ⟨k, g, q⟩ => ⟨k, g, fun vs H1 k1 e1 p1 => ⟨Nat.le_of_lt (small1000 (p1.len ▸ hl)), fun p hp => q _ _ (World.okNew k1 hp) (e1.trans (World.visEx k1 (Ex.new hp)))
    ⟨p, vs, rfl, by rw [World.visNew k1 hp, upd_same], p1.mono (World.visEx k1 (Ex.new hp))⟩⟩⟩
theorem ew_tupD {es : List Expr} {ds : List PyData} {x1 : Nat} (h : Aw X W rs es (ds.map (rD X.K))) (hl : ds.length ≤ 1000) : Ew X W rs (.Tuple es x1 pos) (rD X.K (.tuple ds)) := ew_sub (ew_tup h (by rw [List.length_map]; exact hl)) fun _ _ p => rD_tup.mpr p
theorem lst_seq {K : PySem.W.Frag} {rl : List Rep} {v : V} {H : Hp} (h : (rLst rl).p v H) : (rSeq K rl).p v H := let ⟨a, xs, h1, h2, h3⟩ := h; ⟨a, xs, h1, .inl (.inl h2), h3⟩
theorem ew_lstD {es : List Expr} {ds : List PyData} (h : Aw X W rs es (ds.map (rD X.K))) (hl : ds.length ≤ 1000) : Ew X W rs (.List es pos) (rD X.K (.list ds)) := ew_sub (ew_lst h (by rw [List.length_map]; exact hl)) fun _ _ p => rD_lst.mpr (lst_seq p)
/-! ### targets -/
theorem gw_name (i : Nat) {x : Str} (h : PG X (.Name x pos) (gName i)) : Gw X W rs (.Name x pos) r (rs.set i (some r)) := pg_cs h fun v σ H Q ⟨k, g, p, q⟩ => q _ H k (Ex.refl _) (g.set p)
theorem gws_nil : Gws X W rs [] [] rs := pgs_cs pgs_nil fun vs σ H Q ⟨k, g, p, q⟩ => by
  cases vs with
  | nil => exact ⟨rfl, q σ H k (Ex.refl _) g⟩
  | cons _ _ => exact p.elim
theorem gws_cons {es : List Expr} {rl : List Rep} {rs1 rs2 : Rs} (h : Gw X W rs e r rs1) (h2 : Gws X W rs1 es rl rs2) (hs : (assignEach (e :: es) X.env).map (·.2) = assign e X.env :: (assignEach es X.env).map (·.2) := by rfl) : Gws X W rs (e :: es) (r :: rl) rs2 :=
  pgs_cs (pgs_cons h h2 hs) fun vs σ H Q ⟨k, g, p, q⟩ => by
    cases vs with
    | nil => exact p.elim
    | cons x xs => exact ⟨x, xs, rfl, k, g, p.1, fun σ1 H1 k1 e1 g1 => ⟨k1, g1, p.2.mono e1, fun σ2 H2 k2 e2 g2 => q σ2 H2 k2 (e1.trans e2) g2⟩⟩
theorem gw_tup {es : List Expr} {rl : List Rep} {rs1 : Rs} {k : Nat} (hc : X.calm = true) (h : Gws X W rs es rl rs1) (hn : (assignEach es X.env).length = rl.length := by rfl) (hst : (assignEach es X.env).findIdx? (·.1) = none := by rfl) :
    Gw X W rs (.Tuple es k pos) (rTup X.K rl) rs1 := pg_cs (pg_tup hc h hn hst) fun v σ H Q ⟨k, g, ⟨a, xs, e, s, p⟩, q⟩ => ⟨a, xs, e, sqT_mono (W.sub H) s, p.len.symm, k, g, p, q⟩
/-! ### statements -/
variable {st : Stmt} {sts : List Stmt} {O : Outs} {N : Rs}
theorem goes_mono {H H1 : Hp} {o : Option Rs} {f : St → Hp → Prop} (h : Goes W H o f) (e : Ex (W.vis H) (W.vis H1)) : Goes W H1 o f := fun N z σ' H' k x g => h N z σ' H' k (e.trans x) g
theorem sW_mono {rs' : Rs} {D : Ends} {σ σ' : St} {H H1 : Hp} (h : sW W rs O D σ H) (k : W.ok H1) (e : Ex (W.vis H) (W.vis H1)) (g : Sg rs' σ' (W.vis H1)) : sW W rs' O D σ' H1 :=
  let ⟨_, _, h3, h4, h5, h6⟩ := h
  ⟨k, g, fun v H' k' e' p => h3 v H' k' (e.trans e') p, goes_mono h4 e, goes_mono h5 e, goes_mono h6 e⟩
theorem bw_nil : Bw X W rs [] (O.to rs) := pss_cs pss_nil fun D σ H ⟨k, g, _, n, _⟩ => n rs rfl σ H k (Ex.refl _) g
theorem bw_end : Bw X W rs [] ⟨r, some rs, none, none⟩ := pss_cs pss_nil fun D σ H ⟨k, g, _, n, _⟩ => n rs rfl σ H k (Ex.refl _) g
theorem bw_cons (h : Sw X W rs st (O.to N)) (h2 : Bw X W N sts O) : Bw X W rs (st :: sts) O := pss_cs (pss_cons h h2) fun D σ H ⟨k, g, r, n, b, c⟩ =>
  ⟨k, g, r, fun N' z σ' H' k' e' g' => by cases z; exact sW_mono (rs := rs) (σ := σ) ⟨k, g, r, n, b, c⟩ k' e' g', b, c⟩
theorem bw_one (h : Sw X W rs st O) : Bw X W rs [st] O := pss_one h
/-- what stands behind is never come to -/
theorem bw_last (h : Sw X W rs st { O with nx := none }) : Bw X W rs (st :: sts) O := pss_cs (pss_cons h pss_never) fun D σ H ⟨k, g, r, n, b, c⟩ => ⟨k, g, r, fun N' z => (by cases z), b, c⟩
theorem sw_nx (h : Sw X W rs st { O with nx := none }) : Sw X W rs st O := ps_cs h fun D σ H ⟨k, g, r, n, b, c⟩ => ⟨k, g, r, fun N' z => (by cases z), b, c⟩
theorem sw_ret (h : Ew X W rs e O.res) : Sw X W rs (.Return (some e) pos) O := ps_cs (ps_ret h) fun D σ H ⟨k, g, r, _⟩ => ⟨k, g, r⟩
theorem sw_if {c : Expr} {d : Bool} {as bs : List Stmt} (h : Tw X W rs c d) (h1 : d = true → Bw X W rs as O) (h2 : d = false → Bw X W rs bs O) : Sw X W rs (.If c as bs pos) O := by
  cases d with
  | true => exact ps_cs (ps_if h (h1 rfl) pss_never) fun D σ H q => ⟨q.1, q.2.1, fun H1 k1 e1 => iteT (sW_mono q k1 e1 (q.2.1.mono e1))⟩
  | false => exact ps_cs (ps_if h pss_never (h2 rfl)) fun D σ H q => ⟨q.1, q.2.1, fun H1 k1 e1 => iteF (sW_mono q k1 e1 (q.2.1.mono e1))⟩
theorem sw_pass : Sw X W rs (.Pass pos) (O.to rs) := ps_cs ps_pass fun D σ H ⟨k, g, _, n, _⟩ => n rs rfl σ H k (Ex.refl _) g
theorem sw_continue {O : Outs} (h : O.ct = some rs) : Sw X W rs (.Continue pos) O := ps_cs ps_continue fun D σ H ⟨k, g, _, _, _, c⟩ => c rs h σ H k (Ex.refl _) g
theorem sw_break {O : Outs} (h : O.bk = some rs) : Sw X W rs (.Break pos) O := ps_cs ps_break fun D σ H ⟨k, g, _, _, b, _⟩ => b rs h σ H k (Ex.refl _) g
theorem sw_expr (h : Ew X W rs e r) (hs : swapsWith e none pos.line X.env = pure false := by rfl) : Sw X W rs (.Expr e pos) (O.to rs) := ps_cs (ps_expr h hs) fun D σ H ⟨k, g, _, n, _⟩ => ⟨k, g, fun v H' k' e' _ => n rs rfl σ H' k' e' (g.mono e')⟩
theorem sw_asg {tg : Expr} (h : Ew X W rs e r) (hg : Gw X W rs tg r N) (hs : swapsWithSole [tg] e pos.line X.env = pure false := by rfl) (hw : swappedStores [tg] e X.env = pure none := by rfl)
    (h1 : (assignEach [tg] X.env).map (·.2) = [assign tg X.env] := by rfl) : Sw X W rs (.Assign [tg] e pos) (O.to N) :=
  ps_cs (ps_asg h hg hs hw h1) fun D σ H ⟨k, g, _, n, _⟩ => ⟨k, g, fun v H' k' e' p' => ⟨k', g.mono e', p', fun σ2 H2 k2 e2 g2 => n N rfl σ2 H2 k2 (e'.trans e2) g2⟩⟩
theorem sw_set (i : Nat) {x : Str} {pos' : Pos} (h : Ew X W rs e r) (hN : X.N.Nodup) (hi : X.N[i]? = some x) (hx : Loc X.env.scope x) (hs : swapsWith e (some (.Name x pos')) pos.line X.env = pure false := by rfl)
    (hf : X.fn x = true ∨ X.env.scope.names.lookup x = some .local := by first | exact .inl rfl | exact .inr rfl | assumption) : Sw X W rs (.Assign [.Name x pos'] e pos) (O.to (rs.set i (some r))) :=
  ps_cs (ps_set hN hi hx h hs hf) fun D σ H ⟨k, g, _, n, _⟩ => ⟨k, g, fun v H' k' e' p' => n _ rfl _ H' k' e' ((g.mono e').set p')⟩
/-- a slot's letter is told -/
theorem sW_ex {α : Type} {i : Nat} {f : α → Rep} {t : TS} (hi : rs[i]? = some (some (rEx f))) (h : ∀ c D σ H, sW W (rs.set i (some (f c))) O D σ H → t D σ H) : ∀ D σ H, sW W rs O D σ H → t D σ H := fun D σ H q => by
  obtain ⟨k, g, q'⟩ := q
  obtain ⟨v, e, c, p⟩ := g.get hi
  refine h c D σ H ⟨k, ?_, q'⟩
  have z := g.set (i := i) p
  have hs : σ.set i (some v) = σ := by
    obtain ⟨hlt, hv⟩ := List.getElem?_eq_some_iff.mp e
    rw [← hv]
    exact List.set_getElem_self hlt
  rw [hs] at z
  exact z
theorem bw_ex {α : Type} (i : Nat) {f : α → Rep} (hi : rs[i]? = some (some (rEx f))) (h : ∀ c, Bw X W (rs.set i (some (f c))) sts O) : Bw X W rs sts O :=
  pss_cs (t := fun D σ H => ∃ c, sW W (rs.set i (some (f c))) O D σ H) ⟨fun pins s σ H D I ⟨c, q⟩ => (h c).run pins s σ H D I q⟩ (sW_ex hi fun c D σ H q => ⟨c, q⟩)
/-- slots may be told by more, or forgotten -/
theorem Sg.weak : ∀ {rs rs' : Rs} {σ : St} {H : Hp}, Sg rs σ H → rs'.length = rs.length → (∀ (i : Nat) (r' : Rep), rs'[i]? = some (some r') → ∃ r, rs[i]? = some (some r) ∧ ∀ v H, r.p v H → r'.p v H) → Sg rs' σ H
  | [], [], [], _, _, _, _ => trivial
  | x :: rs, some r' :: rs', y :: σ, H, g, hl, h => by
    obtain ⟨r, h1, h2⟩ := h 0 r' rfl
    have e : x = some r := by simpa using h1
    subst e
    obtain ⟨⟨v, e1, p⟩, g2⟩ := g
    exact ⟨⟨v, e1, h2 v _ p⟩, Sg.weak g2 (Nat.succ.inj hl) fun i r q => by simpa using h (i + 1) r (by simpa using q)⟩
  | x :: rs, none :: rs', y :: σ, H, g, hl, h => by
    have g2 : Sg rs σ H := by
      cases x with
      | none => exact g
      | some r => exact g.2
    exact Sg.weak (rs' := rs') g2 (Nat.succ.inj hl) fun i r q => by simpa using h (i + 1) r (by simpa using q)
  | [], _ :: _, _, _, _, hl, _ => by cases hl
  | _ :: _, [], _, _, _, hl, _ => by cases hl
  | [], [], _ :: _, _, g, _, _ => g.elim
  | some _ :: _, _ :: _, [], _, g, _, _ => g.elim
  | none :: _, _ :: _, [], _, g, _, _ => g.elim
theorem bw_weak {rs' : Rs} (hl : rs'.length = rs.length) (h : ∀ (i : Nat) (r' : Rep), rs'[i]? = some (some r') → ∃ r, rs[i]? = some (some r) ∧ ∀ v H, r.p v H → r'.p v H) (hb : Bw X W rs' sts O) : Bw X W rs sts O :=
  pss_cs hb fun D σ H ⟨k, g, q⟩ => ⟨k, g.weak hl h, q⟩
end
end Py
namespace Py
open PySem L2
section
variable {X : Cx} {W : World} {rs : Rs} {a b e tg it : Expr} {r ra rb rc : Rep} {pos : Pos} {O : Outs} {n : Nat} {item : Nat → Rep}
/-! ### loops -/
theorem sw_for {body : List Stmt} (Ns Ms : Nat → Rs) (h0 : Ns 0 = rs) (hO : O.nx = some (Ns n)) (hi : Iw X W rs tg it n item) (hg : ∀ i, i < n → Gw X W (Ns i) tg (item i) (Ms i))
    (hb : ∀ i, i < n → Bw X W (Ms i) body { O with nx := some (Ns (i + 1)), ct := some (Ns (i + 1)), bk := O.nx }) (hp : PassesOwn (model X.prog X.w) X.A X.env X.xe) (hc : X.calm = true)
    (hs : ∀ x, foldedSetIterable it X.env x = pure x := by intro _; rfl) : Sw X W rs (.For tg it body [] pos) O := by
  have hG : PG X tg (fun v σ H Q => ∃ i, i < n ∧ gW W (Ns i) (item i) (Ms i) v σ H Q) := ⟨fun pins s σ H v u Q I rv ⟨i, hi, q⟩ => (hg i hi).run pins s σ H v u Q I rv q⟩
  have hB : PSs X body (fun D σ H => ∃ i, i < n ∧ sW W (Ms i) { O with nx := some (Ns (i + 1)), ct := some (Ns (i + 1)), bk := O.nx } D σ H) := ⟨fun pins s σ H D I ⟨i, hi, q⟩ => (hb i hi).run pins s σ H D I q⟩
  refine ps_cs (ps_for hp hc hi hG hB hs) ?_
  rintro D σ H ⟨k, g, rt, nx, bk, ct⟩
  refine ⟨k, g, ?_⟩
  intro J G Y H1 w k1 e1 hGk hY
  refine for_it (D := D) (g := fun v σ H Q => ∃ i, i < n ∧ gW W (Ns i) (item i) (Ms i) v σ H Q) (tb := fun D σ H => ∃ i, i < n ∧ sW W (Ms i) { O with nx := some (Ns (i + 1)), ct := some (Ns (i + 1)), bk := O.nx } D σ H) w
    (fun i σ' H' => W.ok H' ∧ Ex (W.vis H1) (W.vis H') ∧ Sg (Ns i) σ' (W.vis H')) ⟨k1, Ex.refl _, by rw [h0]; exact g.mono e1⟩ (fun i σ' H' _ p => hGk H' p.1 p.2.1) ?_ ?_
  · rintro i x σ' H' H'' hi' ⟨k', e', g'⟩ hy
    obtain ⟨k2, e2, p2⟩ : W.ok H'' ∧ Ex (W.vis H') (W.vis H'') ∧ (item i).p x (W.vis H'') := by
      rcases hY i x H' H'' hi' hy with ⟨rfl, hp2⟩ | ⟨T, o, hT, rfl, hp2⟩
      · exact ⟨k', Ex.refl _, hp2 _ e' (W.sub _)⟩
      · exact ⟨World.okNew k' hT, World.visEx k' (Ex.new hT), by rw [World.visNew k' hT]; exact hp2 _ e' (W.sub _)⟩
    refine ⟨i, hi', k2, g'.mono e2, p2, fun σ3 H3 k3 e3 g3 => ⟨i, hi', k3, g3, fun v H4 k4 e4 p4 => rt v H4 k4 ((((e1.trans e').trans e2).trans e3).trans e4) p4, ?_, ?_, ?_⟩⟩
    · intro N z σ4 H4 k4 e4 g4
      cases z
      exact ⟨k4, ((e'.trans e2).trans e3).trans e4, g4⟩
    · intro N z σ4 H4 k4 e4 g4
      exact nx N z σ4 H4 k4 ((((e1.trans e').trans e2).trans e3).trans e4) g4
    · intro N z σ4 H4 k4 e4 g4
      cases z
      exact ⟨k4, ((e'.trans e2).trans e3).trans e4, g4⟩
  · rintro σ' H' ⟨k', e', g'⟩
    exact nx _ hO σ' H' k' (e1.trans e') g'
/-! ### what is walked -/
theorem getD_of {rl : List Rep} {i : Nat} {r : Rep} (h : rl[i]? = some r) : rl.getD i rNon = r := by rw [List.getD_eq_getElem?_getD, h]; rfl
theorem iw_seq {rl : List Rep} (h : Ew X W rs it (rSeq X.K rl)) : Iw X W rs tg it rl.length (fun i => rl.getD i rNon) := by
  refine pi_cs (pi_list h) ?_
  rintro σ H R ⟨k, g, q⟩
  refine ⟨k, g, ?_⟩
  rintro v H1 k1 e1 ⟨p, xs, ev, hs, hr⟩
  refine ⟨p, ev, ⟨xs, sqL_mono (W.sub H1) hs⟩, q (Itl X.K p) (fun H => SqL X.K H p xs) (YAt xs) H1 (hr.len ▸ walk_list) k1 e1 (fun H2 _ e2 => sqL_mono (e2.trans (W.sub H2)) hs) ?_⟩
  rintro i x H2 H3 hi ⟨eH, hx⟩
  obtain ⟨r, h1, h2⟩ := hr.get' hx
  refine .inl ⟨eH, fun G2 e2 _ => ?_⟩
  show (rl.getD i rNon).p x G2
  rw [getD_of h1]
  exact r.mono e2 h2
theorem iw_lst {rl : List Rep} (h : Ew X W rs it (rLst rl)) : Iw X W rs tg it rl.length (fun i => rl.getD i rNon) := iw_seq (ew_sub h fun _ _ => lst_seq)
theorem iw_tup {rl : List Rep} (h : Ew X W rs it (rTup X.K rl)) : Iw X W rs tg it rl.length (fun i => rl.getD i rNon) := by
  refine pi_cs (pi_tup h) ?_
  rintro σ H R ⟨k, g, q⟩
  refine ⟨k, g, ?_⟩
  rintro v H1 k1 e1 ⟨p, xs, ev, hs, hr⟩
  refine ⟨p, ev, ⟨xs, sqT_mono (W.sub H1) hs⟩, q (Itt X.K p) (fun H => SqT X.K H p xs) (YAt xs) H1 (hr.len ▸ walk_tup) k1 e1 (fun H2 _ e2 => sqT_mono (e2.trans (W.sub H2)) hs) ?_⟩
  rintro i x H2 H3 hi ⟨eH, hx⟩
  obtain ⟨r, h1, h2⟩ := hr.get' hx
  refine .inl ⟨eH, fun G2 e2 _ => ?_⟩
  show (rl.getD i rNon).p x G2
  rw [getD_of h1]
  exact r.mono e2 h2
theorem iw_lstD {ds : List PyData} (h : Ew X W rs it (rD X.K (.list ds))) : Iw X W rs tg it ds.length (fun i => (ds.map (rD X.K)).getD i rNon) := by
  have z := iw_seq (tg := tg) (ew_sub h fun _ _ p => rD_lst.mp p)
  rw [List.length_map] at z
  exact z
theorem iw_tupD {ds : List PyData} (h : Ew X W rs it (rD X.K (.tuple ds))) : Iw X W rs tg it ds.length (fun i => (ds.map (rD X.K)).getD i rNon) := by
  have z := iw_tup (tg := tg) (ew_sub h fun _ _ p => rD_tup.mp p)
  rw [List.length_map] at z
  exact z
theorem iw_str {z : Str} (h : Ew X W rs it (rD X.K (.str z))) : Iw X W rs tg it z.cps.size (fun i => rD X.K (.str ⟨#[z.cps.getD i 0]⟩)) := by
  refine pi_cs (pi_str h) ?_
  rintro σ H R ⟨k, g, q⟩
  refine ⟨k, g, ?_⟩
  intro v H1 k1 e1 p
  refine ⟨z, rD_str.mp p, q (Its z) (fun _ => True) _ H1 walk_str k1 e1 (fun _ _ _ => trivial) ?_⟩
  rintro i x H2 H3 hi ⟨eH, c, hc, hx⟩
  refine .inl ⟨eH, fun G2 _ _ => rD_str.mpr ?_⟩
  have e : z.cps.getD i 0 = c := by rw [Array.getD_eq_getD_getElem?, hc]; rfl
  rw [e]
  exact hx
theorem iw_range1 {p : Pos} {j : Int} (hg : Gl X "range") (hm : X.mg "range" = none) (h : Ew X W rs a (rD X.K (.int j))) (hj : -(2 ^ 62) ≤ j ∧ j < 2 ^ 62) (hs : starEach [a] X.env = [(false, eval a X.env)] := by rfl) :
    Iw X W rs tg (.Call (.Name "range" p) [a] [] pos) j.toNat (fun i => rD X.K (.int i)) := by
  refine pi_cs (pi_range1 hg hm (aw_cons h aw_nil hs) hs) ?_
  rintro σ H R ⟨k, g, q⟩
  refine ⟨k, g, ?_⟩
  intro vs H1 k1 e1 hp
  obtain ⟨x, rfl, p⟩ := reps1 hp
  refine ⟨j, by rw [rD_int.mp p], hj.1, hj.2, q (Itr 0 j.toNat) (fun _ => True) _ H1 walk_range k1 e1 (fun _ _ _ => trivial) ?_⟩
  rintro i x H2 H3 hi ⟨eH, hx⟩
  exact .inl ⟨eH, fun G2 _ _ => rD_int.mpr (hx.trans (congrArg V.int (Int.zero_add _)))⟩
/-- the pairs that an iterator makes anew -/
theorem pair_new {K : PySem.W.Frag} {xs ys : Nat → Option V} {i : Nat} {H H3 : Hp} {v : V} {r1 r2 : Rep} {G : Hp} (y : YPair xs ys i H v H3) (h1 : ∀ x, xs i = some x → r1.p x G) (h2 : ∀ x, ys i = some x → r2.p x G) :
    ∃ T o, H T = none ∧ H3 = upd H T o ∧ ∀ G2, Ex G G2 → Ex G2 H → (rTup K [r1, r2]).p v (upd G2 T o) := by
  obtain ⟨T, x, z, rfl, hT, rfl, hx, hz⟩ := y
  refine ⟨T, _, hT, rfl, fun G2 e2 e3 => ?_⟩
  have hG : G2 T = none := by
    cases q : G2 T with
    | none => rfl
    | some u =>
      have z := e3 T u q
      rw [hT] at z
      cases z
  have e := e2.trans (Ex.new (o := .tup [x, z]) hG)
  exact ⟨T, [x, z], rfl, .inl (.inl upd_same), r1.mono e (h1 x hx), r2.mono e (h2 z hz), trivial⟩
theorem iw_enum {rl : List Rep} {p tpos : Pos} {elts : List Expr} {kk : Nat} (hg : Gl X "enumerate") (hm : X.mg "enumerate" = none) (h : Ew X W rs a (rSeq X.K rl)) (hs : starEach [a] X.env = [(false, eval a X.env)] := by rfl) :
    Iw X W rs (.Tuple elts kk tpos) (.Call (.Name "enumerate" p) [a] [] pos) rl.length (fun i => rTup X.K [rD X.K (.int i), rl.getD i rNon]) := by
  refine pi_cs (pi_enum hg hm (aw_cons h aw_nil hs) hs) ?_
  rintro σ H R ⟨k, g, q⟩
  refine ⟨k, g, ?_⟩
  intro vs H1 k1 e1 hp
  obtain ⟨v, rfl, p, xs, ev, hsq, hr⟩ := reps1 hp
  subst ev
  have w : Walk (Ite X.K p) rl.length (fun H => SqL X.K H p xs) (YPair (fun i => some (.int (i : Nat))) (fun i => xs[i]?)) := by
    rw [hr.len]
    exact walk_enum
  refine ⟨p, xs, rfl, sqL_mono (W.sub H1) hsq, q (Ite X.K p) (fun H => SqL X.K H p xs) (YPair (fun i => some (.int (i : Nat))) (fun i => xs[i]?)) H1 w k1 e1 (fun H2 _ e2 => sqL_mono (e2.trans (W.sub H2)) hsq) ?_⟩
  intro i x H2 H3 hi y
  refine .inr (pair_new (G := W.vis H1) y (fun x hx => ?_) (fun x hx => ?_))
  · exact rD_int.mpr (Option.some.inj hx).symm
  · obtain ⟨r, h1, h2⟩ := hr.get' hx
    rw [getD_of h1]
    exact h2
theorem iw_zip {rl rl' : List Rep} {p tpos : Pos} {elts : List Expr} {kk : Nat} (hg : Gl X "zip") (hm : X.mg "zip" = none) (h : Ew X W rs a (rSeq X.K rl)) (h' : Ew X W rs b (rSeq X.K rl'))
    (hs : starEach [a, b] X.env = (false, eval a X.env) :: starEach [b] X.env := by rfl) (hs' : starEach [b] X.env = (false, eval b X.env) :: starEach [] X.env := by rfl) (hpl : (backTo pos (starEach [b] X.env)).any (·.1) = false := by rfl) :
    Iw X W rs (.Tuple elts kk tpos) (.Call (.Name "zip" p) [a, b] [] pos) (min rl.length rl'.length) (fun i => rTup X.K [rl.getD i rNon, rl'.getD i rNon]) := by
  refine pi_cs (pi_zip hg hm (aw_cons h (aw_cons h' aw_nil hs') hs) hs hpl) ?_
  rintro σ H R ⟨k, g, q⟩
  refine ⟨k, g, ?_⟩
  intro vs H1 k1 e1 hp
  obtain ⟨v, v', rfl, ⟨p, xs, ev, hsq, hr⟩, p', xs', ev', hsq', hr'⟩ := reps2 hp
  subst ev
  subst ev'
  have w : Walk (Itz X.K p p') (min rl.length rl'.length) (fun H => SqL X.K H p xs ∧ SqL X.K H p' xs') (YPair (fun i => xs[i]?) (fun i => xs'[i]?)) := walk_zip (by rw [hr.len, hr'.len])
  refine ⟨p, p', xs, xs', rfl, sqL_mono (W.sub H1) hsq, sqL_mono (W.sub H1) hsq', q (Itz X.K p p') (fun H => SqL X.K H p xs ∧ SqL X.K H p' xs') (YPair (fun i => xs[i]?) (fun i => xs'[i]?)) H1 w k1 e1 (fun H2 _ e2 => ⟨sqL_mono (e2.trans (W.sub H2)) hsq, sqL_mono (e2.trans (W.sub H2)) hsq'⟩) ?_⟩
  intro i x H2 H3 hi y
  refine .inr (pair_new (G := W.vis H1) y (fun x hx => ?_) (fun x hx => ?_))
  · obtain ⟨r, h1, h2⟩ := hr.get' hx
    rw [getD_of h1]
    exact h2
  · obtain ⟨r, h1, h2⟩ := hr'.get' hx
    rw [getD_of h1]
    exact h2
end
end Py
namespace Py
open PySem L2
/-! ### one more address set apart -/
def World.hold (W : World) (D : Addr) (o : HO) : World where
  hd := fun a => W.hd a ∨ a = D
  ok := fun H => W.ok H ∧ ¬ W.hd D ∧ H D = some o
  there := fun {H a} k h => by
    rcases h with h | h
    · exact W.there k.1 h
    · subst h
      rw [k.2.2]
      exact fun z => nomatch z
  keep := fun {H H'} k h => ⟨W.keep k.1 fun a z => h a (.inl z), k.2.1, by rw [h D (.inr rfl)]; exact k.2.2⟩
section
variable {W : World} {D : Addr} {o o' : HO} {H H' : Hp}
theorem hold_vis : (W.hold D o).vis H = fun a => if a = D then none else W.vis H a := by
  funext a
  by_cases z : a = D
  · subst z
    rw [if_pos rfl]
    exact if_pos (.inr rfl)
  · rw [if_neg z]
    by_cases y : W.hd a
    · show World.vis _ _ _ = World.vis _ _ _
      unfold World.vis
      rw [if_pos (show (W.hold D o).hd a from .inl y), if_pos y]
    · show World.vis _ _ _ = World.vis _ _ _
      unfold World.vis
      rw [if_neg (show ¬ (W.hold D o).hd a from fun q => q.elim y z), if_neg y]
theorem hold_sub : Ex ((W.hold D o).vis H) (W.vis H) := fun a u e => by
  rw [hold_vis] at e
  dsimp only at e
  split at e
  · cases e
  · exact e
theorem hold_of {G : Hp} (hG : G D = none) (e : Ex G (W.vis H)) : Ex G ((W.hold D o).vis H) := fun a u q => by
  rw [hold_vis]
  dsimp only
  rw [if_neg (ne_of_none q hG)]
  exact e a u q
theorem hold_upd {u : HO} : (W.hold D o).vis (upd H D u) = (W.hold D o').vis H := by
  rw [hold_vis, hold_vis]
  funext a
  by_cases z : a = D
  · rw [if_pos z, if_pos z]
  · rw [if_neg z, if_neg z]
    unfold World.vis upd
    rw [if_neg z]
theorem hold_any : (W.hold D o).vis H = (W.hold D o').vis H := by rw [hold_vis, hold_vis]
theorem hold_okUpd {u : HO} (k : (W.hold D o).ok H) : (W.hold D u).ok (upd H D u) := ⟨W.keep k.1 fun a z => upd_ne (fun q => k.2.1 (q ▸ z)), k.2.1, upd_same⟩
theorem hold_seen (k : (W.hold D o).ok H) : W.vis H D = some o := by rw [World.seen k.2.1]; exact k.2.2
/-- a new object, set apart at once -/
theorem hold_new (k : W.ok H) (h : H D = none) : (W.hold D o).ok (upd H D o) := ⟨World.okNew k h, World.free k h, upd_same⟩
end
/-! ### comprehensions -/
def wipeR (rs : Rs) : List Nat → Rs
  | [] => rs
  | v :: vs => (wipeR rs vs).set v none
theorem Sg.wipe1 : ∀ {rs : Rs} {σ : St} {H : Hp} {i : Nat}, Sg rs σ H → Sg (rs.set i none) (σ.set i none) H
  | [], [], _, _, _ => trivial
  | some _ :: _, _ :: _, _, 0, h => h.2
  | none :: _, _ :: _, _, 0, h => h
  | some _ :: _, _ :: _, _, i + 1, h => ⟨h.1, Sg.wipe1 (i := i) h.2⟩
  | none :: rs, _ :: σ, H, i + 1, h => Sg.wipe1 (rs := rs) (σ := σ) (H := H) (i := i) h
  | [], _ :: _, _, _, h => h.elim
  | some _ :: _, [], _, _, h => h.elim
  | none :: _, [], _, _, h => h.elim
theorem Sg.wipe {rs : Rs} {σ : St} {H : Hp} : ∀ {vs : List Nat}, Sg rs σ H → Sg (wipeR rs vs) (L2.wipe σ vs) H
  | [], h => h
  | _ :: vs, h => (Sg.wipe (vs := vs) h).wipe1
/-- what is made so far -/
def takes (f : Nat → Rep) (b : Nat → Bool) (i : Nat) : List Rep := ((List.range i).filter b).map f
theorem takes_yes {f : Nat → Rep} {b : Nat → Bool} {i : Nat} (h : b i = true) : takes f b (i + 1) = takes f b i ++ [f i] := by
  unfold takes
  rw [List.range_succ, List.filter_append, List.map_append, List.filter_cons, if_pos h] <;> rfl
theorem takes_no {f : Nat → Rep} {b : Nat → Bool} {i : Nat} (h : b i = false) : takes f b (i + 1) = takes f b i := by
  unfold takes
  rw [List.range_succ, List.filter_append, List.map_append, List.filter_cons, if_neg (by rw [h]; decide)]
  show _ ++ [] = _
  rw [List.append_nil]
theorem takes_len (f : Nat → Rep) (b : Nat → Bool) (i : Nat) : (takes f b i).length ≤ i := by
  unfold takes
  rw [List.length_map]
  have h := List.length_filter_le b (List.range i)
  rw [List.length_range] at h
  exact h
theorem takes_all (f : Nat → Rep) (n : Nat) : takes f (fun _ => true) n = (List.range n).map f := by
  unfold takes
  rw [List.filter_eq_self.mpr fun _ _ => rfl]
/-- a target that stores to the block's own slots alone -/
structure OwnG (K : PySem.W.Frag) (g : TG) (vs : List Nat) (rs1 : Rs) (r : Rep) (Ms : Rs) : Prop where
  run : ∀ (v : V) (σ : St) (H G : Hp), Sg rs1 (L2.wipe σ vs) G → Ex G H → r.p v G → ∀ Q : St → Hp → Prop, (∀ σ2, L2.wipe σ2 vs = L2.wipe σ vs → Sg Ms σ2 G → Q σ2 H) → g v (L2.wipe σ vs) H Q
theorem own_name {K : PySem.W.Frag} {j : Nat} {rs1 : Rs} {r : Rep} : OwnG K (gName j) [j] rs1 r (rs1.set j (some r)) := ⟨fun v σ H G g _ p Q q => q _ (by show ((σ.set j none).set j (some v)).set j none = σ.set j none; rw [List.set_set, List.set_set]) (g.set p)⟩
theorem own_pair {K : PySem.W.Frag} {i j : Nat} {rs1 : Rs} {r1 r2 : Rep} (hij : i ≠ j) : OwnG K (gTup K 2 (gCons (gName i) (gCons (gName j) gNil))) [i, j] rs1 (rTup K [r1, r2]) ((rs1.set i (some r1)).set j (some r2)) := by
  refine ⟨fun v σ H G g e p Q q => ?_⟩
  obtain ⟨a, xs, rfl, hs, hr⟩ := p
  obtain ⟨x, y, rfl, h1, h2⟩ := reps2 hr
  refine ⟨a, [x, y], rfl, sqT_mono e hs, rfl, x, [y], rfl, y, [], rfl, rfl, q _ ?_ ((g.set h1).set h2)⟩
  show (((((σ.set j none).set i none).set i (some x)).set j (some y)).set j none).set i none = (σ.set j none).set i none
  refine List.ext_getElem? fun m => ?_
  simp only [List.getElem?_set, List.length_set]
  by_cases h1 : i = m <;> by_cases h2 : j = m <;> simp [h1, h2]
theorem own_pair' {K : PySem.W.Frag} {i j : Nat} {rs1 : Rs} {r1 r2 : Rep} (hij : i ≠ j) : OwnG K (gTup K 2 (gCons (gName i) (gCons (gName j) gNil))) [j, i] rs1 (rTup K [r1, r2]) ((rs1.set i (some r1)).set j (some r2)) := by
  refine ⟨fun v σ H G g e p Q q => ?_⟩
  obtain ⟨a, xs, rfl, hs, hr⟩ := p
  obtain ⟨x, y, rfl, h1, h2⟩ := reps2 hr
  refine ⟨a, [x, y], rfl, sqT_mono e hs, rfl, x, [y], rfl, y, [], rfl, rfl, q _ ?_ ((g.set h1).set h2)⟩
  show (((((σ.set i none).set j none).set i (some x)).set j (some y)).set i none).set j none = (σ.set i none).set j none
  refine List.ext_getElem? fun m => ?_
  simp only [List.getElem?_set, List.length_set]
  by_cases h1 : i = m <;> by_cases h2 : j = m <;> simp [h1, h2]
section
variable {X : Cx} {W : World} {rs : Rs} {a b e tg it : Expr} {r ra rb rc : Rep} {pos : Pos} {O : Outs} {n : Nat} {item : Nat → Rep}
theorem lc_read {ifs : List Expr} {vs : List Nat} {g : TG} (f : Nat → Rep) (c : Nat → Bool) (Ms : Nat → Rs) (hn : n ≤ 1000) (hown : ∀ i, i < n → OwnG X.K g vs (wipeR rs vs) (item i) (Ms i)) {σ : St} {H : Hp} {Q : VK} (h : tW W rs (rLst (takes f c n)) σ H Q) :
    tLc (iW W rs n item) g (fun σ H Q => ∃ D o i, i < n ∧ tWT (W.hold D o) (Ms i) (c i) σ H Q) (fun σ H Q => ∃ D o i, i < n ∧ c i = true ∧ tW (W.hold D o) (Ms i) (f i) σ H Q) vs σ H Q := by
  obtain ⟨k, g0, q⟩ := h
  refine ⟨k, g0, ?_⟩
  intro J G Y H1 w k1 e1 hGk hY D hD
  have nd : ¬ W.hd D := World.free k1 hD
  have vD : W.vis H1 D = none := World.visNone hD
  refine lc_it (D := D) (g := g) (tt := fun σ H Q => ∃ D o i, i < n ∧ tWT (W.hold D o) (Ms i) (c i) σ H Q) (te := fun σ H Q => ∃ D o i, i < n ∧ c i = true ∧ tW (W.hold D o) (Ms i) (f i) σ H Q) (vs := vs) (Qd := fun H => Q (.ref D) H) w
    (fun i H' => W.ok H' ∧ Ex (W.vis H1) (W.vis H') ∧ ∃ acc, H' D = some (.lst acc) ∧ Reps (takes f c i) acc ((W.hold D (.lst [])).vis H')) ?_ ?_ ?_ ?_
  · exact ⟨World.okNew k1 hD, World.visEx k1 (Ex.new hD), [], upd_same, trivial⟩
  · intro i H' _ p
    exact hGk H' p.1 p.2.1
  · rintro i x H' H'' hi' ⟨k', e', acc, hDa, hR⟩ hy
    have kW : (W.hold D (.lst acc)).ok H' := ⟨k', nd, hDa⟩
    have eG : Ex (W.vis H1) ((W.hold D (.lst acc)).vis H') := hold_of vD e'
    have hR : Reps (takes f c i) acc ((W.hold D (.lst acc)).vis H') := by rw [hold_any (o' := .lst [])]; exact hR
    obtain ⟨k2, e2, p2⟩ : (W.hold D (.lst acc)).ok H'' ∧ Ex ((W.hold D (.lst acc)).vis H') ((W.hold D (.lst acc)).vis H'') ∧ (item i).p x ((W.hold D (.lst acc)).vis H'') := by
      rcases hY i x H' H'' hi' hy with ⟨rfl, hp2⟩ | ⟨T, o, hT, rfl, hp2⟩
      · exact ⟨kW, Ex.refl _, hp2 _ eG (World.sub _ _)⟩
      · exact ⟨World.okNew kW hT, World.visEx kW (Ex.new hT), by rw [World.visNew kW hT]; exact hp2 _ eG (World.sub _ _)⟩
    refine (hown i hi').run x σ H'' _ ((g0.mono (e1.trans (eG.trans e2))).wipe) (World.sub _ _) p2 _ fun σ2 hw g2 => ⟨hw, D, .lst acc, i, hi', k2, g2, fun H3 k3 e3 => ?_⟩
    cases hcI : c i with
    | true =>
      refine iteT ⟨D, .lst acc, i, hi', hcI, k3, g2.mono e3, fun y H4 k4 e4 p4 => ⟨acc, k4.2.2, small1000 ?_, ?_, ?_, acc ++ [y], upd_same, ?_⟩⟩
      · rw [← hR.len]
        have := takes_len f c i
        omega
      · exact W.keep k4.1 fun a z => upd_ne (fun q => nd (q ▸ z))
      · refine (eG.trans (((e2.trans e3).trans e4).trans ?_))
        rw [← hold_upd (o := .lst []) (u := .lst (acc ++ [y]))]
        exact hold_sub
      · rw [takes_yes hcI, hold_upd (o' := .lst acc)]
        exact (hR.mono ((e2.trans e3).trans e4)).snoc p4
    | false =>
      refine iteF ⟨k3.1, eG.trans ((e2.trans e3).trans hold_sub), acc, k3.2.2, ?_⟩
      rw [takes_no hcI, hold_any (o' := .lst acc)]
      exact hR.mono (e2.trans e3)
  · rintro H' ⟨k', e', acc, hDa, hR⟩
    exact q _ H' k' (e1.trans e') ⟨D, acc, rfl, by rw [World.seen nd]; exact hDa, hR.mono hold_sub⟩
theorem ew_lc {elt : Expr} {ifs : List Expr} {scope : Scope} {own : List (Str × Nat)} {g : TG} (f : Nat → Rep) (c : Nat → Bool) (Ms : Nat → Rs) (hc : X.calm = true) (hN : X.N.Nodup) (hi : Iw X W rs tg it n item) (ok : BlkOk X.N X.env.scope scope own) (hn : n ≤ 1000)
    (hg : ∀ (s : Shared) (H : Hp) (C : Addr) (cl : List (Str × Addr)) (fp : List Addr), PG (X.blk s H scope (compEnvC scope cl C X.env) fp) tg g)
    (hown : ∀ i, i < n → OwnG X.K g (own.map (·.2)) (wipeR rs (own.map (·.2))) (item i) (Ms i))
    (ht : ∀ (s : Shared) (H : Hp) (C : Addr) (cl : List (Str × Addr)) (fp : List Addr) (D : Addr) (o : HO) (i : Nat), i < n → PTs (X.blk s H scope (compEnvC scope cl C X.env) fp) ifs (tWT (W.hold D o) (Ms i) (c i)))
    (he : ∀ (s : Shared) (H : Hp) (C : Addr) (cl : List (Str × Addr)) (fp : List Addr) (D : Addr) (o : HO) (i : Nat), i < n → c i = true → Ew (X.blk s H scope (compEnvC scope cl C X.env) fp) (W.hold D o) (Ms i) elt (f i))
    (hs : ∀ x, foldedSetIterable it X.env x = pure x := by intro _; rfl) : Ew X W rs (.ListComp elt [⟨tg, it, ifs, 0⟩] scope pos) (rLst (takes f c n)) :=
  pe_cs (pe_lc hc hN hi ok hg (tt := fun σ H Q => ∃ D o i, i < n ∧ tWT (W.hold D o) (Ms i) (c i) σ H Q) (fun s H C cl fp => ⟨fun pins s' σ H' Q I ⟨D, o, i, hi, q⟩ => (ht s H C cl fp D o i hi).run pins s' σ H' Q I q⟩)
    (te := fun σ H Q => ∃ D o i, i < n ∧ c i = true ∧ tW (W.hold D o) (Ms i) (f i) σ H Q) (fun s H C cl fp => ⟨fun pins s' σ H' Q I ⟨D, o, i, hi, hci, q⟩ => (he s H C cl fp D o i hi hci).run pins s' σ H' Q I q⟩) hs) fun σ H Q h => lc_read (ifs := ifs) f c Ms hn hown h
/-- y = [..] -/
theorem sw_lc (j : Nat) {y : Str} {py spos : Pos} {elt : Expr} {ifs : List Expr} {scope : Scope} {own : List (Str × Nat)} {g : TG} (f : Nat → Rep) (c : Nat → Bool) (Ms : Nat → Rs) (hc : X.calm = true) (hN : X.N.Nodup) (hi : Iw X W rs tg it n item) (ok : BlkOk X.N X.env.scope scope own) (hn : n ≤ 1000)
    (hy : X.N[j]? = some y) (hyl : X.env.scope.names.lookup y = some .local) (hsw : swapsWith (.ListComp elt [⟨tg, it, ifs, 0⟩] scope pos) (some (.Name y py)) spos.line X.env = pure true)
    (hg : ∀ (s : Shared) (H : Hp) (C : Addr) (cl : List (Str × Addr)) (fp : List Addr), PG (X.blk s H scope (compEnvC scope cl C X.env) fp) tg g)
    (hown : ∀ i, i < n → OwnG X.K g (own.map (·.2)) (wipeR rs (own.map (·.2))) (item i) (Ms i))
    (ht : ∀ (s : Shared) (H : Hp) (C : Addr) (cl : List (Str × Addr)) (fp : List Addr) (D : Addr) (o : HO) (i : Nat), i < n → PTs (X.blk s H scope (compEnvC scope cl C X.env) fp) ifs (tWT (W.hold D o) (Ms i) (c i)))
    (he : ∀ (s : Shared) (H : Hp) (C : Addr) (cl : List (Str × Addr)) (fp : List Addr) (D : Addr) (o : HO) (i : Nat), i < n → c i = true → Ew (X.blk s H scope (compEnvC scope cl C X.env) fp) (W.hold D o) (Ms i) elt (f i))
    (hs : ∀ x, foldedSetIterable it X.env x = pure x := by intro _; rfl) : Sw X W rs (.Assign [.Name y py] (.ListComp elt [⟨tg, it, ifs, 0⟩] scope pos) spos) (O.to (rs.set j (some (rLst (takes f c n))))) :=
  ps_cs (ps_setLc hc hN hy hyl hsw hi ok hg (tt := fun σ H Q => ∃ D o i, i < n ∧ tWT (W.hold D o) (Ms i) (c i) σ H Q) (fun s H C cl fp => ⟨fun pins s' σ H' Q I ⟨D, o, i, hi, q⟩ => (ht s H C cl fp D o i hi).run pins s' σ H' Q I q⟩)
    (te := fun σ H Q => ∃ D o i, i < n ∧ c i = true ∧ tW (W.hold D o) (Ms i) (f i) σ H Q) (fun s H C cl fp => ⟨fun pins s' σ H' Q I ⟨D, o, i, hi, hci, q⟩ => (he s H C cl fp D o i hi hci).run pins s' σ H' Q I q⟩) hs) fun D σ H ⟨k, g, r, nx, _⟩ =>
    lc_read (ifs := ifs) f c Ms hn hown ⟨k, g, fun v H' k' e' p' => nx _ rfl _ H' k' e' ((g.mono e').set p')⟩
theorem pts_yes : PTs X [] (tWT W rs true) := ⟨fun pins s σ H Q I ⟨k, g, q⟩ => pts_nil.run pins s σ H Q I (q H k (Ex.refl _))⟩
theorem pts_w {c : Bool} (h : Tw X W rs e c) : PTs X [e] (tWT W rs c) := pts_one h
end
end Py
namespace Py
open PySem L2
section
variable {X : Cx} {W : World} {rs : Rs} {a b c e o tg it : Expr} {r ra rb rc : Rep} {pos p apos : Pos} {O : Outs} {n : Nat}
/-! ### operations on plain data -/
theorem r2_I0 {g : Int → Int → V} {i j : Int} {d : PyData} (hd : ∀ H, Dp X.K H (g i j) d) : R2w W (rI0 g) (rD X.K (.int i)) (rD X.K (.int j)) (rD X.K d) := fun x y H k p q Q h => ⟨i, j, rD_int.mp p, rD_int.mp q, h _ H k (Ex.refl _) (hd _)⟩
theorem r2_I {C : Int → Int → Prop} {g : Int → Int → V} {i j : Int} {d : PyData} (hc : C i j) (hd : ∀ H, Dp X.K H (g i j) d) : R2w W (rI C g) (rD X.K (.int i)) (rD X.K (.int j)) (rD X.K d) := fun x y H k p q Q h => ⟨i, j, rD_int.mp p, rD_int.mp q, hc, h _ H k (Ex.refl _) (hd _)⟩
theorem r2_eqD {d d' : PyData} (h1 : SeqAt.shaped d = true) (h2 : SeqAt.shaped d' = true) : R2w W (rEqD X.K) (rD X.K d) (rD X.K d') (rD X.K (.bool (PyData.eqv d d'))) := fun x y H k p q Q h =>
  ⟨d, d', dp_mono (W.sub H) p, dp_mono (W.sub H) q, h1, h2, h _ H k (Ex.refl _) (Dp.bl _)⟩
theorem r2_neD {d d' : PyData} (h1 : SeqAt.shaped d = true) (h2 : SeqAt.shaped d' = true) : R2w W (rNeD X.K) (rD X.K d) (rD X.K d') (rD X.K (.bool (!PyData.eqv d d'))) := fun x y H k p q Q h =>
  ⟨d, d', dp_mono (W.sub H) p, dp_mono (W.sub H) q, h1, h2, h _ H k (Ex.refl _) (Dp.bl _)⟩
theorem r2_inD {d : PyData} {ds : List PyData} (h1 : SeqAt.shaped d = true) (h2 : SeqAt.shaped (.list ds) = true) : R2w W (rInD X.K) (rD X.K d) (rD X.K (.list ds)) (rD X.K (.bool (ds.any fun z => PyData.eqv z d))) := fun x y H k p q Q h =>
  ⟨d, ds, dp_mono (W.sub H) p, dp_mono (W.sub H) q, h1, h2, h _ H k (Ex.refl _) (Dp.bl _)⟩
theorem r2_notInD {d : PyData} {ds : List PyData} (h1 : SeqAt.shaped d = true) (h2 : SeqAt.shaped (.list ds) = true) : R2w W (rNotInD X.K) (rD X.K d) (rD X.K (.list ds)) (rD X.K (.bool (!ds.any fun z => PyData.eqv z d))) := fun x y H k p q Q h =>
  ⟨d, ds, dp_mono (W.sub H) p, dp_mono (W.sub H) q, h1, h2, h _ H k (Ex.refl _) (Dp.bl _)⟩
/-- .. from letters by their slots' data, the letter given by its value -/
theorem ew_add {i j : Int} (ha : Ew X W rs a (rD X.K (.int i))) (hb : Ew X W rs b (rD X.K (.int j))) : Ew X W rs (.BinOp a .Add b pos) (rD X.K (.int (i + j))) := ew_op op_add ha hb (r2_I0 fun _ => Dp.int _)
theorem ew_subI {i j : Int} (ha : Ew X W rs a (rD X.K (.int i))) (hb : Ew X W rs b (rD X.K (.int j))) : Ew X W rs (.BinOp a .Sub b pos) (rD X.K (.int (i - j))) := ew_op op_sub ha hb (r2_I0 fun _ => Dp.int _)
theorem ew_mul {i j : Int} (ha : Ew X W rs a (rD X.K (.int i))) (hb : Ew X W rs b (rD X.K (.int j))) (hc : CMul i j) : Ew X W rs (.BinOp a .Mult b pos) (rD X.K (.int (i * j))) := ew_op op_mul ha hb (r2_I hc fun _ => Dp.int _)
theorem ew_mod {i j : Int} (ha : Ew X W rs a (rD X.K (.int i))) (hb : Ew X W rs b (rD X.K (.int j))) (hj : 0 < j) : Ew X W rs (.BinOp a .Mod b pos) (rD X.K (.int (i % j))) := ew_op op_mod ha hb (r2_I hj fun _ => Dp.int _)
theorem ew_fdiv {i j : Int} (ha : Ew X W rs a (rD X.K (.int i))) (hb : Ew X W rs b (rD X.K (.int j))) (hc : CDiv i j) : Ew X W rs (.BinOp a .FloorDiv b pos) (rD X.K (.int (i / j))) := ew_op op_fdiv ha hb (r2_I hc fun _ => Dp.int _)
theorem ew_fdivW {i j : Int} (ha : Ew X W rs a (rD X.K (.int i))) (hb : Ew X W rs b (rD X.K (.int j))) (hc : CDivW i j) : Ew X W rs (.BinOp a .FloorDiv b pos) (rD X.K (.int (i / j))) := ew_op op_fdivW ha hb (r2_I hc fun _ => Dp.int _)
theorem ew_pow {i j : Int} (ha : Ew X W rs a (rD X.K (.int i))) (hb : Ew X W rs b (rD X.K (.int j))) (hc : CPow i j) : Ew X W rs (.BinOp a .Pow b pos) (rD X.K (.int (i ^ j.toNat))) := ew_op op_pow ha hb (r2_I hc fun _ => Dp.int _)
theorem ew_lt {i j : Int} (ha : Ew X W rs a (rD X.K (.int i))) (hb : Ew X W rs b (rD X.K (.int j))) : Ew X W rs (.Compare a [.Lt] [b] pos) (rD X.K (.bool (decide (i < j)))) := ew_cmp op_lt ha hb (r2_I0 fun _ => Dp.bl _) (nomark _)
theorem ew_le {i j : Int} (ha : Ew X W rs a (rD X.K (.int i))) (hb : Ew X W rs b (rD X.K (.int j))) : Ew X W rs (.Compare a [.LtE] [b] pos) (rD X.K (.bool (decide (i ≤ j)))) := ew_cmp op_le ha hb (r2_I0 fun _ => Dp.bl _) (nomark _)
theorem ew_gt {i j : Int} (ha : Ew X W rs a (rD X.K (.int i))) (hb : Ew X W rs b (rD X.K (.int j))) : Ew X W rs (.Compare a [.Gt] [b] pos) (rD X.K (.bool (decide (j < i)))) := ew_cmp op_gt ha hb (r2_I0 fun _ => Dp.bl _) (nomark _)
theorem ew_ge {i j : Int} (ha : Ew X W rs a (rD X.K (.int i))) (hb : Ew X W rs b (rD X.K (.int j))) : Ew X W rs (.Compare a [.GtE] [b] pos) (rD X.K (.bool (decide (j ≤ i)))) := ew_cmp op_ge ha hb (r2_I0 fun _ => Dp.bl _) (nomark _)
theorem ew_eqD {d d' : PyData} (hu : X.A.units + 64 < cLine) (ha : Ew X W rs a (rD X.K d)) (hb : Ew X W rs b (rD X.K d')) (h1 : SeqAt.shaped d = true) (h2 : SeqAt.shaped d' = true) : Ew X W rs (.Compare a [.Eq] [b] pos) (rD X.K (.bool (PyData.eqv d d'))) := ew_cmp (op_eqD hu) ha hb (r2_eqD h1 h2) (nomark _)
theorem ew_neD {d d' : PyData} (hu : X.A.units + 64 < cLine) (ha : Ew X W rs a (rD X.K d)) (hb : Ew X W rs b (rD X.K d')) (h1 : SeqAt.shaped d = true) (h2 : SeqAt.shaped d' = true) : Ew X W rs (.Compare a [.NotEq] [b] pos) (rD X.K (.bool (!PyData.eqv d d'))) := ew_cmp (op_neD hu) ha hb (r2_neD h1 h2) (nomark _)
theorem tw_lt {i j : Int} (ha : Ew X W rs a (rD X.K (.int i))) (hb : Ew X W rs b (rD X.K (.int j))) : Tw X W rs (.Compare a [.Lt] [b] pos) (decide (i < j)) := tw_cmp op_lt ha hb (r2_I0 fun _ => Dp.bl _) (nomark _)
theorem tw_le {i j : Int} (ha : Ew X W rs a (rD X.K (.int i))) (hb : Ew X W rs b (rD X.K (.int j))) : Tw X W rs (.Compare a [.LtE] [b] pos) (decide (i ≤ j)) := tw_cmp op_le ha hb (r2_I0 fun _ => Dp.bl _) (nomark _)
theorem tw_gt {i j : Int} (ha : Ew X W rs a (rD X.K (.int i))) (hb : Ew X W rs b (rD X.K (.int j))) : Tw X W rs (.Compare a [.Gt] [b] pos) (decide (j < i)) := tw_cmp op_gt ha hb (r2_I0 fun _ => Dp.bl _) (nomark _)
theorem tw_ge {i j : Int} (ha : Ew X W rs a (rD X.K (.int i))) (hb : Ew X W rs b (rD X.K (.int j))) : Tw X W rs (.Compare a [.GtE] [b] pos) (decide (j ≤ i)) := tw_cmp op_ge ha hb (r2_I0 fun _ => Dp.bl _) (nomark _)
theorem tw_eqD {d d' : PyData} (hu : X.A.units + 64 < cLine) (ha : Ew X W rs a (rD X.K d)) (hb : Ew X W rs b (rD X.K d')) (h1 : SeqAt.shaped d = true) (h2 : SeqAt.shaped d' = true) : Tw X W rs (.Compare a [.Eq] [b] pos) (PyData.eqv d d') := tw_cmp (op_eqD hu) ha hb (r2_eqD h1 h2) (nomark _)
theorem tw_neD {d d' : PyData} (hu : X.A.units + 64 < cLine) (ha : Ew X W rs a (rD X.K d)) (hb : Ew X W rs b (rD X.K d')) (h1 : SeqAt.shaped d = true) (h2 : SeqAt.shaped d' = true) : Tw X W rs (.Compare a [.NotEq] [b] pos) (!PyData.eqv d d') := tw_cmp (op_neD hu) ha hb (r2_neD h1 h2) (nomark _)
/-- a < b < c -/
theorem ew_chain {op op' : CmpOp} {f f' : R2} {u v : Bool} (ho : OpR X (compareOp op) f) (ho' : OpR X (compareOp op') f') (ha : Ew X W rs a ra) (hb : Ew X W rs b rb) (hc : Ew X W rs c rc) (hf : R2w W f ra rb (rD X.K (.bool u))) (hf' : u = true → R2w W f' rb rc (rD X.K (.bool v)))
    (hm : lastMarks [op, op'] [b, c] = false := by with_unfolding_all rfl) : Ew X W rs (.Compare a [op, op'] [b, c] pos) (rD X.K (.bool (u && v))) := by
  refine pe_cs (pe_chain ho ho' ha hb hc hm) ?_
  rintro σ H Q ⟨k, g, q⟩
  refine ⟨k, g, fun x H1 k1 e1 p1 => ⟨k1, g.mono e1, fun y H2 k2 e2 p2 => ?_⟩⟩
  refine hf x y H2 k2 (ra.mono e2 p1) p2 _ fun z H3 k3 e3 p3 => ⟨u, rD_bl.mp p3, ?_⟩
  cases u with
  | true => exact iteT ⟨k3, g.mono ((e1.trans e2).trans e3), fun w H4 k4 e4 p4 => hf' rfl y w H4 k4 (rb.mono (e3.trans e4) p2) p4 Q fun v' H5 k5 e5 p5 => q v' H5 k5 ((((e1.trans e2).trans e3).trans e4).trans e5) p5⟩
  | false => exact iteF (q _ H3 k3 ((e1.trans e2).trans e3) (Dp.bl false))
theorem tw_chain {op op' : CmpOp} {f f' : R2} {u v : Bool} (ho : OpR X (compareOp op) f) (ho' : OpR X (compareOp op') f') (ha : Ew X W rs a ra) (hb : Ew X W rs b rb) (hc : Ew X W rs c rc) (hf : R2w W f ra rb (rD X.K (.bool u))) (hf' : u = true → R2w W f' rb rc (rD X.K (.bool v)))
    (hm : lastMarks [op, op'] [b, c] = false := by with_unfolding_all rfl) : Tw X W rs (.Compare a [op, op'] [b, c] pos) (u && v) := by
  refine pt_cs (pt_chain ho ho' ha hb hc hm) ?_
  rintro σ H Q ⟨k, g, q⟩
  refine ⟨k, g, fun x H1 k1 e1 p1 => ⟨k1, g.mono e1, fun y H2 k2 e2 p2 => ?_⟩⟩
  refine hf x y H2 k2 (ra.mono e2 p1) p2 _ fun z H3 k3 e3 p3 => ⟨u, rD_bl.mp p3, ?_⟩
  cases u with
  | true => exact iteT ⟨k3, g.mono ((e1.trans e2).trans e3), fun w H4 k4 e4 p4 => hf' rfl y w H4 k4 (rb.mono (e3.trans e4) p2) p4 _ fun v' H5 k5 e5 p5 => ⟨_, rD_bl.mp p5, q H5 k5 ((((e1.trans e2).trans e3).trans e4).trans e5)⟩⟩
  | false => exact iteF ⟨_, rfl, q H3 k3 ((e1.trans e2).trans e3)⟩
/-! ### items -/
theorem at_nat {xs : List V} {i : Nat} {x : V} {z : Int} (hz : z = (i : Int)) (h : xs[i]? = some x) : atI xs z = some x := hz ▸ atI_nat h
theorem r2_ixT {rl : List Rep} {z : Int} {i : Nat} (hz : z = (i : Int)) (hr : rl[i]? = some r) : R2w W (rIxT X.K) (rTup X.K rl) (rD X.K (.int z)) r := fun x y H k ⟨p, xs, ex, hs, h⟩ q Q n => by
  obtain ⟨v, hv, pv⟩ := h.get hr
  exact ⟨p, xs, z, v, ex, rD_int.mp q, sqT_mono (W.sub H) hs, at_nat hz hv, n v H k (Ex.refl _) pv⟩
theorem r2_ixL {rl : List Rep} {z : Int} {i : Nat} (hz : z = (i : Int)) (hr : rl[i]? = some r) : R2w W (rIxL X.K) (rSeq X.K rl) (rD X.K (.int z)) r := fun x y H k ⟨p, xs, ex, hs, h⟩ q Q n => by
  obtain ⟨v, hv, pv⟩ := h.get hr
  exact ⟨p, xs, z, v, ex, rD_int.mp q, sqL_mono (W.sub H) hs, at_nat hz hv, n v H k (Ex.refl _) pv⟩
theorem ew_ix {f : R2} (hf : IxR X f) (ha : Ew X W rs a ra) (hb : Ew X W rs b rb) (h : R2w W f ra rb rc) (hs : PlainIx b) : Ew X W rs (.Subscript a b pos) rc := pe_cs (pe_ix hf ha hb hs) fun _ _ _ q => two ha hb h q
theorem ew_ixT {rl : List Rep} {z : Int} (i : Nat) (ha : Ew X W rs a (rTup X.K rl)) (hb : Ew X W rs b (rD X.K (.int z))) (hz : z = (i : Int)) (hr : rl[i]? = some r) (hs : PlainIx b) : Ew X W rs (.Subscript a b pos) r := ew_ix ix_tup ha hb (r2_ixT hz hr) hs
theorem ew_ixL {rl : List Rep} {z : Int} (i : Nat) (ha : Ew X W rs a (rSeq X.K rl)) (hb : Ew X W rs b (rD X.K (.int z))) (hz : z = (i : Int)) (hr : rl[i]? = some r) (hs : PlainIx b) : Ew X W rs (.Subscript a b pos) r := ew_ix ix_list ha hb (r2_ixL hz hr) hs
theorem ew_ixTD {ds : List PyData} {d : PyData} {z : Int} (i : Nat) (ha : Ew X W rs a (rD X.K (.tuple ds))) (hb : Ew X W rs b (rD X.K (.int z))) (hz : z = (i : Int)) (hr : ds[i]? = some d) (hs : PlainIx b) : Ew X W rs (.Subscript a b pos) (rD X.K d) :=
  ew_ixT i (ew_sub ha fun _ _ p => rD_tup.mp p) hb hz (by rw [List.getElem?_map, hr]; rfl) hs
theorem ew_ixLD {ds : List PyData} {d : PyData} {z : Int} (i : Nat) (ha : Ew X W rs a (rD X.K (.list ds))) (hb : Ew X W rs b (rD X.K (.int z))) (hz : z = (i : Int)) (hr : ds[i]? = some d) (hs : PlainIx b) : Ew X W rs (.Subscript a b pos) (rD X.K d) :=
  ew_ixL i (ew_sub ha fun _ _ p => rD_lst.mp p) hb hz (by rw [List.getElem?_map, hr]; rfl) hs
/-! ### promises -/
/-- called with such values in a world, it hands back such a value, and only makes objects there -/
def spW {α : Type} (pre : World → α → Prop) (args : α → List Rep) (res : α → Rep) : Sp := fun vs H Q _ => ∃ (W : World) (z : α), pre W z ∧ W.ok H ∧ Reps (args z) vs (W.vis H) ∧ ∀ v H', W.ok H' → Ex (W.vis H) (W.vis H') → (res z).p v (W.vis H') → Q v H'
/-- an __init__: the new instance's fields -/
def spI {α : Type} (C : Addr) (pre : α → Prop) (args : α → List Rep) (fs : α → List (Str × Rep)) : Sp := fun vs H Q _ => ∃ (W : World) (z : α) (x dx : Addr) (ws : List V), vs = .ref x :: ws ∧ pre z ∧ (W.hold x (.ins C dx [])).ok H ∧ Reps (args z) ws ((W.hold x (.ins C dx [])).vis H) ∧
  ∀ gs H', (W.hold x (.ins C dx gs)).ok H' → Ex ((W.hold x (.ins C dx [])).vis H) ((W.hold x (.ins C dx gs)).vis H') → Flds (fs z) gs ((W.hold x (.ins C dx gs)).vis H') → Q .non H'
abbrev FnC (X : Cx) (k : Nat) (f : Addr) (sp : Sp) : Prop := FnR X.prog X.w X.K X.mg X.base CX0 k f sp
/-- f(e, ..) -/
theorem pe_callR {k : Nat} {f : Addr} {sp : Sp} {x : Str} {es : List Expr} {t : TA} (F : FnC X k f sp) (hr : Room k X.A) (hk : PySem.W.keepIn X.K (.ref f) = true) (hg : Gl X x) (hm : X.mg x = some (.ref f)) (ha : PA X (e :: es) t) (hdb : (x == ("__debug__" : Str)) = false := by decide)
    (he : starEach (e :: es) X.env = (false, eval e X.env) :: starEach es X.env := by rfl) (hpl : (backTo pos (starEach es X.env)).any (·.1) = false := by rfl) : PE X (.Call (.Name x p) (e :: es) [] pos) (fun σ H Q => t σ H fun vs H1 => sp vs H1 Q E0) := by
  refine ⟨fun pins s σ H Q I h => ?_⟩
  refine wpAny_Call_Name_kw (ld_glob I hg hm ?_ hdb)
  refine PySem.W.callWith_K (h₀ := X.base) I.ok.mod.kin hk (thn (ha.run pos pins s σ H _ I h) fun us s1 ⟨vs, H1, I1, r, q⟩ => ⟨I1.kIn, ?_⟩) he hpl
  exact wpAny_call (run_fnR F hr pass0 I1 r q)
theorem ew_call {k : Nat} {f : Addr} {x : Str} {es : List Expr} {α : Type} {pre : World → α → Prop} {args : α → List Rep} {res : α → Rep} (z : α) (F : FnC X k f (spW pre args res)) (hr : Room k X.A) (hk : PySem.W.keepIn X.K (.ref f) = true) (hg : Gl X x) (hm : X.mg x = some (.ref f))
    (ha : Aw X W rs (e :: es) (args z)) (hp : pre W z) (hdb : (x == ("__debug__" : Str)) = false := by decide) (he : starEach (e :: es) X.env = (false, eval e X.env) :: starEach es X.env := by rfl) (hpl : (backTo pos (starEach es X.env)).any (·.1) = false := by rfl) :
    Ew X W rs (.Call (.Name x p) (e :: es) [] pos) (res z) :=
  pe_cs (pe_callR F hr hk hg hm ha hdb he hpl) fun σ H Q ⟨k, g, q⟩ => ⟨k, g, fun vs H1 k1 e1 p1 => ⟨W, z, hp, k1, p1, fun v H2 k2 e2 p2 => q v H2 k2 (e1.trans e2) p2⟩⟩
/-- C(e, ..) -/
theorem ew_make {k : Nat} {f C : Addr} {x : Str} {es : List Expr} {α : Type} {pre : α → Prop} {args : α → List Rep} {fs : α → List (Str × Rep)} (z : α) (M : Mk X.K C f) (F : FnC X k f (spI C pre args fs)) (hr : Room (k + 1) X.A) (hg : Gl X x) (hm : X.mg x = some (.ref C))
    (ha : Aw X W rs (e :: es) (args z)) (hp : pre z) (hdb : (x == ("__debug__" : Str)) = false := by decide) (he : starEach (e :: es) X.env = (false, eval e X.env) :: starEach es X.env := by rfl) (hpl : (backTo pos (starEach es X.env)).any (·.1) = false := by rfl) :
    Ew X W rs (.Call (.Name x p) (e :: es) [] pos) (rIns C (fs z)) := by
  refine pe_cs (StX.pe_makeR M F hr hg hm pass0 ha hdb he hpl) ?_
  rintro σ H Q ⟨k, g, q⟩
  refine ⟨k, g, fun vs H1 k1 e1 p1 x dx hx hdx hne => ?_⟩
  have hdx2 : (upd H1 dx (.own x)) x = none := by rw [upd_ne (Ne.symm hne)]; exact hx
  have k2 := hold_new (o := .ins C dx []) (World.okNew (o := .own x) k1 hdx) hdx2
  have eh : Ex (W.vis H1) ((W.hold x (.ins C dx [])).vis (upd (upd H1 dx (.own x)) x (.ins C dx []))) := hold_of (World.visNone hx) ((World.visEx k1 (Ex.new hdx)).trans (World.visEx (World.okNew k1 hdx) (Ex.new hdx2)))
  refine ⟨W, z, x, dx, vs, rfl, hp, k2, p1.mono eh, fun gs H' k' e' fl => ⟨rfl, q _ H' k'.1 (e1.trans ((eh.trans e').trans hold_sub)) ⟨x, dx, gs, rfl, hold_seen k', fl.mono hold_sub⟩⟩⟩
/-! ### fields, methods, properties -/
theorem ew_fld {C : Addr} {fs : List (Str × Rep)} {f : Str} (h : Ew X W rs o (rIns C fs)) (hf : fs.lookup f = some r) (c : Cls X.K C) (n : NoAttr X.K C f) (hb : attributeBase o f X.env (eval o X.env) = eval o X.env) : Ew X W rs (.Attribute o f pos) r := by
  refine pe_cs (pe_fld h hb) ?_
  rintro σ H Q ⟨k, g, q⟩
  refine ⟨k, g, ?_⟩
  rintro v H1 k1 e1 ⟨p, dx, gs, ev, hi, fl⟩
  obtain ⟨y, hy, py⟩ := fl.look hf
  exact ⟨p, C, dx, gs, y, ev, W.sub H1 _ _ hi, c, n, hy, q y H1 k1 e1 py⟩
/-- a method that such an object has, with such arguments -/
structure HasM (X : Cx) (W : World) (ro : Rep) (m : Str) (rl : List Rep) (rc : Rep) : Prop where
  go : ∀ (v : V) (H : Hp), W.ok H → ro.p v (W.vis H) → ∃ (a C dx f : Addr) (fs : List (Str × V)) (k : Nat) (sp : Sp), v = .ref a ∧ W.vis H a = some (.ins C dx fs) ∧ fs.lookup m = none ∧ Cls X.K C ∧ Meth X.K C m f ∧ FnC X k f sp ∧ Room (k + 1) X.A ∧
    ∀ (vs : List V) (H1 : Hp), W.ok H1 → Ex (W.vis H) (W.vis H1) → Reps rl vs (W.vis H1) → ∀ Q : VK, (∀ w H', W.ok H' → Ex (W.vis H1) (W.vis H') → rc.p w (W.vis H') → Q w H') → sp (v :: vs) H1 Q E0
theorem hasM {C f : Addr} {fs : List (Str × Rep)} {m : Str} {rl : List Rep} {k : Nat} {α : Type} {pre : World → α → Prop} {args : α → List Rep} {res : α → Rep} (z : α) (c : Cls X.K C) (hm : Meth X.K C m f) (F : FnC X k f (spW pre args res)) (hr : Room (k + 1) X.A) (hp : pre W z) (ha : args z = rIns C fs :: rl)
    (hl : fs.lookup m = none) (hrc : res z = rc) : HasM X W (rIns C fs) m rl rc := ⟨fun v H kH ⟨p, dx, gs, ev, hi, fl⟩ => ⟨p, C, dx, f, gs, k, _, ev, hi, fl.no hl, c, hm, F, hr, fun vs H1 k1 e1 p1 Q q => ⟨W, z, hp, k1, by rw [ha]; exact ⟨(rIns C fs).mono e1 ⟨p, dx, gs, ev, hi, fl⟩, p1⟩, fun w H' k' e' pw => q w H' k' e' (hrc ▸ pw)⟩⟩⟩
theorem pe_methD {m : Str} {es : List Expr} {ta : TE} {t : TA} {pl : Sem Bool} (he : PE X o ta) (ha : PA X (e :: es) t) (hst : starEach (e :: es) X.env = (false, eval e X.env) :: starEach es X.env) (hpl : (backTo pos (starEach es X.env)).any (·.1) = false)
    (ht : eval (.Call (.Attribute o m apos) (e :: es) [] pos) X.env = (do
      let ov ← eval o X.env
      standAt apos.atName
      let (f, first) ← holding [ov] (getMethod ov m pl)
      callWith pos f first (backTo pos (starEach (e :: es) X.env)) (backToKw pos (keywordEach [] X.env)))) :
    PE X (.Call (.Attribute o m apos) (e :: es) [] pos) (fun σ H Q => ta σ H fun x H1 => ∃ (a C dx f : Addr) (fs : List (Str × V)) (k : Nat) (sp : Sp), x = .ref a ∧ H1 a = some (.ins C dx fs) ∧ fs.lookup m = none ∧ Cls X.K C ∧ Meth X.K C m f ∧ FnC X k f sp ∧ Room k X.A ∧ t σ H1 fun vs H2 => sp (x :: vs) H2 Q E0) := by
  refine ⟨fun pins s σ H Q I h => ?_⟩
  refine PySem.W.methodCall_KW (pl := pl) (thn (he.run pins s σ H _ I h) fun u s1 ⟨x, H1, I1, rx, a, C, dx, f, fs, k, sp, ex, ea, l, c, hm, F, hr, q⟩ => ?_) ht
  subst ex
  obtain rfl : u = Value.ref a := rx
  refine getmeth_ok I1 ea c hm l ?_
  refine PySem.W.callWith_K (first := [.ref a]) (h₀ := X.base) I.ok.mod.kin hm.kp (thn (ha.run pos pins s1 σ H1 _ I1 q) fun us s2 ⟨vs, H2, I2, r, q2⟩ => ⟨I2.kIn, ?_⟩) hst hpl
  exact wpAny_call (run_fnR (us := .ref a :: us) (vs := .ref a :: vs) F hr pass0 I2 (.cons rfl r) q2)
theorem pe_methD0 {m : Str} {ta : TE} {pl : Sem Bool} (he : PE X o ta) (ht : eval (.Call (.Attribute o m apos) [] [] pos) X.env = (do
      let ov ← eval o X.env
      standAt apos.atName
      let (f, first) ← holding [ov] (getMethod ov m pl)
      callWith pos f first (backTo pos (starEach [] X.env)) (backToKw pos (keywordEach [] X.env)))) :
    PE X (.Call (.Attribute o m apos) [] [] pos) (fun σ H Q => ta σ H fun x H1 => ∃ (a C dx f : Addr) (fs : List (Str × V)) (k : Nat) (sp : Sp), x = .ref a ∧ H1 a = some (.ins C dx fs) ∧ fs.lookup m = none ∧ Cls X.K C ∧ Meth X.K C m f ∧ FnC X k f sp ∧ Room k X.A ∧ sp [x] H1 Q E0) := by
  refine ⟨fun pins s σ H Q I h => ?_⟩
  refine PySem.W.methodCall_KW (pl := pl) (thn (he.run pins s σ H _ I h) fun u s1 ⟨x, H1, I1, rx, a, C, dx, f, fs, k, sp, ex, ea, l, c, hm, F, hr, q⟩ => ?_) ht
  subst ex
  obtain rfl : u = Value.ref a := rx
  refine getmeth_ok I1 ea c hm l ?_
  exact PySem.W.callWith_K0 (first := [.ref a]) I1.kIn hm.kp (wpAny_call (run_fnR (us := [.ref a]) (vs := [.ref a]) F hr pass0 I1 (.cons rfl .nil) q))
theorem ew_meth {m : Str} {es : List Expr} {rl : List Rep} {ro : Rep} {pl : Sem Bool} (h : Ew X W rs o ro) (ha : Aw X W rs (e :: es) rl) (hm : HasM X W ro m rl rc) (hst : starEach (e :: es) X.env = (false, eval e X.env) :: starEach es X.env := by rfl) (hpl : (backTo pos (starEach es X.env)).any (·.1) = false := by rfl)
    (ht : eval (.Call (.Attribute o m apos) (e :: es) [] pos) X.env = (do
      let ov ← eval o X.env
      standAt apos.atName
      let (f, first) ← holding [ov] (getMethod ov m pl)
      callWith pos f first (backTo pos (starEach (e :: es) X.env)) (backToKw pos (keywordEach [] X.env))) := by rfl) : Ew X W rs (.Call (.Attribute o m apos) (e :: es) [] pos) rc := by
  refine pe_cs (pe_methD h ha hst hpl ht) ?_
  rintro σ H Q ⟨k, g, q⟩
  refine ⟨k, g, fun v H1 k1 e1 p1 => ?_⟩
  obtain ⟨p, C, dx, f, fs, j, sp, ev, hi, l, c, m', F, hr, go⟩ := hm.go v H1 k1 p1
  exact ⟨p, C, dx, f, fs, j, sp, ev, W.sub H1 _ _ hi, l, c, m', F, hr.mono (Nat.le_succ _), k1, g.mono e1, fun vs H2 k2 e2 p2 => go vs H2 k2 e2 p2 Q fun w H' k' e' pw => q w H' k' ((e1.trans e2).trans e') pw⟩
theorem ew_meth0 {m : Str} {ro : Rep} {pl : Sem Bool} (h : Ew X W rs o ro) (hm : HasM X W ro m [] rc)
    (ht : eval (.Call (.Attribute o m apos) [] [] pos) X.env = (do
      let ov ← eval o X.env
      standAt apos.atName
      let (f, first) ← holding [ov] (getMethod ov m pl)
      callWith pos f first (backTo pos (starEach [] X.env)) (backToKw pos (keywordEach [] X.env))) := by rfl) : Ew X W rs (.Call (.Attribute o m apos) [] [] pos) rc := by
  refine pe_cs (pe_methD0 h ht) ?_
  rintro σ H Q ⟨k, g, q⟩
  refine ⟨k, g, fun v H1 k1 e1 p1 => ?_⟩
  obtain ⟨p, C, dx, f, fs, j, sp, ev, hi, l, c, m', F, hr, go⟩ := hm.go v H1 k1 p1
  exact ⟨p, C, dx, f, fs, j, sp, ev, W.sub H1 _ _ hi, l, c, m', F, hr.mono (Nat.le_succ _), go [] H1 k1 (Ex.refl _) trivial Q fun w H' k' e' pw => q w H' k' (e1.trans e') pw⟩
/-- a property that such an object has -/
structure HasP (X : Cx) (W : World) (ro : Rep) (m : Str) (rc : Rep) : Prop where
  go : ∀ (v : V) (H : Hp), W.ok H → ro.p v (W.vis H) → ∃ (a C dx q f : Addr) (fs : List (Str × V)) (k : Nat) (sp : Sp), v = .ref a ∧ W.vis H a = some (.ins C dx fs) ∧ Cls X.K C ∧ PropOf X.K C m q f ∧ FnC X k f sp ∧ Room (k + 1) X.A ∧
    ∀ Q : VK, (∀ w H', W.ok H' → Ex (W.vis H) (W.vis H') → rc.p w (W.vis H') → Q w H') → sp [v] H Q E0
theorem hasP {C q f : Addr} {fs : List (Str × Rep)} {m : Str} {k : Nat} {α : Type} {pre : World → α → Prop} {args : α → List Rep} {res : α → Rep} (z : α) (c : Cls X.K C) (hm : PropOf X.K C m q f) (F : FnC X k f (spW pre args res)) (hr : Room (k + 1) X.A) (hp : pre W z) (ha : args z = [rIns C fs])
    (hrc : res z = rc) : HasP X W (rIns C fs) m rc := ⟨fun v H kH ⟨p, dx, gs, ev, hi, fl⟩ => ⟨p, C, dx, q, f, gs, k, _, ev, hi, c, hm, F, hr, fun Q n => ⟨W, z, hp, kH, by rw [ha]; exact ⟨⟨p, dx, gs, ev, hi, fl⟩, trivial⟩, fun w H' k' e' pw => n w H' k' e' (hrc ▸ pw)⟩⟩⟩
theorem getpropR {pins : List (Addr × Obj)} {σ : St} {H : Hp} {s : Shared} {Q : VK} {b : Bool} {E' : Value → Shared → Prop} {C q g a dx : Addr} {fs : List (Str × V)} {f : Str} {k : Nat} {sp : Sp} (I : Inv X pins σ H s) (ea : H a = some (.ins C dx fs)) (c : Cls X.K C) (hp : PropOf X.K C f q g)
    (F : FnC X k g sp) (hr : Room (k + 1) X.A) (h : sp [.ref a] H Q E0) : wpAny (model X.prog X.w) X.A (getAttr (.ref a) f b) (EP X pins σ Q) E' s := by
  obtain ⟨mA, O, _, _, _, _⟩ := ins_get I.hok ea
  obtain ⟨od, J, _⟩ := O.look
  obtain ⟨rest, hrec⟩ := hp.rec_
  have I1 := I.tok (s.toks + 1)
  have hc : (PySem.W.clsIn X.K C).isSome = true := by
    obtain ⟨cd, hc, _⟩ := PySem.W.any_some c.hd
    rw [hc]
    rfl
  refine PySem.W.get_bind I.kIn J (PySem.W.plainGet_of (c.get f)).1 (PySem.W.findObj_data hc hp.at_ hp.get hp.tak) (PySem.W.plainGet_of (c.get f)).2 (wpAny_call (PySem.W.prop_get (s := { s with toks := s.toks + 1 }) I.kIn hrec ?_))
  refine codeAny_mono (F X.A.in1 X.stack { s with toks := s.toks + 1 } H [.ref a] [.ref a] Q E0 hr.in1 I1.env0.in1 (.cons rfl .nil) h) fun r s' hq => ?_
  cases r with
  | error er => exact hq.elim
  | ok fl =>
    cases fl with
    | ret u =>
      obtain ⟨v, H', I3, rv, q3⟩ := I1.after hq
      show wpAny _ _ (handedOut u) _ _ _
      rw [PySem.W.handedOut_of (handed_of rv)]
      exact wpAny_pure ⟨v, H', I3, rv, q3⟩
    | next => exact False.elim hq
    | brk => exact False.elim hq
    | cont => exact False.elim hq
theorem ew_prop {m : Str} {ro : Rep} (h : Ew X W rs o ro) (hm : HasP X W ro m rc) (hab : attributeBase o m X.env (eval o X.env) = eval o X.env) : Ew X W rs (.Attribute o m pos) rc := by
  refine ⟨fun pins s σ H Q I q => ?_⟩
  obtain ⟨kH, g, q⟩ := q
  refine attr_of hab (thn (h.run pins s σ H (fun v H1 => W.ok H1 ∧ Ex (W.vis H) (W.vis H1) ∧ ro.p v (W.vis H1)) I ⟨kH, g, fun v H1 k1 e1 p1 => ⟨k1, e1, p1⟩⟩) fun u s1 ⟨x, H1, I1, rx, k1, e1, p1⟩ => ?_)
  obtain ⟨p, C, dx, q', f, fs, j, sp, ev, hi, c, hp, F, hr, go⟩ := hm.go x H1 k1 p1
  subst ev
  obtain rfl : u = Value.ref p := rx
  exact getpropR I1 (W.sub H1 _ _ hi) c hp F hr (go Q fun w H' k' e' pw => q w H' k' (e1.trans e') pw)
end
end Py
namespace Py
open PySem L2
/-! ### own special methods -/
section
variable {X : Cx} {CX : CXT} {pins : List (Addr × Obj)} {σ : St} {H : Hp} {s : Shared} {a C f : Addr} {sp : Sp} {k : Nat}
theorem cmpback {P : Value → Shared → Prop} {z : V} {v : Value} {s' : Shared} (r : RelV z v) (h : P v s') : PySem.W.CmpBack P v s' := by
  cases z with
  | non => cases (show v = Value.none from r); exact h
  | bl b => cases (show v = Value.bool b from r); exact h
  | int i =>
    obtain ⟨t, e⟩ := (show ∃ t, v = Value.int i t from r)
    cases e
    exact h
  | str x =>
    obtain ⟨t, e⟩ := (show ∃ t, v = Value.str x t from r)
    cases e
    exact h
  | byt b =>
    obtain ⟨t, e⟩ := (show ∃ t, v = Value.bytes b t from r)
    cases e
    exact h
  | flt b =>
    obtain ⟨t, e⟩ := (show ∃ t, v = Value.float b t from r)
    cases e
    exact h
  | ref a => cases (show v = Value.ref a from r); exact h
  | ty n => cases (show v = Value.type n from r); exact h
/-- the callee runs somewhere below the running body -/
theorem run_at {A : Around} {Q : VK} {us : List Value} {ws : List V} (F : FnC X k f sp) (hr : Room k A) (e0 : Env0 X.prog X.w X.K X.mg X.base A X.stack s H) (I : Inv X pins σ H s) (r : Vals ws us) (h : sp ws H Q E0) :
    codeAny (model X.prog X.w) A (.call (.ref f) ⟨us, []⟩) (fun r s' => match r with | .ok (.ret v) => EP X pins σ Q v s' | .ok _ => False | .error e => X.xe e s') s := by
  refine codeAny_mono (F A X.stack s H us ws Q E0 hr e0 r h) fun r s' hq => ?_
  cases r with
  | error e => exact hq.elim
  | ok fl =>
    cases fl with
    | ret u => exact I.after hq
    | next => exact False.elim hq
    | brk => exact False.elim hq
    | cont => exact False.elim hq
theorem inst_of {dx : Addr} {fs : List (Str × V)} (I : Inv X pins σ H s) (h : H a = some (.ins C dx fs)) : ∃ od, PySem.W.InstAt s.heap a (PySem.W.instObj C dx) C (some od) := by
  obtain ⟨mA, J, _⟩ := ins_get I.hok h
  obtain ⟨od, J, _⟩ := J.look
  exact ⟨od, J⟩
/-- an object's special method: what is asked -/
def Own (X : Cx) (m : Str) (x : V) (H : Hp) (ws : List V) (Q : VK) : Prop := ∃ (a C dx f : Addr) (fs : List (Str × V)) (k : Nat) (sp : Sp), x = .ref a ∧ H a = some (.ins C dx fs) ∧ Meth X.K C m f ∧ FnC X k f sp ∧ Room (k + 1) X.A ∧ sp (x :: ws) H Q E0
theorem un_own : UnR X (unaryOp .USub) (fun x H Q => Own X "__neg__" x H [] Q) := by
  intro pins s σ H x v Q I rx ⟨a, C, dx, f, fs, k, sp, ex, hi, hm, F, hr, q⟩
  subst ex
  obtain rfl : v = Value.ref a := rx
  obtain ⟨m, hF⟩ := I.fr
  obtain ⟨od, J⟩ := inst_of I hi
  exact PySem.W.ksp_neg hF I.ok.mod.kin J hm.at_ hm.fn (wpAny_call (run_at (us := [.ref a]) (ws := [.ref a]) F (hr.mono (Nat.le_succ _)) I.env0 I (.cons rfl .nil) q))
theorem op_own (op : Operator) {y : V} : OpR X (binaryOp op) (fun x y H Q => Own X (PySem.dunder op.info.2) x H [y] Q ∧ ∃ a b C dx dy fs gs, x = .ref a ∧ y = .ref b ∧ H a = some (.ins C dx fs) ∧ H b = some (.ins C dy gs) ∧ PySem.W.selfFirst X.K C = true) := by
  intro pins s σ H x y v u Q I rx ry ⟨⟨a, C, dx, f, fs, k, sp, ex, hi, hm, F, hr, q⟩, a', b, C', dx', dy, fs', gs, ex', ey, hi', hj, hc⟩
  subst ex
  cases ex'
  subst ey
  rw [hi] at hi'
  cases hi'
  obtain rfl : v = Value.ref a := rx
  obtain rfl : u = Value.ref b := ry
  obtain ⟨m, hF⟩ := I.fr
  obtain ⟨od, J⟩ := inst_of I hi
  obtain ⟨od', J'⟩ := inst_of I hj
  refine PySem.W.binop_K hF I.ok.mod.kin J J'.type hc hm.at_ hm.fn (thn (wpAny_call (run_at (us := [.ref a, .ref b]) (ws := [.ref a, .ref b]) F (hr.mono (Nat.le_succ _)) I.env0 I (.cons rfl (.cons rfl .nil)) q)) fun w s' h => ?_)
  obtain ⟨z, H', I', rz, qz⟩ := h
  exact cmpback rz ⟨z, H', I', rz, qz⟩
theorem cmp_own (op : CmpOp) (hop : ∀ a b, compareOp op a b = richCompare op a b) : OpR X (compareOp op) (fun x y H Q => Own X (PySem.cmpInfo op).2.1 x H [y] Q ∧ ∃ a b C C' dx dy fs gs, x = .ref a ∧ y = .ref b ∧ H a = some (.ins C dx fs) ∧ H b = some (.ins C' dy gs) ∧ PySem.W.notFirst X.K C (.ref C') = true) := by
  intro pins s σ H x y v u Q I rx ry ⟨⟨a, C, dx, f, fs, k, sp, ex, hi, hm, F, hr, q⟩, a', b, C', C'', dx', dy, fs', gs, ex', ey, hi', hj, hc⟩
  subst ex
  cases ex'
  subst ey
  rw [hi] at hi'
  cases hi'
  obtain rfl : v = Value.ref a := rx
  obtain rfl : u = Value.ref b := ry
  obtain ⟨m, hF⟩ := I.fr
  obtain ⟨od, J⟩ := inst_of I hi
  obtain ⟨od', J'⟩ := inst_of I hj
  rw [hop]
  refine PySem.W.cmp_K (op := op) (tb := .ref C'') hr.units0 hF I.ok.mod.kin J J'.type hc hm.at_ hm.fn (thn (wpAny_call (run_at (us := [.ref a, .ref b]) (ws := [.ref a, .ref b]) F (hr.mono (Nat.le_succ _)) I.env0 I (.cons rfl (.cons rfl .nil)) q)) fun w s' h => ?_)
  obtain ⟨z, H', I', rz, qz⟩ := h
  exact cmpback rz ⟨z, H', I', rz, qz⟩
theorem in_own : OpR X (compareOp .In) (fun x y H Q => Own X "__contains__" y H [x] fun z H' => ∃ b, z = .bl b ∧ Q (.bl b) H') := by
  intro pins s σ H x y v u Q I rx ry ⟨a, C, dx, f, fs, k, sp, ey, hi, hm, F, hr, q⟩
  subst ey
  obtain rfl : u = Value.ref a := ry
  obtain ⟨m, hF⟩ := I.fr
  obtain ⟨od, J⟩ := inst_of I hi
  refine PySem.W.in_K hF I.ok.mod.kin J hm.at_ hm.fn (thn (wpAny_call (run_at (us := [.ref a, v]) (ws := [.ref a, x]) F (hr.mono (Nat.le_succ _)) I.env0 I (.cons rfl (.cons rx .nil)) q)) fun w s' h => ?_)
  obtain ⟨z, H', I', rz, b, ez, qz⟩ := h
  subst ez
  cases rz
  exact wpAny_truthy_bool ⟨.bl b, H', I', rfl, qz⟩
theorem notIn_own : OpR X (compareOp .NotIn) (fun x y H Q => Own X "__contains__" y H [x] fun z H' => ∃ b, z = .bl b ∧ Q (.bl (!b)) H') := by
  intro pins s σ H x y v u Q I rx ry ⟨a, C, dx, f, fs, k, sp, ey, hi, hm, F, hr, q⟩
  subst ey
  obtain rfl : u = Value.ref a := ry
  obtain ⟨m, hF⟩ := I.fr
  obtain ⟨od, J⟩ := inst_of I hi
  refine PySem.W.notIn_K hF I.ok.mod.kin J hm.at_ hm.fn (thn (wpAny_call (run_at (us := [.ref a, v]) (ws := [.ref a, x]) F (hr.mono (Nat.le_succ _)) I.env0 I (.cons rfl (.cons rx .nil)) q)) fun w s' h => ?_)
  obtain ⟨z, H', I', rz, b, ez, qz⟩ := h
  subst ez
  cases rz
  exact wpAny_truthy_bool ⟨.bl (!b), H', I', rfl, qz⟩
theorem call_lenOwn : CallR X (.builtin "len") (fun xs H Q => ∃ x, xs = [x] ∧ Own X "__len__" x H [] fun z H' => ∃ n : Nat, z = .int n ∧ n < 2 ^ 63 ∧ Q (.int n) H') := by
  intro pins s σ H xs us Q I r ⟨x, exs, a, C, dx, f, fs, k, sp, ex, hi, hm, F, hr, q⟩
  subst exs
  obtain ⟨u, rfl, rx⟩ := vals1 r
  subst ex
  obtain rfl : u = Value.ref a := rx
  obtain ⟨m, hF⟩ := I.fr
  obtain ⟨od, J⟩ := inst_of I hi
  refine PySem.W.len_K hF I.ok.mod.kin J hm.at_ hm.fn (thn (wpAny_call (run_at (us := [.ref a]) (ws := [.ref a]) F hr.in1 I.env0.in1 I (.cons rfl .nil) q)) fun w s' h => ?_)
  obtain ⟨z, H', I', rz, n, ez, hn, qz⟩ := h
  subst ez
  obtain ⟨t, rfl⟩ := rz
  exact ⟨⟨by omega, by exact_mod_cast hn⟩, .int n, H', I'.tok _, ⟨_, rfl⟩, qz⟩
theorem pe_ixOwn {a b : Expr} {ta tb : TE} {pos : Pos} (ha : PE X a ta) (hb : PE X b tb) (hsl : ∀ (x : Addr) (i : Value), subscripted b true (.ref x) i = runValue (.builtin "lifetime.subscript" ⟨[.ref x, i], []⟩)) :
    PE X (.Subscript a b pos) (fun σ H Q => ta σ H fun x H1 => tb σ H1 fun y H2 => Own X "__getitem__" x H2 [y] Q ∧ ∃ f, (∃ C, PySem.W.findIn X.K (.ref C) "__getitem__" = some (some (.ref f)) ∧ ∃ a dx fs, x = .ref a ∧ H2 a = some (.ins C dx fs)) ∧ PySem.W.fnIn X.K f = true) := by
  refine ⟨fun pins s σ H Q I h => ?_⟩
  refine PyProof.Rows.Subscript_ (binT ha hb I h fun v u s2 x y H2 I2 rx ry q => ?_)
  obtain ⟨⟨a', C, dx, f, fs, k, sp, ex, hi, hm, F, hr, q⟩, f', ⟨C', hf', a'', dx', fs', ex', hi'⟩, hfn⟩ := q
  subst ex
  cases ex'
  rw [hi] at hi'
  cases hi'
  have e := hm.at_.symm.trans hf'
  cases e
  obtain rfl : v = Value.ref a' := rx
  obtain ⟨m, hF⟩ := I2.fr
  obtain ⟨od, J⟩ := inst_of I2 hi
  exact PySem.W.sub_K hF I2.ok.mod.kin J hm.at_ hfn hm.fn (wpAny_call (run_at (us := [.ref a', u]) (ws := [.ref a', y]) F hr.in1 I2.env0.in1 I2 (.cons rfl (.cons ry .nil)) q)) (hsl _ _)
/-- the truth of an object with an own __len__ and no __bool__ -/
theorem truthy_lenK {w : PySem.World} {prog : Program} {A : Around} {E : Value → Shared → Prop} {s : Shared} {K : PySem.W.Frag} {x C L f : Addr} {h₀ : Heap} {m : Str → Option Value} {ox : Obj} {od : Option Obj} {Q : Bool → Shared → Prop} (F : PyProof.Rows.Fr h₀ L s.heap m) (X₀ : K.In h₀) (I : PySem.W.InstAt s.heap x ox C od)
    (hb : PySem.W.findIn K (.ref C) "__bool__" = some none) (hs : PySem.W.findIn K (.ref C) "__len__" = some (some (.ref f))) (hf : PySem.W.isFn K (.ref f) = true)
    (h : wpAny (model prog w) A.in1 (call (.ref f) [.ref x]) (fun v s' => ∃ n t, v = Value.int n t ∧ (0 ≤ n ∧ n < 2 ^ 63) ∧ Q (n != 0) { s' with toks := s'.toks + 1 }) E s) : wpAny (model prog w) A (truthy (.ref x)) Q E s := by
  have X := X₀.keeps F.keep
  unfold truthy
  refine wpAny_bind (m := callSpecial? (.ref x) (Str.ofString "__bool__")) (wpAny_bind (wpAny_bind (I.type.here ((PySem.W.looks_findIn X hb).here (wpAny_pure ?_)))))
  refine wpAny_bind (wpAny_bind (I.type.here ((PySem.W.looks_findIn X hs).here ?_)))
  rw [if_neg (by simp)]
  refine wpAny_bind (wpAny_runValue (codeAny_builtin entry_len ?_))
  rw [Around.under_plainId plain_len _]
  unfold Builtin.«len»
  refine wpAny_bind (m := oneArg "len" _) (wpAny_pure ?_)
  refine wpAny_bind (m := callSpecial? (.ref x) (Str.ofString "__len__")) (PySem.W.special_fn X I hs (beq_iff_eq.mp hf) (wpAny_mono h (fun r s' hr => ?_) fun _ _ y => y))
  obtain ⟨n, u, rfl, ⟨h0, h1⟩, hq⟩ := hr
  refine wpAny_bind (wpAny_holding (wpAny_pure ?_))
  refine wpAny_bind (wpAny_letGo ?_)
  show wpAny _ _ (if n < 0 then _ else _) _ _ _
  rw [if_neg (by omega)]
  show wpAny _ _ (if n ≥ 2 ^ 63 then _ else _) _ _ _
  rw [if_neg (by omega)]
  exact wpAny_bind (wpAny_mkInt (wpAny_pure (show wpAny _ _ (pure (n != 0)) _ _ _ from wpAny_pure hq)))
/-- bool(x), by the truth of x -/
theorem bool_new {prog : Program} {w : PySem.World} {A : Around} {x : Value} {P : Fin → Shared → Prop} {E : Value → Shared → Prop} {s : Shared} (h : wpAny (model prog w) A (truthy x) (fun b s' => P (.done (.ret (.bool b))) s') E s) :
    wpAny (model prog w) A (Builtin.«bool.__new__» ⟨[.type "bool", x], []⟩) P E s := by
  obtain ⟨hp, g, d, tk, os⟩ := s
  have f1 := F.conv_sub_bool
  repeat (any_goals (first | assumption | (with_reducible refine wpAny_mono (t := truthy x) h (fun _ _ q => ?_) (fun _ _ q => ?_)) | wp_step))
theorem call_boolT {prog : Program} {w : PySem.World} {A : Around} {E : Value → Shared → Prop} {s : Shared} {x : Value} {Q : Value → Shared → Prop}
    (h : wpAny (model prog w) A.in1.in1 (truthy x) (fun b s₁ => Q (.bool b) s₁) E s) : wpAny (model prog w) A (call (.type "bool") [x]) Q E s := by
  refine callType_codes (T := "bool") (Bi := Builtin.«object.__init__») (Q₁ := fun r s₁ => ∃ b, r = Value.bool b ∧ Q r s₁) PySem.F.called_bool (PySem.F.typeCall_bool_1 _) PySem.F.entry_object_init ?_ ?_
  · refine codeAny_of_tree ?_
    show wpAny _ A.in1.in1 (do checkBuiltinCall "bool.__new__" ⟨[.type "bool", x], []⟩; again (.builtin "bool.__new__" ⟨[.type "bool", x], []⟩)) _ _ s
    refine wpAny_bind (wpAny_of_eq (PySem.F.newCall_bool_1 _) (wpAny_pure ⟨plainId_quiet (by decide +kernel) _, codeAny_builtin PySem.F.entry_bool_new ?_⟩))
    rw [Around.under_plainId (by decide +kernel) _]
    exact bool_new (wpAny_mono h (fun b s₁ q => ⟨b, rfl, q⟩) fun _ _ q => q)
  · rintro obj s₁ ⟨b, rfl, hq⟩
    exact ⟨typeIs_bool _ _, PySem.F.args_object_init_2 _ _, object_init_meets PySem.F.called_bool.init.lookup PySem.F.called_bool.made (by decide) prog w A.in1 _ s₁ ⟨typeIs_bool _ _, rfl, hq⟩⟩
end
end Py
/-! == and in over lists and tuples, item by item, whatever the items' own == gives -/
namespace PyG
open PySem PySem.SeqAt
open AutoSeq1 (wpAny_loadPart')
open MeetsSeq MeetsSeq2 MeetsSeq3 SeqRoads2
section
variable {prog : Program} {w : World} {A : Around} {R : Result → Shared → Prop}
/-- at each turn the two lists are read anew: N and M items, the comparison of the i-th ones gives c i -/
def ListI (prog : Program) (w : World) (A : Around) (E : Value → Shared → Prop) (l b : Addr) (N : Nat) (c : Nat → Bool) (I : Nat → Shared → Prop) : Prop :=
  ∀ i s, I i s → ∃ (items items2 : Array Value) (n n2 : Nat), s.heap.get? l = some { cls := .type "list", data := .seq items n } ∧ s.heap.get? b = some { cls := .type "list", data := .seq items2 n2 } ∧ items.size = N ∧ items2.size = N ∧
    ∀ (h1 : i < items.size) (h2 : i < items2.size), wpAny (model prog w) A.in1 (eqBool items[i] items2[i]) (fun r s' => r = c i ∧ I (i + 1) s') E s
theorem eq_loop (op : CmpOp) (code : Int) (yes : Bool) (hop : op = .Eq ∧ code = 2 ∧ yes = true ∨ op = .NotEq ∧ code = 3 ∧ yes = false) (l b : Addr) (N : Nat) (c : Nat → Bool) (I : Nat → Shared → Prop) (hl : ListI prog w A (fun e s' => R (.error e) s') l b N c I)
    (finT : ∀ s, (∀ j, j < N → c j = true) → I N s → R (.ok (.ret (.bool yes))) s) (finF : ∀ i s, i < N → c i = false → I (i + 1) s → R (.ok (.ret (.bool (!yes)))) s) (k : Nat) :
    ∀ i : Nat, N - i = k → i ≤ N → (∀ j, j < i → c j = true) → ∀ s, I i s →
      wpAny (model prog w) A.in1 (Builtin.«list.__eq__.loop» ⟨[.ref l, .ref b, rawInt i, rawInt code], []⟩) (GQ.FinOf prog w A R) (fun e s' => R (.error e) s') s := by
  induction k with
  | zero =>
    intro i hk hi hc s h
    obtain ⟨items, items2, n, n2, hl1, hb1, hs1, hs2, _⟩ := hl _ _ h
    have hi' : i = N := by omega
    subst hi'
    have hR : R (.ok (.ret (.bool yes))) s := finT s hc h
    obtain ⟨hp, g, d, tk, os⟩ := s
    have hi1 : items[((i : Nat) : Int).toNat]? = none := by simp; omega
    have hi2 : items2[((i : Nat) : Int).toNat]? = none := by simp; omega
    rcases hop with ⟨rfl, rfl, rfl⟩ | ⟨rfl, rfl, rfl⟩
    · wp_walk using wpAny_loadPart' hl1, wpAny_loadPart' hb1
      rw [hi1, hi2]
      wp_walk using wpAny_loadPart' hl1, wpAny_loadPart' hb1
      show R (.ok (.ret (.bool (items.size == items2.size)))) _
      rw [hs1, hs2]
      simpa using hR
    · wp_walk using wpAny_loadPart' hl1, wpAny_loadPart' hb1
      rw [hi1, hi2]
      wp_walk using wpAny_loadPart' hl1, wpAny_loadPart' hb1
      show R (.ok (.ret (.bool (items.size != items2.size)))) _
      rw [hs1, hs2]
      simpa using hR
  | succ k ih =>
    intro i hk hi hc s h
    obtain ⟨items, items2, n, n2, hl1, hb1, hs1, hs2, turn⟩ := hl _ _ h
    have hlt : i < items.size := by omega
    have hlt2 : i < items2.size := by omega
    have ht := turn hlt hlt2
    obtain ⟨hp, g, d, tk, os⟩ := s
    have hi1 : items[((i : Nat) : Int).toNat]? = some items[i] := by simp [hlt]
    have hi2 : items2[((i : Nat) : Int).toNat]? = some items2[i] := by simp [hlt2]
    have hcc : ((i : Int) + 1) = ((i + 1 : Nat) : Int) := by omega
    rcases hop with ⟨rfl, rfl, rfl⟩ | ⟨rfl, rfl, rfl⟩
    all_goals
      wp_walk using wpAny_loadPart' hl1, wpAny_loadPart' hb1
      rw [hi1, hi2]
      refine wpAny_bind (wpAny_mono ht (fun r s2 h2 => ?_) fun _ _ x => x)
      obtain ⟨hr, h2⟩ := h2
      subst hr
      cases hci : c i with
      | true =>
        have hrec := ih (i + 1) (by omega) (by omega) (fun j hj => by
          by_cases e : j = i
          · rw [e]; exact hci
          · exact hc j (by omega)) s2 h2
        obtain ⟨hp2, g2, d2, tk2, os2⟩ := s2
        wp_walk
        rw [hcc]
        exact ⟨plainId_quiet plain_eq_loop _, codeAny_builtin entry_eq_loop (by
          rw [Around.under_plainId plain_eq_loop _]
          exact hrec)⟩
      | false =>
        have hR := finF i s2 (by omega) hci h2
        obtain ⟨items3, items4, n3, n4, hl3, hb3, hs3, hs4, _⟩ := hl _ _ h2
        obtain ⟨hp2, g2, d2, tk2, os2⟩ := s2
        have hi3 : items3[((i : Nat) : Int).toNat]? = some (items3[i]'(by omega)) := by simp
        have hi4 : items4[((i : Nat) : Int).toNat]? = some (items4[i]'(by omega)) := by simp
        wp_walk using wpAny_loadPart' hl3, wpAny_loadPart' hb3
        rw [hi3, hi4]
        wp_walk
        exact hR
theorem list_eqB (l b : Addr) (N : Nat) (c : Nat → Bool) (I : Nat → Shared → Prop) (hl : ListI prog w A (fun e s' => R (.error e) s') l b N c I)
    (finT : ∀ s, (∀ j, j < N → c j = true) → I N s → R (.ok (.ret (.bool true))) s) (finF : ∀ i s, i < N → c i = false → I (i + 1) s → R (.ok (.ret (.bool false))) s) {s : Shared} (h : I 0 s) :
    wpAny (model prog w) A.in1 (Builtin.«list.__eq__» ⟨[.ref l, .ref b], []⟩) (GQ.FinOf prog w A R) (fun e s' => R (.error e) s') s := by
  obtain ⟨items, items2, n, n2, hl1, hb1, hs1, hs2, _⟩ := hl _ _ h
  have hrec := eq_loop (A := A) (R := R) .Eq 2 true (.inl ⟨rfl, rfl, rfl⟩) l b N c I hl finT finF _ 0 rfl (Nat.zero_le _) (fun j hj => absurd hj (Nat.not_lt_zero _)) s h
  obtain ⟨hp, g, d, tk, os⟩ := s
  have f3 := AutoSeq1.sub_list_list
  have hne : ¬ (items.size != items2.size) = true := by simp [hs1, hs2]
  wp_walk using wpAny_loadPart' hl1, wpAny_loadPart' hb1
  exact ⟨plainId_quiet plain_eq_loop _, codeAny_builtin entry_eq_loop (by
    rw [Around.under_plainId plain_eq_loop _]
    exact hrec)⟩
theorem list_neB (l b : Addr) (N : Nat) (c : Nat → Bool) (I : Nat → Shared → Prop) (hl : ListI prog w A (fun e s' => R (.error e) s') l b N c I)
    (finT : ∀ s, (∀ j, j < N → c j = true) → I N s → R (.ok (.ret (.bool false))) s) (finF : ∀ i s, i < N → c i = false → I (i + 1) s → R (.ok (.ret (.bool true))) s) {s : Shared} (h : I 0 s) :
    wpAny (model prog w) A.in1 (Builtin.«list.__ne__» ⟨[.ref l, .ref b], []⟩) (GQ.FinOf prog w A R) (fun e s' => R (.error e) s') s := by
  obtain ⟨items, items2, n, n2, hl1, hb1, hs1, hs2, _⟩ := hl _ _ h
  have hrec := eq_loop (A := A) (R := R) .NotEq 3 false (.inr ⟨rfl, rfl, rfl⟩) l b N c I hl finT finF _ 0 rfl (Nat.zero_le _) (fun j hj => absurd hj (Nat.not_lt_zero _)) s h
  obtain ⟨hp, g, d, tk, os⟩ := s
  have f3 := AutoSeq1.sub_list_list
  have hne : ¬ (items.size != items2.size) = true := by simp [hs1, hs2]
  wp_walk using wpAny_loadPart' hl1, wpAny_loadPart' hb1
  exact ⟨plainId_quiet plain_eq_loop _, codeAny_builtin entry_eq_loop (by
    rw [Around.under_plainId plain_eq_loop _]
    exact hrec)⟩
/-- lists of different lengths -/
theorem list_eqL (l b : Addr) {items items2 : Array Value} {n n2 : Nat} {s : Shared} (hl1 : s.heap.get? l = some { cls := .type "list", data := .seq items n }) (hb1 : s.heap.get? b = some { cls := .type "list", data := .seq items2 n2 }) (hne : items.size ≠ items2.size)
    (fin : R (.ok (.ret (.bool false))) s) : wpAny (model prog w) A.in1 (Builtin.«list.__eq__» ⟨[.ref l, .ref b], []⟩) (GQ.FinOf prog w A R) (fun e s' => R (.error e) s') s := by
  obtain ⟨hp, g, d, tk, os⟩ := s
  have f3 := AutoSeq1.sub_list_list
  have hne : (items.size != items2.size) = true := by simp [hne]
  wp_walk using wpAny_loadPart' hl1, wpAny_loadPart' hb1
  exact fin
theorem list_neL (l b : Addr) {items items2 : Array Value} {n n2 : Nat} {s : Shared} (hl1 : s.heap.get? l = some { cls := .type "list", data := .seq items n }) (hb1 : s.heap.get? b = some { cls := .type "list", data := .seq items2 n2 }) (hne : items.size ≠ items2.size)
    (fin : R (.ok (.ret (.bool true))) s) : wpAny (model prog w) A.in1 (Builtin.«list.__ne__» ⟨[.ref l, .ref b], []⟩) (GQ.FinOf prog w A R) (fun e s' => R (.error e) s') s := by
  obtain ⟨hp, g, d, tk, os⟩ := s
  have f3 := AutoSeq1.sub_list_list
  have hne : (items.size != items2.size) = true := by simp [hne]
  wp_walk using wpAny_loadPart' hl1, wpAny_loadPart' hb1
  exact fin
theorem tuple_eqB (l b : Addr) (items items2 : Array Value) (n n2 : Nat) (dd dd2 : Option Addr) (sl sl2 : Array (Option Value)) (c : Nat → Bool) (I : Nat → Shared → Prop)
    (turn : ∀ i (h1 : i < items.size) (h2 : i < items2.size) s, I i s → wpAny (model prog w) A.in1 (eqBool items[i] items2[i]) (fun r s' => r = c i ∧ I (i + 1) s') (fun e s' => R (.error e) s') s)
    (finT : ∀ s, (∀ j, j < min items.size items2.size → c j = true) → I (min items.size items2.size) s → R (.ok (.ret (.bool (items.size == items2.size)))) s) (finF : ∀ i s, i < min items.size items2.size → c i = false → I (i + 1) s → R (.ok (.ret (.bool false))) s)
    {s : Shared} (hl1 : s.heap.get? l = some { cls := .type "tuple", dict := dd, data := .seq items n, slots := sl }) (hb1 : s.heap.get? b = some { cls := .type "tuple", dict := dd2, data := .seq items2 n2, slots := sl2 }) (h : I 0 s) :
    wpAny (model prog w) A.in1 (Builtin.«tuple.__eq__» ⟨[.ref l, .ref b], []⟩) (GQ.FinOf prog w A R) (fun e s' => R (.error e) s') s := by
  have f2 := AutoSeq1.sub_tuple_tuple
  have hZ : (items.toList.zip items2.toList).length = min items.size items2.size := by simp
  have h0 := h
  obtain ⟨hp, g, d, tk, os⟩ := s
  wp_walk using wpAny_loadPart' hl1, wpAny_loadPart' hb1, wpAny_forIn_list _ (fun rest b s' => (b.1 = none ∧ ∃ i, rest = (items.toList.zip items2.toList).drop i ∧ i ≤ min items.size items2.size ∧ (∀ j, j < i → c j = true) ∧ I i s')) _
  case turn =>
    rintro ⟨y, x⟩ rest b s' ⟨hb', i, hz, hi, hc, hI⟩
    have hlt : i < (items.toList.zip items2.toList).length := by
      rcases Nat.lt_or_ge i (items.toList.zip items2.toList).length with h' | h'
      · exact h'
      · rw [List.drop_of_length_le h'] at hz; cases hz
    have hm : i < min items.size items2.size := hZ ▸ hlt
    have h1 : i < items.size := by omega
    have h2 : i < items2.size := by omega
    rw [List.drop_eq_getElem_cons hlt] at hz
    injection hz with hyx hrest
    have hy : y = items[i] := by have := congrArg Prod.fst hyx; simpa using this
    have hx : x = items2[i] := by have := congrArg Prod.snd hyx; simpa using this
    subst hy hx
    refine wpAny_bind (wpAny_mono (turn i h1 h2 s' hI) (fun r s2 q2 => ?_) fun _ _ x => x)
    obtain ⟨hr, q2⟩ := q2
    subst hr
    cases hci : c i with
    | true =>
      wp_walk
      exact ⟨rfl, i + 1, hrest, by omega, fun j hj => by
        by_cases e : j = i
        · rw [e]; exact hci
        · exact hc j (by omega), q2⟩
    | false =>
      have hR := finF i s2 hm hci q2
      wp_walk
      exact hR
  case fin =>
    rintro ⟨b1, b2⟩ s' ⟨hb', i, hz, hi, hc, hI⟩
    simp only at hb'
    subst hb'
    have hge : min items.size items2.size ≤ i := by
      rcases Nat.lt_or_ge i (items.toList.zip items2.toList).length with h' | h'
      · rw [List.drop_eq_getElem_cons h'] at hz; cases hz
      · exact hZ ▸ h'
    have hi' : i = min items.size items2.size := by omega
    subst hi'
    have hR := finT s' hc hI
    wp_walk
    simpa [Builtin.Tuple.tupleCompareSizes] using hR
  case h =>
    exact ⟨rfl, 0, rfl, Nat.zero_le _, fun j hj => absurd hj (Nat.not_lt_zero _), h0⟩
theorem tuple_inB (l : Addr) (x : Value) (items : Array Value) (n : Nat) (dd : Option Addr) (sl : Array (Option Value)) (c : Nat → Bool) (I : Nat → Shared → Prop)
    (turn : ∀ i (h1 : i < items.size) s, I i s → wpAny (model prog w) A.in1 (eqBool items[i] x) (fun r s' => r = c i ∧ I (i + 1) s') (fun e s' => R (.error e) s') s)
    (finF : ∀ s, (∀ j, j < items.size → c j = false) → I items.size s → R (.ok (.ret (.bool false))) s) (finT : ∀ i s, i < items.size → c i = true → I (i + 1) s → R (.ok (.ret (.bool true))) s)
    {s : Shared} (hl1 : s.heap.get? l = some { cls := .type "tuple", dict := dd, data := .seq items n, slots := sl }) (h : I 0 s) :
    wpAny (model prog w) A.in1 (Builtin.«tuple.__contains__» ⟨[.ref l, x], []⟩) (GQ.FinOf prog w A R) (fun e s' => R (.error e) s') s := by
  have h0 := h
  obtain ⟨hp, g, d, tk, os⟩ := s
  wp_walk using wpAny_loadPart' hl1, wpAny_forIn_array _ (fun rest b s' => b.1 = none ∧ ∃ i, rest = items.toList.drop i ∧ i ≤ items.size ∧ (∀ j, j < i → c j = false) ∧ I i s') _
  case turn =>
    rintro y rest b s' ⟨hb', i, hz, hi, hc, hI⟩
    have hlt : i < items.toList.length := by
      rcases Nat.lt_or_ge i items.toList.length with h' | h'
      · exact h'
      · rw [List.drop_of_length_le h'] at hz; cases hz
    have h1 : i < items.size := by simpa using hlt
    rw [List.drop_eq_getElem_cons hlt] at hz
    injection hz with hyx hrest
    have hy : y = items[i] := by simpa using hyx
    subst hy
    refine wpAny_bind (wpAny_mono (turn i h1 s' hI) (fun r s2 q2 => ?_) fun _ _ x => x)
    obtain ⟨hr, q2⟩ := q2
    subst hr
    cases hci : c i with
    | false =>
      wp_walk
      exact ⟨rfl, i + 1, hrest, by omega, fun j hj => by
        by_cases e : j = i
        · rw [e]; exact hci
        · exact hc j (by omega), q2⟩
    | true =>
      have hR := finT i s2 h1 hci q2
      wp_walk
      exact hR
  case fin =>
    rintro ⟨b1, b2⟩ s' ⟨hb', i, hz, hi, hc, hI⟩
    simp only at hb'
    subst hb'
    have hge : items.size ≤ i := by
      rcases Nat.lt_or_ge i items.toList.length with h' | h'
      · rw [List.drop_eq_getElem_cons h'] at hz; cases hz
      · simpa using h'
    have hi' : i = items.size := by omega
    subst hi'
    have hR := finF s' hc hI
    wp_walk
    exact hR
  case h =>
    exact ⟨rfl, 0, by simp, Nat.zero_le _, fun j hj => absurd hj (Nat.not_lt_zero _), h0⟩
end
end PyG
namespace PyG
open PySem PySem.SeqAt
section
variable {prog : Program} {w : World} {A : Around} {E : Value → Shared → Prop} {s : Shared}
theorem rc_listB {l b : Addr} {N : Nat} {c : Nat → Bool} {Q : Value → Shared → Prop} (hu : A.units < cLine) (I : Nat → Shared → Prop) (hl : ListI prog w A E l b N c I)
    (finT : ∀ s, (∀ j, j < N → c j = true) → I N s → Q (.bool true) s) (finF : ∀ i s, i < N → c i = false → I (i + 1) s → Q (.bool false) s) (h : I 0 s) : wpAny (model prog w) A (richCompare .Eq (.ref l) (.ref b)) Q E s := by
  obtain ⟨items, items2, n, n2, hl1, hb1, _, _, _⟩ := hl _ _ h
  refine wpAny_richCompare_same_room (op := .Eq) ⟨_, hl1, rfl⟩ ⟨_, hb1, rfl⟩ F.slot_list_eq (GQ.call_here F.slot_list_eq ⟨_, hl1, rfl⟩ F.entry_list_eq (F.args_list_eq_2 _ _) ?_) hu
  exact list_eqB (R := wants (fun v s' => v ≠ .notImplemented ∧ Q v s') E) l b N c I hl (fun s' z q => ⟨(fun x => nomatch x), finT s' z q⟩) (fun i s' z z' q => ⟨(fun x => nomatch x), finF i s' z z' q⟩) h
theorem rc_listNB {l b : Addr} {N : Nat} {c : Nat → Bool} {Q : Value → Shared → Prop} (hu : A.units < cLine) (I : Nat → Shared → Prop) (hl : ListI prog w A E l b N c I)
    (finT : ∀ s, (∀ j, j < N → c j = true) → I N s → Q (.bool false) s) (finF : ∀ i s, i < N → c i = false → I (i + 1) s → Q (.bool true) s) (h : I 0 s) : wpAny (model prog w) A (richCompare .NotEq (.ref l) (.ref b)) Q E s := by
  obtain ⟨items, items2, n, n2, hl1, hb1, _, _, _⟩ := hl _ _ h
  refine wpAny_richCompare_same_room (op := .NotEq) ⟨_, hl1, rfl⟩ ⟨_, hb1, rfl⟩ F.slot_list_ne (GQ.call_here F.slot_list_ne ⟨_, hl1, rfl⟩ F.entry_list_ne (F.args_list_ne_2 _ _) ?_) hu
  exact list_neB (R := wants (fun v s' => v ≠ .notImplemented ∧ Q v s') E) l b N c I hl (fun s' z q => ⟨(fun x => nomatch x), finT s' z q⟩) (fun i s' z z' q => ⟨(fun x => nomatch x), finF i s' z z' q⟩) h
theorem rc_listL {l b : Addr} {items items2 : Array Value} {n n2 : Nat} {Q : Value → Shared → Prop} (hu : A.units < cLine) (hl1 : s.heap.get? l = some { cls := .type "list", data := .seq items n }) (hb1 : s.heap.get? b = some { cls := .type "list", data := .seq items2 n2 }) (hne : items.size ≠ items2.size)
    (h : Q (.bool false) s) : wpAny (model prog w) A (richCompare .Eq (.ref l) (.ref b)) Q E s := by
  refine wpAny_richCompare_same_room (op := .Eq) ⟨_, hl1, rfl⟩ ⟨_, hb1, rfl⟩ F.slot_list_eq (GQ.call_here F.slot_list_eq ⟨_, hl1, rfl⟩ F.entry_list_eq (F.args_list_eq_2 _ _) ?_) hu
  exact list_eqL (R := wants (fun v s' => v ≠ .notImplemented ∧ Q v s') E) l b hl1 hb1 hne ⟨(fun x => nomatch x), h⟩
theorem rc_listNL {l b : Addr} {items items2 : Array Value} {n n2 : Nat} {Q : Value → Shared → Prop} (hu : A.units < cLine) (hl1 : s.heap.get? l = some { cls := .type "list", data := .seq items n }) (hb1 : s.heap.get? b = some { cls := .type "list", data := .seq items2 n2 }) (hne : items.size ≠ items2.size)
    (h : Q (.bool true) s) : wpAny (model prog w) A (richCompare .NotEq (.ref l) (.ref b)) Q E s := by
  refine wpAny_richCompare_same_room (op := .NotEq) ⟨_, hl1, rfl⟩ ⟨_, hb1, rfl⟩ F.slot_list_ne (GQ.call_here F.slot_list_ne ⟨_, hl1, rfl⟩ F.entry_list_ne (F.args_list_ne_2 _ _) ?_) hu
  exact list_neL (R := wants (fun v s' => v ≠ .notImplemented ∧ Q v s') E) l b hl1 hb1 hne ⟨(fun x => nomatch x), h⟩
theorem rc_tupB {l b : Addr} {items items2 : Array Value} {c : Nat → Bool} {Q : Value → Shared → Prop} (hu : A.units < cLine) (I : Nat → Shared → Prop) (hl : s.heap.IsTuple l items) (hb : s.heap.IsTuple b items2)
    (turn : ∀ i (h1 : i < items.size) (h2 : i < items2.size) s, I i s → wpAny (model prog w) A.in1 (eqBool items[i] items2[i]) (fun r s' => r = c i ∧ I (i + 1) s') E s)
    (finT : ∀ s, (∀ j, j < min items.size items2.size → c j = true) → I (min items.size items2.size) s → Q (.bool (items.size == items2.size)) s) (finF : ∀ i s, i < min items.size items2.size → c i = false → I (i + 1) s → Q (.bool false) s) (h : I 0 s) :
    wpAny (model prog w) A (richCompare .Eq (.ref l) (.ref b)) Q E s := by
  obtain ⟨⟨cls, dd, data, sl⟩, ho, hc, n, hd⟩ := id hl
  obtain ⟨⟨cls2, dd2, data2, sl2⟩, ho2, hc2, n2, hd2⟩ := id hb
  simp only at hc hd hc2 hd2
  subst hc hd hc2 hd2
  refine wpAny_richCompare_same_room (op := .Eq) ⟨_, ho, rfl⟩ ⟨_, ho2, rfl⟩ F.slot_tuple_eq (GQ.call_here F.slot_tuple_eq ⟨_, ho, rfl⟩ F.entry_tuple_eq (F.args_tuple_eq_2 _ _) ?_) hu
  exact tuple_eqB (R := wants (fun v s' => v ≠ .notImplemented ∧ Q v s') E) l b items items2 n n2 dd dd2 sl sl2 c I turn (fun s' z q => ⟨(fun x => nomatch x), finT s' z q⟩) (fun i s' z z' q => ⟨(fun x => nomatch x), finF i s' z z' q⟩) ho ho2 h
theorem in_tupB {l : Addr} {x : Value} {items : Array Value} {c : Nat → Bool} {Q : Value → Shared → Prop} (I : Nat → Shared → Prop) (hl : s.heap.IsTuple l items)
    (turn : ∀ i (h1 : i < items.size) s, I i s → wpAny (model prog w) A.in1 (eqBool items[i] x) (fun r s' => r = c i ∧ I (i + 1) s') E s)
    (finF : ∀ s, (∀ j, j < items.size → c j = false) → I items.size s → Q (.bool false) s) (finT : ∀ i s, i < items.size → c i = true → I (i + 1) s → Q (.bool true) s) (h : I 0 s) : wpAny (model prog w) A (compareOp .In x (.ref l)) Q E s := by
  obtain ⟨⟨cls, dd, data, sl⟩, ho, hc, n, hd⟩ := id hl
  simp only at hc hd
  subst hc hd
  show wpAny _ A (do return .bool (← contains (.ref l) x)) Q E s
  refine wpAny_bind (wpAny_contains_slot ⟨_, ho, rfl⟩ F.slot_tuple_contains (wpAny_mono (Q := fun v s' => ∃ b, v = .bool b ∧ Q (.bool b) s') (GQ.call_here F.slot_tuple_contains ⟨_, ho, rfl⟩ F.entry_tuple_contains (F.args_tuple_contains_2 _ _) ?_) (fun v s' hv => ?_) fun _ _ e => e))
  · exact tuple_inB (R := wants (fun v s' => ∃ b, v = .bool b ∧ Q (.bool b) s') E) l x items n dd sl c I turn (fun s' z q => ⟨_, rfl, finF s' z q⟩) (fun i s' z z' q => ⟨_, rfl, finT i s' z z' q⟩) ho h
  · obtain ⟨b, rfl, hq⟩ := hv
    exact wpAny_truthy_bool (wpAny_pure hq)
end
end PyG
namespace Py
open PySem L2
/-! ### == with an answer, within a world -/
section
variable {X : Cx} {W : World} {n m : Nat} {r1 r2 : Rep} {b : Bool}
def EqW (X : Cx) (W : World) (n : Nat) (r1 r2 : Rep) (b : Bool) : Prop :=
  ∀ (A : Around) (pins : List (Addr × Obj)) (s : Shared) (σ : St) (H : Hp) (x y : V) (u v : Value), Sub X n A → Inv X pins σ H s → RelV x u → RelV y v → W.ok H → r1.p x (W.vis H) → r2.p y (W.vis H) →
    wpAny (model X.prog X.w) A (eqBool u v) (fun r s' => r = b ∧ ∃ H', Inv X pins σ H' s' ∧ W.ok H' ∧ Ex (W.vis H) (W.vis H')) X.xe s
def RcW (X : Cx) (op : CmpOp) (W : World) (n : Nat) (r1 r2 : Rep) (b : Bool) : Prop :=
  ∀ (A : Around) (pins : List (Addr × Obj)) (s : Shared) (σ : St) (H : Hp) (x y : V) (u v : Value), Sub X n A → Inv X pins σ H s → RelV x u → RelV y v → W.ok H → r1.p x (W.vis H) → r2.p y (W.vis H) →
    wpAny (model X.prog X.w) A (richCompare op u v) (fun r s' => r = .bool b ∧ ∃ H', Inv X pins σ H' s' ∧ W.ok H' ∧ Ex (W.vis H) (W.vis H')) X.xe s
theorem EqW.mono (h : EqW X W n r1 r2 b) (hn : n ≤ m) : EqW X W m r1 r2 b := fun A pins s σ H x y u v sb => h A pins s σ H x y u v (sb.mono hn)
theorem EqW.eq (h : EqW X W n r1 r2 b) {b' : Bool} (e : b = b') : EqW X W n r1 r2 b' := e ▸ h
theorem RcW.eq {op : CmpOp} (h : RcW X op W n r1 r2 b) {b' : Bool} (e : b = b') : RcW X op W n r1 r2 b' := e ▸ h
theorem RcW.mono {op : CmpOp} (h : RcW X op W n r1 r2 b) (hn : n ≤ m) : RcW X op W m r1 r2 b := fun A pins s σ H x y u v sb => h A pins s σ H x y u v (sb.mono hn)
/-- the same object is equal to itself: then the answer must be so -/
theorem RcW.eqW (h : RcW X .Eq W n r1 r2 b) (hr : ∀ x H, r1.p x H → ∃ a, x = .ref a) (hr' : ∀ x H, r2.p x H → ∃ a, x = .ref a) (hs : ∀ x H, r1.p x H → r2.p x H → b = true) : EqW X W n r1 r2 b := by
  intro A pins s σ H x y u v sb I rx ry k p1 p2
  obtain ⟨a, rfl⟩ := hr _ _ p1
  obtain ⟨c, rfl⟩ := hr' _ _ p2
  obtain rfl : u = Value.ref a := rx
  obtain rfl : v = Value.ref c := ry
  by_cases hac : a = c
  · subst hac
    exact SeqAt.EqAt.same (A := A) (s := s) (.ref a) X.prog X.w X.xe _ ⟨(hs _ _ p1 p2).symm, H, I, k, Ex.refl _⟩
  · refine GQ.eqBool_refG hac (wpAny_mono (h A pins s σ H (.ref a) (.ref c) _ _ sb I rfl rfl k p1 p2) (fun r s' q => ?_) fun _ _ x => x)
    obtain ⟨hr', q⟩ := q
    exact ⟨b, hr', rfl, q⟩
/-- by an own special method -/
theorem rcW_own (op : CmpOp) (hop : ∀ a c, compareOp op a c = richCompare op a c) (h : ∀ (x y : V) (H : Hp), W.ok H → r1.p x (W.vis H) → r2.p y (W.vis H) → ∃ (a c C C' dx dy f : Addr) (fs gs : List (Str × V)) (sp : Sp), x = .ref a ∧ y = .ref c ∧ W.vis H a = some (.ins C dx fs) ∧ W.vis H c = some (.ins C' dy gs) ∧
      PySem.W.notFirst X.K C (.ref C') = true ∧ Meth X.K C (PySem.cmpInfo op).2.1 f ∧ FnC X n f sp ∧ ∀ Q : VK, (∀ H', W.ok H' → Ex (W.vis H) (W.vis H') → Q (.bl b) H') → sp [x, y] H Q E0) : RcW X op W (n + 1) r1 r2 b := by
  intro A pins s σ H x y u v sb I rx ry k p1 p2
  obtain ⟨a, c, C, C', dx, dy, f, fs, gs, sp, ex, ey, hi, hj, hn, hm, F, go⟩ := h x y H k p1 p2
  subst ex
  subst ey
  obtain rfl : u = Value.ref a := rx
  obtain rfl : v = Value.ref c := ry
  obtain ⟨m, hF⟩ := I.fr
  obtain ⟨od, J⟩ := inst_of I (W.sub H _ _ hi)
  obtain ⟨od', J'⟩ := inst_of I (W.sub H _ _ hj)
  have e0 : Env0 X.prog X.w X.K X.mg X.base A X.stack s H := by
    have e := I.env0
    exact ⟨by rw [sb.fr]; exact e.frames, e.mod, e.bs, e.bsz, e.funs, e.frf, e.hok, e.bare⟩
  refine PySem.W.cmp_K (op := op) (tb := .ref C') sb.room.units0 hF I.ok.mod.kin J J'.type hn hm.at_ hm.fn (thn (wpAny_call (run_at (us := [.ref a, .ref c]) (ws := [.ref a, .ref c]) F (sb.room.mono (Nat.le_succ _)) e0 I (.cons rfl (.cons rfl .nil)) (go (fun v H' => v = .bl b ∧ W.ok H' ∧ Ex (W.vis H) (W.vis H')) fun H' k' e' => ⟨rfl, k', e'⟩))) fun w s' h => ?_)
  obtain ⟨z, H', I', rz, ez, k', e'⟩ := h
  subst ez
  cases rz
  exact ⟨rfl, H', I', k', e'⟩
/-- what the loop over the items keeps -/
def LoopW (X : Cx) (W : World) (pins : List (Addr × Obj)) (σ : St) (H : Hp) (s' : Shared) : Prop := ∃ H', Inv X pins σ H' s' ∧ W.ok H' ∧ Ex (W.vis H) (W.vis H')
theorem turnW {rs1 rs2 : List Rep} {c : Nat → Bool} (h : ∀ i q q', rs1[i]? = some q → rs2[i]? = some q' → EqW X W n q q' (c i)) {A : Around} (sb : Sub X (n + 1) A) {pins : List (Addr × Obj)} {σ : St} {H : Hp} {xs ys : List V} {its its2 : List Value} (p : Reps rs1 xs (W.vis H)) (p2 : Reps rs2 ys (W.vis H)) (r : Vals xs its) (r2 : Vals ys its2)
    (i : Nat) (h1 : i < its.toArray.size) (h2 : i < its2.toArray.size) (s' : Shared) (l : LoopW X W pins σ H s') :
    wpAny (model X.prog X.w) A.in1 (eqBool its.toArray[i] its2.toArray[i]) (fun r s2 => r = c i ∧ LoopW X W pins σ H s2) X.xe s' := by
  obtain ⟨H1, I1, k1, e1⟩ := l
  have g1 : its[i]? = some its.toArray[i] := by
    have h1' : i < its.length := by simpa using h1
    rw [List.getElem?_eq_getElem h1'] <;> simp
  have g2 : its2[i]? = some its2.toArray[i] := by
    have h2' : i < its2.length := by simpa using h2
    rw [List.getElem?_eq_getElem h2'] <;> simp
  have j1 : i < xs.length := by rw [r.length]; simpa using h1
  have j2 : i < ys.length := by rw [r2.length]; simpa using h2
  obtain ⟨u, hu, ru⟩ := r.get (List.getElem?_eq_getElem j1)
  obtain ⟨v, hv, rv⟩ := r2.get (List.getElem?_eq_getElem j2)
  obtain ⟨q, hq, pq⟩ := p.get' (List.getElem?_eq_getElem j1)
  obtain ⟨q', hq', pq'⟩ := p2.get' (List.getElem?_eq_getElem j2)
  rw [g1] at hu
  rw [g2] at hv
  rw [Option.some.inj hu, Option.some.inj hv]
  refine wpAny_mono (h i q q' hq hq' A.in1 pins s' σ H1 _ _ u v sb.in1 I1 ru rv k1 (q.mono e1 pq) (q'.mono e1 pq')) (fun r s2 z => ?_) fun _ _ x => x
  obtain ⟨hr, H2, I2, k2, e2⟩ := z
  exact ⟨hr, H2, I2, k2, e1.trans e2⟩
def allB (c : Nat → Bool) (n : Nat) : Bool := (List.range n).all c
theorem allB_true {c : Nat → Bool} {n : Nat} (h : ∀ j, j < n → c j = true) : allB c n = true := List.all_eq_true.mpr fun j hj => h j (List.mem_range.mp hj)
theorem allB_false {c : Nat → Bool} {n i : Nat} (hi : i < n) (h : c i = false) : allB c n = false := by
  cases q : allB c n with
  | false => rfl
  | true =>
    have z := List.all_eq_true.mp q i (List.mem_range.mpr hi)
    rw [h] at z
    cases z
theorem rcW_tup {rs1 rs2 : List Rep} {c : Nat → Bool} (h : ∀ i q q', rs1[i]? = some q → rs2[i]? = some q' → EqW X W n q q' (c i)) : RcW X .Eq W (n + 1) (rTup X.K rs1) (rTup X.K rs2) (rs1.length == rs2.length && allB c (min rs1.length rs2.length)) := by
  intro A pins s σ H x y u v sb I rx ry k ⟨a, xs, ex, ha, hp⟩ ⟨a', ys, ey, hb, hp'⟩
  subst ex
  subst ey
  obtain rfl : u = Value.ref a := rx
  obtain rfl : v = Value.ref a' := ry
  obtain ⟨its, r, e, z⟩ := I.tuple (sqT_mono (W.sub H) ha)
  obtain ⟨its2, r2, e2, z2⟩ := I.tuple (sqT_mono (W.sub H) hb)
  have l1 : its.toArray.size = rs1.length := by rw [List.size_toArray, ← r.length, hp.len]
  have l2 : its2.toArray.size = rs2.length := by rw [List.size_toArray, ← r2.length, hp'.len]
  refine PyG.rc_tupB (c := c) sb.room.units0 (fun _ s' => LoopW X W pins σ H s') e e2 (fun i h1 h2 s' q => turnW h sb hp hp' r r2 i h1 h2 s' q) (fun s' hc q => ?_) (fun i s' hi hc q => ?_) ⟨H, I, k, Ex.refl _⟩
  · rw [l1, l2] at hc ⊢
    rw [allB_true hc, Bool.and_true]
    exact ⟨rfl, q⟩
  · rw [l1, l2] at hi
    rw [allB_false hi hc, Bool.and_false]
    exact ⟨rfl, q⟩
theorem rcW_lst {rs1 rs2 : List Rep} {c : Nat → Bool} (h : ∀ i q q', rs1[i]? = some q → rs2[i]? = some q' → EqW X W n q q' (c i)) : RcW X .Eq W (n + 1) (rLst rs1) (rLst rs2) (rs1.length == rs2.length && allB c rs1.length) := by
  intro A pins s σ H x y u v sb I rx ry k ⟨a, xs, ex, ha, hp⟩ ⟨a', ys, ey, hb, hp'⟩
  subst ex
  subst ey
  obtain rfl : u = Value.ref a := rx
  obtain rfl : v = Value.ref a' := ry
  have rd : ∀ s', LoopW X W pins σ H s' → ∃ (its its2 : List Value) (n n2 : Nat), Vals xs its ∧ Vals ys its2 ∧ s'.heap.get? a = some { cls := .type "list", data := .seq its.toArray n } ∧ s'.heap.get? a' = some { cls := .type "list", data := .seq its2.toArray n2 } := by
    rintro s' ⟨H1, I1, k1, e1⟩
    obtain ⟨z, its, n1, r, e⟩ := I1.hok a _ (W.sub H1 _ _ (e1 _ _ ha))
    obtain ⟨z2, its2, n2, r2, e2⟩ := I1.hok a' _ (W.sub H1 _ _ (e1 _ _ hb))
    exact ⟨its, its2, n1, n2, r, r2, e, e2⟩
  obtain ⟨its, its2, n1, n2, r, r2, e, e2⟩ := rd s ⟨H, I, k, Ex.refl _⟩
  have l1 : its.toArray.size = rs1.length := by rw [List.size_toArray, ← r.length, hp.len]
  have l2 : its2.toArray.size = rs2.length := by rw [List.size_toArray, ← r2.length, hp'.len]
  by_cases hl : rs1.length = rs2.length
  · have hb1 : (rs1.length == rs2.length) = true := beq_iff_eq.mpr hl
    rw [hb1, Bool.true_and]
    refine PyG.rc_listB (N := rs1.length) (c := c) sb.room.units0 (fun _ s' => LoopW X W pins σ H s') (fun i s' q => ?_) (fun s' hc q => ?_) (fun i s' hi hc q => ?_) ⟨H, I, k, Ex.refl _⟩
    · obtain ⟨its, its2, n1, n2, r, r2, e, e2⟩ := rd s' q
      refine ⟨its.toArray, its2.toArray, n1, n2, e, e2, by rw [List.size_toArray, ← r.length, hp.len], by rw [List.size_toArray, ← r2.length, ← hp'.len, hl], fun h1 h2 => turnW h sb hp hp' r r2 i h1 h2 s' q⟩
    · rw [allB_true hc]
      exact ⟨rfl, q⟩
    · rw [allB_false hi hc]
      exact ⟨rfl, q⟩
  · have hb1 : (rs1.length == rs2.length) = false := beq_eq_false_iff_ne.mpr hl
    rw [hb1, Bool.false_and]
    exact PyG.rc_listL sb.room.units0 e e2 (by rw [l1, l2]; exact hl) ⟨rfl, H, I, k, Ex.refl _⟩
theorem rcW_lstN {rs1 rs2 : List Rep} {c : Nat → Bool} (h : ∀ i q q', rs1[i]? = some q → rs2[i]? = some q' → EqW X W n q q' (c i)) : RcW X .NotEq W (n + 1) (rLst rs1) (rLst rs2) (!(rs1.length == rs2.length && allB c rs1.length)) := by
  intro A pins s σ H x y u v sb I rx ry k ⟨a, xs, ex, ha, hp⟩ ⟨a', ys, ey, hb, hp'⟩
  subst ex
  subst ey
  obtain rfl : u = Value.ref a := rx
  obtain rfl : v = Value.ref a' := ry
  have rd : ∀ s', LoopW X W pins σ H s' → ∃ (its its2 : List Value) (n n2 : Nat), Vals xs its ∧ Vals ys its2 ∧ s'.heap.get? a = some { cls := .type "list", data := .seq its.toArray n } ∧ s'.heap.get? a' = some { cls := .type "list", data := .seq its2.toArray n2 } := by
    rintro s' ⟨H1, I1, k1, e1⟩
    obtain ⟨z, its, n1, r, e⟩ := I1.hok a _ (W.sub H1 _ _ (e1 _ _ ha))
    obtain ⟨z2, its2, n2, r2, e2⟩ := I1.hok a' _ (W.sub H1 _ _ (e1 _ _ hb))
    exact ⟨its, its2, n1, n2, r, r2, e, e2⟩
  obtain ⟨its, its2, n1, n2, r, r2, e, e2⟩ := rd s ⟨H, I, k, Ex.refl _⟩
  have l1 : its.toArray.size = rs1.length := by rw [List.size_toArray, ← r.length, hp.len]
  have l2 : its2.toArray.size = rs2.length := by rw [List.size_toArray, ← r2.length, hp'.len]
  by_cases hl : rs1.length = rs2.length
  · have hb1 : (rs1.length == rs2.length) = true := beq_iff_eq.mpr hl
    rw [hb1, Bool.true_and]
    refine PyG.rc_listNB (N := rs1.length) (c := c) sb.room.units0 (fun _ s' => LoopW X W pins σ H s') (fun i s' q => ?_) (fun s' hc q => ?_) (fun i s' hi hc q => ?_) ⟨H, I, k, Ex.refl _⟩
    · obtain ⟨its, its2, n1, n2, r, r2, e, e2⟩ := rd s' q
      refine ⟨its.toArray, its2.toArray, n1, n2, e, e2, by rw [List.size_toArray, ← r.length, hp.len], by rw [List.size_toArray, ← r2.length, ← hp'.len, hl], fun h1 h2 => turnW h sb hp hp' r r2 i h1 h2 s' q⟩
    · rw [allB_true hc]
      exact ⟨rfl, q⟩
    · rw [allB_false hi hc]
      exact ⟨rfl, q⟩
  · have hb1 : (rs1.length == rs2.length) = false := beq_eq_false_iff_ne.mpr hl
    rw [hb1, Bool.false_and]
    exact PyG.rc_listNL sb.room.units0 e e2 (by rw [l1, l2]; exact hl) ⟨rfl, H, I, k, Ex.refl _⟩
/-- as operators -/
theorem op_rcW {op : CmpOp} (hop : ∀ a c, compareOp op a c = richCompare op a c) (h : RcW X op W n r1 r2 b) (hr : Room n X.A) : OpR X (compareOp op) (fun x y H Q => W.ok H ∧ r1.p x (W.vis H) ∧ r2.p y (W.vis H) ∧ ∀ H', W.ok H' → Ex (W.vis H) (W.vis H') → Q (.bl b) H') := by
  intro pins s σ H x y v u Q I rx ry ⟨k, p1, p2, q⟩
  rw [hop]
  refine wpAny_mono (h X.A pins s σ H x y v u ⟨hr, rfl⟩ I rx ry k p1 p2) (fun r s' z => ?_) fun _ _ x => x
  obtain ⟨hr', H', I', k', e'⟩ := z
  subst hr'
  exact ⟨.bl b, H', I', rfl, q H' k' e'⟩
theorem ew_rc {rs : Rs} {a c : Expr} {pos : Pos} {op : CmpOp} (hop : ∀ a c, compareOp op a c = richCompare op a c) (h : RcW X op W n r1 r2 b) (hr : Room n X.A) (ha : Ew X W rs a r1) (hc : Ew X W rs c r2) (hm : behindInMarks op c = false) : Ew X W rs (.Compare a [op] [c] pos) (rD X.K (.bool b)) :=
  ew_cmp (op_rcW hop h hr) ha hc (fun x y H k p1 p2 Q q => ⟨k, p1, p2, fun H' k' e' => q _ H' k' e' (Dp.bl b)⟩) hm
theorem tw_rc {rs : Rs} {a c : Expr} {pos : Pos} {op : CmpOp} (hop : ∀ a c, compareOp op a c = richCompare op a c) (h : RcW X op W n r1 r2 b) (hr : Room n X.A) (ha : Ew X W rs a r1) (hc : Ew X W rs c r2) (hm : behindInMarks op c = false) : Tw X W rs (.Compare a [op] [c] pos) b :=
  tw_cmp (op_rcW hop h hr) ha hc (fun x y H k p1 p2 Q q => ⟨k, p1, p2, fun H' k' e' => q _ H' k' e' (Dp.bl b)⟩) hm
def anyB (c : Nat → Bool) (n : Nat) : Bool := (List.range n).any c
theorem anyB_false {c : Nat → Bool} {n : Nat} (h : ∀ j, j < n → c j = false) : anyB c n = false := by
  cases q : anyB c n with
  | false => rfl
  | true =>
    obtain ⟨j, hj, z⟩ := List.any_eq_true.mp q
    rw [h j (List.mem_range.mp hj)] at z
    cases z
theorem anyB_true {c : Nat → Bool} {n i : Nat} (hi : i < n) (h : c i = true) : anyB c n = true := List.any_eq_true.mpr ⟨i, List.mem_range.mpr hi, h⟩
/-- x in a tuple, by the items' own == -/
theorem op_inTupW {rs2 : List Rep} {c : Nat → Bool} (h : ∀ i q, rs2[i]? = some q → EqW X W n q r1 (c i)) (hr : Room (n + 1) X.A) :
    OpR X (compareOp .In) (fun x y H Q => W.ok H ∧ r1.p x (W.vis H) ∧ (rTup X.K rs2).p y (W.vis H) ∧ ∀ H', W.ok H' → Ex (W.vis H) (W.vis H') → Q (.bl (anyB c rs2.length)) H') := by
  intro pins s σ H x y v u Q I rx ry ⟨k, p1, ⟨a, ys, ey, ha, hp⟩, q⟩
  subst ey
  obtain rfl : u = Value.ref a := ry
  obtain ⟨its, r, e, z⟩ := I.tuple (sqT_mono (W.sub H) ha)
  have l1 : its.toArray.size = rs2.length := by rw [List.size_toArray, ← r.length, hp.len]
  refine PyG.in_tupB (c := c) (fun _ s' => LoopW X W pins σ H s') e (fun i h1 s' l => ?_) (fun s' hc l => ?_) (fun i s' hi hc l => ?_) ⟨H, I, k, Ex.refl _⟩
  · obtain ⟨H1, I1, k1, e1⟩ := l
    have g1 : its[i]? = some its.toArray[i] := by
      have h1' : i < its.length := by simpa using h1
      rw [List.getElem?_eq_getElem h1'] <;> simp
    have j1 : i < ys.length := by rw [r.length]; simpa using h1
    obtain ⟨u, hu, ru⟩ := r.get (List.getElem?_eq_getElem j1)
    obtain ⟨q', hq, pq⟩ := hp.get' (List.getElem?_eq_getElem j1)
    rw [g1] at hu
    rw [Option.some.inj hu]
    refine wpAny_mono (h i q' hq X.A.in1 pins s' σ H1 _ _ u v ⟨hr.in1, rfl⟩ I1 ru rx k1 (q'.mono e1 pq) (r1.mono e1 p1)) (fun r s2 z => ?_) fun _ _ x => x
    obtain ⟨hr, H2, I2, k2, e2⟩ := z
    exact ⟨hr, H2, I2, k2, e1.trans e2⟩
  · obtain ⟨H1, I1, k1, e1⟩ := l
    rw [l1] at hc
    exact ⟨.bl false, H1, I1, rfl, anyB_false hc ▸ q H1 k1 e1⟩
  · obtain ⟨H1, I1, k1, e1⟩ := l
    rw [l1] at hi
    exact ⟨.bl true, H1, I1, rfl, anyB_true hi hc ▸ q H1 k1 e1⟩
theorem ew_inTup {rs : Rs} {a c : Expr} {pos : Pos} {rs2 : List Rep} {f : Nat → Bool} (h : ∀ i q, rs2[i]? = some q → EqW X W n q r1 (f i)) (hr : Room (n + 1) X.A) (ha : Ew X W rs a r1) (hc : Ew X W rs c (rTup X.K rs2)) (hm : behindInMarks .In c = false) : Ew X W rs (.Compare a [.In] [c] pos) (rD X.K (.bool (anyB f rs2.length))) :=
  ew_cmp (op_inTupW h hr) ha hc (fun x y H k p1 p2 Q q => ⟨k, p1, p2, fun H' k' e' => q _ H' k' e' (Dp.bl _)⟩) hm
end
end Py
namespace Py
open PySem L2
section
variable {X : Cx} {W : World} {rs : Rs} {a b c e o tg it : Expr} {r ra rb rc : Rep} {pos p apos : Pos} {O : Outs} {n : Nat} {C : Addr}
/-! ### operators of own classes -/
theorem HasM.own {ro : Rep} {m : Str} {rl : List Rep} (h : HasM X W ro m rl rc) {v : V} {H H1 : Hp} (k : W.ok H) (pv : ro.p v (W.vis H)) (k1 : W.ok H1) (e1 : Ex (W.vis H) (W.vis H1)) {vs : List V} (pr : Reps rl vs (W.vis H1)) {Q : VK} (q : ∀ w H', W.ok H' → Ex (W.vis H1) (W.vis H') → rc.p w (W.vis H') → Q w H') : Own X m v H1 vs Q := by
  obtain ⟨p, C, dx, f, fs, j, sp, ev, hi, l, c, m', F, hr, go⟩ := h.go v H k pv
  exact ⟨p, C, dx, f, fs, j, sp, ev, W.sub H1 _ _ (e1 _ _ hi), m', F, hr, go vs H1 k1 e1 pr Q q⟩
def InsOf (C : Addr) (r : Rep) : Prop := ∀ v H, r.p v H → ∃ a dx fs, v = .ref a ∧ H a = some (.ins C dx fs)
theorem insOf {fs : List (Str × Rep)} : InsOf C (rIns C fs) := fun v H ⟨a, dx, gs, ev, hi, _⟩ => ⟨a, dx, gs, ev, hi⟩
theorem ew_negOwn (ha : Ew X W rs a ra) (h : HasM X W ra "__neg__" [] rc) : Ew X W rs (.UnaryOp .USub a pos) rc :=
  pe_cs (pe_un un_own ha) fun σ H Q ⟨k, g, q⟩ => ⟨k, g, fun v H1 k1 e1 p1 => h.own (vs := []) k1 p1 k1 (Ex.refl _) trivial fun w H' k' e' pw => q w H' k' (e1.trans e') pw⟩
theorem ew_binOwn (op : Operator) (ha : Ew X W rs a ra) (hb : Ew X W rs b rb) (h : HasM X W ra (PySem.dunder op.info.2) [rb] rc) (ia : InsOf C ra) (ib : InsOf C rb) (sf : PySem.W.selfFirst X.K C = true) : Ew X W rs (.BinOp a op b pos) rc := by
  have ho : OpR X (binaryOp op) (fun x y H Q => Own X (PySem.dunder op.info.2) x H [y] Q ∧ ∃ a b C dx dy fs gs, x = .ref a ∧ y = .ref b ∧ H a = some (.ins C dx fs) ∧ H b = some (.ins C dy gs) ∧ PySem.W.selfFirst X.K C = true) := fun pins s σ H x y v u Q I rx ry h => op_own op (y := y) pins s σ H x y v u Q I rx ry h
  refine ew_op ho ha hb fun x y H k p q Q n => ?_
  obtain ⟨a, dx, fs, ex, hi⟩ := ia _ _ p
  obtain ⟨b, dy, gs, ey, hj⟩ := ib _ _ q
  exact ⟨h.own (vs := [y]) k p k (Ex.refl _) ⟨q, trivial⟩ n, a, b, C, dx, dy, fs, gs, ex, ey, W.sub H _ _ hi, W.sub H _ _ hj, sf⟩
theorem ew_inOwn {d : Bool} (ha : Ew X W rs a ra) (hb : Ew X W rs b rb) (h : HasM X W rb "__contains__" [ra] (rD X.K (.bool d))) (hm : behindInMarks .In b = false) : Ew X W rs (.Compare a [.In] [b] pos) (rD X.K (.bool d)) :=
  ew_cmp in_own ha hb (fun x y H k p q Q n => h.own (vs := [x]) k q k (Ex.refl _) ⟨p, trivial⟩ fun w H' k' e' pw => ⟨d, rD_bl.mp pw, n _ H' k' e' (Dp.bl d)⟩) hm
theorem ew_notInOwn {d : Bool} (ha : Ew X W rs a ra) (hb : Ew X W rs b rb) (h : HasM X W rb "__contains__" [ra] (rD X.K (.bool d))) (hm : behindInMarks .NotIn b = false) : Ew X W rs (.Compare a [.NotIn] [b] pos) (rD X.K (.bool (!d))) :=
  ew_cmp notIn_own ha hb (fun x y H k p q Q n => h.own (vs := [x]) k q k (Ex.refl _) ⟨p, trivial⟩ fun w H' k' e' pw => ⟨d, rD_bl.mp pw, n _ H' k' e' (Dp.bl (!d))⟩) hm
theorem tw_notInOwn {d : Bool} (ha : Ew X W rs a ra) (hb : Ew X W rs b rb) (h : HasM X W rb "__contains__" [ra] (rD X.K (.bool d))) (hm : behindInMarks .NotIn b = false) : Tw X W rs (.Compare a [.NotIn] [b] pos) (!d) :=
  tw_cmp notIn_own ha hb (fun x y H k p q Q n => h.own (vs := [x]) k q k (Ex.refl _) ⟨p, trivial⟩ fun w H' k' e' pw => ⟨d, rD_bl.mp pw, n _ H' k' e' (Dp.bl (!d))⟩) hm
theorem ew_callB {id : String} {f : List V → Hp → VK → Prop} {x : Str} (hc : CallR X (.builtin id) f) (hg : Gl X x) (hm : X.mg x = none) (hv : bootBuiltins x = some (.builtin id)) (ha : Ew X W rs a ra) (h : ∀ v H, W.ok H → ra.p v (W.vis H) → ∀ Q : VK, (∀ w H', W.ok H' → Ex (W.vis H) (W.vis H') → rc.p w (W.vis H') → Q w H') → f [v] H Q)
    (hn : x ≠ "__name__" := by decide) (hdb : (x == ("__debug__" : Str)) = false := by decide) (he : starEach [a] X.env = (false, eval a X.env) :: starEach [] X.env := by rfl) (hpl : (backTo pos (starEach [] X.env)).any (·.1) = false := by rfl) : Ew X W rs (.Call (.Name x p) [a] [] pos) rc := by
  refine pe_cs (pe_callB hc hg hm hv (aw_cons ha aw_nil he) hn hdb he hpl) ?_
  rintro σ H Q ⟨k, g, q⟩
  refine ⟨k, g, fun vs H1 k1 e1 pr => ?_⟩
  obtain ⟨v, rfl, pv⟩ := reps1 pr
  exact h v H1 k1 pv Q fun w H' k' e' pw => q w H' k' (e1.trans e') pw
theorem ew_callTy {T : String} {f : List V → Hp → VK → Prop} {x : Str} (hc : CallR X (.type T) f) (hg : Gl X x) (hm : X.mg x = none) (hv : bootBuiltins x = some (.type T)) (ha : Ew X W rs a ra) (h : ∀ v H, W.ok H → ra.p v (W.vis H) → ∀ Q : VK, (∀ w H', W.ok H' → Ex (W.vis H) (W.vis H') → rc.p w (W.vis H') → Q w H') → f [v] H Q)
    (hn : x ≠ "__name__" := by decide) (hdb : (x == ("__debug__" : Str)) = false := by decide) (he : starEach [a] X.env = (false, eval a X.env) :: starEach [] X.env := by rfl) (hpl : (backTo pos (starEach [] X.env)).any (·.1) = false := by rfl) : Ew X W rs (.Call (.Name x p) [a] [] pos) rc := by
  refine pe_cs (pe_callTy hc hg hm hv (aw_cons ha aw_nil he) hn hdb he hpl) ?_
  rintro σ H Q ⟨k, g, q⟩
  refine ⟨k, g, fun vs H1 k1 e1 pr => ?_⟩
  obtain ⟨v, rfl, pv⟩ := reps1 pr
  exact h v H1 k1 pv Q fun w H' k' e' pw => q w H' k' (e1.trans e') pw
/-- len, of what it may be -/
theorem ew_len {x : Str} {m : Nat} (hx : x = "len") (hg : Gl X x) (hm : X.mg x = none) (ha : Ew X W rs a ra) (h : ∀ v H, ra.p v H → LenV X.K v H m) (hdb : (x == ("__debug__" : Str)) = false := by decide) (he : starEach [a] X.env = (false, eval a X.env) :: starEach [] X.env := by rfl) (hpl : (backTo pos (starEach [] X.env)).any (·.1) = false := by rfl) :
    (hl : ∀ v H H', Ex H H' → LenV X.K v H m → LenV X.K v H' m) → Ew X W rs (.Call (.Name x p) [a] [] pos) (rD X.K (.int m)) := fun hl => by
  subst hx
  exact ew_callB call_len hg hm PySem.boot_len ha (fun v H k pv Q q => ⟨v, m, rfl, hl v _ _ (W.sub H) (h v _ pv), q _ H k (Ex.refl _) (Dp.int _)⟩) (by decide) hdb he hpl
theorem ew_lenOwn {m : Nat} (hm' : m < 2 ^ 63) (hg : Gl X "len") (hm : X.mg "len" = none) (ha : Ew X W rs a ra) (h : HasM X W ra "__len__" [] (rD X.K (.int m))) (he : starEach [a] X.env = (false, eval a X.env) :: starEach [] X.env := by rfl) (hpl : (backTo pos (starEach [] X.env)).any (·.1) = false := by rfl) : Ew X W rs (.Call (.Name "len" p) [a] [] pos) (rD X.K (.int m)) :=
  ew_callB call_lenOwn hg hm PySem.boot_len ha (fun v H k pv Q q => ⟨v, rfl, h.own (vs := []) k pv k (Ex.refl _) trivial fun w H' k' e' pw => ⟨m, rD_int.mp pw, hm', q _ H' k' e' (Dp.int _)⟩⟩) (by decide) (by decide) he hpl
theorem call_boolOwn : CallR X (.type "bool") (fun xs H Q => ∃ x, xs = [x] ∧ (∃ a C dx fs, x = .ref a ∧ H a = some (.ins C dx fs) ∧ PySem.W.findIn X.K (.ref C) "__bool__" = some none) ∧ Room 3 X.A ∧ ∃ (a C dx f : Addr) (fs : List (Str × V)) (k : Nat) (sp : Sp), x = .ref a ∧ H a = some (.ins C dx fs) ∧ Meth X.K C "__len__" f ∧ FnC X k f sp ∧ Room (k + 3) X.A ∧ sp [x] H (fun z H' => ∃ n : Nat, z = .int n ∧ n < 2 ^ 63 ∧ Q (.bl (n != 0)) H') E0) := by
  intro pins s σ H xs us Q I r ⟨x, exs, ⟨a', C', dx', fs', ex', hi', hb⟩, _, a, C, dx, f, fs, k, sp, ex, hi, hm, F, hr, q⟩
  subst exs
  obtain ⟨u, rfl, rx⟩ := vals1 r
  subst ex
  cases ex'
  rw [hi] at hi'
  cases hi'
  obtain rfl : u = Value.ref a' := rx
  obtain ⟨m, hF⟩ := I.fr
  obtain ⟨od, J⟩ := inst_of I hi
  refine call_boolT (truthy_lenK hF I.ok.mod.kin J hb hm.at_ hm.fn (thn (wpAny_call (run_at (us := [.ref a']) (ws := [.ref a']) F (hr.in1.in1.in1) I.env0.in1.in1.in1 I (.cons rfl .nil) q)) fun w s' h => ?_))
  obtain ⟨z, H', I', rz, n, ez, hn, qz⟩ := h
  subst ez
  obtain ⟨t, rfl⟩ := rz
  refine ⟨_, _, rfl, ⟨by omega, by exact_mod_cast hn⟩, .bl (n != 0), H', I'.tok _, ?_, qz⟩
  show Value.bool (((n : Nat) : Int) != 0) = Value.bool (n != 0)
  congr 1
  cases n <;> rfl
/-! ### defs -/
variable {P : Program} {w : PySem.World} {K : PySem.W.Frag} {mg : Str → Option Value} {base : Heap}
theorem fn_w {x qual : Str} {st : Stmt} {f : Addr} {fd : FuncData} {N ps : List Str} {k : Nat} {α : Type} {pre : World → α → Prop} {args : α → List Rep} {res : α → Rep} (F : Fun K x qual st f fd) (S : FnScope N ps (defScope st)) (hb : Binds K fd ps []) (hl : ∀ z, (args z).length = ps.length)
    (h : ∀ (cdv : Value) (A : Around) (outer : List Env) (s : Shared) (H : Hp) (E : XK) (W : World) (z : α), Room k (A.deeper (PyProof.Rows.envOfC qual (defScope st) s.heap.objs.size f cdv)) → pre W z →
      ∃ nx, Bw (cxOf CX0 P w K mg base N qual (defScope st) f cdv A outer s H E).nox W ((args z).map some ++ List.replicate (N.length - ps.length) none) (defBody st) ⟨res z, nx, none, none⟩ ∧ ∀ N', nx = some N' → ∀ H, (res z).p .non H) : FnR P w K mg base CX0 (k + 1) f (spW pre args res) := by
  have G : FnOk P w K mg base CX0 (k + 1) f fd ps (spW pre args res) := by
    refine F.ok S (fun vs H Q E ⟨W, z, _, _, pr, _⟩ => by rw [← hl z, pr.len]) ?_
    rintro cdv A outer s H vs Q E hr ⟨W, z, hp, kH, pr, q⟩
    obtain ⟨nx, hB, hN⟩ := h cdv A outer s H E W z hr hp
    refine ⟨_, hB, kH, ?_, q, fun N' e σ' H' k' e' g' => q .non H' k' e' (hN N' e _), fun N' e => (by cases e), fun N' e => (by cases e)⟩
    have e : N.length - ps.length = N.length - vs.length := by rw [← pr.len, hl z]
    rw [e]
    exact Sg.of _ pr
  exact (G.raw hb .nil).imp fun vs H Q E q => by rw [List.append_nil]; exact q
/-! ### __init__: the fields grow -/
/-- the body of an __init__: self's address, the slots, the fields so far, those at the end -/
def tI (W : World) (C x dx : Addr) (rs : Rs) (fr out : List (Str × Rep)) : TS := fun D σ H => ∃ gs, (W.hold x (.ins C dx gs)).ok H ∧ Flds fr gs ((W.hold x (.ins C dx gs)).vis H) ∧ Sg rs σ ((W.hold x (.ins C dx gs)).vis H) ∧
  ∀ gs' H' σ', (W.hold x (.ins C dx gs')).ok H' → Ex ((W.hold x (.ins C dx gs)).vis H) ((W.hold x (.ins C dx gs)).vis H') → Flds out gs' ((W.hold x (.ins C dx gs')).vis H') → D.nx σ' H'
abbrev Ib (X : Cx) (W : World) (C x dx : Addr) (rs : Rs) (fr : List (Str × Rep)) (sts : List Stmt) (out : List (Str × Rep)) : Prop := PSs X sts (tI W C x dx rs fr out)
variable {x dx : Addr} {fr out : List (Str × Rep)} {sts : List Stmt}
theorem ib_nil : Ib X W C x dx rs fr [] fr := pss_cs pss_nil fun D σ H ⟨gs, k, fl, g, q⟩ => q gs H σ k (Ex.refl _) fl
/-- a test that does not hold: what stands in it is never come to -/
theorem ib_if {t : Expr} {as : List Stmt} (h : ∀ gs, Tw X (W.hold x (.ins C dx gs)) rs t false) (h2 : Ib X W C x dx rs fr sts out) : Ib X W C x dx rs fr (.If t as [] pos :: sts) out := by
  have hT : PT X t (fun σ H Q => ∃ gs, tWT (W.hold x (.ins C dx gs)) rs false σ H Q) := ⟨fun pins s σ H Q I ⟨gs, q⟩ => (h gs).run pins s σ H Q I q⟩
  refine pss_cs (pss_cons (ps_if hT pss_never pss_nil) h2) ?_
  rintro D σ H ⟨gs, k, fl, g, q⟩
  refine ⟨gs, k, g, fun H1 k1 e1 => iteF ⟨gs, k1, fl.mono e1, g.mono e1, fun gs' H' σ' k' e' fl' => q gs' H' σ' k' (e1.trans e') fl'⟩⟩
theorem flds_put {f : Str} {v : V} : ∀ {fr : List (Str × Rep)} {gs : List (Str × V)} {H : Hp}, Flds fr gs H → fr.lookup f = none → r.p v H → Flds (fr ++ [(f, r)]) (putF f v gs) H
  | [], [], _, _, _, p => ⟨rfl, p, trivial⟩
  | (n, q) :: fr, (m, y) :: gs, H, ⟨h1, h2, h3⟩, e, p => by
    subst h1
    rw [List.lookup_cons] at e
    split at e
    · cases e
    · rename_i hne
      have hn : ¬ n = f := fun z => by
        subst z
        simp at hne
      show Flds ((n, q) :: (fr ++ [(f, r)])) (if n = f then _ else _) H
      rw [if_neg hn]
      exact ⟨rfl, h2, flds_put h3 e p⟩
  | [], _ :: _, _, h, _, _ => h.elim
  | _ :: _, [], _, h, _, _ => h.elim
theorem flds_len : ∀ {fr : List (Str × Rep)} {gs : List (Str × V)} {H : Hp}, Flds fr gs H → fr.length = gs.length
  | [], [], _, _ => rfl
  | _ :: _, _ :: _, _, h => congrArg Nat.succ (flds_len h.2.2)
  | [], _ :: _, _, h => h.elim
  | _ :: _, [], _, h => h.elim
/-- self.f = e -/
theorem ib_set {f : Str} {i : Nat} {o : Expr} {pos' : Pos} (ho : PE X o (tVar i)) (hi : rs[i]? = some (some (rRef x))) (h : ∀ gs, Ew X (W.hold x (.ins C dx gs)) rs e r) (c : Cls X.K C) (n : NoAttr X.K C f) (hf : fr.lookup f = none) (hl : fr.length < 100) (h2 : Ib X W C x dx rs (fr ++ [(f, r)]) sts out)
    (hs : swapsWith e (some (.Attribute o f pos')) pos.line X.env = pure false) : Ib X W C x dx rs fr (.Assign [.Attribute o f pos'] e pos :: sts) out := by
  have hE : PE X e (fun σ H Q => ∃ gs, tW (W.hold x (.ins C dx gs)) rs r σ H Q) := ⟨fun pins s σ H Q I ⟨gs, q⟩ => (h gs).run pins s σ H Q I q⟩
  refine pss_cs (pss_cons (ps_fld ho hE hs) h2) ?_
  rintro D σ H ⟨gs, k, fl, g, q⟩
  refine ⟨gs, k, g, fun v H1 k1 e1 p1 => ?_⟩
  obtain ⟨y, hy, py⟩ := g.get hi
  obtain rfl : y = V.ref x := py
  refine ⟨.ref x, hy, x, C, dx, gs, rfl, k1.2.2, c, n, by rw [← flds_len fl]; omega, ?_⟩
  refine ⟨putF f v gs, hold_okUpd k1, ?_, ?_, ?_⟩
  · rw [hold_upd (o' := .ins C dx gs)]
    exact flds_put (fl.mono e1) hf p1
  · rw [hold_upd (o' := .ins C dx gs)]
    exact g.mono e1
  · intro gs' H' σ' k' e' fl'
    refine q gs' H' σ' k' (e1.trans ?_) fl'
    rw [hold_upd (o' := .ins C dx gs)] at e'
    rw [hold_any (o := .ins C dx gs) (o' := .ins C dx (putF f v gs))]
    exact e'
/-- an __init__ of the text -/
theorem fn_i {nm qual : Str} {st : Stmt} {f : Addr} {fd : FuncData} {N ps : List Str} {k : Nat} {α : Type} {pre : α → Prop} {args : α → List Rep} {fs : α → List (Str × Rep)} (F : Fun K nm qual st f fd) (S : FnScope N ps (defScope st)) (hb : Binds K fd ps []) (hl : ∀ z, (args z).length + 1 = ps.length)
    (h : ∀ (cdv : Value) (A : Around) (outer : List Env) (s : Shared) (H : Hp) (E : XK) (W : World) (x dx : Addr) (z : α), Room k (A.deeper (PyProof.Rows.envOfC qual (defScope st) s.heap.objs.size f cdv)) → pre z →
      Ib (cxOf CX0 P w K mg base N qual (defScope st) f cdv A outer s H E).nox W C x dx (some (rRef x) :: (args z).map some ++ List.replicate (N.length - ps.length) none) [] (defBody st) (fs z)) : FnR P w K mg base CX0 (k + 1) f (spI C pre args fs) := by
  have G : FnOk P w K mg base CX0 (k + 1) f fd ps (spI C pre args fs) := by
    refine F.ok S (fun vs H Q E ⟨W, z, x, dx, ws, ev, _, _, pr, _⟩ => by rw [ev, List.length_cons, ← pr.len]; exact hl z) ?_
    rintro cdv A outer s H vs Q E hr ⟨W, z, x, dx, ws, ev, hp, kH, pr, q⟩
    refine ⟨_, h cdv A outer s H E W x dx z hr hp, [], kH, trivial, ?_, fun gs' H' σ' k' e' fl => q gs' H' k' (by rw [hold_any (o := .ins C dx gs') (o' := .ins C dx [])]; exact e') fl⟩
    have e : N.length - ps.length = N.length - vs.length := by rw [ev, List.length_cons, ← pr.len, hl z]
    rw [e, ev]
    exact Sg.of (rs := rRef x :: args z) (vs := .ref x :: ws) _ ⟨rfl, pr⟩
  exact (G.raw hb .nil).imp fun vs H Q E q => by rw [List.append_nil]; exact q
/-! ### the class in a name of the def -/
theorem pe_makeL {k i : Nat} {f : Addr} {sp : Sp} {nm : Str} {es : List Expr} {t : TA} (M : Mk X.K C f) (F : FnC X k f sp) (hr : Room (k + 1) X.A) (hv : PE X (.Name nm p) (tVar i)) (ha : PA X (e :: es) t)
    (he : starEach (e :: es) X.env = (false, eval e X.env) :: starEach es X.env := by rfl) (hpl : (backTo pos (starEach es X.env)).any (·.1) = false := by rfl) :
    PE X (.Call (.Name nm p) (e :: es) [] pos) (fun σ H Q => σ[i]? = some (some (.ref C)) ∧ StX.tMakeR C sp E0 t σ H Q) := by
  refine ⟨fun pins s σ H Q I ⟨hσ, h⟩ => ?_⟩
  refine wpAny_Call_Name_kw (thn (hv.run pins s σ H (fun v H1 => v = .ref C ∧ H1 = H) I ⟨.ref C, hσ, rfl, rfl⟩) fun u s1 ⟨v, H1, I1, rv, ev, eH⟩ => ?_)
  subst ev
  subst eH
  obtain rfl : u = Value.ref C := rv
  refine PySem.W.callWith_K (h₀ := X.base) I1.ok.mod.kin M.kp (thn (ha.run pos pins s1 σ H1 _ I1 h) fun us s2 ⟨vs, H2, I2, r, q⟩ => ⟨I2.kIn, ?_⟩) he hpl
  exact StX.run_makeR M F hr pass0 I2 r q
end
end Py
namespace Py
open PySem L2
section
variable {X : Cx} {W : World} {rs : Rs} {a b c e o tg it : Expr} {r ra rb rc : Rep} {pos p apos : Pos} {O : Outs} {n : Nat} {C : Addr}
/-! ### types -/
structure IsiC (K : PySem.W.Frag) (C : Addr) : Prop where
  cl : Cls K C
  ca : PySem.W.findIn K (.ref C) "__class__" = some (some (.builtin "object.__class__"))
  cn : PySem.W.specialIn K (.builtin "object.__class__") "__get__" = some (some (.builtin "getset_descriptor.__get__"))
  ct : PySem.W.takesIn K (.builtin "object.__class__") = some true
  cm : PySem.W.mroIn K C (.type "object") = some true
def IsR (K : PySem.W.Frag) (r : Rep) (t : Value) : Prop := ∀ v H, r.p v H → TyX K H v t
theorem isR_str {K : PySem.W.Frag} {z : Str} : IsR K (rD K (.str z)) (.type "str") := fun v H h => by cases h; exact .base (.str _)
theorem isR_int {K : PySem.W.Frag} {z : Int} : IsR K (rD K (.int z)) (.type "int") := fun v H h => by cases h; exact .base (.int _)
theorem isR_bl {K : PySem.W.Frag} {z : Bool} : IsR K (rD K (.bool z)) (.type "bool") := fun v H h => by cases h; exact .base (.bl _)
theorem isR_non {K : PySem.W.Frag} : IsR K (rD K .none) (.type "NoneType") := fun v H h => by cases h; exact .base .non
theorem isR_ins {K : PySem.W.Frag} {fs : List (Str × Rep)} (c : IsiC K C) : IsR K (rIns C fs) (.ref C) := fun v H ⟨a, dx, gs, ev, hi, _⟩ => by
  subst ev
  exact .base (.ins hi c.cl c.ca c.cn c.ct c.cm)
theorem ew_ty {x : Str} {T : String} (hg : Gl X x) (hm : X.mg x = none) (hv : bootBuiltins x = some (.type T)) (hn : x ≠ "__name__" := by decide) (hd : (x == ("__debug__" : Str)) = false := by decide) : Ew X W rs (.Name x pos) (rTy T) := ew_c (pe_bltn (v := .ty T) hg hm hv rfl hn hd) fun _ => rfl
theorem ew_cls {x : Str} (hg : Gl X x) (hm : X.mg x = some (.ref C)) (hd : (x == ("__debug__" : Str)) = false := by decide) : Ew X W rs (.Name x pos) (rRef C) := ew_c (pe_glob (v := .ref C) hg hm rfl hd) fun _ => rfl
theorem ew_glob {x : Str} {v : V} {u : Value} {d : PyData} (hg : Gl X x) (hm : X.mg x = some u) (rv : RelV v u) (hd' : ∀ H, Dp X.K H v d) (hd : (x == ("__debug__" : Str)) = false := by decide) : Ew X W rs (.Name x pos) (rD X.K d) := ew_c (pe_glob hg hm rv hd) hd'
theorem ew_globI {x : Str} {i : Int} (hg : Gl X x) (hm : ∃ t, X.mg x = some (.int i t)) (hd : (x == ("__debug__" : Str)) = false := by decide) : Ew X W rs (.Name x pos) (rD X.K (.int i)) := hm.elim fun t h => ew_glob (v := .int i) hg h ⟨t, rfl⟩ (fun _ => Dp.int i) hd
theorem ew_globS {x : Str} {i : Str} (hg : Gl X x) (hm : ∃ t, X.mg x = some (.str i t)) (hd : (x == ("__debug__" : Str)) = false := by decide) : Ew X W rs (.Name x pos) (rD X.K (.str i)) := hm.elim fun t h => ew_glob (v := .str i) hg h ⟨t, rfl⟩ (fun _ => Dp.str i) hd
theorem ew_isi {cv : V} {u t : Value} {d : Bool} (hg : Gl X "isinstance") (hm : X.mg "isinstance" = none) (ha : Ew X W rs a ra) (hc : Ew X W rs c (rV cv)) (k : ClsV cv u) (ht : IsR X.K ra t) (hk : PySem.W.kitOne X.K t u = some d)
    (he : starEach [a, c] X.env = (false, eval a X.env) :: starEach [c] X.env := by rfl) (he' : starEach [c] X.env = (false, eval c X.env) :: starEach [] X.env := by rfl) (hpl : (backTo pos (starEach [c] X.env)).any (·.1) = false := by rfl) : Ew X W rs (.Call (.Name "isinstance" p) [a, c] [] pos) (rD X.K (.bool d)) := by
  refine pe_cs (pe_callB call_isi hg hm (by decide +kernel) (aw_cons ha (aw_cons hc aw_nil he') he) (by decide) (by decide) he hpl) ?_
  rintro σ H Q ⟨k', g, q⟩
  refine ⟨k', g, fun vs H1 k1 e1 pr => ?_⟩
  obtain ⟨x, y, rfl, px, py⟩ := reps2 pr
  exact ⟨x, y, t, u, d, rfl, (show y = cv from py) ▸ k, ht x H1 (ra.mono (W.sub H1) px), hk, q _ H1 k1 e1 (Dp.bl d)⟩
theorem ew_typeOwn (hg : Gl X "type") (hm : X.mg "type" = none) (ha : Ew X W rs a ra) (hi : InsOf C ra) (he : starEach [a] X.env = (false, eval a X.env) :: starEach [] X.env := by rfl) (hpl : (backTo pos (starEach [] X.env)).any (·.1) = false := by rfl) : Ew X W rs (.Call (.Name "type" p) [a] [] pos) (rRef C) :=
  ew_callTy cr_type hg hm (by decide +kernel) ha (fun v H k pv Q q => by
    obtain ⟨a, dx, fs, ev, h⟩ := hi v _ pv
    subst ev
    exact ⟨a, C, dx, fs, rfl, W.sub H _ _ h, q _ H k (Ex.refl _) rfl⟩) (by decide) (by decide) he hpl
theorem ew_isCls {C' : Addr} (ha : Ew X W rs a (rRef C)) (hb : Ew X W rs b (rRef C')) (h : C = C' ∨ (PySem.W.makesIn X.K C = true ∧ PySem.W.makesIn X.K C' = true)) : Ew X W rs (.Compare a [.Is] [b] pos) (rD X.K (.bool (decide (C = C')))) :=
  ew_cmp op_is_cls ha hb (fun x y H k p q Q n => ⟨C, C', p, q, h, n _ H k (Ex.refl _) (Dp.bl _)⟩) (nomark _)
/-! ### len, all, list -/
theorem ew_lenStr {z : Str} (hz : z.length ≤ sizeLine) (hg : Gl X "len") (hm : X.mg "len" = none) (ha : Ew X W rs a (rD X.K (.str z))) (he : starEach [a] X.env = (false, eval a X.env) :: starEach [] X.env := by rfl) (hpl : (backTo pos (starEach [] X.env)).any (·.1) = false := by rfl) : Ew X W rs (.Call (.Name "len" p) [a] [] pos) (rD X.K (.int z.length)) :=
  ew_callB call_len_str hg hm PySem.boot_len ha (fun v H k pv Q q => ⟨z, by rw [rD_str.mp pv], hz, q _ H k (Ex.refl _) (Dp.int _)⟩) (by decide) (by decide) he hpl
theorem ew_lenSeq {rl : List Rep} (hg : Gl X "len") (hm : X.mg "len" = none) (ha : Ew X W rs a (rSeq X.K rl)) (he : starEach [a] X.env = (false, eval a X.env) :: starEach [] X.env := by rfl) (hpl : (backTo pos (starEach [] X.env)).any (·.1) = false := by rfl) : Ew X W rs (.Call (.Name "len" p) [a] [] pos) (rD X.K (.int rl.length)) :=
  ew_callB call_len_seq hg hm PySem.boot_len ha (fun v H k ⟨a, xs, ev, hs, hr⟩ Q q => ⟨a, xs, by rw [ev], .inl (sqL_mono (W.sub H) hs), by rw [← hr.len]; exact q _ H k (Ex.refl _) (Dp.int _)⟩) (by decide) (by decide) he hpl
theorem ew_lenTup {rl : List Rep} (hg : Gl X "len") (hm : X.mg "len" = none) (ha : Ew X W rs a (rTup X.K rl)) (he : starEach [a] X.env = (false, eval a X.env) :: starEach [] X.env := by rfl) (hpl : (backTo pos (starEach [] X.env)).any (·.1) = false := by rfl) : Ew X W rs (.Call (.Name "len" p) [a] [] pos) (rD X.K (.int rl.length)) :=
  ew_callB call_len_seq hg hm PySem.boot_len ha (fun v H k ⟨a, xs, ev, hs, hr⟩ Q q => ⟨a, xs, by rw [ev], .inr (sqT_mono (W.sub H) hs), by rw [← hr.len]; exact q _ H k (Ex.refl _) (Dp.int _)⟩) (by decide) (by decide) he hpl
theorem ew_lenD {ds : List PyData} (hg : Gl X "len") (hm : X.mg "len" = none) (ha : Ew X W rs a (rD X.K (.list ds))) (he : starEach [a] X.env = (false, eval a X.env) :: starEach [] X.env := by rfl) (hpl : (backTo pos (starEach [] X.env)).any (·.1) = false := by rfl) : Ew X W rs (.Call (.Name "len" p) [a] [] pos) (rD X.K (.int ds.length)) := by
  have z := ew_lenSeq (p := p) (pos := pos) hg hm (ew_sub ha fun _ _ q => rD_lst.mp q) he hpl
  rw [List.length_map] at z
  exact z
/-- all([..]) where every item is True, any -/
theorem bools {K : PySem.W.Frag} : ∀ {bs : List Bool} {xs : List V} {H : Hp}, Reps (bs.map fun q => rD K (.bool q)) xs H → xs = bs.map V.bl
  | [], [], _, _ => rfl
  | q :: bs, x :: xs, H, h => by
    rw [List.map_cons, rD_bl.mp h.1, bools h.2]
  | [], _ :: _, _, h => h.elim
  | _ :: _, [], _, h => h.elim
theorem ew_all {bs : List Bool} (hc : X.calm = true) (hg : Gl X "all") (hm : X.mg "all" = none) (ha : Ew X W rs a (rLst (bs.map fun q => rD X.K (.bool q)))) (he : starEach [a] X.env = (false, eval a X.env) :: starEach [] X.env := by rfl) (hpl : (backTo pos (starEach [] X.env)).any (·.1) = false := by rfl) : Ew X W rs (.Call (.Name "all" p) [a] [] pos) (rD X.K (.bool (bs.all id))) :=
  ew_callB (cr_all hc) hg hm (by decide +kernel) ha (fun v H k ⟨a, xs, ev, hs, hr⟩ Q q => ⟨a, bs, by rw [ev], .inl (.inl (by rw [← bools hr]; exact W.sub H _ _ hs)), q _ H k (Ex.refl _) (Dp.bl _)⟩) (by decide) (by decide) he hpl
theorem ew_listT {rl : List Rep} (hg : Gl X "list") (hm : X.mg "list" = none) (ha : Ew X W rs a (rTup X.K rl)) (he : starEach [a] X.env = (false, eval a X.env) :: starEach [] X.env := by rfl) (hpl : (backTo pos (starEach [] X.env)).any (·.1) = false := by rfl) : Ew X W rs (.Call (.Name "list" p) [a] [] pos) (rLst rl) :=
  ew_callTy call_list_of hg hm (by decide +kernel) ha (fun v H k ⟨a, xs, ev, hs, hr⟩ Q q => ⟨a, xs, by rw [ev], .inr (sqT_mono (W.sub H) hs), fun l hl => q _ _ (World.okNew k hl) (World.visEx k (Ex.new hl)) ⟨l, xs, rfl, by rw [World.visNew k hl, upd_same], hr.mono (World.visEx k (Ex.new hl))⟩⟩) (by decide) (by decide) he hpl
theorem ew_listL {rl : List Rep} (hg : Gl X "list") (hm : X.mg "list" = none) (ha : Ew X W rs a (rSeq X.K rl)) (he : starEach [a] X.env = (false, eval a X.env) :: starEach [] X.env := by rfl) (hpl : (backTo pos (starEach [] X.env)).any (·.1) = false := by rfl) : Ew X W rs (.Call (.Name "list" p) [a] [] pos) (rLst rl) :=
  ew_callTy call_list_of hg hm (by decide +kernel) ha (fun v H k ⟨a, xs, ev, hs, hr⟩ Q q => ⟨a, xs, by rw [ev], .inl (sqL_mono (W.sub H) hs), fun l hl => q _ _ (World.okNew k hl) (World.visEx k (Ex.new hl)) ⟨l, xs, rfl, by rw [World.visNew k hl, upd_same], hr.mono (World.visEx k (Ex.new hl))⟩⟩) (by decide) (by decide) he hpl
/-! ### tuples joined and cut -/
theorem ew_catT {rl rl' : List Rep} (ha : Ew X W rs a (rTup X.K rl)) (hb : Ew X W rs b (rTup X.K rl')) (hl : rl.length + rl'.length ≤ 1000) : Ew X W rs (.BinOp a .Add b pos) (rTup X.K (rl ++ rl')) := by
  refine ew_op op_catA ha hb ?_
  rintro x y H k ⟨a, xs, ex, hs, hr⟩ ⟨a', ys, ey, hs', hr'⟩ Q q
  refine ⟨a, a', xs, ys, ex, ey, sqT_mono (W.sub H) hs, sqT_mono (W.sub H) hs', Nat.le_of_lt (small1000 (by rw [← hr.len, ← hr'.len]; exact hl)), fun e1 => ?_, fun _ e2 => ?_, fun _ _ z hz => ?_⟩
  · subst e1
    have e : rl = [] := List.length_eq_zero_iff.mp hr.len
    subst e
    exact q _ H k (Ex.refl _) ⟨a', ys, rfl, hs', hr'⟩
  · subst e2
    have e : rl' = [] := List.length_eq_zero_iff.mp hr'.len
    subst e
    exact q _ H k (Ex.refl _) ⟨a, xs, rfl, hs, by rw [List.append_nil]; exact hr⟩
  · exact q _ _ (World.okNew k hz) (World.visEx k (Ex.new hz)) ⟨z, xs ++ ys, rfl, .inl (.inl (by rw [World.visNew k hz, upd_same])), (hr.mono (World.visEx k (Ex.new hz))).app (hr'.mono (World.visEx k (Ex.new hz)))⟩
theorem ew_catTD {ds ds' : List PyData} (ha : Ew X W rs a (rD X.K (.tuple ds))) (hb : Ew X W rs b (rD X.K (.tuple ds'))) (hl : ds.length + ds'.length ≤ 1000) : Ew X W rs (.BinOp a .Add b pos) (rD X.K (.tuple (ds ++ ds'))) :=
  ew_sub (ew_catT (ew_sub ha fun _ _ q => rD_tup.mp q) (ew_sub hb fun _ _ q => rD_tup.mp q) (by simpa using hl)) fun _ _ q => rD_tup.mpr (by rw [List.map_append]; exact q)
/-- t[:k], a written k below its length -/
theorem reps_take : ∀ {rl : List Rep} {xs : List V} {H : Hp} (m : Nat), Reps rl xs H → Reps (rl.take m) (xs.take m) H
  | [], [], _, m, _ => by simp only [List.take_nil]; exact trivial
  | r :: rl, x :: xs, H, 0, _ => trivial
  | r :: rl, x :: xs, H, m + 1, h => ⟨h.1, reps_take m h.2⟩
  | [], _ :: _, _, _, h => h.elim
  | _ :: _, [], _, _, h => h.elim
theorem ew_takeT {rl : List Rep} {m : Nat} {p2 : Pos} (ha : Ew X W rs a (rTup X.K rl)) (hb : Ew X W rs b (rD X.K (.int m))) (hm : m < rl.length) : Ew X W rs (.Subscript a (.Slice none (some b) none p2) pos) (rTup X.K (rl.take m)) := by
  refine pe_cs (pe_slice sl_tup ha po_none (po_some hb)) ?_
  rintro σ H Q ⟨k, g, q⟩
  refine ⟨k, g, fun v H1 k1 e1 pv => ?_⟩
  show tW W rs (rD X.K (.int m)) σ H1 _
  refine ⟨k1, g.mono e1, fun w H2 k2 e2 pw => ⟨m, rD_int.mp pw, ?_⟩⟩
  obtain ⟨a', xs, ev, hs, hr⟩ := (rTup X.K rl).mono e2 pv
  have hlen : xs.length = rl.length := hr.len.symm
  have e3 : HT.sIx xs.length 0 none = 0 := rfl
  have e4 : HT.sIx xs.length xs.length (some (m : Int)) = m := by
    rw [HT.sIx_nat]
    omega
  refine ⟨a', xs, ev, sqT_mono (W.sub H2) hs, ?_, fun z hz => ?_⟩
  · rw [e4]
    omega
  · refine q _ _ (World.okNew k2 hz) ((e1.trans e2).trans (World.visEx k2 (Ex.new hz))) ⟨z, xs.take m, rfl, .inl (.inl ?_), (reps_take m hr).mono (World.visEx k2 (Ex.new hz))⟩
    rw [World.visNew k2 hz, upd_same]
    unfold cutV
    rw [e3, e4]
    rfl
theorem ew_takeTD {ds : List PyData} {m : Nat} {p2 : Pos} (ha : Ew X W rs a (rD X.K (.tuple ds))) (hb : Ew X W rs b (rD X.K (.int m))) (hm : m < ds.length) : Ew X W rs (.Subscript a (.Slice none (some b) none p2) pos) (rD X.K (.tuple (ds.take m))) :=
  ew_sub (ew_takeT (ew_sub ha fun _ _ q => rD_tup.mp q) hb (by simpa using hm)) fun _ _ q => rD_tup.mpr (by rw [List.map_take]; exact q)
/-! ### signs of texts -/
theorem ew_item_str {z : Str} {k : Int} {m : Nat} {c : Nat} (ha : Ew X W rs a (rD X.K (.str z))) (hb : Ew X W rs b (rD X.K (.int k))) (hz : z.length ≤ sizeLine) (hat : atI z.cps.toList k = some c) (hs : PlainIx b) : Ew X W rs (.Subscript a b pos) (rD X.K (.str ⟨#[c]⟩)) :=
  ew_ix ix_str ha hb (fun x y H kk p q Q n => ⟨z, k, c, rD_str.mp p, rD_int.mp q, hz, hat, n _ H kk (Ex.refl _) (Dp.str _)⟩) hs
theorem ew_inSign {c : Nat} {z : Str} (ha : Ew X W rs a (rD X.K (.str ⟨#[c]⟩))) (hb : Ew X W rs b (rD X.K (.str z))) (hm : behindInMarks .In b = false) : Ew X W rs (.Compare a [.In] [b] pos) (rD X.K (.bool (decide (c ∈ z.cps.toList)))) :=
  ew_cmp op_in_sign ha hb (fun x y H kk p q Q n => ⟨c, z, rD_str.mp p, rD_str.mp q, n _ H kk (Ex.refl _) (Dp.bl _)⟩) hm
/-! ### dicts of flat data, by written keys -/
def rDict (kvs : List (L2.Key × V)) : Rep := ⟨fun v H => ∃ a, v = .ref a ∧ H a = some (.dK kvs), fun e ⟨a, h1, h2⟩ => ⟨a, h1, e _ _ h2⟩⟩
theorem ew_dget {kvs : List (L2.Key × V)} {z : Str} {v : V} {d : PyData} (hu : X.A.units + 1 < cLine) (ho : Ew X W rs o (rDict kvs)) (hi : Ew X W rs a (rD X.K (.str z))) (hv : valV kvs (Sum.inr z) = some v) (hd : ∀ H, Dp X.K H v d) (hs : NoSl a) : Ew X W rs (.Subscript o a pos) (rD X.K d) := by
  refine pe_cs (pe_dget hu ho hi hs) ?_
  rintro σ H Q ⟨k, g, q⟩
  refine ⟨k, g, fun x H1 k1 e1 p1 => ⟨k1, g.mono e1, fun y H2 k2 e2 p2 => ?_⟩⟩
  obtain ⟨a', ev, h⟩ := (rDict kvs).mono e2 p1
  refine ⟨a', v, ev, ?_, q v H2 k2 (e1.trans e2) (hd _)⟩
  rw [rD_str.mp p2, ← hv]
  exact DGet.k (k := Sum.inr z) (W.sub H2 _ _ h)
theorem ew_disp {keys : List (Option Expr)} {values : List Expr} {trs : List (TE × TE)} {kvs : List (L2.Key × V)} (h : PPs X pos keys values trs) (hall : keys.all (·.isSome) = true) (hl : keys.length = values.length) (h0 : keys ≠ []) (h15 : keys.length ≤ 15)
    (ht : ∀ σ H Q, Q (kvs.map (fun kv => (kV kv.1, kv.2))) H → tPairs trs σ H Q) (hk : kvs.length ≤ 15) : Ew X W rs (.Dict keys values pos) (rDict (mergeK [] kvs)) := by
  refine pe_cs (pe_disp h hall hl h0 h15) ?_
  rintro σ H Q ⟨k, g, q⟩ l hl'
  refine ht σ _ _ ⟨upd_same, kvs, rfl, hk, ?_⟩
  rw [upd_upd]
  exact q _ _ (World.okNew k hl') (World.visEx k (Ex.new hl')) ⟨l, rfl, by rw [World.visNew k hl', upd_same]⟩
theorem ew_listDict {kvs : List (L2.Key × V)} {ds : List PyData} (hc : X.calm = true) (hg : Gl X "list") (hm : X.mg "list" = none) (ha : Ew X W rs a (rDict kvs)) (hd : ∀ H, Reps (ds.map (rD X.K)) (kvs.map fun kv => kV kv.1) H) (he : starEach [a] X.env = (false, eval a X.env) :: starEach [] X.env := by rfl) (hpl : (backTo pos (starEach [] X.env)).any (·.1) = false := by rfl) :
    Ew X W rs (.Call (.Name "list" p) [a] [] pos) (rD X.K (.list ds)) :=
  ew_callTy (call_listD hc) hg hm (by decide +kernel) ha (fun v H k ⟨a, ev, h⟩ Q q => ⟨a, kvs, by rw [ev], .inl (W.sub H _ _ h), fun l hl => q _ _ (World.okNew k hl) (World.visEx k (Ex.new hl)) (rD_lst.mpr ⟨l, _, rfl, .inl (.inl (by rw [World.visNew k hl, upd_same])), hd _⟩)⟩) (by decide) (by decide) he hpl
end
end Py
namespace Py
open PySem L2
section
variable {X : Cx} {W : World} {rs : Rs} {a b c e o tg it : Expr} {r ra rb rc : Rep} {pos p apos : Pos} {O : Outs} {n : Nat} {C : Addr} {k : Nat} {f : Addr} {α : Type} {pre : α → Prop} {args : α → List Rep} {fs : α → List (Str × Rep)}
/-- what follows once the new instance's __init__ is promised -/
theorem make_read {t : TA} (z : α) (hp : pre z) (ht : ∀ σ H (Q : List V → Hp → Prop), W.ok H → Sg rs σ (W.vis H) → (∀ vs H', W.ok H' → Ex (W.vis H) (W.vis H') → Reps (args z) vs (W.vis H') → Q vs H') → t σ H Q) {σ : St} {H : Hp} {Q : VK} (h : tW W rs (rIns C (fs z)) σ H Q) : StX.tMakeR C (spI C pre args fs) E0 t σ H Q := by
  obtain ⟨k, g, q⟩ := h
  refine ht σ H _ k g fun vs H1 k1 e1 p1 x dx hx hdx hne => ?_
  have hdx2 : (upd H1 dx (.own x)) x = none := by rw [upd_ne (Ne.symm hne)]; exact hx
  have k2 := hold_new (o := .ins C dx []) (World.okNew (o := .own x) k1 hdx) hdx2
  have eh : Ex (W.vis H1) ((W.hold x (.ins C dx [])).vis (upd (upd H1 dx (.own x)) x (.ins C dx []))) := hold_of (World.visNone hx) ((World.visEx k1 (Ex.new hdx)).trans (World.visEx (World.okNew k1 hdx) (Ex.new hdx2)))
  exact ⟨W, z, x, dx, vs, rfl, hp, k2, p1.mono eh, fun gs H' k' e' fl => ⟨rfl, q _ H' k'.1 (e1.trans ((eh.trans e').trans hold_sub)) ⟨x, dx, gs, rfl, hold_seen k', fl.mono hold_sub⟩⟩⟩
/-- C() -/
theorem pe_makeR0 {sp : Sp} {nm : Str} (M : Mk X.K C f) (F : FnC X k f sp) (hr : Room (k + 1) X.A) (hg : Gl X nm) (hm : X.mg nm = some (.ref C)) (hdb : (nm == ("__debug__" : Str)) = false := by decide) : PE X (.Call (.Name nm p) [] [] pos) (StX.tMakeR C sp E0 tNil) := by
  refine ⟨fun pins s σ H Q I h => ?_⟩
  refine wpAny_Call_Name_kw (ld_glob I hg hm ?_ hdb)
  exact PySem.W.callWith_K0 I.kIn M.kp (StX.run_makeR (us := []) (vs := []) M F hr pass0 I .nil h)
theorem ew_make0 {nm : Str} (z : α) (M : Mk X.K C f) (F : FnC X k f (spI C pre args fs)) (hr : Room (k + 1) X.A) (hg : Gl X nm) (hm : X.mg nm = some (.ref C)) (ha : args z = []) (hp : pre z) (hdb : (nm == ("__debug__" : Str)) = false := by decide) : Ew X W rs (.Call (.Name nm p) [] [] pos) (rIns C (fs z)) :=
  pe_cs (pe_makeR0 M F hr hg hm hdb) fun σ H Q h => make_read z hp (fun σ H Q k g q => q [] H k (Ex.refl _) (by rw [ha]; trivial)) h
/-- C( *xs) -/
theorem pe_makeS {sp : Sp} {nm : Str} {te : TE} {q : Pos} (M : Mk X.K C f) (F : FnC X k f sp) (hr : Room (k + 1) X.A) (hg : Gl X nm) (hm : X.mg nm = some (.ref C)) (he : PE X e te) (hdb : (nm == ("__debug__" : Str)) = false := by decide) (hst : starEach [.Starred e q] X.env = [(true, eval e X.env)] := by rfl) :
    PE X (.Call (.Name nm p) [.Starred e q] [] pos) (StX.tMakeR C sp E0 (fun σ H Q => te σ H fun y H1 => ∃ a xs, y = V.ref a ∧ (SqT X.K H1 a xs ∨ SqL X.K H1 a xs) ∧ Q xs H1)) := by
  refine ⟨fun pins s σ H Q I h => ?_⟩
  refine wpAny_Call_Name_kw (ld_glob I hg hm ?_ hdb)
  refine PySem.W.callWith_S (h₀ := X.base) I.ok.mod.kin M.kp (thn (he.run pins s σ H _ I h) fun v s1 ⟨y, H1, I1, ry, a, xs, ey, hxs, q⟩ => ?_) hst
  subst ey
  obtain rfl : v = Value.ref a := ry
  exact StX.star_any I1 hxs fun us s2 I2 rv => ⟨I2.kIn, StX.run_makeR M F hr pass0 I2 rv q⟩
theorem ew_makeST {nm : Str} {q : Pos} (z : α) (M : Mk X.K C f) (F : FnC X k f (spI C pre args fs)) (hr : Room (k + 1) X.A) (hg : Gl X nm) (hm : X.mg nm = some (.ref C)) (he : Ew X W rs e (rTup X.K (args z))) (hp : pre z) (hdb : (nm == ("__debug__" : Str)) = false := by decide) (hst : starEach [.Starred e q] X.env = [(true, eval e X.env)] := by rfl) :
    Ew X W rs (.Call (.Name nm p) [.Starred e q] [] pos) (rIns C (fs z)) :=
  pe_cs (pe_makeS M F hr hg hm he hdb hst) fun σ H Q h => make_read z hp (fun σ H Q k g q => ⟨k, g, fun v H' k' e' ⟨a, xs, ev, hs, hr⟩ => ⟨a, xs, ev, .inl (sqT_mono (W.sub H') hs), q xs H' k' e' hr⟩⟩) h
theorem ew_makeSL {nm : Str} {q : Pos} (z : α) (M : Mk X.K C f) (F : FnC X k f (spI C pre args fs)) (hr : Room (k + 1) X.A) (hg : Gl X nm) (hm : X.mg nm = some (.ref C)) (he : Ew X W rs e (rSeq X.K (args z))) (hp : pre z) (hdb : (nm == ("__debug__" : Str)) = false := by decide) (hst : starEach [.Starred e q] X.env = [(true, eval e X.env)] := by rfl) :
    Ew X W rs (.Call (.Name nm p) [.Starred e q] [] pos) (rIns C (fs z)) :=
  pe_cs (pe_makeS M F hr hg hm he hdb hst) fun σ H Q h => make_read z hp (fun σ H Q k g q => ⟨k, g, fun v H' k' e' ⟨a, xs, ev, hs, hr⟩ => ⟨a, xs, ev, .inr (sqL_mono (W.sub H') hs), q xs H' k' e' hr⟩⟩) h
/-- the class in a name of the def: cls(e, ..) -/
theorem ew_makeL (i : Nat) {nm : Str} {es : List Expr} (z : α) (M : Mk X.K C f) (F : FnC X k f (spI C pre args fs)) (hr : Room (k + 1) X.A) (hv : PE X (.Name nm p) (tVar i)) (hi : rs[i]? = some (some (rRef C))) (ha : Aw X W rs (e :: es) (args z)) (hp : pre z)
    (he : starEach (e :: es) X.env = (false, eval e X.env) :: starEach es X.env := by rfl) (hpl : (backTo pos (starEach es X.env)).any (·.1) = false := by rfl) : Ew X W rs (.Call (.Name nm p) (e :: es) [] pos) (rIns C (fs z)) :=
  pe_cs (pe_makeL M F hr hv ha he hpl) fun σ H Q h => ⟨by
    obtain ⟨_, g, _⟩ := h
    obtain ⟨v, e, pv⟩ := g.get hi
    rw [e]
    exact congrArg (fun z => some (some z)) pv, make_read z hp (fun σ H Q k g q => ⟨k, g, q⟩) h⟩
/-! ### an __init__ with a star parameter -/
variable {P : Program} {w : PySem.World} {K : PySem.W.Frag} {mg : Str → Option Value} {base : Heap}
theorem fn_is {nm qual pv : Str} {st : Stmt} {fd : FuncData} {N : List Str} (F : Fun K nm qual st f fd) (S : FnScope N ["self", pv] (defScope st)) (hz : ∀ z, pre z → (args z).length ≤ 1000)
    (hb : ∀ (kV doc pm : Value) (an : Option Addr) (cdv ct : Value) (us rest : List Value), us.length = ["self"].length → bindArgs (PySem.W.fnOf nm qual (defArgs st) (defBody st) (defScope st) .none kV doc pm an cdv ct) ⟨us ++ rest, []⟩ = (newTuple rest >>= fun t => pure ((["self"] : List Str).zip us ++ [(pv, t)])))
    (h : ∀ (cdv : Value) (A : Around) (outer : List Env) (s : Shared) (H : Hp) (E : XK) (W : World) (x dx : Addr) (z : α), Room k (A.deeper (PyProof.Rows.envOfC qual (defScope st) s.heap.objs.size f cdv)) → pre z →
      Ib (cxOf CX0 P w K mg base N qual (defScope st) f cdv A outer s H E).nox W C x dx (some (rRef x) :: some (rTup K (args z)) :: List.replicate (N.length - 2) none) [] (defBody st) (fs z)) : FnR P w K mg base CX0 (k + 1) f (spI C pre args fs) := by
  obtain ⟨oc, od, kV, doc, pm, an, cdv, ct, osl, rfl, lk, hcd⟩ := F.ex
  have G := StX.fn_star (P := P) (w := w) (mg := mg) (base := base) (CX := CX0) (k := k) (ps := ["self"]) (pv := pv) (N := N) lk hcd S StX.cxUp_none (hb kV doc pm an cdv ct)
    (sp := fun vs H Q _ => ∃ (W : World) (z : α) (x dx p : Addr), vs = [.ref x, .ref p] ∧ pre z ∧ (W.hold x (.ins C dx [])).ok H ∧ (rTup K (args z)).p (.ref p) ((W.hold x (.ins C dx [])).vis H) ∧
      ∀ gs H', (W.hold x (.ins C dx gs)).ok H' → Ex ((W.hold x (.ins C dx [])).vis H) ((W.hold x (.ins C dx gs)).vis H') → Flds (fs z) gs ((W.hold x (.ins C dx gs)).vis H') → Q .non H') ?_
  · refine G.imp ?_
    rintro vs H Q E ⟨W, z, x, dx, ws, ev, hp, kH, pr, q⟩
    refine ⟨[.ref x], ws, ev, rfl, Nat.le_of_lt (small1000 (pr.len ▸ hz z hp)), fun t ht => ⟨W, z, x, dx, t, rfl, hp, World.okNew kH ht, ⟨t, ws, rfl, .inl (.inl (by rw [World.visNew kH ht, upd_same])), pr.mono (World.visEx kH (Ex.new ht))⟩, fun gs H' k' e' fl => q gs H' k' ((World.visEx kH (Ex.new ht)).trans e') fl⟩⟩
  · rintro A outer s H vs Q E hr ⟨W, z, x, dx, t, ev, hp, kH, pt, q⟩
    subst ev
    refine ⟨_, (h cdv A outer s H E W x dx z hr hp).nox, [], kH, trivial, ⟨⟨_, rfl, rfl⟩, ⟨_, rfl, pt⟩, Sg.nones⟩, fun gs' H' σ' k' e' fl => q gs' H' k' (by rw [hold_any (o := .ins C dx gs') (o' := .ins C dx [])]; exact e') fl⟩
end
end Py
namespace Py
open PySem L2
section
variable {X : Cx} {W : World} {rs : Rs} {a b c e o tg it : Expr} {r ra rb rc : Rep} {pos p apos : Pos} {C : Addr} {k : Nat} {f : Addr}
theorem ew_negI {i : Int} (ha : Ew X W rs a (rD X.K (.int i))) : Ew X W rs (.UnaryOp .USub a pos) (rD X.K (.int (-i))) := by
  refine pe_cs (pe_un un_neg ha) ?_
  rintro σ H Q ⟨k, g, q⟩
  exact ⟨k, g, fun v H' k' e' p => ⟨i, rD_int.mp p, q _ H' k' e' (Dp.int _)⟩⟩
theorem ew_absI {i : Int} (hg : Gl X "abs") (hm : X.mg "abs" = none) (ha : Ew X W rs a (rD X.K (.int i))) (he : starEach [a] X.env = (false, eval a X.env) :: starEach [] X.env := by rfl) (hpl : (backTo pos (starEach [] X.env)).any (·.1) = false := by rfl) : Ew X W rs (.Call (.Name "abs" p) [a] [] pos) (rD X.K (.int (if i < 0 then -i else i))) :=
  ew_callB call_abs hg hm (by decide +kernel) ha (fun v H k pv Q q => ⟨i, by rw [rD_int.mp pv], q _ H k (Ex.refl _) (Dp.int _)⟩) (by decide) (by decide) he hpl
/-! ### calls with keywords -/
abbrev Kw (X : Cx) (W : World) (rs : Rs) (kws : List Keyword) (rl : List Rep) : Prop := PK X kws (tWA W rs rl)
theorem pk_cs {kws : List Keyword} {t t' : TA} (h : PK X kws t) (i : ∀ σ H Q, t' σ H Q → t σ H Q) : PK X kws t' := ⟨fun pos pins s σ H Q I q => h.run pos pins s σ H Q I (i _ _ _ q)⟩
theorem kw_nil : Kw X W rs [] [] := pk_cs pk_nil fun σ H Q ⟨k, g, q⟩ => q [] H k (Ex.refl _) trivial
theorem kw_cons {kws : List Keyword} {rl : List Rep} {nm : Option Str} (h : Ew X W rs e r) (h2 : Kw X W rs kws rl) : Kw X W rs (⟨nm, e, p⟩ :: kws) (r :: rl) :=
  pk_cs (pk_cons h h2) fun σ H Q ⟨k, g, q⟩ => ⟨k, g, fun v H1 k1 e1 p1 => ⟨k1, g.mono e1, fun vs H2 k2 e2 p2 => q _ H2 k2 (e1.trans e2) ⟨r.mono e2 p1, p2⟩⟩⟩
variable {α : Type} {pre : α → Prop} {args : α → List Rep} {fs : α → List (Str × Rep)} {fd : FuncData} {ps ks : List Str} {sp : Sp} {t tk : TA} {g : List Value → List Value → List Value} {gV : List V → List V → List V} {n : Nat} {es : List Expr} {kws : List Keyword} {x : Str}
theorem pe_makeKL {i : Nat} (M : Mk X.K C f) (F : FnOk X.prog X.w X.K X.mg X.base CX0 k f fd ps sp) (hr : Room (k + 1) X.A) (hv : PE X (.Name x p) (tVar i)) (hb : KBn X.K fd ps (n + 1) ks g gV) (ha : PA X (e :: es) t) (hkw : PK X kws tk)
    (hall : (backToKw pos (keywordEach kws X.env)).all (·.1.isSome) = true := by rfl) (hks : (backToKw pos (keywordEach kws X.env)).filterMap (·.1) = ks := by rfl)
    (he : starEach (e :: es) X.env = (false, eval e X.env) :: starEach es X.env := by rfl) (hpl : ((backTo pos (starEach (e :: es) X.env)).any (·.1) || (backToKw pos (keywordEach kws X.env)).any (·.1.isNone)) = false := by rfl) :
    PE X (.Call (.Name x p) (e :: es) kws pos) (fun σ H Q => σ[i]? = some (some (.ref C)) ∧ tMakeK C n ks.length sp gV E0 t tk σ H Q) := by
  refine ⟨fun pins s σ H Q I ⟨hσ, h⟩ => ?_⟩
  refine wpAny_Call_Name_kw (thn (hv.run pins s σ H (fun v H1 => v = .ref C ∧ H1 = H) I ⟨.ref C, hσ, rfl, rfl⟩) fun u s1 ⟨v, H1, I1, rv, ev, eH⟩ => ?_)
  subst ev
  subst eH
  obtain rfl : u = Value.ref C := rv
  refine PySem.W.callWith_KW (h₀ := X.base) I1.ok.mod.kin M.kp hall (thn (ha.run pos pins s1 σ H1 _ I1 h) fun us s2 ⟨vs, H2, I2, r, q⟩ => ?_) hpl he
  refine thn (hkw.run pos pins s2 σ H2 _ I2 q) fun ws s3 ⟨zs, H3, I3, rz, l1, l2, q2⟩ => ⟨I3.kIn, ?_⟩
  rw [hks]
  exact run_makeK M F hr hb pass0 I3 r rz l1 l2 q2
theorem makeK_read {rl rk : List Rep} (z : α) (hp : pre z) (hl : rl.length = n) (hk : rk.length = ks.length) (hgv : ∀ x vs zs, vs.length = n → zs.length = ks.length → gV (.ref x :: vs) zs = .ref x :: (vs ++ zs)) (ha : args z = rl ++ rk) {σ : St} {H : Hp} {Q : VK} (h : tW W rs (rIns C (fs z)) σ H Q) :
    tMakeK C n ks.length (spI C pre args fs) gV E0 (tWA W rs rl) (tWA W rs rk) σ H Q := by
  obtain ⟨kk, g, q⟩ := h
  refine ⟨kk, g, fun vs H0 k0 e0 p0 => ⟨k0, g.mono e0, fun zs H1 k1 e1 p1 => ⟨by rw [← p0.len, hl], by rw [← p1.len, hk], fun x dx hx hdx hne => ?_⟩⟩⟩
  have hdx2 : (upd H1 dx (.own x)) x = none := by rw [upd_ne (Ne.symm hne)]; exact hx
  have k2 := hold_new (o := .ins C dx []) (World.okNew (o := .own x) k1 hdx) hdx2
  have eh : Ex (W.vis H1) ((W.hold x (.ins C dx [])).vis (upd (upd H1 dx (.own x)) x (.ins C dx []))) := hold_of (World.visNone hx) ((World.visEx k1 (Ex.new hdx)).trans (World.visEx (World.okNew k1 hdx) (Ex.new hdx2)))
  rw [hgv x vs zs (by rw [← p0.len, hl]) (by rw [← p1.len, hk])]
  exact ⟨W, z, x, dx, vs ++ zs, rfl, hp, k2, by rw [ha]; exact ((p0.mono e1).app p1).mono eh, fun gs H' k' e' fl => ⟨rfl, q _ H' k'.1 ((e0.trans e1).trans ((eh.trans e').trans hold_sub)) ⟨x, dx, gs, rfl, hold_seen k', fl.mono hold_sub⟩⟩⟩
theorem ew_makeK {rl rk : List Rep} (z : α) (M : Mk X.K C f) (F : FnOk X.prog X.w X.K X.mg X.base CX0 k f fd ps (spI C pre args fs)) (hr : Room (k + 1) X.A) (hg : Gl X x) (hm : X.mg x = some (.ref C)) (hb : KBn X.K fd ps (n + 1) ks g gV) (hgv : ∀ x vs zs, vs.length = n → zs.length = ks.length → gV (.ref x :: vs) zs = .ref x :: (vs ++ zs))
    (ha : Aw X W rs (e :: es) rl) (hkw : Kw X W rs kws rk) (hp : pre z) (hz : args z = rl ++ rk) (hl : rl.length = n) (hk : rk.length = ks.length)
    (hall : (backToKw pos (keywordEach kws X.env)).all (·.1.isSome) = true := by rfl) (hks : (backToKw pos (keywordEach kws X.env)).filterMap (·.1) = ks := by rfl) (hdb : (x == ("__debug__" : Str)) = false := by decide)
    (he : starEach (e :: es) X.env = (false, eval e X.env) :: starEach es X.env := by rfl) (hpl : ((backTo pos (starEach (e :: es) X.env)).any (·.1) || (backToKw pos (keywordEach kws X.env)).any (·.1.isNone)) = false := by rfl) :
    Ew X W rs (.Call (.Name x p) (e :: es) kws pos) (rIns C (fs z)) :=
  pe_cs (pe_makeK M F hr hg hm hb pass0 ha hkw hall hks hdb he hpl) fun σ H Q h => makeK_read z hp hl hk hgv hz h
theorem ew_makeKL {rl rk : List Rep} (i : Nat) (z : α) (M : Mk X.K C f) (F : FnOk X.prog X.w X.K X.mg X.base CX0 k f fd ps (spI C pre args fs)) (hr : Room (k + 1) X.A) (hv : PE X (.Name x p) (tVar i)) (hi : rs[i]? = some (some (rRef C))) (hb : KBn X.K fd ps (n + 1) ks g gV) (hgv : ∀ x vs zs, vs.length = n → zs.length = ks.length → gV (.ref x :: vs) zs = .ref x :: (vs ++ zs))
    (ha : Aw X W rs (e :: es) rl) (hkw : Kw X W rs kws rk) (hp : pre z) (hz : args z = rl ++ rk) (hl : rl.length = n) (hk : rk.length = ks.length)
    (hall : (backToKw pos (keywordEach kws X.env)).all (·.1.isSome) = true := by rfl) (hks : (backToKw pos (keywordEach kws X.env)).filterMap (·.1) = ks := by rfl)
    (he : starEach (e :: es) X.env = (false, eval e X.env) :: starEach es X.env := by rfl) (hpl : ((backTo pos (starEach (e :: es) X.env)).any (·.1) || (backToKw pos (keywordEach kws X.env)).any (·.1.isNone)) = false := by rfl) :
    Ew X W rs (.Call (.Name x p) (e :: es) kws pos) (rIns C (fs z)) :=
  pe_cs (pe_makeKL M F hr hv hb ha hkw hall hks he hpl) fun σ H Q h => ⟨by
    obtain ⟨_, g, _⟩ := h
    obtain ⟨v, e, pv⟩ := g.get hi
    rw [e]
    exact congrArg (fun z => some (some z)) pv, makeK_read z hp hl hk hgv hz h⟩
variable {P : Program} {w : PySem.World} {K : PySem.W.Frag} {mg : Str → Option Value} {base : Heap}
/-- an __init__ of a def with defaults -/
theorem fn_iD {nm qual : Str} {params : Arguments} {body : List Stmt} {scope : Scope} {dvs : List V} {kws : List (Str × V)} {N : List Str} (F : FunD K nm qual params body scope dvs kws f fd) (S : FnScope N ps scope) (hl : ∀ z, (args z).length + 1 = ps.length)
    (h : ∀ (cdv : Value) (A : Around) (outer : List Env) (s : Shared) (H : Hp) (E : XK) (W : World) (x dx : Addr) (z : α), Room k (A.deeper (PyProof.Rows.envOfC qual scope s.heap.objs.size f cdv)) → pre z →
      Ib (cxOf CX0 P w K mg base N qual scope f cdv A outer s H E).nox W C x dx (some (rRef x) :: (args z).map some ++ List.replicate (N.length - ps.length) none) [] body (fs z)) : FnOk P w K mg base CX0 (k + 1) f fd ps (spI C pre args fs) := by
  refine F.ok S (fun vs H Q E ⟨W, z, x, dx, ws, ev, _, _, pr, _⟩ => by rw [ev, List.length_cons, ← pr.len]; exact hl z) ?_
  rintro cdv A outer s H vs Q E hr ⟨W, z, x, dx, ws, ev, hp, kH, pr, q⟩
  refine ⟨_, (h cdv A outer s H E W x dx z hr hp).nox, [], kH, trivial, ?_, fun gs' H' σ' k' e' fl => q gs' H' k' (by rw [hold_any (o := .ins C dx gs') (o' := .ins C dx [])]; exact e') fl⟩
  have e : N.length - ps.length = N.length - vs.length := by rw [ev, List.length_cons, ← pr.len, hl z]
  rw [e, ev]
  exact Sg.of (rs := rRef x :: args z) (vs := .ref x :: ws) _ ⟨rfl, pr⟩
/-- C.m(e, ..), a classmethod of an own class -/
theorem ew_cmeth {mc : Value} {m : Str} {pp g : Addr} {rl : List Rep} {pl : Sem Bool} {β : Type} {pre : Py.World → β → Prop} {args : β → List Rep} {res : β → Rep} {X : Cx} {W : World} {rs : Rs} {o e : Expr} {es : List Expr} (z : β) (ho : Ew X W rs o (rRef C)) (r : ClX.CRead X.K C mc) (c : ClX.CMet X.K C mc m pp g) (F : FnC X k g (spW pre args res)) (hr : Room k X.A) (ha : Aw X W rs (e :: es) rl) (hz : args z = rRef C :: rl) (hp : pre W z)
    (hst : starEach (e :: es) X.env = (false, eval e X.env) :: starEach es X.env := by rfl) (hpl : (backTo pos (starEach es X.env)).any (·.1) = false := by rfl)
    (ht : eval (.Call (.Attribute o m apos) (e :: es) [] pos) X.env = (do
      let ov ← eval o X.env
      standAt apos.atName
      let (f, first) ← holding [ov] (getMethod ov m pl)
      callWith pos f first (backTo pos (starEach (e :: es) X.env)) (backToKw pos (keywordEach [] X.env))) := by rfl) :
    Ew X W rs (.Call (.Attribute o m apos) (e :: es) [] pos) (res z) :=
  pe_cs (ClX.pe_cmeth ho r c F hr pass0 ha hst hpl ht) fun σ H Q ⟨k, g, q⟩ => ⟨k, g, fun v H1 k1 e1 p1 => ⟨p1, k1, g.mono e1, fun vs H2 k2 e2 p2 => ⟨W, z, hp, k2, by rw [hz]; exact ⟨rfl, p2⟩, fun w H3 k3 e3 p3 => q w H3 k3 ((e1.trans e2).trans e3) p3⟩⟩⟩
/-- [e for x in ..] -/
theorem ew_lcAll {X : Cx} {W : World} {rs : Rs} {tg it elt : Expr} {n : Nat} {item : Nat → Rep} {scope : Scope} (j : Nat) {y : Str} (f : Nat → Rep) (hc : X.calm = true) (hN : X.N.Nodup) (hi : Iw X W rs tg it n item) (ok : BlkOk X.N X.env.scope scope [(y, j)]) (hn : n ≤ 1000)
    (hg : ∀ (s : Shared) (H : Hp) (C : Addr) (cl : List (Str × Addr)) (fp : List Addr), PG (X.blk s H scope (compEnvC scope cl C X.env) fp) tg (gName j))
    (he : ∀ (s : Shared) (H : Hp) (C : Addr) (cl : List (Str × Addr)) (fp : List Addr) (D : Addr) (o : HO) (i : Nat), i < n → Ew (X.blk s H scope (compEnvC scope cl C X.env) fp) (W.hold D o) ((wipeR rs [j]).set j (some (item i))) elt (f i))
    (hs : ∀ x, foldedSetIterable it X.env x = pure x := by intro _; rfl) : Ew X W rs (.ListComp elt [⟨tg, it, [], 0⟩] scope pos) (rLst ((List.range n).map f)) := by
  rw [← takes_all]
  exact ew_lc (own := [(y, j)]) f (fun _ => true) (fun i => (wipeR rs [j]).set j (some (item i))) hc hN hi ok hn hg (fun i hi => own_name) (fun _ _ _ _ _ _ _ _ _ => pts_yes) (fun s H C cl fp D o i hi _ => he s H C cl fp D o i hi) hs
/-- y = [e for x in ..] -/
theorem sw_lcAll {X : Cx} {W : World} {rs : Rs} {O : Outs} {tg it elt : Expr} {n : Nat} {item : Nat → Rep} {scope : Scope} {spos py : Pos} (jy j : Nat) {y x : Str} (f : Nat → Rep) (hc : X.calm = true) (hN : X.N.Nodup) (hi : Iw X W rs tg it n item) (ok : BlkOk X.N X.env.scope scope [(x, j)]) (hn : n ≤ 1000)
    (hy : X.N[jy]? = some y) (hyl : X.env.scope.names.lookup y = some .local) (hsw : swapsWith (.ListComp elt [⟨tg, it, [], 0⟩] scope pos) (some (.Name y py)) spos.line X.env = pure true)
    (hg : ∀ (s : Shared) (H : Hp) (C : Addr) (cl : List (Str × Addr)) (fp : List Addr), PG (X.blk s H scope (compEnvC scope cl C X.env) fp) tg (gName j))
    (he : ∀ (s : Shared) (H : Hp) (C : Addr) (cl : List (Str × Addr)) (fp : List Addr) (D : Addr) (o : HO) (i : Nat), i < n → Ew (X.blk s H scope (compEnvC scope cl C X.env) fp) (W.hold D o) ((wipeR rs [j]).set j (some (item i))) elt (f i))
    (hs : ∀ x, foldedSetIterable it X.env x = pure x := by intro _; rfl) : Sw X W rs (.Assign [.Name y py] (.ListComp elt [⟨tg, it, [], 0⟩] scope pos) spos) (O.to (rs.set jy (some (rLst ((List.range n).map f))))) := by
  rw [← takes_all]
  exact sw_lc jy (own := [(x, j)]) f (fun _ => true) (fun i => (wipeR rs [j]).set j (some (item i))) hc hN hi ok hn hy hyl hsw hg (fun i hi => own_name) (fun _ _ _ _ _ _ _ _ _ => pts_yes) (fun s H C cl fp D o i hi _ => he s H C cl fp D o i hi) hs
theorem iw_tupM {X : Cx} {W : World} {rs : Rs} {tg it : Expr} {α : Type} {zs : List α} {f : α → Rep} (h : Ew X W rs it (rTup X.K (zs.map f))) : Iw X W rs tg it zs.length (fun i => (zs.map f).getD i rNon) := by
  have z := iw_tup (tg := tg) h
  rw [List.length_map] at z
  exact z
theorem iw_lstM {X : Cx} {W : World} {rs : Rs} {tg it : Expr} {α : Type} {zs : List α} {f : α → Rep} (h : Ew X W rs it (rLst (zs.map f))) : Iw X W rs tg it zs.length (fun i => (zs.map f).getD i rNon) := by
  have z := iw_lst (tg := tg) h
  rw [List.length_map] at z
  exact z
theorem getD_map {α : Type} {f : α → Rep} {z : List α} {i : Nat} (h : i < z.length) : (z.map f).getD i rNon = f z[i] := by
  rw [List.getD_eq_getElem?_getD, List.getElem?_map, List.getElem?_eq_getElem h]
  rfl
theorem range_map {α : Type} {β : Type} (f : α → β) (g : Nat → β) (z : List α) (h : ∀ i (hi : i < z.length), g i = f z[i]) : (List.range z.length).map g = z.map f := by
  refine List.ext_getElem (by simp) fun i h1 h2 => ?_
  rw [List.getElem_map, List.getElem_map, List.getElem_range]
  exact h i (by simpa using h2)
end
end Py
namespace Py
open PySem L2
/-- a method that says super(): what K holds of it -/
structure FunC (P : Program) (K : PySem.W.Frag) (nm qual : Str) (params : Arguments) (body : List Stmt) (scope : Scope) (f cda cc D : Addr) : Prop where
  ex : ∃ (oc : Value) (od : Option Addr) (doc pm ct : Value) (an : Option Addr) (osl : Array (Option Value)), K.lookup f = some ⟨oc, od, .func (PySem.W.fnX nm qual params body scope [("__class__", cc)] .none .none doc pm an (.ref cda) ct), osl⟩
  code : PySem.W.codeIn K (.ref cda) qual = true
  file : ∃ (ccl : Value) (cdd : Option Addr) (vs : Array Value) (ccs : Array (Option Value)) (file : Str) (tf : Tok), K.lookup cda = some ⟨ccl, cdd, .fields vs, ccs⟩ ∧ vs[2]? = some (.str file tf) ∧ ((P.main.file : Str) == file) = true
  cell : ∃ (cl : Value) (cld : Option Addr) (csl : Array (Option Value)), K.lookup cc = some ⟨cl, cld, .cell (some (.ref D)), csl⟩
  cls : ∃ cd, PySem.W.clsIn K D = some cd
  nosup : PySem.W.nsIn K mainGlobals "super" = some none
  top : (P.main.scope.names.lookup ("super" : Str)).isSome = false
  any : PySem.W.nsIn K cStatics "thirdparty.any" = some none
/-- super().m from a method of class D, self of class C: the def at f2 -/
structure SupM (K : PySem.W.Frag) (C D : Addr) (m : Str) (f2 : Addr) : Prop where
  sub : PySem.W.mroIn K C (.ref D) = some true
  at_ : PySem.W.ks_superIn K C D m = some (some (.ref f2))
  ty : PySem.W.typeIn K (.ref f2) = some (.type "function")
  fn : PySem.W.fnIn K f2 = true
section
open NdefX
variable {P : Program} {w : PySem.World} {K : PySem.W.Frag} {mg : Str → Option Value} {base : Heap} {nm qual m : Str} {params : Arguments} {scope : Scope} {f f2 cda cc C D : Addr} {N ps : List Str} {k : Nat} {sp sp2 : Sp} {e : Expr} {es : List Expr} {rest : List Stmt} {p0 p1 apos pos pos0 : Pos}
abbrev nfS (nm qual : Str) (params : Arguments) (body : List Stmt) (scope : Scope) (cc cda : Addr) : NF := ⟨nm, qual, params, body, scope, [("__class__", cc)], cda⟩
theorem cl1 {y : Str} {c cc : Addr} (h : ([(("__class__" : Str), cc)] : List (Str × Addr)).lookup y = some c) : y = "__class__" ∧ c = cc := by
  rw [List.lookup_cons] at h
  cases q : (y == ("__class__" : Str)) with
  | true =>
    rw [q] at h
    cases h
    exact ⟨by simpa using q, rfl⟩
  | false =>
    rw [q] at h
    cases h
theorem fn_super {self : Str} {ar : Arg} {s1 : Stmt} (hs1 : s1 = .Expr (.Call (.Attribute (.Call (.Name "super" p0) [] [] p1) m apos) (e :: es) [] pos) pos0) (S : FunC P K nm qual params (s1 :: rest) scope f cda cc D) (NS : NScope N (self :: ps) ["__class__"] scope) (hsup : scope.names.lookup ("super" : Str) = some .globalImplicit)
    (har : (params.posonlyargs ++ params.args).head? = some ar) (hself : ar.arg = self) (hN0 : N[0]? = some self) (hmc : (m == ("__class__" : Str)) = false)
    (hb : ∀ (doc pm ct : Value) (an : Option Addr) (us : List Value), us.length = (self :: ps).length → bindArgs (PySem.W.fnX nm qual params (s1 :: rest) scope [("__class__", cc)] .none .none doc pm an (.ref cda) ct) ⟨us, []⟩ = pure ((self :: ps).zip us))
    (M : SupM K C D m f2) (F2 : FnR P w K mg base CX0 k f2 sp2)
    (hst : ∀ env, starEach (e :: es) env = (false, eval e env) :: starEach es env) (hpl : ∀ env, (backTo pos (starEach es env)).any (·.1) = false)
    {pl : Sem Bool} (hev : ∀ env, eval (.Call (.Attribute (.Call (.Name "super" p0) [] [] p1) m apos) (e :: es) [] pos) env = (do
      let ov ← attributeBase (.Call (.Name "super" p0) [] [] p1) m env (eval (.Call (.Name "super" p0) [] [] p1) env)
      standAt apos.atName
      let (f, first) ← holding [ov] (getMethod ov m pl)
      callWith pos f first (backTo pos (starEach (e :: es) env)) []))
    (h : ∀ (A : Around) (outer : List Env) (s : Shared) (H : Hp) (vs : List V) (Q : VK) (E : XK), Room k (A.deeper (envF (nfS nm qual params (s1 :: rest) scope cc cda) f s.heap.objs.size)) → sp vs H Q E →
      ∃ x dx fs ws tA tR, vs = .ref x :: ws ∧ ws.length = ps.length ∧ H x = some (.ins C dx fs) ∧ PA (ncx CX0 P w K mg base N (nfS nm qual params (s1 :: rest) scope cc cda) f A outer s H E) (e :: es) tA ∧ PSs (ncx CX0 P w K mg base N (nfS nm qual params (s1 :: rest) scope cc cda) f A outer s H E) rest tR ∧
        tA (startF N vs [none]) H fun ws' H1 => sp2 (.ref x :: ws') H1 (fun _ H2 => tR { nx := fun _ H' => Q .non H', rt := Q } (startF N vs [none]) H2) E0) : FnR P w K mg base CX0 (k + 1) f sp := by
  intro A outer s H us vs Q E hr e0 r hsp
  obtain ⟨oc, od, doc, pm, ct, an, osl, lk⟩ := S.ex
  obtain ⟨ccl, cdd, fvs, ccs, file, tf, lkc, hfv, hfile⟩ := S.file
  obtain ⟨cl, cld, csl, lcell⟩ := S.cell
  obtain ⟨cdD, hcdD⟩ := S.cls
  have KX : K.In s.heap := e0.mod.kin.keeps fun b o e => (e0.bs b o e).1
  have lim : s.heap.NoLimit := e0.mod.nolimit.keeps fun b o e => (e0.bs b o e).1
  obtain ⟨x, dx, fs, ws, tA, tR, ev, hlw, hx, hA, hR, hq⟩ := h A outer s H vs Q E (hr.deeper _) hsp
  have hl : vs.length = (self :: ps).length := by rw [ev, List.length_cons, hlw, List.length_cons]
  have hlu : us.length = (self :: ps).length := by rw [← r.length]; exact hl
  refine ks_codeAny_call_defAt (binds := (self :: ps).zip us) hr.depth (KX _ _ lk) rfl lim (PySem.W.codeRec_of KX S.code) rfl (.of_eq (hb doc pm ct an us hlu)) NS.nocell (fun ⟨n, _⟩ hy => NS.par n (List.of_mem_zip hy).1) (fun h₁ hns kp => ?_) NS.co NS.gen NS.kind
  have I : Inv (ncx CX0 P w K mg base N (nfS nm qual params (s1 :: rest) scope cc cda) f A outer s H E) [] (startF N vs [none]) H { s with heap := h₁, toks := s.toks + ((self :: ps).zip us).length } := inv_startN NS hr.hd e0 hl r
    ⟨rfl, fun y c hy => ?_, fun y z c hy hz => ?_, fun i y hy => ?_⟩ hns kp
  · refine ks_wpAt_execs_cons ?_
    subst hs1
    refine ks_wpAt_Expr_any (ks_wpAt_MethodCall ?_ (hev _)) I.quiet
    have KI := I.kIn
    obtain ⟨oD, hD1, hD2⟩ : ∃ oD, h₁.get? D = some oD ∧ oD.data = .cls cdD := by
      have hD := hcdD
      unfold PySem.W.clsIn at hD
      split at hD
      · rename_i c d cd' sl ho
        cases hD
        exact ⟨_, KI _ _ ho, rfl⟩
      · cases hD
    obtain ⟨od', J⟩ := inst_of I hx
    refine ks_wpAt_super_base (ar := ar) hsup (NS.frk _ (List.mem_cons_self ..)) hmc rfl (KI _ _ lk) rfl har rfl (KI _ _ lkc) rfl hfv hfile S.top ?_
    obtain ⟨mb, hmb, hboot⟩ := I.mod.blt
    refine PySem.W.ks_loadName_global NS.kind hsup (Calls.loadGlobal_builtin (I.mod.glob.keeps I.bk) (PySem.W.mg_none_of I.mod.kin I.mod.glob S.nosup) (hmb.keeps I.bk) ((hboot _ (by decide)).trans (by decide +kernel)) ⟨rfl, ?_⟩)
    refine wpAny_loadName_free NS.kind (NS.frk _ (List.mem_cons_self ..)) rfl ⟨_, KI _ _ lcell, rfl⟩ ?_
    obtain ⟨mm, hnm, hlook⟩ := I.loc
    obtain ⟨u, ru, lku⟩ := hlook 0 self (.ref x) hN0 (by rw [ev]; rfl) (.inl (NS.par _ (List.mem_cons_self ..)))
    obtain rfl : u = Value.ref x := ru
    have hms : mm self = some (.ref x) := by
      rcases lku with ⟨_, e⟩ | ⟨e, _⟩
      · exact e
      · rcases e with e | e
        · rw [show (ncx CX0 P w K mg base N (nfS nm qual params _ scope cc cda) f A outer s H E).env.kindOf self = some .local from NS.par _ (List.mem_cons_self ..)] at e
          cases e
        · rw [show (ncx CX0 P w K mg base N (nfS nm qual params _ scope cc cda) f A outer s H E).env.kindOf self = some .local from NS.par _ (List.mem_cons_self ..)] at e
          cases e
    rw [hself]
    refine wpAny_loadName_local NS.kind (NS.par _ (List.mem_cons_self ..)) hnm hms ?_
    refine ks_wpAny_isType_cls hD1 hD2 ⟨rfl, ?_⟩
    refine ks_wpAny_call_super hD1 hD2 J.at_ J.cls (fun c e => ?_) (PySem.W.looks_mroIn KI M.sub) (fun h' eg k => ?_)
    · have := J.no
      unfold PySem.W.notCls at this
      rw [e] at this
      exact Bool.noConfusion this
    · have I2 := ClX.pin_new (t' := s.toks + ((self :: ps).zip us).length) I k (Nat.le_refl _) eg (fun v z => nomatch z)
      have hsup2 := M.at_
      unfold PySem.W.ks_superIn at hsup2
      cases hcl : PySem.W.clsIn K C with
      | none =>
        rw [hcl] at hsup2
        cases hsup2
      | some cdC =>
        rw [hcl] at hsup2
        obtain ⟨of, hof, hofc⟩ : ∃ of, K.lookup f2 = some of ∧ of.cls = .type "function" := by
          have ht' : (K.lookup f2).map (·.cls) = some (.type "function") := M.ty
          cases z : K.lookup f2 with
          | none => rw [z] at ht'; cases ht'
          | some of => rw [z] at ht'; exact ⟨of, rfl, Option.some.inj ht'⟩
        refine ks_wpAny_getMethod_super (K := K) (ClX.pin_at I2) (PySem.W.looks_opaque I2.kIn S.any) (l₀ := cdC.mro) (fun A Q E s k q => wpAny_bind ((PySem.W.looks_clsIn I2.kIn hcl) A _ E s k (wpAny_pure q))) rfl I2.kIn hsup2 (I2.kIn _ _ hof) hofc (PySem.W.ks_ne KI J hcl) hmc ?_
        have I3 := ClX.pin_new (o := PySem.W.methodObj (.ref f2) (.ref x)) (t' := s.toks + ((self :: ps).zip us).length + 1) I2 (fun _ _ z => Heap.get?_push_of_some _ z) (Nat.le_refl _) (Heap.get?_push_size _ rfl) (fun v z => nomatch z)
        refine ClX.callwith_cm (C := x) I3 (ClX.base_none I2 (Nat.le_refl _)) M.fn (thn (hA.run pos _ _ _ H _ I3 hq) fun us' s3 ⟨vs', H2, I4, rv, q2⟩ => ⟨⟨ClX.pin_at I4, I4.kIn⟩, ?_⟩) (hst _) (hpl _)
        refine thn (ClX.run_cm F2 (hr.deeper _) pass0 I4 rv q2) fun v s4 ⟨v', H3, I5, rv', q3⟩ => ?_
        refine wpAt_of_wpAny (wpAny_mono (hR.run [] s4 _ H3 _ (ClX.unpin I5) q3) (fun fl s' hs => ?_) fun e s' hs => hs)
        have fin : ∀ {σ' : L2.St} {H' : Hp} {v : V} {u : Value}, Inv (ncx CX0 P w K mg base N (nfS nm qual params (.Expr (.Call (.Attribute (.Call (.Name "super" p0) [] [] p1) m apos) (e :: es) [] pos) pos0 :: rest) scope cc cda) f A outer s H E) [] σ' H' s' → L2.RelV v u → Q v H' → CE outer P w H s Q u s' :=
          fun {σ' H' v u} J rv q => ⟨v, H', J.os, J.bare, J.base, J.hok, rv, q⟩
        cases fl with
        | ret u =>
          obtain ⟨v, σ', H', J, rv, q⟩ := hs
          exact fin J rv q
        | next =>
          obtain ⟨σ', H', J, q⟩ := hs
          exact fin (v := V.non) (u := Value.none) J rfl q
        | brk =>
          obtain ⟨_, _, _, q⟩ := hs
          exact False.elim q
        | cont =>
          obtain ⟨_, _, _, q⟩ := hs
          exact False.elim q
  · have hc := (cl1 hy).2
    subst hc
    exact ⟨(e0.bs _ _ (e0.mod.kin _ _ lcell)).2, _, _, KX _ _ lcell, rfl⟩
  · rw [(cl1 hy).1, (cl1 hz).1]
  · cases i with
    | zero =>
      cases hy
      exact ⟨cc, rfl, fun v hv => by cases hv⟩
    | succ i => cases hy
end
end Py
namespace Py
open PySem L2
/-! ### the state that numbers are drawn from -/
structure Draws (K : PySem.W.Frag) (W : World) (p l : Addr) (zs : List Int) : Prop where
  hid : W.hd p
  seq : ∀ H, W.ok H → SqL K H l (zs.map V.int)
  rd : ∀ H, W.ok H → ∃ b n : Int, 0 ≤ b ∧ 0 ≤ n ∧ H p = some (.lst [.ref l, .int b, .int n])
  wr : ∀ H (b n : Int), W.ok H → 0 ≤ b → 0 ≤ n → W.ok (upd H p (.lst [.ref l, .int b, .int n]))
section
variable {K : PySem.W.Frag} {W : World} {p l : Addr} {zs : List Int}
theorem Draws.hold (d : Draws K W p l zs) (D : Addr) (o : HO) : Draws K (W.hold D o) p l zs := ⟨.inl d.hid, fun H k => d.seq H k.1, fun H k => d.rd H k.1, fun H b n k hb hn => ⟨d.wr H b n k.1 hb hn, k.2.1, by
  rw [upd_ne (show D ≠ p from fun e => k.2.1 (e ▸ d.hid))]
  exact k.2.2⟩⟩
theorem vis_hid {o : HO} {H : Hp} (h : W.hd p) : W.vis (upd H p o) = W.vis H := by
  funext a
  unfold World.vis upd
  by_cases z : W.hd a
  · rw [if_pos z, if_pos z]
  · rw [if_neg z, if_neg z, if_neg (fun e : a = p => z (by rw [e]; exact h))]
end
/-- an int that is at least 0 -/
abbrev rNN (K : PySem.W.Frag) : Rep := rEx (α := {i : Int // 0 ≤ i}) fun i => rD K (.int i.1)
/-- an int from 0 on, below b -/
abbrev rBel (K : PySem.W.Frag) (b : Int) : Rep := rEx (α := {i : Int // 0 ≤ i ∧ i < b}) fun i => rD K (.int i.1)
abbrev rAnyI (K : PySem.W.Frag) : Rep := rEx (α := Int) fun i => rD K (.int i)
section
variable {X : Cx} {W : World} {rs : Rs} {a b e o tg it : Expr} {r ra rb rc : Rep} {pos pos' : Pos} {O : Outs} {n : Nat} {p l : Addr} {zs : List Int} {s0 : Expr}
theorem ew_st0 (d : Draws X.K W p l zs) (h : Ew X W rs a (rRef p)) (hb : Ew X W rs b (rD X.K (.int 0))) (hs : PlainIx b) : Ew X W rs (.Subscript a b pos) (rRef l) :=
  ew_ix ix_list h hb (fun x y H k px py Q q => by
    obtain ⟨b', n', _, _, e⟩ := d.rd H k
    exact ⟨p, _, 0, .ref l, px, rD_int.mp py, .inl (.inl e), rfl, q _ H k (Ex.refl _) rfl⟩) hs
theorem ew_st1 (d : Draws X.K W p l zs) (h : Ew X W rs a (rRef p)) (hb : Ew X W rs b (rD X.K (.int 1))) (hs : PlainIx b) : Ew X W rs (.Subscript a b pos) (rNN X.K) :=
  ew_ix ix_list h hb (fun x y H k px py Q q => by
    obtain ⟨b', n', hb, hn, e⟩ := d.rd H k
    exact ⟨p, _, 1, .int b', px, rD_int.mp py, .inl (.inl e), rfl, q _ H k (Ex.refl _) ⟨⟨b', hb⟩, Dp.int _⟩⟩) hs
theorem ew_st2 (d : Draws X.K W p l zs) (h : Ew X W rs a (rRef p)) (hb : Ew X W rs b (rD X.K (.int 2))) (hs : PlainIx b) : Ew X W rs (.Subscript a b pos) (rNN X.K) :=
  ew_ix ix_list h hb (fun x y H k px py Q q => by
    obtain ⟨b', n', hb, hn, e⟩ := d.rd H k
    exact ⟨p, _, 2, .int n', px, rD_int.mp py, .inl (.inl e), rfl, q _ H k (Ex.refl _) ⟨⟨n', hn⟩, Dp.int _⟩⟩) hs
theorem sw_st2 (d : Draws X.K W p l zs) (h : Ew X W rs a (rRef p)) (hb : Ew X W rs b (rD X.K (.int 2))) (he : Ew X W rs e (rNN X.K))
    (ha : ∀ v, assign (.Subscript a b pos') X.env v = (do
      let ov ← holding [v] (eval a X.env)
      let iv ← holding [v, ov] (eval b X.env)
      standAt pos'
      holding [v, ov, iv] (setItem ov iv v)
      release [v, ov, iv] []) := by intro _; rfl)
    (hs : swapsWithSole [.Subscript a b pos'] e pos.line X.env = pure false := by rfl) (hw : swappedStores [.Subscript a b pos'] e X.env = pure none := by rfl)
    (h1 : (assignEach [.Subscript a b pos'] X.env).map (·.2) = [assign (.Subscript a b pos') X.env] := by rfl) : Sw X W rs (.Assign [.Subscript a b pos'] e pos) (O.to rs) := by
  refine ps_cs (ps_asg he (pg_sub h hb set_list ha) hs hw h1) fun D σ H ⟨k, g, _, n, _⟩ => ⟨k, g, fun v H1 k1 e1 ⟨i, p1⟩ => ⟨k1, g.mono e1, fun x H2 k2 e2 p2 => ⟨k2, g.mono (e1.trans e2), fun y H3 k3 e3 p3 => ?_⟩⟩⟩
  obtain ⟨b', n', hb', hn, e⟩ := d.rd H3 k3
  refine ⟨p, _, 2, 2, p2, rD_int.mp p3, e, rfl, ?_⟩
  rw [rD_int.mp p1]
  have ev : W.vis (upd H3 p (.lst [.ref l, .int b', .int i.1])) = W.vis H3 := vis_hid d.hid
  refine n rs rfl σ _ (d.wr H3 b' i.1 k3 hb' i.2) ?_ ?_
  · show Ex (W.vis H) (W.vis (upd H3 p (.lst [.ref l, .int b', .int i.1])))
    rw [ev]
    exact (e1.trans e2).trans e3
  · show Sg rs σ (W.vis (upd H3 p (.lst [.ref l, .int b', .int i.1])))
    rw [ev]
    exact g.mono ((e1.trans e2).trans e3)
/-- len(script), script[k], the script set apart or not -/
theorem ew_lenH {p0 : Pos} {xs : List V} (hs : ∀ H, W.ok H → SqL X.K H l xs) (hg : Gl X "len") (hm : X.mg "len" = none) (ha : Ew X W rs a (rRef l)) (he : starEach [a] X.env = (false, eval a X.env) :: starEach [] X.env := by rfl) (hpl : (backTo pos (starEach [] X.env)).any (·.1) = false := by rfl) : Ew X W rs (.Call (.Name "len" p0) [a] [] pos) (rD X.K (.int xs.length)) :=
  ew_callB call_len_seq hg hm PySem.boot_len ha (fun v H k pv Q q => ⟨l, xs, by rw [show v = .ref l from pv], .inl (hs H k), q _ H k (Ex.refl _) (Dp.int _)⟩) (by decide) (by decide) he hpl
theorem ew_ixH {zs : List Int} {i : Int} (hs : ∀ H, W.ok H → SqL X.K H l (zs.map V.int)) (ha : Ew X W rs a (rRef l)) (hb : Ew X W rs b (rD X.K (.int i))) (h0 : 0 ≤ i) (h1 : i < zs.length) (hx : PlainIx b) : Ew X W rs (.Subscript a b pos) (rAnyI X.K) :=
  ew_ix ix_list ha hb (fun x y H k px py Q q => by
    have e : (zs.map V.int)[i.toNat]? = some (.int (zs[i.toNat]'(by omega))) := by rw [List.getElem?_map, List.getElem?_eq_getElem (by omega)]; rfl
    refine ⟨l, zs.map V.int, i, .int (zs[i.toNat]'(by omega)), px, rD_int.mp py, hs H k, ?_, q _ H k (Ex.refl _) ⟨zs[i.toNat]'(by omega), Dp.int _⟩⟩
    exact at_nat (by omega) e) hx
/-! ### values that are not told -/
theorem R2w.exr2 {α β : Type} {f : R2} {g : α → Rep} {h : β → Rep} (q : ∀ c c', R2w W f (g c) (h c') rc) : R2w W f (rEx g) (rEx h) rc := R2w.exl fun c => R2w.exr fun c' => q c c'
theorem R2w.in {α : Type} {f : R2} {g : α → Rep} (c : α) (h : R2w W f ra rb (g c)) : R2w W f ra rb (rEx g) := fun x y H k p q Q n => h x y H k p q Q fun v H' k' e' pv => n v H' k' e' ⟨c, pv⟩
/-- an expression whose reading is told under a value that is not -/
theorem ew_exCall {α : Type} {x : Str} {es : List Expr} {p0 : Pos} {k : Nat} {f : Addr} {ι : Type} {pre : World → α → Prop} {args : α → List Rep} {res : α → Rep} {rl : List Rep} (z : ι → α) (hz : ∀ vs H, Reps rl vs H → ∃ i, Reps (args (z i)) vs H) (F : FnC X k f (spW pre args res)) (hr : Room k X.A) (hk : PySem.W.keepIn X.K (.ref f) = true) (hg : Gl X x) (hm : X.mg x = some (.ref f))
    (ha : Aw X W rs (e :: es) rl) (hp : ∀ i, pre W (z i)) (hrc : ∀ i v H, (res (z i)).p v H → rc.p v H) (hdb : (x == ("__debug__" : Str)) = false := by decide) (he : starEach (e :: es) X.env = (false, eval e X.env) :: starEach es X.env := by rfl) (hpl : (backTo pos (starEach es X.env)).any (·.1) = false := by rfl) :
    Ew X W rs (.Call (.Name x p0) (e :: es) [] pos) rc :=
  pe_cs (pe_callR F hr hk hg hm ha hdb he hpl) fun σ H Q ⟨k, g, q⟩ => ⟨k, g, fun vs H1 k1 e1 p1 => let ⟨i, p2⟩ := hz vs _ p1; ⟨W, z i, hp i, k1, p2, fun v H2 k2 e2 p2 => q v H2 k2 (e1.trans e2) (hrc i _ _ p2)⟩⟩
/-- how often is not told -/
def iWe {α : Type} (W : World) (rs : Rs) (n : α → Nat) (item : Nat → Rep) : TI := fun σ H R => W.ok H ∧ Sg rs σ (W.vis H) ∧ ∀ (c : α) (J : It) (G : Hp → Prop) (Y : Nat → Hp → V → Hp → Prop) (H1 : Hp), Walk J (n c) G Y → W.ok H1 → Ex (W.vis H) (W.vis H1) →
  (∀ H2, W.ok H2 → Ex (W.vis H1) (W.vis H2) → G H2) → (∀ i x H2 H3, i < n c → Y i H2 x H3 → (H3 = H2 ∧ ∀ G2, Ex (W.vis H1) G2 → Ex G2 H2 → (item i).p x G2) ∨ ∃ T o, H2 T = none ∧ H3 = upd H2 T o ∧ ∀ G2, Ex (W.vis H1) G2 → Ex G2 H2 → (item i).p x (upd G2 T o)) → R J H1
theorem ie_range1 {α : Type} {p : Pos} {j : α → Int} (hg : Gl X "range") (hm : X.mg "range" = none) (h : Ew X W rs a (rEx fun c => rD X.K (.int (j c)))) (hj : ∀ c, -(2 ^ 62) ≤ j c ∧ j c < 2 ^ 62) (hs : starEach [a] X.env = [(false, eval a X.env)] := by rfl) :
    PI X tg (.Call (.Name "range" p) [a] [] pos) (iWe W rs (fun c => (j c).toNat) (fun i => rD X.K (.int i))) := by
  refine pi_cs (pi_range1 hg hm (aw_cons h aw_nil hs) hs) ?_
  rintro σ H R ⟨k, g, q⟩
  refine ⟨k, g, ?_⟩
  intro vs H1 k1 e1 hp
  obtain ⟨x, rfl, c, p⟩ := reps1 hp
  refine ⟨j c, by rw [rD_int.mp p], (hj c).1, (hj c).2, q c (Itr 0 (j c).toNat) (fun _ => True) _ H1 walk_range k1 e1 (fun _ _ _ => trivial) ?_⟩
  rintro i x H2 H3 hi ⟨eH, hx⟩
  exact .inl ⟨eH, fun G2 _ _ => rD_int.mpr (hx.trans (congrArg V.int (Int.zero_add _)))⟩
theorem lc_readE {α : Type} {N : α → Nat} {B : Nat} {item : Nat → Rep} {ifs : List Expr} {vs : List Nat} {g : TG} (f : Nat → Rep) (Ms : Nat → Rs) (hB : ∀ c, N c ≤ B) (hn : B ≤ 1000) (hown : ∀ i, i < B → OwnG X.K g vs (wipeR rs vs) (item i) (Ms i)) {σ : St} {H : Hp} {Q : VK} (h : tW W rs (rEx fun c => rLst ((List.range (N c)).map f)) σ H Q) :
    tLc (iWe W rs N item) g (fun σ H Q => ∃ D o i, i < B ∧ tWT (W.hold D o) (Ms i) true σ H Q) (fun σ H Q => ∃ D o i, i < B ∧ tW (W.hold D o) (Ms i) (f i) σ H Q) vs σ H Q := by
  obtain ⟨k, g0, q⟩ := h
  refine ⟨k, g0, ?_⟩
  intro c J G Y H1 w k1 e1 hGk hY D hD
  have hB := hB c
  have nd : ¬ W.hd D := World.free k1 hD
  have vD : W.vis H1 D = none := World.visNone hD
  refine lc_it (D := D) (g := g) (tt := fun σ H Q => ∃ D o i, i < B ∧ tWT (W.hold D o) (Ms i) true σ H Q) (te := fun σ H Q => ∃ D o i, i < B ∧ tW (W.hold D o) (Ms i) (f i) σ H Q) (vs := vs) (Qd := fun H => Q (.ref D) H) w
    (fun i H' => W.ok H' ∧ Ex (W.vis H1) (W.vis H') ∧ ∃ acc, H' D = some (.lst acc) ∧ Reps (takes f (fun _ => true) i) acc ((W.hold D (.lst [])).vis H')) ?_ ?_ ?_ ?_
  · exact ⟨World.okNew k1 hD, World.visEx k1 (Ex.new hD), [], upd_same, trivial⟩
  · intro i H' _ p
    exact hGk H' p.1 p.2.1
  · rintro i x H' H'' hi' ⟨k', e', acc, hDa, hR⟩ hy
    have kW : (W.hold D (.lst acc)).ok H' := ⟨k', nd, hDa⟩
    have eG : Ex (W.vis H1) ((W.hold D (.lst acc)).vis H') := hold_of vD e'
    have hR : Reps (takes f (fun _ => true) i) acc ((W.hold D (.lst acc)).vis H') := by rw [hold_any (o' := .lst [])]; exact hR
    obtain ⟨k2, e2, p2⟩ : (W.hold D (.lst acc)).ok H'' ∧ Ex ((W.hold D (.lst acc)).vis H') ((W.hold D (.lst acc)).vis H'') ∧ (item i).p x ((W.hold D (.lst acc)).vis H'') := by
      rcases hY i x H' H'' hi' hy with ⟨rfl, hp2⟩ | ⟨T, o, hT, rfl, hp2⟩
      · exact ⟨kW, Ex.refl _, hp2 _ eG (World.sub _ _)⟩
      · exact ⟨World.okNew kW hT, World.visEx kW (Ex.new hT), by rw [World.visNew kW hT]; exact hp2 _ eG (World.sub _ _)⟩
    have hiB : i < B := Nat.lt_of_lt_of_le hi' hB
    refine (hown i hiB).run x σ H'' _ ((g0.mono (e1.trans (eG.trans e2))).wipe) (World.sub _ _) p2 _ fun σ2 hw g2 => ⟨hw, D, .lst acc, i, hiB, k2, g2, fun H3 k3 e3 => ?_⟩
    refine iteT ⟨D, .lst acc, i, hiB, k3, g2.mono e3, fun y H4 k4 e4 p4 => ⟨acc, k4.2.2, small1000 ?_, ?_, ?_, acc ++ [y], upd_same, ?_⟩⟩
    · rw [← hR.len]
      have := takes_len f (fun _ => true) i
      omega
    · exact W.keep k4.1 fun a z => upd_ne (fun q => nd (q ▸ z))
    · refine (eG.trans (((e2.trans e3).trans e4).trans ?_))
      rw [← hold_upd (o := .lst []) (u := .lst (acc ++ [y]))]
      exact hold_sub
    · rw [takes_yes rfl, hold_upd (o' := .lst acc)]
      exact (hR.mono ((e2.trans e3).trans e4)).snoc p4
  · rintro H' ⟨k', e', acc, hDa, hR⟩
    rw [takes_all] at hR
    exact q _ H' k' (e1.trans e') ⟨c, D, acc, rfl, by rw [World.seen nd]; exact hDa, hR.mono hold_sub⟩
/-- y = [e for x in range(..)], how often is not told -/
theorem sw_lcE {α : Type} {N : α → Nat} {elt : Expr} {item : Nat → Rep} {scope : Scope} {spos py : Pos} (jy j : Nat) {y x : Str} (B : Nat) (f : Nat → Rep) (hc : X.calm = true) (hN : X.N.Nodup) (hi : PI X tg it (iWe W rs N item)) (hB : ∀ c, N c ≤ B) (ok : BlkOk X.N X.env.scope scope [(x, j)]) (hn : B ≤ 1000)
    (hy : X.N[jy]? = some y) (hyl : X.env.scope.names.lookup y = some .local) (hsw : swapsWith (.ListComp elt [⟨tg, it, [], 0⟩] scope pos) (some (.Name y py)) spos.line X.env = pure true)
    (hg : ∀ (s : Shared) (H : Hp) (C : Addr) (cl : List (Str × Addr)) (fp : List Addr), PG (X.blk s H scope (compEnvC scope cl C X.env) fp) tg (gName j))
    (he : ∀ (s : Shared) (H : Hp) (C : Addr) (cl : List (Str × Addr)) (fp : List Addr) (D : Addr) (o : HO) (i : Nat), i < B → Ew (X.blk s H scope (compEnvC scope cl C X.env) fp) (W.hold D o) ((wipeR rs [j]).set j (some (item i))) elt (f i))
    (hs : ∀ x, foldedSetIterable it X.env x = pure x := by intro _; rfl) : Sw X W rs (.Assign [.Name y py] (.ListComp elt [⟨tg, it, [], 0⟩] scope pos) spos) (O.to (rs.set jy (some (rEx fun c => rLst ((List.range (N c)).map f))))) :=
  ps_cs (ps_setLc hc hN hy hyl hsw hi ok hg (tt := fun σ H Q => ∃ D o i, i < B ∧ tWT (W.hold D o) ((wipeR rs [j]).set j (some (item i))) true σ H Q) (fun s H C cl fp => ⟨fun pins s' σ H' Q I ⟨D, o, i, hi, q⟩ => pts_yes.run pins s' σ H' Q I q⟩)
    (te := fun σ H Q => ∃ D o i, i < B ∧ tW (W.hold D o) ((wipeR rs [j]).set j (some (item i))) (f i) σ H Q) (fun s H C cl fp => ⟨fun pins s' σ H' Q I ⟨D, o, i, hi, q⟩ => (he s H C cl fp D o i hi).run pins s' σ H' Q I q⟩) hs) fun D σ H ⟨k, g, r, nx, _⟩ =>
    lc_readE (X := X) (ifs := []) f (fun i => (wipeR rs [j]).set j (some (item i))) hB hn (fun i hi => own_name) ⟨k, g, fun v H' k' e' p' => nx _ rfl _ H' k' e' ((g.mono e').set p')⟩
/-- a list of such things that are not told -/
theorem reps_ex {α : Type} {g : α → Rep} : ∀ {n : Nat} {xs : List V} {H : Hp}, Reps (List.replicate n (rEx g)) xs H → ∃ qs : List α, qs.length = n ∧ Reps (qs.map g) xs H
  | 0, [], _, _ => ⟨[], rfl, trivial⟩
  | n + 1, x :: xs, H, h => by
    obtain ⟨⟨q, hq⟩, h2⟩ := h
    obtain ⟨qs, e, h3⟩ := reps_ex h2
    exact ⟨q :: qs, by rw [List.length_cons, e], hq, h3⟩
  | 0, _ :: _, _, h => h.elim
  | _ + 1, [], _, h => h.elim
theorem lst_ex {α : Type} {g : α → Rep} {n : Nat} {v : V} {H : Hp} (h : (rLst ((List.range n).map fun _ => rEx g)).p v H) : ∃ qs : List α, qs.length = n ∧ (rLst (qs.map g)).p v H := by
  obtain ⟨a, xs, e, h1, h2⟩ := h
  rw [List.map_const', List.length_range] at h2
  obtain ⟨qs, e2, h3⟩ := reps_ex h2
  exact ⟨qs, e2, a, xs, e, h1, h3⟩
theorem bw_nilN {X : Cx} {W : World} {rs : Rs} {O : Outs} (h : O.nx = some rs) : Bw X W rs [] O := pss_cs pss_nil fun D σ H ⟨k, g, _, n, _⟩ => n rs h σ H k (Ex.refl _) g
theorem sg_wipe : ∀ {rs : Rs} {σ : St} {H : Hp} {i : Nat}, Sg rs σ H → Sg (rs.set i none) σ H
  | [], [], _, _, _ => trivial
  | some _ :: _, _ :: _, _, 0, h => h.2
  | none :: _, _ :: _, _, 0, h => h
  | some _ :: _, _ :: _, _, i + 1, h => ⟨h.1, sg_wipe (i := i) h.2⟩
  | none :: rs, _ :: σ, H, i + 1, h => sg_wipe (rs := rs) (σ := σ) (H := H) (i := i) h
  | [], _ :: _, _, _, h => h.elim
  | some _ :: _, [], _, _, h => h.elim
  | none :: _, [], _, _, h => h.elim
/-- a slot is forgotten -/
theorem bw_wipe {X : Cx} {W : World} {rs : Rs} {sts : List Stmt} {O : Outs} (i : Nat) (h : Bw X W (rs.set i none) sts O) : Bw X W rs sts O := pss_cs h fun D σ H ⟨k, g, q⟩ => ⟨k, sg_wipe g, q⟩
end
end Py
namespace Py
open PySem L2
section
variable {X : Cx} {W : World} {rs : Rs} {a b c e o tg it : Expr} {r ra rb rc : Rep} {pos p apos : Pos} {C f : Addr} {k : Nat} {α : Type} {pre : World → α → Prop} {args : α → List Rep} {res : α → Rep} {fs : List (Str × Rep)}
theorem ew_boolOwn {m : Nat} (z : α) (hm' : m < 2 ^ 63) (hg : Gl X "bool") (hmm : X.mg "bool" = none) (ha : Ew X W rs a (rIns C fs)) (hn : PySem.W.findIn X.K (.ref C) "__bool__" = some none) (hM : Meth X.K C "__len__" f) (F : FnC X k f (spW pre args res)) (hr : Room (k + 3) X.A) (hp : pre W z) (haz : args z = [rIns C fs]) (hrz : res z = rD X.K (.int m))
    (he : starEach [a] X.env = (false, eval a X.env) :: starEach [] X.env := by rfl) (hpl : (backTo pos (starEach [] X.env)).any (·.1) = false := by rfl) : Ew X W rs (.Call (.Name "bool" p) [a] [] pos) (rD X.K (.bool (m != 0))) :=
  ew_callTy call_boolOwn hg hmm (by decide +kernel) ha (fun v H kk pv Q q => by
    obtain ⟨a', dx, gs, ev, hi, fl⟩ := pv
    have hi' := W.sub H _ _ hi
    refine ⟨v, rfl, ⟨a', C, dx, gs, ev, hi', hn⟩, hr.mono (by omega), a', C, dx, f, gs, k, _, ev, hi', hM, F, hr, W, z, hp, kk, by rw [haz]; exact ⟨⟨a', dx, gs, ev, hi, fl⟩, trivial⟩, fun w H' k' e' pw => ⟨m, ?_, hm', q _ H' k' e' (Dp.bl _)⟩⟩
    rw [hrz] at pw
    exact rD_int.mp pw) (by decide) (by decide) he hpl
theorem ew_ixOwn (z : α) (ha : Ew X W rs a (rIns C fs)) (hb : Ew X W rs b rb) (hM : Meth X.K C "__getitem__" f) (hf : PySem.W.fnIn X.K f = true) (F : FnC X k f (spW pre args res)) (hr : Room (k + 1) X.A) (hp : pre W z) (haz : args z = [rIns C fs, rb])
    (hsl : ∀ (x : Addr) (i : Value), subscripted b true (.ref x) i = runValue (.builtin "lifetime.subscript" ⟨[.ref x, i], []⟩)) : Ew X W rs (.Subscript a b pos) (res z) :=
  pe_cs (pe_ixOwn ha hb hsl) fun σ H Q ⟨kk, g, q⟩ => ⟨kk, g, fun v H1 k1 e1 p1 => ⟨k1, g.mono e1, fun y H2 k2 e2 p2 => by
    obtain ⟨a', dx, gs, ev, hi, fl⟩ := (rIns C fs).mono e2 p1
    have hi' := W.sub H2 _ _ hi
    exact ⟨⟨a', C, dx, f, gs, k, _, ev, hi', hM, F, hr, W, z, hp, k2, by rw [haz]; exact ⟨⟨a', dx, gs, ev, hi, fl⟩, p2, trivial⟩, fun w H3 k3 e3 p3 => q w H3 k3 ((e1.trans e2).trans e3) p3⟩, f, ⟨C, hM.at_, a', dx, gs, ev, hi'⟩, hf⟩⟩⟩
end
end Py
namespace Py
open PySem L2
/-! ### what is raised -/
/-- called with such values, it raises an error of class B, and only makes objects -/
def spR {α : Type} (B : Addr) (pre : World → α → Prop) (args : α → List Rep) : Sp := fun vs H _ E => ∃ (W : World) (z : α), pre W z ∧ W.ok H ∧ Reps (args z) vs (W.vis H) ∧ ∀ H', W.ok H' → Ex (W.vis H) (W.vis H') → E (.ref B) none H'
/-- an __init__ that raises -/
def spIR {α : Type} (C B : Addr) (pre : α → Prop) (args : α → List Rep) : Sp := fun vs H _ E => ∃ (W : World) (z : α) (x dx : Addr) (ws : List V), vs = .ref x :: ws ∧ pre z ∧ (W.hold x (.ins C dx [])).ok H ∧ Reps (args z) ws ((W.hold x (.ins C dx [])).vis H) ∧
  ∀ H', (W.hold x (.ins C dx [])).ok H' → Ex ((W.hold x (.ins C dx [])).vis H) ((W.hold x (.ins C dx [])).vis H') → E (.ref B) none H'
section
variable {P : Program} {w : PySem.World} {K : PySem.W.Frag} {mg : Str → Option Value} {base : Heap} {C B f : Addr} {α : Type} {k : Nat}
/-- a def that raises -/
theorem fn_r {x qual : Str} {st : Stmt} {fd : FuncData} {N ps : List Str} {pre : World → α → Prop} {args : α → List Rep} (F : Fun K x qual st f fd) (S : FnScope N ps (defScope st)) (hb : Binds K fd ps []) (hl : ∀ z, (args z).length = ps.length)
    (h : ∀ (cdv : Value) (A : Around) (outer : List Env) (s : Shared) (H : Hp) (E : XK) (W : World) (z : α), Room k (A.deeper (PyProof.Rows.envOfC qual (defScope st) s.heap.objs.size f cdv)) → pre W z →
      PSs (cxOf (L2.CX P w) P w K mg base N qual (defScope st) f cdv A outer s H E) (defBody st) (fun D σ H => W.ok H ∧ Sg ((args z).map some ++ List.replicate (N.length - ps.length) none) σ (W.vis H) ∧ ∀ H', W.ok H' → Ex (W.vis H) (W.vis H') → E (.ref B) none H')) : FnR P w K mg base (L2.CX P w) (k + 1) f (spR B pre args) := by
  have G : FnOk P w K mg base (L2.CX P w) (k + 1) f fd ps (spR B pre args) := by
    refine F.okX S (fun vs H Q E ⟨W, z, _, _, pr, _⟩ => by rw [← hl z, pr.len]) ?_
    rintro cdv A outer s H vs Q E hr ⟨W, z, hp, kH, pr, q⟩
    refine ⟨_, h cdv A outer s H E W z hr hp, kH, ?_, q⟩
    have e : N.length - ps.length = N.length - vs.length := by rw [← pr.len, hl z]
    rw [e]
    exact Sg.of _ pr
  exact (G.raw hb .nil).imp fun vs H Q E q => by rw [List.append_nil]; exact q
/-- an __init__ with a star parameter that raises -/
theorem fn_isR {nm qual pv : Str} {st : Stmt} {fd : FuncData} {N : List Str} {pre : α → Prop} {args : α → List Rep} (F : Fun K nm qual st f fd) (S : FnScope N ["self", pv] (defScope st)) (hz : ∀ z, pre z → (args z).length ≤ 1000)
    (hb : ∀ (kV doc pm : Value) (an : Option Addr) (cdv ct : Value) (us rest : List Value), us.length = ["self"].length → bindArgs (PySem.W.fnOf nm qual (defArgs st) (defBody st) (defScope st) .none kV doc pm an cdv ct) ⟨us ++ rest, []⟩ = (newTuple rest >>= fun t => pure ((["self"] : List Str).zip us ++ [(pv, t)])))
    (h : ∀ (cdv : Value) (A : Around) (outer : List Env) (s : Shared) (H : Hp) (E : XK) (W : World) (x dx : Addr) (z : α), Room k (A.deeper (PyProof.Rows.envOfC qual (defScope st) s.heap.objs.size f cdv)) → pre z →
      PSs (cxOf (L2.CX P w) P w K mg base N qual (defScope st) f cdv A outer s H E) (defBody st) (fun D σ H => (W.hold x (.ins C dx [])).ok H ∧ Sg (some (rRef x) :: some (rTup K (args z)) :: List.replicate (N.length - 2) none) σ ((W.hold x (.ins C dx [])).vis H) ∧ ∀ H', (W.hold x (.ins C dx [])).ok H' → Ex ((W.hold x (.ins C dx [])).vis H) ((W.hold x (.ins C dx [])).vis H') → E (.ref B) none H')) : FnR P w K mg base (L2.CX P w) (k + 1) f (spIR C B pre args) := by
  obtain ⟨oc, od, kV, doc, pm, an, cdv, ct, osl, rfl, lk, hcd⟩ := F.ex
  have G := StX.fn_star (P := P) (w := w) (mg := mg) (base := base) (CX := L2.CX P w) (k := k) (ps := ["self"]) (pv := pv) (N := N) lk hcd S StX.cxUp (hb kV doc pm an cdv ct)
    (sp := fun vs H Q E => ∃ (W : World) (z : α) (x dx p : Addr), vs = [.ref x, .ref p] ∧ pre z ∧ (W.hold x (.ins C dx [])).ok H ∧ (rTup K (args z)).p (.ref p) ((W.hold x (.ins C dx [])).vis H) ∧
      ∀ H', (W.hold x (.ins C dx [])).ok H' → Ex ((W.hold x (.ins C dx [])).vis H) ((W.hold x (.ins C dx [])).vis H') → E (.ref B) none H') ?_
  · refine G.imp ?_
    rintro vs H Q E ⟨W, z, x, dx, ws, ev, hp, kH, pr, q⟩
    refine ⟨[.ref x], ws, ev, rfl, Nat.le_of_lt (small1000 (pr.len ▸ hz z hp)), fun t ht => ⟨W, z, x, dx, t, rfl, hp, World.okNew kH ht, ⟨t, ws, rfl, .inl (.inl (by rw [World.visNew kH ht, upd_same])), pr.mono (World.visEx kH (Ex.new ht))⟩, fun H' k' e' => q H' k' ((World.visEx kH (Ex.new ht)).trans e')⟩⟩
  · rintro A outer s H vs Q E hr ⟨W, z, x, dx, t, ev, hp, kH, pt, q⟩
    subst ev
    exact ⟨_, h cdv A outer s H E W x dx z hr hp, kH, ⟨⟨_, rfl, rfl⟩, ⟨_, rfl, pt⟩, Sg.nones⟩, q⟩
end
section
variable {X : Cx} {W : World} {rs : Rs} {a b c e o tg it : Expr} {r ra rb rc : Rep} {pos p apos : Pos} {C B f : Addr} {k : Nat} {α : Type}
/-- C( *xs) that raises -/
theorem pe_makeSR {sp : Sp} {nm : Str} {te : TE} {q : Pos} {E : XK} (M : Mk X.K C f) (F : FnR X.prog X.w X.K X.mg X.base (L2.CX X.prog X.w) k f sp) (hx : Passes (L2.CX X.prog X.w) X E) (hr : Room (k + 1) X.A) (hg : Gl X nm) (hm : X.mg nm = some (.ref C)) (he : PE X e te) (hdb : (nm == ("__debug__" : Str)) = false := by decide) (hst : starEach [.Starred e q] X.env = [(true, eval e X.env)] := by rfl) :
    PE X (.Call (.Name nm p) [.Starred e q] [] pos) (StX.tMakeR C sp E (fun σ H Q => te σ H fun y H1 => ∃ a xs, y = V.ref a ∧ (SqT X.K H1 a xs ∨ SqL X.K H1 a xs) ∧ Q xs H1)) := by
  refine ⟨fun pins s σ H Q I h => ?_⟩
  refine wpAny_Call_Name_kw (ld_glob I hg hm ?_ hdb)
  refine PySem.W.callWith_S (h₀ := X.base) I.ok.mod.kin M.kp (thn (he.run pins s σ H _ I h) fun v s1 ⟨y, H1, I1, ry, a, xs, ey, hxs, q⟩ => ?_) hst
  subst ey
  obtain rfl : v = Value.ref a := ry
  exact StX.star_any I1 hxs fun us s2 I2 rv => ⟨I2.kIn, StX.run_makeR M F hr hx I2 rv q⟩
theorem pe_makeSRT {nm : Str} {q : Pos} {E : XK} {pre : α → Prop} {args : α → List Rep} (z : α) (M : Mk X.K C f) (F : FnR X.prog X.w X.K X.mg X.base (L2.CX X.prog X.w) k f (spIR C B pre args)) (hx : Passes (L2.CX X.prog X.w) X E) (hr : Room (k + 1) X.A) (hg : Gl X nm) (hm : X.mg nm = some (.ref C)) (he : Ew X W rs e (rTup X.K (args z))) (hp : pre z) (hdb : (nm == ("__debug__" : Str)) = false := by decide) (hst : starEach [.Starred e q] X.env = [(true, eval e X.env)] := by rfl) :
    PE X (.Call (.Name nm p) [.Starred e q] [] pos) (fun σ H Q => W.ok H ∧ Sg rs σ (W.vis H) ∧ ∀ H', W.ok H' → Ex (W.vis H) (W.vis H') → E (.ref B) none H') :=
  pe_cs (pe_makeSR M F hx hr hg hm he hdb hst) fun σ H Q ⟨kk, g, h⟩ => ⟨kk, g, fun v H1 k1 e1 ⟨a, xs, ev, hs, hrr⟩ => ⟨a, xs, ev, .inl (sqT_mono (W.sub H1) hs), fun x dx hx hdx hne => by
    have hdx2 : (upd H1 dx (.own x)) x = none := by rw [upd_ne (Ne.symm hne)]; exact hx
    have k2 := hold_new (o := .ins C dx []) (World.okNew (o := .own x) k1 hdx) hdx2
    have eh : Ex (W.vis H1) ((W.hold x (.ins C dx [])).vis (upd (upd H1 dx (.own x)) x (.ins C dx []))) := hold_of (World.visNone hx) ((World.visEx k1 (Ex.new hdx)).trans (World.visEx (World.okNew k1 hdx) (Ex.new hdx2)))
    exact ⟨W, z, x, dx, xs, rfl, hp, k2, hrr.mono eh, fun H' k' e' => h H' k'.1 (e1.trans ((eh.trans e').trans hold_sub))⟩⟩⟩
/-- an own operator that raises -/
theorem run_atX {pins : List (Addr × Obj)} {σ : St} {H : Hp} {s : Shared} {A : Around} {Q : VK} {sp : Sp} {us : List Value} {ws : List V} {E : XK} (F : FnR X.prog X.w X.K X.mg X.base (L2.CX X.prog X.w) k f sp) (hx : Passes (L2.CX X.prog X.w) X E) (hr : Room k A) (e0 : Env0 X.prog X.w X.K X.mg X.base A X.stack s H) (I : Inv X pins σ H s) (r : Vals ws us) (h : sp ws H Q E) :
    codeAny (model X.prog X.w) A (.call (.ref f) ⟨us, []⟩) (fun r s' => match r with | .ok (.ret v) => EP X pins σ Q v s' | .ok _ => False | .error e => X.xe e s') s := by
  refine codeAny_mono (F A X.stack s H us ws Q E hr e0 r h) fun r s' hq => ?_
  cases r with
  | error e => exact hx pins σ H s e s' I hq
  | ok fl =>
    cases fl with
    | ret u => exact I.after hq
    | next => exact False.elim hq
    | brk => exact False.elim hq
    | cont => exact False.elim hq
theorem op_ownR (op : Operator) {E : XK} {sp : Sp} (hx : Passes (L2.CX X.prog X.w) X E) (hc : PySem.W.selfFirst X.K C = true) (hm : Meth X.K C (PySem.dunder op.info.2) f) (F : FnR X.prog X.w X.K X.mg X.base (L2.CX X.prog X.w) k f sp) (hr : Room (k + 1) X.A) : OpR X (binaryOp op) (fun x y H Q => ∃ a b dx dy fs gs, x = .ref a ∧ y = .ref b ∧ H a = some (.ins C dx fs) ∧ H b = some (.ins C dy gs) ∧ sp [x, y] H Q E) := by
  intro pins s σ H x y v u Q I rx ry ⟨a, b, dx, dy, fs, gs, ex, ey, hi, hj, q⟩
  subst ex
  subst ey
  obtain rfl : v = Value.ref a := rx
  obtain rfl : u = Value.ref b := ry
  obtain ⟨m, hF⟩ := I.fr
  obtain ⟨od, J⟩ := inst_of I hi
  obtain ⟨od', J'⟩ := inst_of I hj
  refine PySem.W.binop_K hF I.ok.mod.kin J J'.type hc hm.at_ hm.fn (thn (wpAny_call (run_atX (us := [.ref a, .ref b]) (ws := [.ref a, .ref b]) F hx (hr.mono (Nat.le_succ _)) I.env0 I (.cons rfl (.cons rfl .nil)) q)) fun w s' h => ?_)
  obtain ⟨z, H', I', rz, qz⟩ := h
  exact cmpback rz ⟨z, H', I', rz, qz⟩
end
end Py
namespace Py
open PySem L2
section
variable {X : Cx} {W : World} {rs : Rs} {a b c e o tg it : Expr} {r r1 r2 ra rb rc : Rep} {pos p apos : Pos} {O : Outs} {sts : List Stmt}
/-- a slot's value is told in other words, with what was not told made known -/
theorem bw_open {α : Type} (i : Nat) {f : α → Rep} (hi : rs[i]? = some (some r)) (cv : ∀ v H, r.p v H → ∃ c, (f c).p v H) (h : ∀ c, Bw X W (rs.set i (some (f c))) sts O) : Bw X W rs sts O :=
  pss_cs (t := fun D σ H => ∃ c, sW W (rs.set i (some (f c))) O D σ H) ⟨fun pins s σ H D I ⟨c, q⟩ => (h c).run pins s σ H D I q⟩ fun D σ H ⟨k, g, q'⟩ => by
    obtain ⟨v, e, p⟩ := g.get hi
    obtain ⟨c, p⟩ := cv v _ p
    refine ⟨c, k, ?_, q'⟩
    have z := g.set (i := i) p
    have hs : σ.set i (some v) = σ := by
      obtain ⟨hlt, hv⟩ := List.getElem?_eq_some_iff.mp e
      rw [← hv]
      exact List.set_getElem_self hlt
    rw [hs] at z
    exact z
/-- x, y = a, b -/
theorem sw_par (i j : Nat) {x y : Str} {px py pt : Pos} {kt k2 pt2} (hc : X.calm = true) (hN : X.N.Nodup) (hi : X.N[i]? = some x) (hj : X.N[j]? = some y) (hij : i ≠ j) (hx : X.env.scope.names.lookup x = some .local) (hy : X.env.scope.names.lookup y = some .local)
    (ha : Aw X W rs [a, b] [r1, r2]) (hw : swappedStores [.Tuple [.Name x px, .Name y py] kt pt] (.Tuple [a, b] k2 pt2) X.env = pure (some [x, y]))
    (hs : swapsWithSole [.Tuple [.Name x px, .Name y py] kt pt] (.Tuple [a, b] k2 pt2) pos.line X.env = pure false := by rfl) :
    Sw X W rs (.Assign [.Tuple [.Name x px, .Name y py] kt pt] (.Tuple [a, b] k2 pt2) pos) (O.to ((rs.set i (some r1)).set j (some r2))) :=
  ps_cs (ps_par hc hN hi hj hij hx hy ha hw hs) fun D σ H ⟨k, g, _, n, _⟩ => ⟨k, g, fun vs H' k' e' p' => by
    obtain ⟨v, w, rfl, pv, pw⟩ := reps2 p'
    exact ⟨v, w, rfl, n _ rfl _ H' k' e' (((g.mono e').set pv).set pw)⟩⟩
theorem ew_catL {rl rl' : List Rep} (ha : Ew X W rs a (rLst rl)) (hb : Ew X W rs b (rLst rl')) (hl : rl.length + rl'.length ≤ 1000) : Ew X W rs (.BinOp a .Add b pos) (rLst (rl ++ rl')) := by
  refine ew_op op_cat ha hb ?_
  rintro x y H k ⟨a, xs, ex, hs, hr⟩ ⟨a', ys, ey, hs', hr'⟩ Q q
  exact ⟨a, a', xs, ys, ex, ey, W.sub H _ _ hs, W.sub H _ _ hs', Nat.le_of_lt (small1000 (by rw [← hr.len, ← hr'.len]; exact hl)), fun z hz => q _ _ (World.okNew k hz) (World.visEx k (Ex.new hz)) ⟨z, xs ++ ys, rfl, by rw [World.visNew k hz, upd_same], (hr.mono (World.visEx k (Ex.new hz))).app (hr'.mono (World.visEx k (Ex.new hz)))⟩⟩
end
end Py
namespace Py
open PySem L2
/-! ### a new state to draw from -/
def World.draw (W : World) (p l : Addr) : World where
  hd := fun a => W.hd a ∨ a = p
  ok := fun H => W.ok H ∧ ¬ W.hd p ∧ ∃ b n : Int, 0 ≤ b ∧ 0 ≤ n ∧ H p = some (.lst [.ref l, .int b, .int n])
  there := fun {H a} k h => by
    rcases h with h | h
    · exact W.there k.1 h
    · subst h
      obtain ⟨_, _, b, n, _, _, e⟩ := k
      rw [e]
      exact fun z => nomatch z
  keep := fun {H H'} k h => ⟨W.keep k.1 fun a z => h a (.inl z), k.2.1, by rw [h p (.inr rfl)]; exact k.2.2⟩
section
variable {K : PySem.W.Frag} {W : World} {p l : Addr} {zs : List Int}
theorem draw_draws (hs : ∀ H, W.ok H → SqL K H l (zs.map V.int)) : Draws K (W.draw p l) p l zs := by
  refine ⟨.inr rfl, fun H k => hs H k.1, fun H k => k.2.2, fun H b n k hb hn => ⟨W.keep k.1 fun a z => upd_ne (fun q => k.2.1 (q ▸ z)), k.2.1, b, n, hb, hn, upd_same⟩⟩
theorem draw_vis {H : Hp} : (W.draw p l).vis H = fun a => if a = p then none else W.vis H a := by
  funext a
  by_cases z : a = p
  · subst z
    rw [if_pos rfl]
    exact if_pos (.inr rfl)
  · rw [if_neg z]
    unfold World.vis
    by_cases y : W.hd a
    · rw [if_pos (show (W.draw p l).hd a from .inl y), if_pos y]
    · rw [if_neg (show ¬ (W.draw p l).hd a from fun q => q.elim y z), if_neg y]
theorem draw_sub {H : Hp} : Ex ((W.draw p l).vis H) (W.vis H) := fun a u e => by
  rw [draw_vis] at e
  dsimp only at e
  split at e
  · cases e
  · exact e
theorem draw_of {G H : Hp} (hG : G p = none) (e : Ex G (W.vis H)) : Ex G ((W.draw p l).vis H) := fun a u q => by
  rw [draw_vis]
  dsimp only
  rw [if_neg (ne_of_none q hG)]
  exact e a u q
end
section
variable {X : Cx} {W : World} {rs : Rs} {a b c e : Expr} {r ra rb rc : Rep} {pos p0 lpos : Pos} {l f : Addr} {zs : List Int} {k : Nat} {i : Int}
/-- f([script, by, 0]) -/
theorem ew_drawCall {α : Type} {x : Str} {res : Rep} (mk : Addr → α) {pre : World → α → Prop} {args : α → List Rep} (F : FnC X k f (spW pre args (fun _ => res))) (hs : ∀ H, W.ok H → SqL X.K H l (zs.map V.int)) (hpre : ∀ p W', Draws X.K W' p l zs → pre W' (mk p)) (harg : ∀ p, args (mk p) = [rRef p]) (hr : Room k X.A) (hk : PySem.W.keepIn X.K (.ref f) = true) (hg : Gl X x) (hm : X.mg x = some (.ref f))
    (ha : Aw X W rs [a, b, c] [rRef l, rD X.K (.int i), rD X.K (.int 0)]) (hi : 0 ≤ i) (hdb : (x == ("__debug__" : Str)) = false := by decide) (he : starEach [Expr.List [a, b, c] lpos] X.env = (false, eval (.List [a, b, c] lpos) X.env) :: starEach [] X.env := by rfl) (hpl : (backTo pos (starEach [] X.env)).any (·.1) = false := by rfl) :
    Ew X W rs (.Call (.Name x p0) [.List [a, b, c] lpos] [] pos) res :=
  pe_cs (pe_callR F hr hk hg hm (pa_cons (pe_lst ha) pa_nil he) hdb he hpl) fun σ H Q ⟨kk, g, q⟩ => ⟨kk, g, fun vs H1 k1 e1 p1 => by
    obtain ⟨x1, x2, x3, rfl, h1, h2, h3⟩ := reps3 p1
    refine ⟨by show 3 ≤ sizeLine; exact Nat.le_of_lt (small1000 (by decide)), fun p hp => ?_⟩
    rw [show x1 = .ref l from h1, rD_int.mp h2, rD_int.mp h3]
    have nd : ¬ W.hd p := World.free k1 hp
    have kd : (W.draw p l).ok (upd H1 p (.lst [.ref l, .int i, .int 0])) := ⟨World.okNew k1 hp, nd, i, 0, hi, by decide, upd_same⟩
    have eh : Ex (W.vis H1) ((W.draw p l).vis (upd H1 p (.lst [.ref l, .int i, .int 0]))) := draw_of (World.visNone hp) (World.visEx k1 (Ex.new hp))
    exact ⟨W.draw p l, mk p, hpre p _ (draw_draws hs), kd, by rw [harg]; exact ⟨rfl, trivial⟩, fun v H' k' e' pv => q v H' k'.1 (e1.trans ((eh.trans e').trans draw_sub)) (res.mono draw_sub pv)⟩⟩
theorem ew_max2 {i j : Int} (hc : X.calm = true) (hg : Gl X "max") (hm : X.mg "max" = none) (ha : Aw X W rs [a, b] [rD X.K (.int i), rD X.K (.int j)]) (he : starEach [a, b] X.env = (false, eval a X.env) :: starEach [b] X.env := by rfl) (hpl : (backTo pos (starEach [b] X.env)).any (·.1) = false := by rfl) : Ew X W rs (.Call (.Name "max" p0) [a, b] [] pos) (rD X.K (.int (if j > i then j else i))) :=
  pe_cs (pe_callB (call_max2 hc) hg hm (by decide +kernel) ha (by decide) (by decide) he hpl) fun σ H Q ⟨k, g, q⟩ => ⟨k, g, fun vs H1 k1 e1 p1 => by
    obtain ⟨x, y, rfl, h1, h2⟩ := reps2 p1
    exact ⟨i, j, by rw [rD_int.mp h1, rD_int.mp h2], q _ H1 k1 e1 (Dp.int _)⟩⟩
theorem ew_min2 {i j : Int} (hc : X.calm = true) (hg : Gl X "min") (hm : X.mg "min" = none) (ha : Aw X W rs [a, b] [rD X.K (.int i), rD X.K (.int j)]) (he : starEach [a, b] X.env = (false, eval a X.env) :: starEach [b] X.env := by rfl) (hpl : (backTo pos (starEach [b] X.env)).any (·.1) = false := by rfl) : Ew X W rs (.Call (.Name "min" p0) [a, b] [] pos) (rD X.K (.int (if j < i then j else i))) :=
  pe_cs (pe_callB (call_min2 hc) hg hm (by decide +kernel) ha (by decide) (by decide) he hpl) fun σ H Q ⟨k, g, q⟩ => ⟨k, g, fun vs H1 k1 e1 p1 => by
    obtain ⟨x, y, rfl, h1, h2⟩ := reps2 p1
    exact ⟨i, j, by rw [rD_int.mp h1, rD_int.mp h2], q _ H1 k1 e1 (Dp.int _)⟩⟩
end
end Py
namespace K31
open PySem L2 Py
/-! ### the text by places -/
def top (i : Nat) : Stmt := PySem.Challenge.pw_sortreason_k31_whole_keys.main.body.getD i (.Pass ⟨0, 0, 0, 0⟩)
abbrev sIsName : Stmt := top 4
abbrev sIsInteger : Stmt := top 5
abbrev sIsBetween : Stmt := top 6
abbrev sMInit : Stmt := inClass (top 16) 0
abbrev sMEq : Stmt := inClass (top 16) 1
abbrev sMName : Stmt := inClass (top 16) 2
abbrev sPlainOf : Stmt := inClass (top 17) 0
abbrev sSizeOf : Stmt := inClass (top 18) 0
abbrev sRInit : Stmt := inClass (top 19) 0
abbrev sREq : Stmt := inClass (top 19) 1
abbrev sROf : Stmt := inClass (top 19) 2
abbrev sEOf : Stmt := inClass (top 20) 0
abbrev sPInit : Stmt := inClass (top 21) 0
abbrev sPEq : Stmt := inClass (top 21) 1
abbrev sPNeg : Stmt := inClass (top 21) 2
abbrev sPUp : Stmt := inClass (top 21) 3
abbrev sPDownw : Stmt := inClass (top 21) 4
abbrev sPMeas : Stmt := inClass (top 21) 5
abbrev sPDown : Stmt := inClass (top 21) 6
abbrev sKInit : Stmt := inClass (top 22) 0
abbrev sKEq : Stmt := inClass (top 22) 1
abbrev sKLen : Stmt := inClass (top 22) 2
abbrev sKAdd : Stmt := inClass (top 22) 3
abbrev sKNeg : Stmt := inClass (top 22) 4
abbrev sKCont : Stmt := inClass (top 22) 5
abbrev sKGet : Stmt := inClass (top 22) 6
abbrev sKParts : Stmt := inClass (top 22) 8
/-! ### the addresses -/
structure Ad where
  (cPlain cSize cRest cEnding cPart cKey cMeasure cBadKey : Addr)
  (fIsName fIsInteger fIsBetween fMInit fMEq fMName fPlainOf fSizeOf fRInit fREq fROf fEOf fPInit fPEq fPNeg fPUp fPDownw fPMeas fPDown fKInit fKEq fKLen fKAdd fKNeg fKCont fKGet fKParts : Addr)
/-! ### the data -/
inductive Meas | plain (n : Str) | size (n : Str) | rest (n : Str) (k : Int) | ending (n : Str) deriving DecidableEq
def Meas.name : Meas → Str | .plain n => n | .size n => n | .rest n _ => n | .ending n => n
structure PartD where
  m : Meas
  down : Bool
deriving DecidableEq
def clsOf (d : Ad) : Meas → Addr | .plain _ => d.cPlain | .size _ => d.cSize | .rest _ _ => d.cRest | .ending _ => d.cEnding
def fldsOf (K : PySem.W.Frag) : Meas → List (Str × Rep)
  | .plain n => [("_name", rD K (.str n))]
  | .size n => [("_name", rD K (.str n))]
  | .rest n k => [("_name", rD K (.str n)), ("_divisor", rD K (.int k))]
  | .ending n => [("_name", rD K (.str n))]
def rMeas (K : PySem.W.Frag) (d : Ad) (m : Meas) : Rep := rIns (clsOf d m) (fldsOf K m)
def rPart (K : PySem.W.Frag) (d : Ad) (p : PartD) : Rep := rIns d.cPart [("_measure", rMeas K d p.m), ("_down", rD K (.bool p.down))]
def rKey (K : PySem.W.Frag) (d : Ad) (ps : List PartD) : Rep := rIns d.cKey [("_parts", rTup K (ps.map (rPart K d)))]
/-- the letters a to z -/
def Good (z : Str) : Prop := 1 ≤ z.length ∧ z.length ≤ 8 ∧ ∀ c ∈ z.cps.toList, c ∈ ("abcdefghijklmnopqrstuvwxyz" : Str).cps.toList
/-! ### what the top has left -/
def fOf (d : Ad) : Meas → Addr | .plain _ => d.fPlainOf | .size _ => d.fSizeOf | .rest _ _ => d.fROf | .ending _ => d.fEOf
def fEq (d : Ad) : Meas → Addr | .rest _ _ => d.fREq | _ => d.fMEq
def isRest : Meas → Bool | .rest _ _ => true | _ => false
structure Tx (P : Program) (K : PySem.W.Frag) (mg : Str → Option Value) (d : Ad) : Prop where
  gLetters : ∃ t, mg "LETTERS" = some (.str "abcdefghijklmnopqrstuvwxyz" t)
  gLongest : ∃ t, mg "LONGEST" = some (.int 8 t)
  gMost : ∃ t, mg "MOST_PARTS" = some (.int 6 t)
  bLen : mg "len" = none
  bAll : mg "all" = none
  bIsi : mg "isinstance" = none
  bStr : mg "str" = none
  bInt : mg "int" = none
  bBool : mg "bool" = none
  bType : mg "type" = none
  bAbs : mg "abs" = none
  bList : mg "list" = none
  gIsName : mg "is_name" = some (.ref d.fIsName)
  gIsInteger : mg "is_integer" = some (.ref d.fIsInteger)
  gIsBetween : mg "is_between" = some (.ref d.fIsBetween)
  gMeasure : mg "Measure" = some (.ref d.cMeasure)
  gPlain : mg "Plain" = some (.ref d.cPlain)
  gSize : mg "Size" = some (.ref d.cSize)
  gRest : mg "Rest" = some (.ref d.cRest)
  gEnding : mg "Ending" = some (.ref d.cEnding)
  gPart : mg "Part" = some (.ref d.cPart)
  gKey : mg "Key" = some (.ref d.cKey)
  isName : ∃ fd, Fun K "is_name" "is_name" sIsName d.fIsName fd
  isInteger : ∃ fd, Fun K "is_integer" "is_integer" sIsInteger d.fIsInteger fd
  isBetween : ∃ fd, Fun K "is_between" "is_between" sIsBetween d.fIsBetween fd
  mInit : ∃ fd, Fun K "__init__" "Measure.__init__" sMInit d.fMInit fd
  mEq : ∃ fd, Fun K "__eq__" "Measure.__eq__" sMEq d.fMEq fd
  mName : ∃ fd, Fun K "name" "Measure.name" sMName d.fMName fd
  plainOf : ∃ fd, Fun K "of" "Plain.of" sPlainOf d.fPlainOf fd
  sizeOf : ∃ fd, Fun K "of" "Size.of" sSizeOf d.fSizeOf fd
  rInit : ∃ cda cc, FunC P K "__init__" "Rest.__init__" (defArgs sRInit) (defBody sRInit) (defScope sRInit) d.fRInit cda cc d.cRest
  rSup : SupM K d.cRest d.cRest "__init__" d.fMInit
  rEq : ∃ fd, Fun K "__eq__" "Rest.__eq__" sREq d.fREq fd
  rOf : ∃ fd, Fun K "of" "Rest.of" sROf d.fROf fd
  eOf : ∃ fd, Fun K "of" "Ending.of" sEOf d.fEOf fd
  pInit : ∃ fd, FunD K "__init__" "Part.__init__" (defArgs sPInit) (defBody sPInit) (defScope sPInit) [] [("down", .bl false)] d.fPInit fd
  pEq : ∃ fd, Fun K "__eq__" "Part.__eq__" sPEq d.fPEq fd
  pNeg : ∃ fd, Fun K "__neg__" "Part.__neg__" sPNeg d.fPNeg fd
  pUp : ∃ fd, Fun K "up" "Part.up" sPUp d.fPUp fd
  pDownw : ∃ fd, Fun K "downward" "Part.downward" sPDownw d.fPDownw fd
  pMeas : ∃ fd, Fun K "measure" "Part.measure" sPMeas d.fPMeas fd
  pDown : ∃ fd, Fun K "down" "Part.down" sPDown d.fPDown fd
  kInit : ∃ fd, Fun K "__init__" "Key.__init__" sKInit d.fKInit fd
  kEq : ∃ fd, Fun K "__eq__" "Key.__eq__" sKEq d.fKEq fd
  kLen : ∃ fd, Fun K "__len__" "Key.__len__" sKLen d.fKLen fd
  kAdd : ∃ fd, Fun K "__add__" "Key.__add__" sKAdd d.fKAdd fd
  kNeg : ∃ fd, Fun K "__neg__" "Key.__neg__" sKNeg d.fKNeg fd
  kCont : ∃ fd, Fun K "__contains__" "Key.__contains__" sKCont d.fKCont fd
  kGet : ∃ fd, Fun K "__getitem__" "Key.__getitem__" sKGet d.fKGet fd
  kParts : ∃ fd, Fun K "parts" "Key.parts" sKParts d.fKParts fd
  isi : ∀ m, IsiC K (clsOf d m)
  nName : ∀ m, NoAttr K (clsOf d m) "_name"
  nDiv : ∀ m, NoAttr K (clsOf d m) "_divisor"
  mOf : ∀ m, Meth K (clsOf d m) "of" (fOf d m)
  mmEq : ∀ m, Meth K (clsOf d m) "__eq__" (fEq d m)
  qName : ∃ q, ∀ m, PropOf K (clsOf d m) "name" q d.fMName
  nf : ∀ m m', PySem.W.notFirst K (clsOf d m) (.ref (clsOf d m')) = true
  kRest : ∀ m, PySem.W.kitOne K (.ref (clsOf d m)) (.ref d.cRest) = some (isRest m)
  kMeas : ∀ m, PySem.W.kitOne K (.ref (clsOf d m)) (.ref d.cMeasure) = some true
  mks : ∀ m, PySem.W.makesIn K (clsOf d m) = true
  inj : [d.cPlain, d.cSize, d.cRest, d.cEnding].Nodup
  mkPlain : Mk K d.cPlain d.fMInit
  mkSize : Mk K d.cSize d.fMInit
  mkEnding : Mk K d.cEnding d.fMInit
  mkRest : Mk K d.cRest d.fRInit
  isiP : IsiC K d.cPart
  nPm : NoAttr K d.cPart "_measure"
  nPd : NoAttr K d.cPart "_down"
  mPEq : Meth K d.cPart "__eq__" d.fPEq
  mPNeg : Meth K d.cPart "__neg__" d.fPNeg
  qPm : ∃ q, PropOf K d.cPart "measure" q d.fPMeas
  qPd : ∃ q, PropOf K d.cPart "down" q d.fPDown
  nfP : PySem.W.notFirst K d.cPart (.ref d.cPart) = true
  kP : PySem.W.kitOne K (.ref d.cPart) (.ref d.cPart) = some true
  mkPart : Mk K d.cPart d.fPInit
  cmPart : ∃ mc p1 p2, ClX.CRead K d.cPart mc ∧ ClX.CMet K d.cPart mc "up" p1 d.fPUp ∧ ClX.CMet K d.cPart mc "downward" p2 d.fPDownw
  isiK : IsiC K d.cKey
  nKp : NoAttr K d.cKey "_parts"
  mKEq : Meth K d.cKey "__eq__" d.fKEq
  mKLen : Meth K d.cKey "__len__" d.fKLen
  mKAdd : Meth K d.cKey "__add__" d.fKAdd
  mKNeg : Meth K d.cKey "__neg__" d.fKNeg
  mKCont : Meth K d.cKey "__contains__" d.fKCont
  mKGet : Meth K d.cKey "__getitem__" d.fKGet
  fnKGet : PySem.W.fnIn K d.fKGet = true
  qKp : ∃ q, PropOf K d.cKey "parts" q d.fKParts
  nfK : PySem.W.notFirst K d.cKey (.ref d.cKey) = true
  kK : PySem.W.kitOne K (.ref d.cKey) (.ref d.cKey) = some true
  sfK : PySem.W.selfFirst K d.cKey = true
  nbK : PySem.W.findIn K (.ref d.cKey) "__bool__" = some none
  mkKey : Mk K d.cKey d.fKInit
  gBad : mg "BadKey" = some (.ref d.cBadKey)
  xBad : PySem.W.excIn K d.cBadKey [.type "ValueError", .type "Exception", .type "BaseException", .type "object"] "ValueError.__new__" = true
  kBad : PySem.W.keepIn K (.ref d.cBadKey) = true
  bBad : PySem.W.subIn K (.ref d.cBadKey) (.type "BaseException") = some true
  tBad : PySem.W.typeIn K (.ref d.cBadKey) = some (.type "type")
  eBad : PySem.W.exmOne K (.ref d.cBadKey) (.ref d.cBadKey) = some true
theorem r2_IK {W : Py.World} {K : PySem.W.Frag} {g : Int → Int → V} {i j : Int} {d : PyData} (hd : ∀ H, Dp K H (g i j) d) : R2w W (rI0 g) (rD K (.int i)) (rD K (.int j)) (rD K d) := fun x y H k p q Q h => ⟨i, j, rD_int.mp p, rD_int.mp q, h _ H k (Ex.refl _) (hd _)⟩
section
variable {P : Program} {w : PySem.World} {K : PySem.W.Frag} {mg : Str → Option Value} {base : Heap} {d : Ad}
theorem scIsName : FnScope ["value", "letter"] ["value"] (defScope sIsName) := ⟨rfl, rfl, rfl, by decide +kernel, rfl, by decide +kernel, by decide +kernel⟩
theorem ok_isName (T : Tx P K mg d) : FnR P w K mg base CX0 1 d.fIsName (spW (fun _ z => Good z) (fun z => [rD K (.str z)]) (fun _ => rD K (.bool true))) := by
  obtain ⟨fd, F⟩ := T.isName
  refine fn_w F scIsName (F.binds fun _ _ _ _ _ _ us hl => match us, hl with | [_], _ => rfl) (fun _ => rfl) fun cdv A outer s H E W z hr hp => ⟨none, ?_, fun _ e => nomatch e⟩
  obtain ⟨g1, g2, g3⟩ := hp
  have hz : z.length ≤ sizeLine := Nat.le_of_lt (small1000 (by omega))
  refine bw_cons (N := [some (rD K (.str z)), none]) (sw_if (d := false) (tw_l (lw_or (c := false) (d := false) (tw_not (c := true) (tw_val (ew_isi (t := .type "str") (d := true) rfl T.bIsi (ew_name 0 rfl (pv 0)) (ew_ty rfl T.bStr (by decide +kernel)) (.ty "str") isR_str (kit_ty (by decide +kernel))) (by intro _; rfl)))
    fun _ => lw_one (tw_not (c := true) (tw_eq (tw_chain op_le op_le ew_int (ew_lenStr hz rfl T.bLen (ew_name 0 rfl (pv 0))) (ew_globI rfl T.gLongest) (r2_I0 fun _ => Dp.bl _) (fun _ => r2_I0 fun _ => Dp.bl _)) ?_)))) (fun e => nomatch e) fun _ => bw_nil) ?_
  · rw [decide_eq_true (by omega), decide_eq_true (by omega)] <;> rfl
  refine bw_one (sw_ret ?_)
  have hall : (((List.range z.cps.size).map fun i => decide (z.cps.getD i 0 ∈ ("abcdefghijklmnopqrstuvwxyz" : Str).cps.toList)).all id) = true := by
    rw [List.all_eq_true]
    intro x hx
    obtain ⟨i, hi, rfl⟩ := List.mem_map.mp hx
    have hi' : i < z.cps.size := List.mem_range.mp hi
    refine decide_eq_true (g3 _ ?_)
    rw [Array.getD_eq_getD_getElem?, Array.getElem?_eq_getElem hi']
    simp
  rw [← hall]
  refine ew_all rfl rfl T.bAll ?_
  have e : (((List.range z.cps.size).map fun i => decide (z.cps.getD i 0 ∈ ("abcdefghijklmnopqrstuvwxyz" : Str).cps.toList)).map fun q => rD K (.bool q)) = takes (fun i => rD K (.bool (decide (z.cps.getD i 0 ∈ ("abcdefghijklmnopqrstuvwxyz" : Str).cps.toList)))) (fun _ => true) z.cps.size := by
    rw [Py.takes_all, List.map_map] <;> rfl
  show Ew _ W _ _ (rLst (((List.range z.cps.size).map fun i => decide (z.cps.getD i 0 ∈ ("abcdefghijklmnopqrstuvwxyz" : Str).cps.toList)).map fun q => rD K (.bool q)))
  rw [e]
  refine ew_lc (own := [("letter", 1)]) (g := gName 1) _ _ (fun i => [some (rD K (.str z)), some (rD K (.str ⟨#[z.cps.getD i 0]⟩))]) rfl scIsName.nd (iw_str (ew_name 0 rfl (pv 0))) (blkOk_by (N := ["value", "letter"]) (sc := defScope sIsName) (by decide +kernel)) (by show z.length ≤ 1000; omega) (fun _ _ _ _ _ => pg_name scIsName.nd rfl (.inl rfl)) (fun i _ => own_name) (fun _ _ _ _ _ _ _ _ _ => pts_yes) ?_
  intro s' H' C cl fp D o i hi _
  exact ew_inSign (ew_name 1 rfl (pv 1)) (ew_globS rfl T.gLetters) rfl
theorem scIsInteger : FnScope ["value"] ["value"] (defScope sIsInteger) := ⟨rfl, rfl, rfl, by decide +kernel, rfl, by decide +kernel, by decide +kernel⟩
theorem ok_isInteger (T : Tx P K mg d) : FnR P w K mg base CX0 1 d.fIsInteger (spW (α := Int) (fun _ _ => True) (fun z => [rD K (.int z)]) (fun _ => rD K (.bool true))) := by
  obtain ⟨fd, F⟩ := T.isInteger
  refine fn_w F scIsInteger (F.binds fun _ _ _ _ _ _ us hl => match us, hl with | [_], _ => rfl) (fun _ => rfl) fun cdv A outer s H E W z hr hp => ⟨none, bw_one (sw_ret ?_), fun _ e => nomatch e⟩
  exact ew_and (c := true) (d := true) (ew_isi (t := .type "int") (d := true) rfl T.bIsi (ew_name 0 rfl (pv 0)) (ew_ty rfl T.bInt (by decide +kernel)) (.ty "int") isR_int (kit_ty (by decide +kernel))) fun _ => ew_one (ew_not (c := false) (ew_isi (t := .type "int") (d := false) rfl T.bIsi (ew_name 0 rfl (pv 0)) (ew_ty rfl T.bBool (by decide +kernel)) (.ty "bool") isR_int (kit_ty (by decide +kernel))))
theorem scIsBetween : FnScope ["value", "low", "high"] ["value", "low", "high"] (defScope sIsBetween) := ⟨rfl, rfl, rfl, by decide +kernel, rfl, by decide +kernel, by decide +kernel⟩
theorem ok_isBetween (T : Tx P K mg d) : FnR P w K mg base CX0 2 d.fIsBetween (spW (α := Int × Int × Int) (fun _ _ => True) (fun z => [rD K (.int z.1), rD K (.int z.2.1), rD K (.int z.2.2)]) (fun z => rD K (.bool (decide (z.2.1 ≤ z.1) && decide (z.1 ≤ z.2.2))))) := by
  obtain ⟨fd, F⟩ := T.isBetween
  obtain ⟨fd', F'⟩ := T.isInteger
  refine fn_w F scIsBetween (F.binds fun _ _ _ _ _ _ us hl => match us, hl with | [_, _, _], _ => rfl) (fun _ => rfl) fun cdv A outer s H E W z hr hp => ⟨none, bw_one (sw_ret ?_), fun _ e => nomatch e⟩
  exact ew_and (c := true) (ew_call z.1 (ok_isInteger T) hr F'.kp rfl T.gIsInteger (aw_cons (ew_name 0 rfl (pv 0)) aw_nil) trivial) fun _ => ew_one (ew_chain op_le op_le (ew_name 1 rfl (pv 1)) (ew_name 0 rfl (pv 0)) (ew_name 2 rfl (pv 2)) (r2_IK fun _ => Dp.bl _) fun _ => r2_IK fun _ => Dp.bl _)
/-! ### measures -/
theorem scMInit : FnScope ["self", "name"] ["self", "name"] (defScope sMInit) := ⟨rfl, rfl, rfl, by decide +kernel, rfl, by decide +kernel, by decide +kernel⟩
theorem ok_mInit (T : Tx P K mg d) {C : Addr} (c : Cls K C) (n : NoAttr K C "_name") : FnR P w K mg base CX0 2 d.fMInit (spI C Good (fun z => [rD K (.str z)]) (fun z => [("_name", rD K (.str z))])) := by
  obtain ⟨fd, F⟩ := T.mInit
  obtain ⟨fd', F'⟩ := T.isName
  refine fn_i F scMInit (F.binds fun _ _ _ _ _ _ us hl => match us, hl with | [_, _], _ => rfl) (fun _ => rfl) fun cdv A outer s H E W x dx z hr hp => ?_
  refine ib_if (fun gs => tw_not (c := true) (tw_val (ew_call z (ok_isName T) hr F'.kp rfl T.gIsName (aw_cons (ew_name 1 rfl (pv 1)) aw_nil) hp) (by intro _; rfl))) (ib_set (i := 0) (pv 0) rfl (fun gs => ew_name 1 rfl (pv 1)) c n rfl (by decide) ib_nil rfl)
theorem lookName {K : PySem.W.Frag} (m : Meas) : (fldsOf K m).lookup ("_name" : Str) = some (rD K (.str m.name)) := by cases m <;> rfl
theorem scMEq : FnScope ["self", "other"] ["self", "other"] (defScope sMEq) := ⟨rfl, rfl, rfl, by decide +kernel, rfl, by decide +kernel, by decide +kernel⟩
theorem Good.strOk {z : Str} (h : Good z) : PyData.strOk z = true := by
  unfold PyData.strOk
  rw [← Array.all_toList, List.all_eq_true]
  intro x hx
  have : ∀ c ∈ ("abcdefghijklmnopqrstuvwxyz" : Str).cps.toList, c < 0x110000 := by decide +kernel
  exact decide_eq_true (this x (h.2.2 x hx))
theorem shaped_str {z : Str} (h : Good z) : SeqAt.shaped (.str z) = true := by simp [SeqAt.shaped, PyData.canLay0, PyData.depth, h.strOk]
theorem beq_str (a b : Str) : (a == b) = decide (a = b) := by
  by_cases h : a = b
  · subst h
    simp
  · simp [h]
theorem shaped_int (z : Int) : SeqAt.shaped (.int z) = true := by simp [SeqAt.shaped, PyData.canLay0, PyData.depth]
theorem shaped_bl (z : Bool) : SeqAt.shaped (.bool z) = true := by simp [SeqAt.shaped, PyData.canLay0, PyData.depth]
theorem eqv_str (a b : Str) : PyData.eqv (.str a) (.str b) = (a == b) := by unfold PyData.eqv; rfl
theorem eqv_int (a b : Int) : PyData.eqv (.int a) (.int b) = (a == b) := by unfold PyData.eqv; rfl
theorem eqv_bl (a b : Bool) : PyData.eqv (.bool a) (.bool b) = (a == b) := by unfold PyData.eqv; rfl
theorem cls_eq (T : Tx P K mg d) {m m' : Meas} (h : isRest m = false) : (decide (clsOf d m = clsOf d m') && (m.name == m'.name)) = decide (m = m') := by
  have hn := T.inj
  simp only [List.nodup_cons, List.mem_cons, not_or, List.not_mem_nil, not_false_eq_true, List.nodup_nil, and_true] at hn
  obtain ⟨⟨h1, h2, h3⟩, ⟨h4, h5⟩, h6⟩ := hn
  cases m with
  | rest _ _ => cases h
  | plain n => cases m' <;> simp [clsOf, Meas.name, h1, h2, h3, Ne.symm h1, Ne.symm h2, Ne.symm h3, beq_str]
  | size n => cases m' <;> simp [clsOf, Meas.name, h1, h4, h5, Ne.symm h1, Ne.symm h4, Ne.symm h5, beq_str]
  | ending n => cases m' <;> simp [clsOf, Meas.name, h3, h5, h6, Ne.symm h3, Ne.symm h5, Ne.symm h6, beq_str]
theorem ok_mEq (T : Tx P K mg d) : FnR P w K mg base CX0 1 d.fMEq (spW (α := Meas × Meas) (fun _ z => isRest z.1 = false ∧ Good z.1.name ∧ Good z.2.name) (fun z => [rMeas K d z.1, rMeas K d z.2]) (fun z => rD K (.bool (decide (z.1 = z.2))))) := by
  obtain ⟨fd, F⟩ := T.mEq
  refine fn_w F scMEq (F.binds fun _ _ _ _ _ _ us hl => match us, hl with | [_, _], _ => rfl) (fun _ => rfl) fun cdv A outer s H E W z hr hp => ⟨none, ?_, fun _ e => nomatch e⟩
  refine bw_one (sw_ret ?_)
  show Ew _ W _ _ (rD K (.bool (decide (z.1 = z.2))))
  rw [← cls_eq T hp.1, ← eqv_str]
  refine ew_and (ew_isCls (ew_typeOwn rfl T.bType (ew_name 0 rfl (pv 0)) insOf) (ew_typeOwn rfl T.bType (ew_name 1 rfl (pv 1)) insOf) (.inr ⟨T.mks _, T.mks _⟩)) fun _ => ew_one (ew_eqD hr.units (ew_fld (ew_name 0 rfl (pv 0)) (lookName z.1) (T.isi _).cl (T.nName _) rfl) (ew_fld (ew_name 1 rfl (pv 1)) (lookName z.2) (T.isi _).cl (T.nName _) rfl) (shaped_str hp.2.1) (shaped_str hp.2.2))
theorem scMName : FnScope ["self"] ["self"] (defScope sMName) := ⟨rfl, rfl, rfl, by decide +kernel, rfl, by decide +kernel, by decide +kernel⟩
theorem ok_mName (T : Tx P K mg d) : FnR P w K mg base CX0 1 d.fMName (spW (α := Meas) (fun _ _ => True) (fun z => [rMeas K d z]) (fun z => rD K (.str z.name))) := by
  obtain ⟨fd, F⟩ := T.mName
  refine fn_w F scMName (F.binds fun _ _ _ _ _ _ us hl => match us, hl with | [_], _ => rfl) (fun _ => rfl) fun cdv A outer s H E W z hr hp => ⟨none, bw_one (sw_ret ?_), fun _ e => nomatch e⟩
  exact ew_fld (ew_name 0 rfl (pv 0)) (lookName z) (T.isi _).cl (T.nName _) rfl
end
end K31
namespace K31
open PySem L2 Py
section
variable {P : Program} {w : PySem.World} {K : PySem.W.Frag} {mg : Str → Option Value} {base : Heap} {d : Ad}
/-! ### of -/
def kindOf : Meas → Nat | .plain _ => 0 | .size _ => 1 | .rest _ _ => 2 | .ending _ => 3
def ofD : Meas → PyData → PyData
  | .plain _, c => c
  | .size _, .int i => .int (if i < 0 then -i else i)
  | .size _, .str z => .int z.length
  | .rest _ k, .int i => .int (i % k)
  | .ending _, .str z => .str ⟨#[z.cps.getD (z.length - 1) 0]⟩
  | _, c => c
def ofOk : Meas → PyData → Prop
  | .plain _, _ => True
  | .size _, .int i => True
  | .size _, .str z => z.length ≤ sizeLine
  | .rest _ k, .int i => 0 < k
  | .ending _, .str z => 1 ≤ z.length ∧ z.length ≤ sizeLine
  | _, c => False
abbrev spOf (K : PySem.W.Frag) (d : Ad) (n : Nat) : Sp := spW (α := Meas × PyData) (fun _ z => kindOf z.1 = n ∧ ofOk z.1 z.2) (fun z => [rMeas K d z.1, rD K z.2]) (fun z => rD K (ofD z.1 z.2))
theorem scPlainOf : FnScope ["self", "cell"] ["self", "cell"] (defScope sPlainOf) := ⟨rfl, rfl, rfl, by decide +kernel, rfl, by decide +kernel, by decide +kernel⟩
theorem ok_plainOf (T : Tx P K mg d) : FnR P w K mg base CX0 1 d.fPlainOf (spOf K d 0) := by
  obtain ⟨fd, F⟩ := T.plainOf
  refine fn_w F scPlainOf (F.binds fun _ _ _ _ _ _ us hl => match us, hl with | [_, _], _ => rfl) (fun _ => rfl) fun cdv A outer s H E W z hr hp => ⟨none, ?_, fun _ e => nomatch e⟩
  obtain ⟨m, c⟩ := z
  cases m with
  | plain n => exact bw_one (sw_ret (ew_name 1 rfl (pv 1)))
  | _ => cases hp.1
theorem scSizeOf : FnScope ["self", "cell"] ["self", "cell"] (defScope sSizeOf) := ⟨rfl, rfl, rfl, by decide +kernel, rfl, by decide +kernel, by decide +kernel⟩
theorem ok_sizeOf (T : Tx P K mg d) : FnR P w K mg base CX0 1 d.fSizeOf (spOf K d 1) := by
  obtain ⟨fd, F⟩ := T.sizeOf
  refine fn_w F scSizeOf (F.binds fun _ _ _ _ _ _ us hl => match us, hl with | [_, _], _ => rfl) (fun _ => rfl) fun cdv A outer s H E W z hr hp => ⟨none, bw_one (sw_ret ?_), fun _ e => nomatch e⟩
  obtain ⟨m, c⟩ := z
  cases m with
  | size n =>
    cases c with
    | int i => exact ew_if (d := false) (tw_val (ew_isi (t := .type "int") (d := false) rfl T.bIsi (ew_name 1 rfl (pv 1)) (ew_ty rfl T.bStr (by decide +kernel)) (.ty "str") isR_int (kit_ty (by decide +kernel))) (by intro _; rfl)) (fun e => nomatch e) fun _ => ew_absI rfl T.bAbs (ew_name 1 rfl (pv 1))
    | str z => exact ew_if (d := true) (tw_val (ew_isi (t := .type "str") (d := true) rfl T.bIsi (ew_name 1 rfl (pv 1)) (ew_ty rfl T.bStr (by decide +kernel)) (.ty "str") isR_str (kit_ty (by decide +kernel))) (by intro _; rfl)) (fun _ => ew_lenStr hp.2 rfl T.bLen (ew_name 1 rfl (pv 1))) (fun e => nomatch e)
    | _ => cases hp.2
  | _ => cases hp.1
theorem scROf : FnScope ["self", "cell"] ["self", "cell"] (defScope sROf) := ⟨rfl, rfl, rfl, by decide +kernel, rfl, by decide +kernel, by decide +kernel⟩
theorem ok_rOf (T : Tx P K mg d) : FnR P w K mg base CX0 1 d.fROf (spOf K d 2) := by
  obtain ⟨fd, F⟩ := T.rOf
  refine fn_w F scROf (F.binds fun _ _ _ _ _ _ us hl => match us, hl with | [_, _], _ => rfl) (fun _ => rfl) fun cdv A outer s H E W z hr hp => ⟨none, bw_one (sw_ret ?_), fun _ e => nomatch e⟩
  obtain ⟨m, c⟩ := z
  cases m with
  | rest n k =>
    cases c with
    | int i => exact ew_mod (ew_name 1 rfl (pv 1)) (ew_fld (ew_name 0 rfl (pv 0)) (f := "_divisor") rfl (T.isi (.rest n k)).cl (T.nDiv (.rest n k)) rfl) hp.2
    | _ => cases hp.2
  | _ => cases hp.1
theorem scEOf : FnScope ["self", "cell"] ["self", "cell"] (defScope sEOf) := ⟨rfl, rfl, rfl, by decide +kernel, rfl, by decide +kernel, by decide +kernel⟩
theorem ok_eOf (T : Tx P K mg d) : FnR P w K mg base CX0 1 d.fEOf (spOf K d 3) := by
  obtain ⟨fd, F⟩ := T.eOf
  refine fn_w F scEOf (F.binds fun _ _ _ _ _ _ us hl => match us, hl with | [_, _], _ => rfl) (fun _ => rfl) fun cdv A outer s H E W z hr hp => ⟨none, bw_one (sw_ret ?_), fun _ e => nomatch e⟩
  obtain ⟨m, c⟩ := z
  cases m with
  | ending n =>
    cases c with
    | str z =>
      have e : atI z.cps.toList (-1) = some (z.cps.getD (z.length - 1) 0) := by
        have hl : z.cps.toList ≠ [] := by
          intro h
          have h1 : z.cps.toList.length = 0 := by rw [h] <;> rfl
          have h2 : 1 ≤ z.cps.size := hp.2.1
          rw [Array.length_toList] at h1
          omega
        have h3 := (List.dropLast_concat_getLast hl).symm
        have h4 : z.cps.getD (z.length - 1) 0 = z.cps.toList.getLast hl := by
          rw [List.getLast_eq_getElem, Array.getD_eq_getD_getElem?, Array.getElem?_eq_getElem (by have := hp.2.1; show z.cps.size - 1 < z.cps.size; have : 1 ≤ z.cps.size := this; omega)]
          rfl
        rw [h4]
        conv => lhs; rw [h3]
        exact atI_last _ _
      exact ew_item_str (m := 0) (ew_name 1 rfl (pv 1)) (ew_negI ew_int) hp.2.2 e (by intro _ _; rfl)
    | _ => cases hp.2
  | _ => cases hp.1
theorem ok_of (T : Tx P K mg d) (m : Meas) : FnR P w K mg base CX0 1 (fOf d m) (spOf K d (kindOf m)) := by
  cases m with
  | plain _ => exact ok_plainOf T
  | size _ => exact ok_sizeOf T
  | rest _ _ => exact ok_rOf T
  | ending _ => exact ok_eOf T
/-! ### == of measures -/
def divOf : Meas → Int | .rest _ k => k | _ => 0
theorem scREq : FnScope ["self", "other"] ["self", "other"] (defScope sREq) := ⟨rfl, rfl, rfl, by decide +kernel, rfl, by decide +kernel, by decide +kernel⟩
theorem ok_rEq (T : Tx P K mg d) : FnR P w K mg base CX0 1 d.fREq (spW (α := Meas × Meas) (fun _ z => isRest z.1 = true ∧ Good z.1.name ∧ Good z.2.name) (fun z => [rMeas K d z.1, rMeas K d z.2]) (fun z => rD K (.bool (decide (z.1 = z.2))))) := by
  obtain ⟨fd, F⟩ := T.rEq
  refine fn_w F scREq (F.binds fun _ _ _ _ _ _ us hl => match us, hl with | [_, _], _ => rfl) (fun _ => rfl) fun cdv A outer s H E W z hr hp => ⟨none, bw_one (sw_ret ?_), fun _ e => nomatch e⟩
  obtain ⟨m, m'⟩ := z
  obtain ⟨hp, g1, g2⟩ := hp
  cases m with
  | rest n k =>
    have e : decide (Meas.rest n k = m') = (isRest m' && ((n == m'.name) && (k == divOf m'))) := by
      rw [beq_str]
      cases m' with
      | rest n' k' => by_cases h1 : n = n' <;> by_cases h2 : k = k' <;> simp [h1, h2, isRest, Meas.name, divOf]
      | _ => simp [isRest]
    show Ew _ W _ _ (rD K (.bool (decide (Meas.rest n k = m'))))
    rw [e, ← eqv_str, ← eqv_int]
    refine ew_and (ew_isi (t := .ref (clsOf d m')) rfl T.bIsi (ew_name 1 rfl (pv 1)) (ew_cls rfl T.gRest) (.own d.cRest) (isR_ins (T.isi m')) (T.kRest m')) fun hb => ?_
    cases m' with
    | rest n' k' =>
      exact ew_and (ew_eqD hr.units (ew_fld (ew_name 0 rfl (pv 0)) (f := "_name") rfl (T.isi (.rest n k)).cl (T.nName (.rest n k)) rfl) (ew_fld (ew_name 1 rfl (pv 1)) (f := "_name") rfl (T.isi (.rest n' k')).cl (T.nName (.rest n' k')) rfl) (shaped_str g1) (shaped_str g2))
        fun _ => ew_one (ew_eqD hr.units (ew_fld (ew_name 0 rfl (pv 0)) (f := "_divisor") rfl (T.isi (.rest n k)).cl (T.nDiv (.rest n k)) rfl) (ew_fld (ew_name 1 rfl (pv 1)) (f := "_divisor") rfl (T.isi (.rest n' k')).cl (T.nDiv (.rest n' k')) rfl) (shaped_int _) (shaped_int _))
    | _ => cases hb
  | _ => cases hp
end
end K31
namespace K31
open PySem L2 Py
section
variable {P : Program} {w : PySem.World} {K : PySem.W.Frag} {mg : Str → Option Value} {base : Heap} {d : Ad}
/-! ### == of measures, anywhere -/
theorem rc_meas {X : Cx} (T : Tx X.prog X.K X.mg d) {W : Py.World} {m m' : Meas} (g1 : Good m.name) (g2 : Good m'.name) : RcW X .Eq W 2 (rMeas X.K d m) (rMeas X.K d m') (decide (m = m')) := by
  refine rcW_own .Eq (fun _ _ => rfl) fun x y H k p q => ?_
  obtain ⟨a, dx, gs, ex, hi, fl⟩ := p
  obtain ⟨c, dy, gs', ey, hj, fl'⟩ := q
  cases hb : isRest m with
  | false => 
    have e : fEq d m = d.fMEq := by cases m <;> first | rfl | cases hb
    exact ⟨a, c, clsOf d m, clsOf d m', dx, dy, d.fMEq, gs, gs', _, ex, ey, hi, hj, T.nf m m', e ▸ T.mmEq m, ok_mEq T, fun Q n => ⟨W, (m, m'), ⟨hb, g1, g2⟩, k, ⟨⟨a, dx, gs, ex, hi, fl⟩, ⟨c, dy, gs', ey, hj, fl'⟩, trivial⟩, fun v H' k' e' pv => by rw [rD_bl.mp pv]; exact n H' k' e'⟩⟩
  | true =>
    have e : fEq d m = d.fREq := by cases m <;> first | rfl | cases hb
    exact ⟨a, c, clsOf d m, clsOf d m', dx, dy, d.fREq, gs, gs', _, ex, ey, hi, hj, T.nf m m', e ▸ T.mmEq m, ok_rEq T, fun Q n => ⟨W, (m, m'), ⟨hb, g1, g2⟩, k, ⟨⟨a, dx, gs, ex, hi, fl⟩, ⟨c, dy, gs', ey, hj, fl'⟩, trivial⟩, fun v H' k' e' pv => by rw [rD_bl.mp pv]; exact n H' k' e'⟩⟩
/-! ### parts -/
abbrev PGood (p : PartD) : Prop := Good p.m.name
abbrev fsPart (K : PySem.W.Frag) (d : Ad) (p : PartD) : List (Str × Rep) := [("_measure", rMeas K d p.m), ("_down", rD K (.bool p.down))]
theorem scPInit : FnScope ["self", "measure", "down"] ["self", "measure", "down"] (defScope sPInit) := ⟨rfl, rfl, rfl, by decide +kernel, rfl, by decide +kernel, by decide +kernel⟩
theorem ok_pInitD (T : Tx P K mg d) {fd : FuncData} (F : FunD K "__init__" "Part.__init__" (defArgs sPInit) (defBody sPInit) (defScope sPInit) [] [("down", .bl false)] d.fPInit fd) : FnOk P w K mg base CX0 1 d.fPInit fd ["self", "measure", "down"] (spI d.cPart (fun _ => True) (fun z : PartD => [rMeas K d z.m, rD K (.bool z.down)]) (fsPart K d)) := by
  refine fn_iD F scPInit (fun _ => rfl) fun cdv A outer s H E W x dx z hr hp => ?_
  refine ib_if (fun gs => tw_not (c := true) (tw_val (ew_isi (t := .ref (clsOf d z.m)) rfl T.bIsi (ew_name 1 rfl (pv 1)) (ew_cls rfl T.gMeasure) (.own d.cMeasure) (isR_ins (T.isi z.m)) (T.kMeas z.m)) (by intro _; rfl))) ?_
  refine ib_if (fun gs => tw_not (c := true) (tw_val (ew_isi (t := .type "bool") (d := true) rfl T.bIsi (ew_name 2 rfl (pv 2)) (ew_ty rfl T.bBool (by decide +kernel)) (.ty "bool") isR_bl (kit_ty (by decide +kernel))) (by intro _; rfl))) ?_
  exact ib_set (i := 0) (pv 0) rfl (fun gs => ew_name 1 rfl (pv 1)) T.isiP.cl T.nPm rfl (by simp) (ib_set (i := 0) (pv 0) rfl (fun gs => ew_name 2 rfl (pv 2)) T.isiP.cl T.nPd rfl (by simp) ib_nil rfl) rfl
theorem ok_pInit (T : Tx P K mg d) : FnR P w K mg base CX0 1 d.fPInit (spI d.cPart (fun _ => True) (fun m : Meas => [rMeas K d m]) (fun m => fsPart K d ⟨m, false⟩)) := by
  obtain ⟨fd, F⟩ := T.pInit
  obtain ⟨ds, r, hb⟩ := F.binds0 2 (by decide) (ps := ["self", "measure", "down"]) rfl fun D doc pm an cdv ct us ks h1 h2 => match us, ks, h1, h2 with
    | [_, _], [_], _, _ => ⟨_, _, _, _, _, _, rfl, rfl, rfl⟩
  refine ((ok_pInitD T F).raw hb r).imp ?_
  rintro vs H Q E ⟨W, z, x, dx, ws, ev, hp, kH, pr, q⟩
  subst ev
  exact ⟨W, ⟨z, false⟩, x, dx, ws ++ [V.bl false], rfl, trivial, kH, pr.app (rs' := [rD K (.bool false)]) (ys := [.bl false]) ⟨Dp.bl false, trivial⟩, q⟩
theorem kb_pInit {fd : FuncData} (F : FunD K "__init__" "Part.__init__" (defArgs sPInit) (defBody sPInit) (defScope sPInit) [] [("down", .bl false)] d.fPInit fd) : ∃ mv : List Value, KBn K fd ["self", "measure", "down"] 2 ["down"] (fun us ws => us ++ ws) (fun vs zs => vs ++ zs) := by
  have h := F.kbinds0 (ps := ["self", "measure", "down"]) 2 ["down"] [] (fun us _ ws => us ++ ws) (by decide) (by simp) (fun a _ c => a.append c) fun D doc pm an cdv ct us mv ws h1 _ h2 => match us, ws, h1, h2 with
    | [_, _], [_], _, _ => rfl
  exact h
theorem scPEq : FnScope ["self", "other"] ["self", "other"] (defScope sPEq) := ⟨rfl, rfl, rfl, by decide +kernel, rfl, by decide +kernel, by decide +kernel⟩
theorem ok_pEq (T : Tx P K mg d) : FnR P w K mg base CX0 3 d.fPEq (spW (α := PartD × PartD) (fun _ z => PGood z.1 ∧ PGood z.2) (fun z => [rPart K d z.1, rPart K d z.2]) (fun z => rD K (.bool (decide (z.1 = z.2))))) := by
  obtain ⟨fd, F⟩ := T.pEq
  refine fn_w F scPEq (F.binds fun _ _ _ _ _ _ us hl => match us, hl with | [_, _], _ => rfl) (fun _ => rfl) fun cdv A outer s H E W z hr hp => ⟨none, bw_one (sw_ret ?_), fun _ e => nomatch e⟩
  obtain ⟨⟨m, u⟩, ⟨m', u'⟩⟩ := z
  have e : decide ((⟨m, u⟩ : PartD) = ⟨m', u'⟩) = (true && (decide (m = m') && (u == u'))) := by
    by_cases h1 : m = m' <;> by_cases h2 : u = u' <;> simp [h1, h2]
  show Ew _ W _ _ (rD K (.bool (decide ((⟨m, u⟩ : PartD) = ⟨m', u'⟩))))
  rw [e, ← eqv_bl]
  refine ew_and (ew_isi (t := .ref d.cPart) (d := true) rfl T.bIsi (ew_name 1 rfl (pv 1)) (ew_cls rfl T.gPart) (.own d.cPart) (isR_ins T.isiP) T.kP) fun _ => ?_
  exact ew_and (ew_rc (fun _ _ => rfl) (rc_meas T hp.1 hp.2) hr (ew_fld (ew_name 0 rfl (pv 0)) (f := "_measure") rfl T.isiP.cl T.nPm rfl) (ew_fld (ew_name 1 rfl (pv 1)) (f := "_measure") rfl T.isiP.cl T.nPm rfl) rfl)
    fun _ => ew_one (ew_eqD hr.units (ew_fld (ew_name 0 rfl (pv 0)) (f := "_down") rfl T.isiP.cl T.nPd rfl) (ew_fld (ew_name 1 rfl (pv 1)) (f := "_down") rfl T.isiP.cl T.nPd rfl) (shaped_bl _) (shaped_bl _))
def negP (p : PartD) : PartD := ⟨p.m, !p.down⟩
theorem scPNeg : FnScope ["self"] ["self"] (defScope sPNeg) := ⟨rfl, rfl, rfl, by decide +kernel, rfl, by decide +kernel, by decide +kernel⟩
theorem ok_pNeg (T : Tx P K mg d) : FnR P w K mg base CX0 3 d.fPNeg (spW (α := PartD) (fun _ z => True) (fun z => [rPart K d z]) (fun z => rPart K d (negP z))) := by
  obtain ⟨fd, F⟩ := T.pNeg
  obtain ⟨fd', F'⟩ := T.pInit
  obtain ⟨_, hb⟩ := kb_pInit F'
  refine fn_w F scPNeg (F.binds fun _ _ _ _ _ _ us hl => match us, hl with | [_], _ => rfl) (fun _ => rfl) fun cdv A outer s H E W z hr hp => ⟨none, bw_one (sw_ret ?_), fun _ e => nomatch e⟩
  show Ew _ W _ _ (rIns d.cPart (fsPart K d (negP z)))
  exact ew_makeK (fs := fsPart K d) (rl := [rMeas K d z.m]) (rk := [rD K (.bool (!z.down))]) (negP z) T.mkPart (ok_pInitD T F') hr rfl T.gPart hb (fun _ _ _ _ _ => rfl) (aw_cons (ew_fld (ew_name 0 rfl (pv 0)) (f := "_measure") rfl T.isiP.cl T.nPm rfl) aw_nil) (kw_cons (ew_not (ew_fld (ew_name 0 rfl (pv 0)) (f := "_down") rfl T.isiP.cl T.nPd rfl)) kw_nil) trivial rfl rfl rfl
theorem scPUp : FnScope ["cls", "name"] ["cls", "name"] (defScope sPUp) := ⟨rfl, rfl, rfl, by decide +kernel, rfl, by decide +kernel, by decide +kernel⟩
theorem ok_pUp (T : Tx P K mg d) : FnR P w K mg base CX0 4 d.fPUp (spW (α := Str) (fun _ z => Good z) (fun z => [rRef d.cPart, rD K (.str z)]) (fun z => rPart K d ⟨.plain z, false⟩)) := by
  obtain ⟨fd, F⟩ := T.pUp
  refine fn_w F scPUp (F.binds fun _ _ _ _ _ _ us hl => match us, hl with | [_, _], _ => rfl) (fun _ => rfl) fun cdv A outer s H E W z hr hp => ⟨none, bw_one (sw_ret ?_), fun _ e => nomatch e⟩
  show Ew _ W _ _ (rIns d.cPart (fsPart K d ⟨.plain z, false⟩))
  exact ew_makeL (fs := fun m => fsPart K d ⟨m, false⟩) 0 (.plain z) T.mkPart (ok_pInit T) (hr.mono (by decide)) (pv 0) rfl (aw_cons (ew_make (fs := fun z => [("_name", rD K (.str z))]) z T.mkPlain (ok_mInit T (T.isi (.plain z)).cl (T.nName (.plain z))) hr rfl T.gPlain (aw_cons (ew_name 1 rfl (pv 1)) aw_nil) hp) aw_nil) trivial
theorem scPDownw : FnScope ["cls", "name"] ["cls", "name"] (defScope sPDownw) := ⟨rfl, rfl, rfl, by decide +kernel, rfl, by decide +kernel, by decide +kernel⟩
theorem ok_pDownw (T : Tx P K mg d) : FnR P w K mg base CX0 4 d.fPDownw (spW (α := Str) (fun _ z => Good z) (fun z => [rRef d.cPart, rD K (.str z)]) (fun z => rPart K d ⟨.plain z, true⟩)) := by
  obtain ⟨fd, F⟩ := T.pDownw
  obtain ⟨fd', F'⟩ := T.pInit
  obtain ⟨_, hb⟩ := kb_pInit F'
  refine fn_w F scPDownw (F.binds fun _ _ _ _ _ _ us hl => match us, hl with | [_, _], _ => rfl) (fun _ => rfl) fun cdv A outer s H E W z hr hp => ⟨none, bw_one (sw_ret ?_), fun _ e => nomatch e⟩
  show Ew _ W _ _ (rIns d.cPart (fsPart K d ⟨.plain z, true⟩))
  exact ew_makeKL (fs := fsPart K d) (rl := [rMeas K d (.plain z)]) (rk := [rD K (.bool true)]) 0 ⟨.plain z, true⟩ T.mkPart (ok_pInitD T F') (hr.mono (by decide)) (pv 0) rfl hb (fun _ _ _ _ _ => rfl) (aw_cons (ew_make (fs := fun z => [("_name", rD K (.str z))]) z T.mkPlain (ok_mInit T (T.isi (.plain z)).cl (T.nName (.plain z))) hr rfl T.gPlain (aw_cons (ew_name 1 rfl (pv 1)) aw_nil) hp) aw_nil) (kw_cons ew_bl kw_nil) trivial rfl rfl rfl
theorem scPMeas : FnScope ["self"] ["self"] (defScope sPMeas) := ⟨rfl, rfl, rfl, by decide +kernel, rfl, by decide +kernel, by decide +kernel⟩
theorem ok_pMeas (T : Tx P K mg d) : FnR P w K mg base CX0 1 d.fPMeas (spW (α := PartD) (fun _ _ => True) (fun z => [rPart K d z]) (fun z => rMeas K d z.m)) := by
  obtain ⟨fd, F⟩ := T.pMeas
  refine fn_w F scPMeas (F.binds fun _ _ _ _ _ _ us hl => match us, hl with | [_], _ => rfl) (fun _ => rfl) fun cdv A outer s H E W z hr hp => ⟨none, bw_one (sw_ret ?_), fun _ e => nomatch e⟩
  exact ew_fld (ew_name 0 rfl (pv 0)) (f := "_measure") rfl T.isiP.cl T.nPm rfl
theorem scPDown : FnScope ["self"] ["self"] (defScope sPDown) := ⟨rfl, rfl, rfl, by decide +kernel, rfl, by decide +kernel, by decide +kernel⟩
theorem ok_pDown (T : Tx P K mg d) : FnR P w K mg base CX0 1 d.fPDown (spW (α := PartD) (fun _ _ => True) (fun z => [rPart K d z]) (fun z => rD K (.bool z.down))) := by
  obtain ⟨fd, F⟩ := T.pDown
  refine fn_w F scPDown (F.binds fun _ _ _ _ _ _ us hl => match us, hl with | [_], _ => rfl) (fun _ => rfl) fun cdv A outer s H E W z hr hp => ⟨none, bw_one (sw_ret ?_), fun _ e => nomatch e⟩
  exact ew_fld (ew_name 0 rfl (pv 0)) (f := "_down") rfl T.isiP.cl T.nPd rfl
end
end K31
namespace K31
open PySem L2 Py
section
variable {P : Program} {w : PySem.World} {K : PySem.W.Frag} {mg : Str → Option Value} {base : Heap} {d : Ad}
/-! ### the same object tells the same -/
theorem ins_same {C C' : Addr} {fs fs' : List (Str × Rep)} {v : V} {H : Hp} (h : (rIns C fs).p v H) (h' : (rIns C' fs').p v H) : C = C' ∧ ∃ gs, Flds fs gs H ∧ Flds fs' gs H := by
  obtain ⟨a, dx, gs, rfl, hi, fl⟩ := h
  obtain ⟨a', dx', gs', e, hi', fl'⟩ := h'
  cases e
  rw [hi] at hi'
  cases hi'
  exact ⟨rfl, gs, fl, fl'⟩
theorem flds1 {n : Str} {r r' : Rep} {fs fs' : List (Str × Rep)} {gs : List (Str × V)} {H : Hp} (h : Flds ((n, r) :: fs) gs H) (h' : Flds ((n, r') :: fs') gs H) : ∃ v gs', r.p v H ∧ r'.p v H ∧ Flds fs gs' H ∧ Flds fs' gs' H := by
  cases gs with
  | nil => exact h.elim
  | cons g gs => exact ⟨g.2, gs, h.2.1, h'.2.1, h.2.2, h'.2.2⟩
theorem str_same {a b : Str} {v : V} {H : Hp} (h : (rD K (.str a)).p v H) (h' : (rD K (.str b)).p v H) : a = b := by
  rw [rD_str.mp h] at h'
  cases rD_str.mp h'
  rfl
theorem int_same {a b : Int} {v : V} {H : Hp} (h : (rD K (.int a)).p v H) (h' : (rD K (.int b)).p v H) : a = b := by
  rw [rD_int.mp h] at h'
  cases rD_int.mp h'
  rfl
theorem bl_same {a b : Bool} {v : V} {H : Hp} (h : (rD K (.bool a)).p v H) (h' : (rD K (.bool b)).p v H) : a = b := by
  rw [rD_bl.mp h] at h'
  cases rD_bl.mp h'
  rfl
theorem meas_same (T : Tx P K mg d) {m m' : Meas} {v : V} {H : Hp} (h : (rMeas K d m).p v H) (h' : (rMeas K d m').p v H) : m = m' := by
  have hn := T.inj
  simp only [List.nodup_cons, List.mem_cons, not_or, List.not_mem_nil, not_false_eq_true, List.nodup_nil, and_true] at hn
  obtain ⟨⟨h1, h2, h3⟩, ⟨h4, h5⟩, h6⟩ := hn
  obtain ⟨e, gs, fl, fl'⟩ := ins_same h h'
  cases m with
  | plain n => cases m' with
    | plain n' => obtain ⟨v, gs', a, b, _⟩ := flds1 fl fl'; rw [str_same a b]
    | size n' => exact absurd e h1
    | rest n' k' => exact absurd e h2
    | ending n' => exact absurd e h3
  | size n => cases m' with
    | size n' => obtain ⟨v, gs', a, b, _⟩ := flds1 fl fl'; rw [str_same a b]
    | plain n' => exact absurd e.symm h1
    | rest n' k' => exact absurd e h4
    | ending n' => exact absurd e h5
  | rest n k => cases m' with
    | rest n' k' =>
      obtain ⟨v, gs', a, b, fl, fl'⟩ := flds1 fl fl'
      obtain ⟨v', gs', a', b', _⟩ := flds1 fl fl'
      rw [str_same a b, int_same a' b']
    | plain n' => exact absurd e.symm h2
    | size n' => exact absurd e.symm h4
    | ending n' => exact absurd e h6
  | ending n => cases m' with
    | ending n' => obtain ⟨v, gs', a, b, _⟩ := flds1 fl fl'; rw [str_same a b]
    | plain n' => exact absurd e.symm h3
    | size n' => exact absurd e.symm h5
    | rest n' k' => exact absurd e.symm h6
theorem part_same (T : Tx P K mg d) {p p' : PartD} {v : V} {H : Hp} (h : (rPart K d p).p v H) (h' : (rPart K d p').p v H) : p = p' := by
  obtain ⟨_, gs, fl, fl'⟩ := ins_same h h'
  obtain ⟨v, gs', a, b, fl, fl'⟩ := flds1 fl fl'
  obtain ⟨v', gs', a', b', _⟩ := flds1 fl fl'
  obtain ⟨m, u⟩ := p
  obtain ⟨m', u'⟩ := p'
  rw [show m = m' from meas_same T a b, show u = u' from bl_same a' b']
/-! ### keys -/
theorem rc_part {X : Cx} (T : Tx X.prog X.K X.mg d) {W : Py.World} {p p' : PartD} (g1 : PGood p) (g2 : PGood p') : RcW X .Eq W 4 (rPart X.K d p) (rPart X.K d p') (decide (p = p')) := by
  refine rcW_own .Eq (fun _ _ => rfl) fun x y H k p1 q1 => ?_
  obtain ⟨a, dx, gs, ex, hi, fl⟩ := p1
  obtain ⟨c, dy, gs', ey, hj, fl'⟩ := q1
  exact ⟨a, c, d.cPart, d.cPart, dx, dy, d.fPEq, gs, gs', _, ex, ey, hi, hj, T.nfP, T.mPEq, ok_pEq T, fun Q n => ⟨W, (p, p'), ⟨g1, g2⟩, k, ⟨⟨a, dx, gs, ex, hi, fl⟩, ⟨c, dy, gs', ey, hj, fl'⟩, trivial⟩, fun v H' k' e' pv => by rw [rD_bl.mp pv]; exact n H' k' e'⟩⟩
theorem eqw_part {X : Cx} (T : Tx X.prog X.K X.mg d) {W : Py.World} {p p' : PartD} (g1 : PGood p) (g2 : PGood p') : EqW X W 4 (rPart X.K d p) (rPart X.K d p') (decide (p = p')) :=
  (rc_part T g1 g2).eqW (fun x H ⟨a, _, _, e, _⟩ => ⟨a, e⟩) (fun x H ⟨a, _, _, e, _⟩ => ⟨a, e⟩) fun x H h1 h2 => decide_eq_true (part_same T h1 h2)
theorem eqw_parts {X : Cx} (T : Tx X.prog X.K X.mg d) {W : Py.World} {ps qs : List PartD} (g1 : ∀ p ∈ ps, PGood p) (g2 : ∀ p ∈ qs, PGood p) : ∀ (i : Nat) (q q' : Rep), (ps.map (rPart X.K d))[i]? = some q → (qs.map (rPart X.K d))[i]? = some q' → EqW X W 4 q q' (decide ((ps[i]? : Option PartD) = qs[i]?)) := by
  intro i q q' h h'
  rw [List.getElem?_map] at h h'
  cases e : ps[i]? with
  | none => rw [e] at h; cases h
  | some p =>
    cases e' : qs[i]? with
    | none => rw [e'] at h'; cases h'
    | some p' =>
      rw [e] at h
      rw [e'] at h'
      cases h
      cases h'
      exact (eqw_part T (g1 p (List.mem_of_getElem? e)) (g2 p' (List.mem_of_getElem? e'))).eq (by simp)
theorem lists_eq {α : Type} [DecidableEq α] (xs ys : List α) : (xs.length == ys.length && allB (fun i => decide (xs[i]? = ys[i]?)) (min xs.length ys.length)) = decide (xs = ys) := by
  by_cases h : xs = ys
  · subst h
    simp [allB]
  · rw [decide_eq_false h]
    by_cases hl : xs.length = ys.length
    · have : ∃ i, i < xs.length ∧ xs[i]? ≠ ys[i]? := by
        apply Classical.byContradiction
        intro hc
        refine h (List.ext_getElem? fun i => ?_)
        apply Classical.byContradiction
        intro hi
        by_cases hlt : i < xs.length
        · exact hc ⟨i, hlt, hi⟩
        · rw [List.getElem?_eq_none (by omega), List.getElem?_eq_none (by omega)] at hi
          exact hi rfl
      obtain ⟨i, hi, hne⟩ := this
      rw [allB_false (i := i) (by omega) (by simpa using hne)]
      simp
    · simp [hl]
theorem lists_eqL {α : Type} [DecidableEq α] (xs ys : List α) : (xs.length == ys.length && allB (fun i => decide (xs[i]? = ys[i]?)) xs.length) = decide (xs = ys) := by
  rw [← lists_eq xs ys]
  by_cases hl : xs.length = ys.length
  · rw [← hl, Nat.min_self]
  · have : (xs.length == ys.length) = false := by simpa using hl
    rw [this]
    rfl
abbrev KGood (ps : List PartD) : Prop := ps.length ≤ 6 ∧ ∀ p ∈ ps, PGood p
abbrev fsKey (K : PySem.W.Frag) (d : Ad) (ps : List PartD) : List (Str × Rep) := [("_parts", rTup K (ps.map (rPart K d)))]
theorem scKInit : FnScope ["self", "parts", "part"] ["self", "parts"] (defScope sKInit) := ⟨rfl, rfl, rfl, by decide +kernel, rfl, by decide +kernel, by decide +kernel⟩
theorem ok_kInit (T : Tx P K mg d) : FnR P w K mg base CX0 1 d.fKInit (spI d.cKey (fun z : List PartD => z.length ≤ 6) (fun z => z.map (rPart K d)) (fsKey K d)) := by
  obtain ⟨fd, F⟩ := T.kInit
  refine fn_is F scKInit (fun z h => by rw [List.length_map]; omega) (fun k1 k2 k3 k4 k5 k6 => StX.bind_star1 (B := fun vs => bindArgs (PySem.W.fnOf "__init__" "Key.__init__" (defArgs sKInit) (defBody sKInit) (defScope sKInit) .none k1 k2 k3 k4 k5 k6) ⟨vs, []⟩) (p1 := "self") (pv := "parts") (fun _ => rfl) (fun _ _ _ => rfl)) fun cdv A outer s H E W x dx z hr hp => ?_
  refine ib_if (fun gs => tw_not (c := true) (tw_val (c := true) ?_ (by intro _; rfl))) ?_
  · have e : (((List.range z.length).map fun _ => true).all id) = true := by simp
    rw [← e]
    refine ew_all rfl rfl T.bAll ?_
    rw [List.map_map]
    refine ew_lcAll 2 (y := "part") _ rfl scKInit.nd (n := z.length) (item := fun i => (z.map (rPart K d)).getD i rNon) ?_ (blkOk_by (N := ["self", "parts", "part"]) (sc := defScope sKInit) (by decide +kernel)) (by omega) (fun _ _ _ _ _ => pg_name scKInit.nd rfl (.inl rfl)) ?_
    · exact iw_tupM (ew_name 1 rfl (pv 1))
    · intro s' H' C cl fp D o i hi
      rw [getD_map hi]
      exact ew_isi (t := .ref d.cPart) (d := true) rfl T.bIsi (ew_name 2 rfl (pv 2)) (ew_cls rfl T.gPart) (.own d.cPart) (isR_ins T.isiP) T.kP
  · refine ib_if (fun gs => ?_) (ib_set (i := 0) (pv 0) rfl (fun gs => ew_name 1 rfl (pv 1)) T.isiK.cl T.nKp rfl (by simp) ib_nil rfl)
    refine tw_eq (tw_gt (ew_lenTup rfl T.bLen (ew_name 1 rfl (pv 1))) (ew_globI rfl T.gMost)) (decide_eq_false ?_)
    rw [List.length_map]
    omega
theorem scKEq : FnScope ["self", "other"] ["self", "other"] (defScope sKEq) := ⟨rfl, rfl, rfl, by decide +kernel, rfl, by decide +kernel, by decide +kernel⟩
theorem ok_kEq (T : Tx P K mg d) : FnR P w K mg base CX0 6 d.fKEq (spW (α := List PartD × List PartD) (fun _ z => KGood z.1 ∧ KGood z.2) (fun z => [rKey K d z.1, rKey K d z.2]) (fun z => rD K (.bool (decide (z.1 = z.2))))) := by
  obtain ⟨fd, F⟩ := T.kEq
  refine fn_w F scKEq (F.binds fun _ _ _ _ _ _ us hl => match us, hl with | [_, _], _ => rfl) (fun _ => rfl) fun cdv A outer s H E W z hr hp => ⟨none, bw_one (sw_ret ?_), fun _ e => nomatch e⟩
  obtain ⟨ps, qs⟩ := z
  have e : decide (ps = qs) = (true && decide (ps = qs)) := by simp
  show Ew _ W _ _ (rD K (.bool (decide (ps = qs))))
  rw [e]
  refine ew_and (ew_isi (t := .ref d.cKey) (d := true) rfl T.bIsi (ew_name 1 rfl (pv 1)) (ew_cls rfl T.gKey) (.own d.cKey) (isR_ins T.isiK) T.kK) fun _ => ew_one ?_
  rw [← lists_eq]
  have h := rcW_tup (X := (cxOf CX0 P w K mg base ["self", "other"] "Key.__eq__" (defScope sKEq) d.fKEq cdv A outer s H E).nox) (W := W) (eqw_parts T hp.1.2 hp.2.2)
  rw [List.length_map, List.length_map] at h
  exact ew_rc (fun _ _ => rfl) h hr (ew_fld (ew_name 0 rfl (pv 0)) (f := "_parts") rfl T.isiK.cl T.nKp rfl) (ew_fld (ew_name 1 rfl (pv 1)) (f := "_parts") rfl T.isiK.cl T.nKp rfl) rfl
theorem scKLen : FnScope ["self"] ["self"] (defScope sKLen) := ⟨rfl, rfl, rfl, by decide +kernel, rfl, by decide +kernel, by decide +kernel⟩
theorem ok_kLen (T : Tx P K mg d) : FnR P w K mg base CX0 1 d.fKLen (spW (α := List PartD) (fun _ z => True) (fun z => [rKey K d z]) (fun z => rD K (.int z.length))) := by
  obtain ⟨fd, F⟩ := T.kLen
  refine fn_w F scKLen (F.binds fun _ _ _ _ _ _ us hl => match us, hl with | [_], _ => rfl) (fun _ => rfl) fun cdv A outer s H E W z hr hp => ⟨none, bw_one (sw_ret ?_), fun _ e => nomatch e⟩
  show Ew _ W _ _ (rD K (.int z.length))
  rw [← List.length_map (f := rPart K d)]
  exact ew_lenTup rfl T.bLen (ew_fld (ew_name 0 rfl (pv 0)) (f := "_parts") rfl T.isiK.cl T.nKp rfl)
theorem scKAdd : FnScope ["self", "other", "parts"] ["self", "other"] (defScope sKAdd) := ⟨rfl, rfl, rfl, by decide +kernel, rfl, by decide +kernel, by decide +kernel⟩
theorem ok_kAdd (T : Tx P K mg d) : FnR P w K mg base CX0 3 d.fKAdd (spW (α := List PartD × List PartD) (fun _ z => (z.1 ++ z.2).length ≤ 6) (fun z => [rKey K d z.1, rKey K d z.2]) (fun z => rKey K d (z.1 ++ z.2))) := by
  obtain ⟨fd, F⟩ := T.kAdd
  refine fn_w F scKAdd (F.binds fun _ _ _ _ _ _ us hl => match us, hl with | [_, _], _ => rfl) (fun _ => rfl) fun cdv A outer s H E W z hr hp => ⟨none, ?_, fun _ e => nomatch e⟩
  refine bw_cons (N := [some (rKey K d z.1), some (rKey K d z.2), none]) (sw_if (d := false) (tw_not (c := true) (tw_val (ew_isi (t := .ref d.cKey) (d := true) rfl T.bIsi (ew_name 1 rfl (pv 1)) (ew_cls rfl T.gKey) (.own d.cKey) (isR_ins T.isiK) T.kK) (by intro _; rfl))) (fun e => nomatch e) fun _ => bw_nil) ?_
  refine bw_cons (N := [some (rKey K d z.1), some (rKey K d z.2), some (rTup K ((z.1 ++ z.2).map (rPart K d)))]) (sw_set (r := rTup K ((z.1 ++ z.2).map (rPart K d))) 2 ?_ scKAdd.nd rfl (by first | exact .inl rfl | exact .inr rfl)) (bw_one (sw_ret ?_))
  · rw [List.map_append]
    have hp' : z.1.length + z.2.length ≤ 6 := by simpa using hp
    exact ew_catT (ew_fld (ew_name 0 rfl (pv 0)) (f := "_parts") rfl T.isiK.cl T.nKp rfl) (ew_fld (ew_name 1 rfl (pv 1)) (f := "_parts") rfl T.isiK.cl T.nKp rfl) (by rw [List.length_map, List.length_map]; omega)
  · show Ew _ W _ _ (rIns d.cKey (fsKey K d (z.1 ++ z.2)))
    exact ew_makeST (fs := fsKey K d) (z.1 ++ z.2) T.mkKey (ok_kInit T) hr rfl T.gKey (ew_name 2 rfl (pv 2)) hp
/-! ### == and in, len, items of a key -/
theorem scKNeg : FnScope ["self", "parts", "part"] ["self"] (defScope sKNeg) := ⟨rfl, rfl, rfl, by decide +kernel, rfl, by decide +kernel, by decide +kernel⟩
theorem ok_kNeg (T : Tx P K mg d) : FnR P w K mg base CX0 5 d.fKNeg (spW (α := List PartD) (fun _ z => z.length ≤ 6) (fun z => [rKey K d z]) (fun z => rKey K d (z.map negP))) := by
  obtain ⟨fd, F⟩ := T.kNeg
  refine fn_w F scKNeg (F.binds fun _ _ _ _ _ _ us hl => match us, hl with | [_], _ => rfl) (fun _ => rfl) fun cdv A outer s H E W z hr hp => ⟨none, ?_, fun _ e => nomatch e⟩
  refine bw_cons (N := [some (rKey K d z), some (rLst ((z.map negP).map (rPart K d))), none]) ?_ (bw_one (sw_ret ?_))
  · rw [List.map_map, ← range_map _ (fun i => rPart K d (negP (z.getD i ⟨.plain "", false⟩))) z (fun i hi => by rw [List.getD_eq_getElem?_getD, List.getElem?_eq_getElem hi]; rfl)]
    refine sw_lcAll 1 2 (x := "part") _ rfl scKNeg.nd (n := z.length) (item := fun i => (z.map (rPart K d)).getD i rNon) (iw_tupM (ew_fld (ew_name 0 rfl (pv 0)) (f := "_parts") rfl T.isiK.cl T.nKp rfl)) (blkOk_by (N := ["self", "parts", "part"]) (sc := defScope sKNeg) (by decide +kernel)) (by omega) rfl rfl rfl (fun _ _ _ _ _ => pg_name scKNeg.nd rfl (.inl rfl)) ?_
    intro s' H' C cl fp D o i hi
    rw [getD_map hi, List.getD_eq_getElem?_getD, List.getElem?_eq_getElem hi]
    exact ew_negOwn (ra := rPart K d z[i]) (ew_name 2 rfl (pv 2)) (hasM (m := "__neg__") z[i] T.isiP.cl T.mPNeg (ok_pNeg T) hr trivial rfl rfl rfl)
  · show Ew _ W _ _ (rIns d.cKey (fsKey K d (z.map negP)))
    exact ew_makeSL (fs := fsKey K d) (z.map negP) T.mkKey (ok_kInit T) (hr.mono (by decide)) rfl T.gKey (ew_sub (ew_name 1 rfl (pv 1)) fun _ _ => lst_seq) (by simpa using hp)
theorem scKCont : FnScope ["self", "x"] ["self", "x"] (defScope sKCont) := ⟨rfl, rfl, rfl, by decide +kernel, rfl, by decide +kernel, by decide +kernel⟩
theorem any_mem (ps : List PartD) (p : PartD) : anyB (fun i => decide (ps[i]? = some p)) ps.length = decide (p ∈ ps) := by
  by_cases h : p ∈ ps
  · obtain ⟨i, hi, e⟩ := List.getElem_of_mem h
    rw [decide_eq_true h]
    unfold anyB
    rw [List.any_eq_true]
    exact ⟨i, List.mem_range.mpr hi, by rw [List.getElem?_eq_getElem hi, e]; simp⟩
  · rw [decide_eq_false h]
    refine anyB_false fun j hj => decide_eq_false fun e => h (List.mem_of_getElem? e)
theorem ok_kCont (T : Tx P K mg d) : FnR P w K mg base CX0 6 d.fKCont (spW (α := List PartD × PartD) (fun _ z => KGood z.1 ∧ PGood z.2) (fun z => [rKey K d z.1, rPart K d z.2]) (fun z => rD K (.bool (decide (z.2 ∈ z.1))))) := by
  obtain ⟨fd, F⟩ := T.kCont
  refine fn_w F scKCont (F.binds fun _ _ _ _ _ _ us hl => match us, hl with | [_, _], _ => rfl) (fun _ => rfl) fun cdv A outer s H E W z hr hp => ⟨none, bw_one (sw_ret ?_), fun _ e => nomatch e⟩
  obtain ⟨ps, p⟩ := z
  show Ew _ W _ _ (rD K (.bool (decide (p ∈ ps))))
  rw [← any_mem, ← List.length_map (f := rPart K d)]
  refine ew_inTup (n := 4) (fun i q e => ?_) hr (ew_name 1 rfl (pv 1)) (ew_fld (ew_name 0 rfl (pv 0)) (f := "_parts") rfl T.isiK.cl T.nKp rfl) rfl
  rw [List.getElem?_map] at e
  cases e' : ps[i]? with
  | none => rw [e'] at e; cases e
  | some p' =>
    rw [e'] at e
    cases e
    exact (eqw_part T (hp.1.2 p' (List.mem_of_getElem? e')) hp.2).eq (by simp)
theorem scKGet : FnScope ["self", "at"] ["self", "at"] (defScope sKGet) := ⟨rfl, rfl, rfl, by decide +kernel, rfl, by decide +kernel, by decide +kernel⟩
theorem ok_kGet (T : Tx P K mg d) : FnR P w K mg base CX0 3 d.fKGet (spW (α := List PartD × Nat × PartD) (fun _ z => z.1[z.2.1]? = some z.2.2) (fun z => [rKey K d z.1, rD K (.int z.2.1)]) (fun z => rPart K d z.2.2)) := by
  obtain ⟨fd, F⟩ := T.kGet
  obtain ⟨fd', F'⟩ := T.isBetween
  refine fn_w F scKGet (F.binds fun _ _ _ _ _ _ us hl => match us, hl with | [_, _], _ => rfl) (fun _ => rfl) fun cdv A outer s H E W z hr hp => ⟨none, ?_, fun _ e => nomatch e⟩
  obtain ⟨ps, i, p⟩ := z
  have hi : i < ps.length := (List.getElem?_eq_some_iff.mp hp).1
  refine bw_cons (N := [some (rKey K d ps), some (rD K (.int i))]) (sw_if (d := false) (tw_eq (tw_not (tw_val (ew_call ((i : Int), 0, ((ps.map (rPart K d)).length : Int) - 1) (ok_isBetween T) hr F'.kp rfl T.gIsBetween (aw_cons (ew_name 1 rfl (pv 1)) (aw_cons ew_int (aw_cons (ew_subI (ew_lenTup rfl T.bLen (ew_fld (ew_name 0 rfl (pv 0)) (f := "_parts") rfl T.isiK.cl T.nKp rfl)) ew_int) aw_nil))) trivial) (by intro _; rfl))) ?_) (fun e => nomatch e) fun _ => bw_nil) (bw_one (sw_ret ?_))
  · show (!(decide ((0 : Int) ≤ i) && decide ((i : Int) ≤ ((ps.map (rPart K d)).length : Int) - 1))) = false
    rw [List.length_map, decide_eq_true (by omega), decide_eq_true (by omega)] <;> rfl
  · exact ew_ixT i (ew_fld (ew_name 0 rfl (pv 0)) (f := "_parts") rfl T.isiK.cl T.nKp rfl) (ew_name 1 rfl (pv 1)) rfl (by rw [List.getElem?_map, hp]; rfl) (by intro _ _; rfl)
theorem scKParts : FnScope ["self"] ["self"] (defScope sKParts) := ⟨rfl, rfl, rfl, by decide +kernel, rfl, by decide +kernel, by decide +kernel⟩
theorem ok_kParts (T : Tx P K mg d) : FnR P w K mg base CX0 1 d.fKParts (spW (α := List PartD) (fun _ z => True) (fun z => [rKey K d z]) (fun z => rLst (z.map (rPart K d)))) := by
  obtain ⟨fd, F⟩ := T.kParts
  refine fn_w F scKParts (F.binds fun _ _ _ _ _ _ us hl => match us, hl with | [_], _ => rfl) (fun _ => rfl) fun cdv A outer s H E W z hr hp => ⟨none, bw_one (sw_ret ?_), fun _ e => nomatch e⟩
  exact ew_listT rfl T.bList (ew_fld (ew_name 0 rfl (pv 0)) (f := "_parts") rfl T.isiK.cl T.nKp rfl)
theorem rc_key {X : Cx} (T : Tx X.prog X.K X.mg d) {W : Py.World} {p p' : List PartD} (g1 : KGood p) (g2 : KGood p') : RcW X .Eq W 7 (rKey X.K d p) (rKey X.K d p') (decide (p = p')) := by
  refine rcW_own .Eq (fun _ _ => rfl) fun x y H k p1 q1 => ?_
  obtain ⟨a, dx, gs, ex, hi, fl⟩ := p1
  obtain ⟨c, dy, gs', ey, hj, fl'⟩ := q1
  exact ⟨a, c, d.cKey, d.cKey, dx, dy, d.fKEq, gs, gs', _, ex, ey, hi, hj, T.nfK, T.mKEq, ok_kEq T, fun Q n => ⟨W, (p, p'), ⟨g1, g2⟩, k, ⟨⟨a, dx, gs, ex, hi, fl⟩, ⟨c, dy, gs', ey, hj, fl'⟩, trivial⟩, fun v H' k' e' pv => by rw [rD_bl.mp pv]; exact n H' k' e'⟩⟩
end
end K31
namespace K31
open PySem L2 Py NdefX
section
variable {P : Program} {w : PySem.World} {K : PySem.W.Frag} {mg : Str → Option Value} {base : Heap} {d : Ad}
theorem scRInit : NScope ["self", "name", "divisor", "__class__"] ["self", "name", "divisor"] ["__class__"] (defScope sRInit) := nscope_by (by decide +kernel)
abbrev fsRest (K : PySem.W.Frag) (z : Str × Int) : List (Str × Rep) := [("_name", rD K (.str z.1)), ("_divisor", rD K (.int z.2))]
theorem ok_rInit (T : Tx P K mg d) : FnR P w K mg base CX0 3 d.fRInit (spI d.cRest (fun z : Str × Int => Good z.1 ∧ 2 ≤ z.2 ∧ z.2 ≤ 9) (fun z => [rD K (.str z.1), rD K (.int z.2)]) (fsRest K)) := by
  obtain ⟨cda, cc, S⟩ := T.rInit
  obtain ⟨fd', F'⟩ := T.isBetween
  refine fn_super (self := "self") (ps := ["name", "divisor"]) rfl S scRInit (by decide +kernel) rfl rfl rfl (by decide) (fun _ _ _ _ us hl => match us, hl with | [_, _, _], _ => rfl) T.rSup (ok_mInit T (T.isi (.rest "" 0)).cl (T.nName (.rest "" 0))) (fun _ => rfl) (fun _ => rfl) (fun _ => rfl) ?_
  rintro A outer s H vs Q E hr ⟨W, z, x, dx, ws, ev, hp, kH, pr, q⟩
  subst ev
  have hl : ws.length = 2 := pr.len.symm
  refine ⟨x, dx, [], ws, _, _, rfl, hl, kH.2.2, (aw_cons (W := W.hold x (.ins d.cRest dx [])) (rs := [some (rRef x), some (rD K (.str z.1)), some (rD K (.int z.2)), none]) (ew_name 1 rfl (pv 1)) aw_nil),
    (ib_if (W := W) (C := d.cRest) (x := x) (dx := dx) (rs := [some (rRef x), some (rD K (.str z.1)), some (rD K (.int z.2)), none]) (fr := [("_name", rD K (.str z.1))]) (out := fsRest K z)
      (fun gs => tw_eq (tw_not (tw_val (ew_call (z.2, 2, 9) (ok_isBetween T) (hr.mono (by decide)) F'.kp rfl T.gIsBetween (aw_cons (ew_name 2 rfl (pv 2)) (aw_cons ew_int (aw_cons ew_int aw_nil))) trivial) (by intro _; rfl))) ?_)
      (ib_set (i := 0) (pv 0) rfl (fun gs => ew_name 2 rfl (pv 2)) (T.isi (.rest "" 0)).cl (T.nDiv (.rest "" 0)) rfl (by simp) ib_nil rfl)), ?_⟩
  · show (!(decide ((2 : Int) ≤ z.2) && decide (z.2 ≤ 9))) = false
    rw [decide_eq_true hp.2.1, decide_eq_true hp.2.2] <;> rfl
  · have hsg : Sg [some (rRef x), some (rD K (.str z.1)), some (rD K (.int z.2)), none] (startF ["self", "name", "divisor", "__class__"] (.ref x :: ws) [none]) ((W.hold x (.ins d.cRest dx [])).vis H) := by
      match ws, hl, pr with
      | [w1, w2], _, pr => exact ⟨⟨_, rfl, rfl⟩, ⟨_, rfl, pr.1⟩, ⟨_, rfl, pr.2.1⟩, trivial⟩
    refine ⟨kH, hsg, fun vs H' k' e' p' => ⟨W, z.1, x, dx, vs, rfl, hp.1, k', p', fun gs H2 k2 e2 fl2 => ?_⟩⟩
    have e3 : Ex ((W.hold x (.ins d.cRest dx [])).vis H) ((W.hold x (.ins d.cRest dx gs)).vis H2) := e'.trans e2
    exact ⟨gs, k2, fl2, hsg.mono e3, fun gs' H'' σ' k'' e'' fl => q gs' H'' k'' (e3.trans (by rw [hold_any (o := .ins d.cRest dx gs') (o' := .ins d.cRest dx gs)]; exact e'')) fl⟩
end
end K31
namespace K31
open PySem L2 Py
/-! ### the law's helpers -/
abbrev sCellAt : Stmt := top 24
abbrev sDraw : Stmt := top 25
abbrev sNumber : Stmt := top 26
abbrev sNext : Stmt := top 27
abbrev sPick : Stmt := top 28
abbrev sCell : Stmt := top 29
abbrev sMeasured : Stmt := top 30
abbrev sMade : Stmt := top 31
abbrev sLPart : Stmt := top 32
abbrev sLKey : Stmt := top 33
abbrev sStands : Stmt := top 34
abbrev sLPlain : Stmt := top 35
abbrev sRefused : Stmt := top 36
abbrev sOneRight : Stmt := top 37
abbrev sLaw : Stmt := top 38
structure Ld where
  (fCellAt fDraw fNumber fNext fPick fCell fMeasured fMade fLPart fLKey fStands fLPlain fRefused fOneRight : Addr)
structure Lx (P : Program) (K : PySem.W.Frag) (mg : Str → Option Value) (d : Ad) (e : Ld) : Prop where
  T : Tx P K mg d
  bRange : mg "range" = none
  bMax : mg "max" = none
  bMin : mg "min" = none
  bEnum : mg "enumerate" = none
  gCellAt : mg "_law_cell_at" = some (.ref e.fCellAt)
  lCellAt : ∃ fd, Fun K "_law_cell_at" "_law_cell_at" sCellAt e.fCellAt fd
  gDraw : mg "_law_draw" = some (.ref e.fDraw)
  lDraw : ∃ fd, Fun K "_law_draw" "_law_draw" sDraw e.fDraw fd
  gNumber : mg "_law_number" = some (.ref e.fNumber)
  lNumber : ∃ fd, Fun K "_law_number" "_law_number" sNumber e.fNumber fd
  gNext : mg "_law_next" = some (.ref e.fNext)
  lNext : ∃ fd, Fun K "_law_next" "_law_next" sNext e.fNext fd
  gPick : mg "_law_pick" = some (.ref e.fPick)
  lPick : ∃ fd, Fun K "_law_pick" "_law_pick" sPick e.fPick fd
  gCell : mg "_law_cell" = some (.ref e.fCell)
  lCell : ∃ fd, Fun K "_law_cell" "_law_cell" sCell e.fCell fd
  gMeasured : mg "_law_measured" = some (.ref e.fMeasured)
  lMeasured : ∃ fd, Fun K "_law_measured" "_law_measured" sMeasured e.fMeasured fd
  gMade : mg "_law_made" = some (.ref e.fMade)
  lMade : ∃ fd, Fun K "_law_made" "_law_made" sMade e.fMade fd
  gLPart : mg "_law_part" = some (.ref e.fLPart)
  lLPart : ∃ fd, Fun K "_law_part" "_law_part" sLPart e.fLPart fd
  gLKey : mg "_law_key" = some (.ref e.fLKey)
  lLKey : ∃ fd, Fun K "_law_key" "_law_key" sLKey e.fLKey fd
  gStands : mg "_law_stands" = some (.ref e.fStands)
  lStands : ∃ fd, Fun K "_law_stands" "_law_stands" sStands e.fStands fd
  gLPlain : mg "_law_plain" = some (.ref e.fLPlain)
  lLPlain : ∃ fd, Fun K "_law_plain" "_law_plain" sLPlain e.fLPlain fd
  gRefused : mg "_law_refused" = some (.ref e.fRefused)
  lRefused : ∃ fd, Fun K "_law_refused" "_law_refused" sRefused e.fRefused fd
  gOneRight : mg "_law_one_right" = some (.ref e.fOneRight)
  lOneRight : ∃ fd, Fun K "_law_one_right" "_law_one_right" sOneRight e.fOneRight fd
theorem r2_ixL' {W : Py.World} {K : PySem.W.Frag} {rl : List Rep} {r : Rep} {z : Int} {i : Nat} (hz : z = (i : Int)) (hr : rl[i]? = some r) : R2w W (rIxL K) (rSeq K rl) (rD K (.int z)) r := fun x y H k ⟨p, xs, ex, hs, h⟩ q Q n => by
  obtain ⟨v, h1, h2⟩ := h.get hr
  exact ⟨p, xs, z, v, ex, rD_int.mp q, sqL_mono (W.sub H) hs, at_nat hz h1, n _ H k (Ex.refl _) h2⟩
theorem r2_eqDK {W : Py.World} {K : PySem.W.Frag} {d d' : PyData} (h1 : SeqAt.shaped d = true) (h2 : SeqAt.shaped d' = true) : R2w W (rEqD K) (rD K d) (rD K d') (rD K (.bool (PyData.eqv d d'))) := fun x y H k p q Q h =>
  ⟨d, d', dp_mono (W.sub H) p, dp_mono (W.sub H) q, h1, h2, h _ H k (Ex.refl _) (Dp.bl _)⟩
theorem r2_inDK {W : Py.World} {K : PySem.W.Frag} {d : PyData} {ds : List PyData} (h1 : SeqAt.shaped d = true) (h2 : SeqAt.shaped (.list ds) = true) : R2w W (rInD K) (rD K d) (rD K (.list ds)) (rD K (.bool (ds.any fun z => PyData.eqv z d))) := fun x y H k p q Q h => by
  exact ⟨d, ds, dp_mono (W.sub H) p, dp_mono (W.sub H) q, h1, h2, h _ H k (Ex.refl _) (Dp.bl _)⟩
theorem r2_IKc {W : Py.World} {K : PySem.W.Frag} {C : Int → Int → Prop} {g : Int → Int → V} {i j : Int} {d : PyData} (hc : C i j) (hd : ∀ H, Dp K H (g i j) d) : R2w W (rI C g) (rD K (.int i)) (rD K (.int j)) (rD K d) := fun x y H k p q Q h => ⟨i, j, rD_int.mp p, rD_int.mp q, hc, h _ H k (Ex.refl _) (hd _)⟩
section
variable {P : Program} {w : PySem.World} {K : PySem.W.Frag} {mg : Str → Option Value} {base : Heap} {d : Ad} {e : Ld}
theorem scCellAt : FnScope ["_law_script", "_law_k"] ["_law_script", "_law_k"] (defScope sCellAt) := ⟨rfl, rfl, rfl, by decide +kernel, rfl, by decide +kernel, by decide +kernel⟩
theorem ok_cellAt (L : Lx P K mg d e) : FnR P w K mg base CX0 1 e.fCellAt (spW (α := Addr × List Int × Int) (fun W z => (∀ H, W.ok H → SqL K H z.1 (z.2.1.map V.int)) ∧ 0 ≤ z.2.2) (fun z => [rRef z.1, rD K (.int z.2.2)]) (fun _ => rAnyI K)) := by
  obtain ⟨fd, F⟩ := L.lCellAt
  refine fn_w F scCellAt (F.binds fun _ _ _ _ _ _ us hl => match us, hl with | [_, _], _ => rfl) (fun _ => rfl) fun cdv A outer s H E W z hr hp => ⟨none, ?_, fun _ e => nomatch e⟩
  obtain ⟨l, zs, k⟩ := z
  refine bw_cons (N := [some (rRef l), some (rD K (.int k))]) (sw_if (tw_lt (ew_name 1 rfl (pv 1)) (ew_lenH hp.1 rfl L.T.bLen (ew_name 0 rfl (pv 0)))) (fun h => bw_one (sw_nx (sw_ret ?_))) fun _ => bw_nil) (bw_one (sw_ret (ew_in 0 ew_int)))
  exact ew_ixH (zs := zs) hp.1 (ew_name 0 rfl (pv 0)) (ew_name 1 rfl (pv 1)) hp.2 (by simpa using h) (by intro _ _; rfl)
theorem scDraw : FnScope ["_law_cell_here", "_law_k", "_law_below", "_law_primes"] ["_law_cell_here", "_law_k", "_law_below"] (defScope sDraw) := ⟨rfl, rfl, rfl, by decide +kernel, rfl, by decide +kernel, by decide +kernel⟩
def primes : List Int := [1000003, 1000033, 1000037, 1000039, 1000081, 1000099, 1000117, 1000121, 1000133, 1000151, 1000159, 1000171, 1000183, 1000187, 1000193, 1000199]
theorem ok_draw (L : Lx P K mg d e) : FnR P w K mg base CX0 1 e.fDraw (spW (α := Int × Int × Int) (fun W z => (-(2 ^ 64) < z.1 ∧ z.1 < 2 ^ 64) ∧ (-(2 ^ 64) < z.2.1 ∧ z.2.1 < 2 ^ 64) ∧ 0 < z.2.2) (fun z => [rD K (.int z.1), rD K (.int z.2.1), rD K (.int z.2.2)]) (fun z => rBel K z.2.2)) := by
  obtain ⟨fd, F⟩ := L.lDraw
  refine fn_w F scDraw (F.binds fun _ _ _ _ _ _ us hl => match us, hl with | [_, _, _], _ => rfl) (fun _ => rfl) fun cdv A outer s H E W z hr hp => ⟨none, ?_, fun _ e => nomatch e⟩
  obtain ⟨c, k, b⟩ := z
  obtain ⟨h1, h2, h3⟩ := hp
  refine bw_cons (N := [some (rD K (.int c)), some (rD K (.int k)), some (rD K (.int b)), some (rD K (.tuple (primes.map .int)))]) (sw_set (r := rD K (.tuple (primes.map .int))) 3 (ew_tupD (aw_cons ew_int (aw_cons ew_int (aw_cons ew_int (aw_cons ew_int (aw_cons ew_int (aw_cons ew_int (aw_cons ew_int (aw_cons ew_int (aw_cons ew_int (aw_cons ew_int (aw_cons ew_int (aw_cons ew_int (aw_cons ew_int (aw_cons ew_int (aw_cons ew_int (aw_cons ew_int aw_nil)))))))))))))))) (by decide)) scDraw.nd rfl (.inl rfl)) (bw_one (sw_ret ?_))
  have hk : 0 ≤ k % 16 ∧ k % 16 < 16 := by omega
  have hq : ∃ q, primes[(k % 16).toNat]? = some q ∧ 0 < q := by
    have hl : (k % 16).toNat < primes.length := by show (k % 16).toNat < 16; omega
    refine ⟨primes[(k % 16).toNat], List.getElem?_eq_getElem hl, ?_⟩
    have : ∀ q ∈ primes, 0 < q := by decide
    exact this _ (List.getElem_mem hl)
  obtain ⟨q, hq1, hq2⟩ := hq
  exact ew_in (α := {i : Int // 0 ≤ i ∧ i < b}) ⟨_, Int.emod_nonneg _ (Int.ne_of_gt h3), Int.emod_lt_of_pos _ h3⟩ (ew_mod (ew_mod (ew_add (ew_mul (ew_name 0 rfl (pv 0)) ew_int (.inl h1)) (ew_mul (ew_name 1 rfl (pv 1)) ew_int (.inl h2))) (ew_ixTD (d := .int q) (k % 16).toNat (ew_name 3 rfl (pv 3)) (ew_mod (ew_name 1 rfl (pv 1)) ew_int (by decide)) (by omega) (by rw [List.getElem?_map, hq1]; rfl) (by intro _ _; rfl)) hq2) (ew_name 2 rfl (pv 2)) h3)
theorem scNumber : FnScope ["_law_cell_here", "_law_k", "_law_below", "_law_power", "_law_times", "_law_remains", "_law_small"] ["_law_cell_here", "_law_k", "_law_below"] (defScope sNumber) := ⟨rfl, rfl, rfl, by decide +kernel, rfl, by decide +kernel, by decide +kernel⟩
theorem ok_number (L : Lx P K mg d e) : FnR P w K mg base CX0 2 e.fNumber (spW (α := Int × Int × Int) (fun W z => (0 ≤ z.2.1 ∧ z.2.1 < 24) ∧ 0 < z.2.2) (fun z => [rD K (.int z.1), rD K (.int z.2.1), rD K (.int z.2.2)]) (fun z => rBel K z.2.2)) := by
  obtain ⟨fd, F⟩ := L.lNumber
  obtain ⟨fd', F'⟩ := L.lDraw
  refine fn_w F scNumber (F.binds fun _ _ _ _ _ _ us hl => match us, hl with | [_, _, _], _ => rfl) (fun _ => rfl) fun cdv A outer s H E W z hr hp => ⟨none, ?_, fun _ e => nomatch e⟩
  obtain ⟨c, k, b⟩ := z
  obtain ⟨h1, h2⟩ := hp
  change 0 ≤ k ∧ k < 24 at h1
  change 0 < b at h2
  have hkk : 0 ≤ k % 24 ∧ k % 24 < 24 := by omega
  refine bw_cons (N := [some (rD K (.int c)), some (rD K (.int k)), some (rD K (.int b)), some (rD K (.int 1)), none, none, none]) (sw_set 3 ew_int scNumber.nd rfl (.inl rfl)) ?_
  refine bw_cons (N := [some (rD K (.int c)), some (rD K (.int k)), some (rD K (.int b)), some (rD K (.int (1009 ^ (k % 24).toNat))), none, none, none]) (sw_for (fun i => [some (rD K (.int c)), some (rD K (.int k)), some (rD K (.int b)), some (rD K (.int (1009 ^ i))), none, none, none]) (fun i => [some (rD K (.int c)), some (rD K (.int k)), some (rD K (.int b)), some (rD K (.int (1009 ^ i))), some (rD K (.int i)), none, none]) rfl rfl (iw_range1 rfl L.bRange (ew_mod (ew_name 1 rfl (pv 1)) ew_int (by decide)) (by omega)) (fun i hi => gw_name 4 (pg_name scNumber.nd rfl (.inl rfl))) (fun i hi => ?_) .never rfl) ?_
  · refine bw_cons (N := [some (rD K (.int c)), some (rD K (.int k)), some (rD K (.int b)), some (rD K (.int (1009 ^ i * 1009))), some (rD K (.int i)), none, none]) (sw_set (r := rD K (.int (1009 ^ i * 1009))) 3 (ew_mul (ew_name 3 rfl (pv 3)) ew_int (.inr (by decide))) scNumber.nd rfl (.inl rfl)) (bw_wipe 4 (bw_nilN ?_))
    show some [some (rD K (.int c)), some (rD K (.int k)), some (rD K (.int b)), some (rD K (.int (1009 ^ (i + 1)))), none, none, none] = _
    rw [Int.pow_succ] <;> rfl
  have hpw : CDivW (c - 10 ^ (18 : Int).toNat) (1009 ^ (k % 24).toNat) := by
    have : ∀ j : Nat, j < 24 → (0 : Int) < 1009 ^ j ∧ ((1009 : Int) ^ j).natAbs.log2 < 9000 := by decide +kernel
    exact this _ (by omega)
  refine bw_cons (N := [some (rD K (.int c)), some (rD K (.int k)), some (rD K (.int b)), some (rD K (.int (1009 ^ (k % 24).toNat))), none, some (rD K (.int ((c - 10 ^ (18 : Int).toNat) / 1009 ^ (k % 24).toNat))), none]) (sw_set 5 (ew_fdivW (ew_subI (ew_name 0 rfl (pv 0)) (ew_pow ew_int ew_int ⟨by decide, by decide, by decide⟩)) (ew_name 3 rfl (pv 3)) hpw) scNumber.nd rfl (.inl rfl)) ?_
  refine bw_cons (N := [some (rD K (.int c)), some (rD K (.int k)), some (rD K (.int b)), some (rD K (.int (1009 ^ (k % 24).toNat))), none, some (rD K (.int ((c - 10 ^ (18 : Int).toNat) / 1009 ^ (k % 24).toNat))), none]) (sw_if (tw_gt (ew_name 5 rfl (pv 5)) ew_int) (fun h => bw_one (sw_nx (sw_ret ?_))) fun _ => bw_nil) ?_
  · exact ew_in (α := {i : Int // 0 ≤ i ∧ i < b}) ⟨_, Int.emod_nonneg _ (Int.ne_of_gt h2), Int.emod_lt_of_pos _ h2⟩ (ew_mod (ew_mod (ew_name 5 rfl (pv 5)) ew_int (by decide)) (ew_name 2 rfl (pv 2)) h2)
  refine bw_cons (N := [some (rD K (.int c)), some (rD K (.int k)), some (rD K (.int b)), some (rD K (.int (1009 ^ (k % 24).toNat))), none, some (rD K (.int ((c - 10 ^ (18 : Int).toNat) / 1009 ^ (k % 24).toNat))), some (rD K (.int (c % 1000003)))]) (sw_set 6 (ew_mod (ew_name 0 rfl (pv 0)) ew_int (by decide)) scNumber.nd rfl (.inl rfl)) (bw_one (sw_ret ?_))
  have hs : 0 ≤ c % 1000003 ∧ c % 1000003 < 1000003 := ⟨Int.emod_nonneg _ (by decide), Int.emod_lt_of_pos _ (by decide)⟩
  generalize c % 1000003 = s0 at hs
  have hm : 0 ≤ (s0 + 977 * k) * (s0 + 31 * k + 5) ∧ (s0 + 977 * k) * (s0 + 31 * k + 5) ≤ 2000000 * 2000000 := ⟨Int.mul_nonneg (by omega) (by omega), Int.mul_le_mul (by omega) (by omega) (by omega) (by omega)⟩
  refine ew_op op_mod (ew_call ((s0 + 977 * k) * (s0 + 31 * k + 5), k % 9 + 1, 999983) (ok_draw L) hr F'.kp rfl L.gDraw (aw_cons (ew_mul (ew_add (ew_name 6 rfl (pv 6)) (ew_mul ew_int (ew_name 1 rfl (pv 1)) (.inl (by decide)))) (ew_add (ew_add (ew_name 6 rfl (pv 6)) (ew_mul ew_int (ew_name 1 rfl (pv 1)) (.inl (by decide)))) ew_int) (.inl (by omega))) (aw_cons (ew_add (ew_mod (ew_name 1 rfl (pv 1)) ew_int (by decide)) ew_int) (aw_cons ew_int aw_nil))) ⟨⟨by show -(2 ^ 64) < (s0 + 977 * k) * (s0 + 31 * k + 5); omega, by show (s0 + 977 * k) * (s0 + 31 * k + 5) < 2 ^ 64; omega⟩, ⟨by show -(2 ^ 64) < k % 9 + 1; omega, by show k % 9 + 1 < 2 ^ 64; omega⟩, by show (0 : Int) < 999983; decide⟩) (ew_name 2 rfl (pv 2)) (R2w.exl fun i => R2w.in (α := {i : Int // 0 ≤ i ∧ i < b}) ⟨_, Int.emod_nonneg _ (Int.ne_of_gt h2), Int.emod_lt_of_pos _ h2⟩ (r2_IKc h2 fun _ => Dp.int _))
theorem scNext : FnScope ["_law_state", "_law_below", "_law_at", "_law_cell_here"] ["_law_state", "_law_below"] (defScope sNext) := ⟨rfl, rfl, rfl, by decide +kernel, rfl, by decide +kernel, by decide +kernel⟩
structure DZ where
  p : Addr
  l : Addr
  zs : List Int
theorem ok_next (L : Lx P K mg d e) : FnR P w K mg base CX0 3 e.fNext (spW (α := DZ × Int) (fun W z => Draws K W z.1.p z.1.l z.1.zs ∧ 0 < z.2) (fun z => [rRef z.1.p, rD K (.int z.2)]) (fun z => rBel K z.2)) := by
  obtain ⟨fd, F⟩ := L.lNext
  obtain ⟨fd1, F1⟩ := L.lCellAt
  obtain ⟨fd2, F2⟩ := L.lNumber
  refine fn_w F scNext (F.binds fun _ _ _ _ _ _ us hl => match us, hl with | [_, _], _ => rfl) (fun _ => rfl) fun cdv A outer s H E W z hr hp => ⟨none, ?_, fun _ e => nomatch e⟩
  obtain ⟨⟨p, l, zs⟩, b⟩ := z
  obtain ⟨D, hb⟩ := hp
  change 0 < b at hb
  refine bw_cons (N := [some (rRef p), some (rD K (.int b)), none, none]) (sw_st2 D (ew_name 0 rfl (pv 0)) ew_int (ew_op op_add (ew_st2 D (ew_name 0 rfl (pv 0)) ew_int (by intro _ _; rfl)) ew_int (R2w.exl fun i => R2w.in (α := {i : Int // 0 ≤ i}) ⟨i.1 + 1, by have := i.2; omega⟩ (r2_IK fun _ => Dp.int _)))) ?_
  refine bw_cons (N := [some (rRef p), some (rD K (.int b)), some (rNN K), none]) (sw_set 2 (ew_op op_fdiv (ew_st2 D (ew_name 0 rfl (pv 0)) ew_int (by intro _ _; rfl)) ew_int (R2w.exl fun i => R2w.in (α := {i : Int // 0 ≤ i}) ⟨i.1 / 12, Int.ediv_nonneg i.2 (by decide)⟩ (r2_IKc (C := CDiv) ⟨by decide, by decide⟩ fun _ => Dp.int _))) scNext.nd rfl (.inl rfl)) ?_
  refine bw_ex 2 rfl fun at_ => ?_
  refine bw_cons (N := [some (rRef p), some (rD K (.int b)), some (rD K (.int at_.1)), some (rAnyI K)]) (sw_set 3 (ew_op op_add (ew_exCall (rl := [rRef l, rNN K]) (ι := {i : Int // 0 ≤ i}) (fun i => (l, zs, i.1)) (fun vs H h => ?_) (ok_cellAt L) (hr.mono (by decide)) F1.kp rfl L.gCellAt (aw_cons (ew_st0 D (ew_name 0 rfl (pv 0)) ew_int (by intro _ _; rfl)) (aw_cons (ew_op op_add (ew_st1 D (ew_name 0 rfl (pv 0)) ew_int (by intro _ _; rfl)) (ew_name 2 rfl (pv 2)) (R2w.exl fun i => R2w.in (α := {i : Int // 0 ≤ i}) ⟨i.1 + at_.1, by have := i.2; have := at_.2; omega⟩ (r2_IK fun _ => Dp.int _))) aw_nil)) (fun i => ⟨D.seq, i.2⟩) (fun i v H h => h)) (ew_mul ew_int (ew_name 2 rfl (pv 2)) (.inl (by decide))) (R2w.exl fun i => R2w.in (i + 31 * at_.1) (r2_IK fun _ => Dp.int _))) scNext.nd rfl (.inl rfl)) ?_
  · match vs, h with
    | [v, x], h => obtain ⟨h1, ⟨i, h2⟩, _⟩ := h; exact ⟨i, h1, h2, trivial⟩
  refine bw_ex 3 rfl fun c => bw_one (sw_ret ?_)
  refine ew_exCall (rl := [rD K (.int c), rEx (α := {i : Int // 0 ≤ i ∧ i < 24}) (fun i => rD K (.int i.1)), rD K (.int b)]) (ι := {i : Int // 0 ≤ i ∧ i < 24}) (fun i => (c, i.1, b)) (fun vs H h => ?_) (ok_number L) (hr.mono (by decide)) F2.kp rfl L.gNumber (aw_cons (ew_name 3 rfl (pv 3)) (aw_cons (ew_op op_add (ew_op op_mod (ew_st2 D (ew_name 0 rfl (pv 0)) ew_int (by intro _ _; rfl)) ew_int (R2w.exl fun i => R2w.in (α := {i : Int // 0 ≤ i ∧ i < 12}) ⟨i.1 % 12, Int.emod_nonneg _ (by decide), Int.emod_lt_of_pos _ (by decide)⟩ (r2_IKc (by decide) fun _ => Dp.int _))) ew_int (R2w.exl fun i => R2w.in (α := {i : Int // 0 ≤ i ∧ i < 24}) ⟨i.1 + 1, by have := i.2; omega⟩ (r2_IK fun _ => Dp.int _))) (aw_cons (ew_name 1 rfl (pv 1)) aw_nil))) (fun i => ⟨i.2, hb⟩) (fun i v H h => h)
  match vs, h with
  | [v, x, y], h => obtain ⟨h1, ⟨i, h2⟩, h3, _⟩ := h; exact ⟨i, h1, h2, h3, trivial⟩
end
end K31
namespace K31
open PySem L2 Py
inductive Kd | plain | size | rest | ending deriving DecidableEq
def Kd.s : Kd → Str | .plain => "plain" | .size => "size" | .rest => "rest" | .ending => "ending"
structure QD where
  k : Kd
  name : Str
  div : Int
  dn : Bool
deriving DecidableEq
def QD.t (q : QD) : PyData := .tuple [.str q.k.s, .str q.name, .int q.div, .bool q.dn]
def QD.m (q : QD) : Meas := match q.k with | .plain => .plain q.name | .size => .size q.name | .rest => .rest q.name q.div | .ending => .ending q.name
def QD.part (q : QD) : PartD := ⟨q.m, q.dn⟩
def QD.pl (q : QD) : QD := match q.k with | .rest => q | k => ⟨k, q.name, 0, q.dn⟩
def QOk (q : QD) : Prop := Good q.name ∧ 2 ≤ q.div ∧ q.div ≤ 9
theorem good_of {z : Str} (h : (decide (1 ≤ z.length) && decide (z.length ≤ 8) && z.cps.toList.all (fun c => decide (c ∈ ("abcdefghijklmnopqrstuvwxyz" : Str).cps.toList))) = true) : Good z := by
  simp only [Bool.and_eq_true, decide_eq_true_eq, List.all_eq_true] at h
  exact ⟨h.1.1, h.1.2, h.2⟩
section
variable {P : Program} {w : PySem.World} {K : PySem.W.Frag} {mg : Str → Option Value} {base : Heap} {d : Ad} {e : Ld}
theorem scPick : FnScope ["_law_state", "_law_things"] ["_law_state", "_law_things"] (defScope sPick) := ⟨rfl, rfl, rfl, by decide +kernel, rfl, by decide +kernel, by decide +kernel⟩
theorem ok_pick (L : Lx P K mg d e) : FnR P w K mg base CX0 4 e.fPick (spW (α := DZ × List Rep) (fun W z => Draws K W z.1.p z.1.l z.1.zs ∧ 0 < z.2.length) (fun z => [rRef z.1.p, rSeq K z.2]) (fun z => rEx (α := Fin z.2.length) fun i => z.2[i])) := by
  obtain ⟨fd, F⟩ := L.lPick
  obtain ⟨fd1, F1⟩ := L.lNext
  refine fn_w F scPick (F.binds fun _ _ _ _ _ _ us hl => match us, hl with | [_, _], _ => rfl) (fun _ => rfl) fun cdv A outer s H E W z hr hp => ⟨none, bw_one (sw_ret ?_), fun _ e => nomatch e⟩
  obtain ⟨q, rl⟩ := z
  refine ew_ix ix_list (ew_name 1 rfl (pv 1)) (ew_call (q, (rl.length : Int)) (ok_next L) hr F1.kp rfl L.gNext (aw_cons (ew_name 0 rfl (pv 0)) (aw_cons (ew_lenSeq rfl L.T.bLen (ew_name 1 rfl (pv 1))) aw_nil)) ⟨hp.1, Int.natCast_pos.mpr hp.2⟩) (R2w.exr fun i => ?_) (by intro _ _; rfl)
  have hi : i.1.toNat < rl.length := by have := i.2; omega
  exact R2w.in (α := Fin rl.length) ⟨i.1.toNat, hi⟩ (r2_ixL' (by have := i.2; omega) (List.getElem?_eq_getElem hi))
theorem scCell : FnScope ["_law_state", "_law_kind"] ["_law_state", "_law_kind"] (defScope sCell) := ⟨rfl, rfl, rfl, by decide +kernel, rfl, by decide +kernel, by decide +kernel⟩
def kindS : Bool → Str | true => "words" | false => "numbers"
def cellR (K : PySem.W.Frag) : Bool → Rep
  | true => rEx (α := {z : Str // Good z}) fun z => rD K (.str z.1)
  | false => rAnyI K
theorem ok_cell (L : Lx P K mg d e) : FnR P w K mg base CX0 5 e.fCell (spW (α := DZ × Bool) (fun W z => Draws K W z.1.p z.1.l z.1.zs) (fun z => [rRef z.1.p, rD K (.str (kindS z.2))]) (fun z => cellR K z.2)) := by
  obtain ⟨fd, F⟩ := L.lCell
  obtain ⟨fd1, F1⟩ := L.lNext
  obtain ⟨fd2, F2⟩ := L.lPick
  refine fn_w F scCell (F.binds fun _ _ _ _ _ _ us hl => match us, hl with | [_, _], _ => rfl) (fun _ => rfl) fun cdv A outer s H E W z hr hp => ⟨none, ?_, fun _ e => nomatch e⟩
  obtain ⟨q, b⟩ := z
  have hsh : ∀ b, SeqAt.shaped (.str (kindS b)) = true := fun b => by cases b <;> decide +kernel
  cases b with
  | true =>
    refine bw_last (sw_if (d := true) (tw_eq (tw_eqD hr.units (ew_name 1 rfl (pv 1)) ew_str (hsh true) (hsh true)) (show PyData.eqv (.str (kindS true)) (.str "words") = true by rw [eqv_str]; decide +kernel)) (fun _ => bw_one (sw_ret ?_)) (fun e => nomatch e))
    refine ew_sub (ew_call (q, ([("oak" : Str), "elm", "ash", "a", "b", "yewtree", "abcdefgh", "fir"] : List Str).map fun z => rD K (.str z)) (ok_pick L) hr F2.kp rfl L.gPick (aw_cons (ew_name 0 rfl (pv 0)) (aw_cons (ew_sub (ew_lst (aw_cons ew_str (aw_cons ew_str (aw_cons ew_str (aw_cons ew_str (aw_cons ew_str (aw_cons ew_str (aw_cons ew_str (aw_cons ew_str aw_nil)))))))) (by simp)) fun _ _ => lst_seq) aw_nil)) ⟨hp, by simp⟩) fun v H ⟨i, h⟩ => ?_
    have hall : ∀ z ∈ ([("oak" : Str), "elm", "ash", "a", "b", "yewtree", "abcdefgh", "fir"] : List Str), Good z := by
      intro z hz
      simp only [List.mem_cons, List.not_mem_nil, or_false] at hz
      rcases hz with rfl | rfl | rfl | rfl | rfl | rfl | rfl | rfl <;> exact good_of (by decide +kernel)
    have hi : i.1 < ([("oak" : Str), "elm", "ash", "a", "b", "yewtree", "abcdefgh", "fir"] : List Str).length := by simpa using i.2
    have h' : ((([("oak" : Str), "elm", "ash", "a", "b", "yewtree", "abcdefgh", "fir"] : List Str).map fun z => rD K (.str z))[i.1]'(i.2)).p v H := h
    rw [List.getElem_map] at h'
    exact ⟨⟨_, hall _ (List.getElem_mem hi)⟩, h'⟩
  | false =>
    refine bw_cons (N := [some (rRef q.p), some (rD K (.str (kindS false)))]) (sw_if (d := false) (tw_eq (tw_eqD hr.units (ew_name 1 rfl (pv 1)) ew_str (hsh false) (hsh true)) (show PyData.eqv (.str (kindS false)) (.str "words") = false by rw [eqv_str]; decide +kernel)) (fun e => nomatch e) fun _ => bw_nil) (bw_one (sw_ret ?_))
    refine ew_sub (ew_call (q, List.replicate 10 (rAnyI K)) (ok_pick L) hr F2.kp rfl L.gPick (aw_cons (ew_name 0 rfl (pv 0)) (aw_cons (ew_sub (ew_lst (rl := List.replicate 10 (rAnyI K)) (aw_cons (ew_in _ ew_int) (aw_cons (ew_in _ ew_int) (aw_cons (ew_in _ (ew_negI ew_int)) (aw_cons (ew_in _ ew_int) (aw_cons (ew_in _ ew_int) (aw_cons (ew_in _ (ew_negI ew_int)) (aw_cons (ew_in _ ew_int) (aw_cons (ew_in _ (ew_negI ew_int)) (aw_cons (ew_in _ ew_int) (aw_cons ?_ aw_nil)))))))))) (by simp)) fun _ _ => lst_seq) aw_nil)) ⟨hp, by simp⟩) fun v H ⟨i, h⟩ => by
      have h' : ((List.replicate 10 (rAnyI K))[i.1]'(i.2)).p v H := h
      rw [List.getElem_replicate] at h'
      exact h'
    exact ew_op op_sub (ew_call (q, 199) (ok_next L) (hr.mono (by decide)) F1.kp rfl L.gNext (aw_cons (ew_name 0 rfl (pv 0)) (aw_cons ew_int aw_nil)) ⟨hp, show (0 : Int) < 199 by decide⟩) ew_int (R2w.exl fun i => R2w.in (i.1 - 99) (r2_IK fun _ => Dp.int _))
theorem strOk_lit {z : Str} (h : PyData.strOk z = true) : SeqAt.shaped (.str z) = true := by simp [SeqAt.shaped, PyData.canLay0, PyData.depth, h]
theorem shk (k : Kd) : SeqAt.shaped (.str k.s) = true := strOk_lit (by cases k <;> decide +kernel)
theorem tw_kind {X : Cx} {W : Py.World} {rs : Rs} {o i c : Expr} {pos p0 : Pos} {q : QD} (k : Kd) (hu : X.A.units + 64 < cLine) (ho : Ew X W rs o (rD X.K q.t)) (hi : Ew X W rs i (rD X.K (.int 0))) (hc : Ew X W rs c (rD X.K (.str k.s))) (hs : PlainIx i) : Tw X W rs (.Compare (.Subscript o i p0) [.Eq] [c] pos) (decide (q.k = k)) :=
  tw_eq (tw_eqD hu (ew_ixTD 0 ho hi rfl rfl hs) hc (shk _) (shk _)) (by rw [eqv_str, beq_str]; cases q.k <;> cases k <;> decide +kernel)
theorem scMeasured : FnScope ["_law_part_here", "_law_cell_here"] ["_law_part_here", "_law_cell_here"] (defScope sMeasured) := ⟨rfl, rfl, rfl, by decide +kernel, rfl, by decide +kernel, by decide +kernel⟩
theorem last_at {z : Str} (h1 : 1 ≤ z.length) : atI z.cps.toList (-1) = some (z.cps.getD (z.length - 1) 0) := by
  have h2 : 1 ≤ z.cps.size := h1
  have hl : z.cps.toList ≠ [] := by
    intro h
    have h1 : z.cps.toList.length = 0 := by rw [h] <;> rfl
    rw [Array.length_toList] at h1
    omega
  have h3 := (List.dropLast_concat_getLast hl).symm
  have h4 : z.cps.getD (z.length - 1) 0 = z.cps.toList.getLast hl := by
    rw [List.getLast_eq_getElem, Array.getD_eq_getD_getElem?, Array.getElem?_eq_getElem (by show z.cps.size - 1 < z.cps.size; omega)]
    rfl
  rw [h4]
  conv => lhs; rw [h3]
  exact atI_last _ _
theorem ok_measured (L : Lx P K mg d e) : FnR P w K mg base CX0 1 e.fMeasured (spW (α := QD × PyData) (fun W z => ofOk z.1.m z.2) (fun z => [rD K z.1.t, rD K z.2]) (fun z => rD K (ofD z.1.m z.2))) := by
  obtain ⟨fd, F⟩ := L.lMeasured
  refine fn_w F scMeasured (F.binds fun _ _ _ _ _ _ us hl => match us, hl with | [_, _], _ => rfl) (fun _ => rfl) fun cdv A outer s H E W z hr hp => ⟨none, ?_, fun _ e => nomatch e⟩
  obtain ⟨⟨k, n, v, u⟩, c⟩ := z
  have pi : ∀ {j : Nat} {pp : Pos} {i : Int}, PlainIx (.Constant (.int i) j pp) := fun _ _ => rfl
  cases k with
  | plain =>
    exact bw_last (sw_if (d := true) (tw_eq (tw_kind .plain hr.units (ew_name 0 rfl (pv 0)) ew_int ew_str pi) rfl) (fun _ => bw_one (sw_ret (ew_name 1 rfl (pv 1)))) (fun e => nomatch e))
  | size =>
    refine bw_cons (N := [some (rD K (QD.t ⟨.size, n, v, u⟩)), some (rD K c)]) (sw_if (d := false) (tw_eq (tw_kind .plain hr.units (ew_name 0 rfl (pv 0)) ew_int ew_str pi) rfl) (fun e => nomatch e) fun _ => bw_nil) ?_
    refine bw_last (sw_if (d := true) (tw_eq (tw_kind .size hr.units (ew_name 0 rfl (pv 0)) ew_int ew_str pi) rfl) (fun _ => bw_one (sw_ret ?_)) (fun e => nomatch e))
    cases c with
    | int i => exact ew_if (d := false) (tw_val (ew_isi (t := .type "int") (d := false) rfl L.T.bIsi (ew_name 1 rfl (pv 1)) (ew_ty rfl L.T.bStr (by decide +kernel)) (.ty "str") isR_int (kit_ty (by decide +kernel))) (by intro _; rfl)) (fun e => nomatch e) fun _ => ew_absI rfl L.T.bAbs (ew_name 1 rfl (pv 1))
    | str z => exact ew_if (d := true) (tw_val (ew_isi (t := .type "str") (d := true) rfl L.T.bIsi (ew_name 1 rfl (pv 1)) (ew_ty rfl L.T.bStr (by decide +kernel)) (.ty "str") isR_str (kit_ty (by decide +kernel))) (by intro _; rfl)) (fun _ => ew_lenStr hp rfl L.T.bLen (ew_name 1 rfl (pv 1))) (fun e => nomatch e)
    | _ => cases hp
  | rest =>
    refine bw_cons (N := [some (rD K (QD.t ⟨.rest, n, v, u⟩)), some (rD K c)]) (sw_if (d := false) (tw_eq (tw_kind .plain hr.units (ew_name 0 rfl (pv 0)) ew_int ew_str pi) rfl) (fun e => nomatch e) fun _ => bw_nil) ?_
    refine bw_cons (N := [some (rD K (QD.t ⟨.rest, n, v, u⟩)), some (rD K c)]) (sw_if (d := false) (tw_eq (tw_kind .size hr.units (ew_name 0 rfl (pv 0)) ew_int ew_str pi) rfl) (fun e => nomatch e) fun _ => bw_nil) (bw_one (sw_ret ?_))
    cases c with
    | int i => exact ew_if (d := true) (tw_eq (tw_kind .rest hr.units (ew_name 0 rfl (pv 0)) ew_int ew_str pi) rfl) (fun _ => ew_mod (ew_name 1 rfl (pv 1)) (ew_ixTD (d := .int v) 2 (ew_name 0 rfl (pv 0)) ew_int rfl rfl (by intro _ _; rfl)) hp) (fun e => nomatch e)
    | _ => cases hp
  | ending =>
    refine bw_cons (N := [some (rD K (QD.t ⟨.ending, n, v, u⟩)), some (rD K c)]) (sw_if (d := false) (tw_eq (tw_kind .plain hr.units (ew_name 0 rfl (pv 0)) ew_int ew_str pi) rfl) (fun e => nomatch e) fun _ => bw_nil) ?_
    refine bw_cons (N := [some (rD K (QD.t ⟨.ending, n, v, u⟩)), some (rD K c)]) (sw_if (d := false) (tw_eq (tw_kind .size hr.units (ew_name 0 rfl (pv 0)) ew_int ew_str pi) rfl) (fun e => nomatch e) fun _ => bw_nil) (bw_one (sw_ret ?_))
    cases c with
    | str z => exact ew_if (d := false) (tw_eq (tw_kind .rest hr.units (ew_name 0 rfl (pv 0)) ew_int ew_str pi) rfl) (fun e => nomatch e) fun _ => ew_item_str (m := 0) (ew_name 1 rfl (pv 1)) (ew_negI ew_int) hp.2 (last_at hp.1) (by intro _ _; rfl)
    | _ => cases hp
/-! ### the part of a tuple -/
theorem scMade : FnScope ["_law_part_here", "_law_scale"] ["_law_part_here"] (defScope sMade) := ⟨rfl, rfl, rfl, by decide +kernel, rfl, by decide +kernel, by decide +kernel⟩
theorem ok_made (L : Lx P K mg d e) : FnR P w K mg base CX0 5 e.fMade (spW (α := QD) (fun W z => QOk z) (fun z => [rD K z.t]) (fun z => rPart K d z.part)) := by
  obtain ⟨fd, F⟩ := L.lMade
  obtain ⟨fd', F'⟩ := L.T.pInit
  obtain ⟨_, hb⟩ := kb_pInit F'
  refine fn_w F scMade (F.binds fun _ _ _ _ _ _ us hl => match us, hl with | [_], _ => rfl) (fun _ => rfl) fun cdv A outer s H E W z hr hp => ⟨none, ?_, fun _ e => nomatch e⟩
  obtain ⟨k, n, v, u⟩ := z
  have pi : ∀ {j : Nat} {pp : Pos} {i : Int}, PlainIx (.Constant (.int i) j pp) := fun _ _ => rfl
  refine bw_cons (N := [some (rD K (QD.t ⟨k, n, v, u⟩)), some (rMeas K d (QD.m ⟨k, n, v, u⟩))]) ?_ (bw_one (sw_ret ?_))
  · cases k with
    | plain =>
      exact sw_if (d := true) (tw_eq (tw_kind .plain hr.units (ew_name 0 rfl (pv 0)) ew_int ew_str pi) rfl) (fun _ => bw_one (sw_set 1 (ew_make (fs := fun z => [("_name", rD K (.str z))]) n L.T.mkPlain (ok_mInit L.T (L.T.isi (.plain n)).cl (L.T.nName (.plain n))) (hr.mono (by decide)) rfl L.T.gPlain (aw_cons (ew_ixTD (d := .str n) 1 (ew_name 0 rfl (pv 0)) ew_int rfl rfl pi) aw_nil) hp.1) scMade.nd rfl (.inl rfl))) (fun e => nomatch e)
    | size =>
      refine sw_if (d := false) (tw_eq (tw_kind .plain hr.units (ew_name 0 rfl (pv 0)) ew_int ew_str pi) rfl) (fun e => nomatch e) fun _ => bw_one ?_
      exact sw_if (d := true) (tw_eq (tw_kind .size hr.units (ew_name 0 rfl (pv 0)) ew_int ew_str pi) rfl) (fun _ => bw_one (sw_set 1 (ew_make (fs := fun z => [("_name", rD K (.str z))]) n L.T.mkSize (ok_mInit L.T (L.T.isi (.size n)).cl (L.T.nName (.size n))) (hr.mono (by decide)) rfl L.T.gSize (aw_cons (ew_ixTD (d := .str n) 1 (ew_name 0 rfl (pv 0)) ew_int rfl rfl pi) aw_nil) hp.1) scMade.nd rfl (.inl rfl))) (fun e => nomatch e)
    | rest =>
      refine sw_if (d := false) (tw_eq (tw_kind .plain hr.units (ew_name 0 rfl (pv 0)) ew_int ew_str pi) rfl) (fun e => nomatch e) fun _ => bw_one ?_
      refine sw_if (d := false) (tw_eq (tw_kind .size hr.units (ew_name 0 rfl (pv 0)) ew_int ew_str pi) rfl) (fun e => nomatch e) fun _ => bw_one ?_
      exact sw_if (d := true) (tw_eq (tw_kind .rest hr.units (ew_name 0 rfl (pv 0)) ew_int ew_str pi) rfl) (fun _ => bw_one (sw_set 1 (ew_make (fs := fsRest K) (n, v) L.T.mkRest (ok_rInit L.T) (hr.mono (by decide)) rfl L.T.gRest (aw_cons (ew_ixTD (d := .str n) 1 (ew_name 0 rfl (pv 0)) ew_int rfl rfl pi) (aw_cons (ew_ixTD (d := .int v) 2 (ew_name 0 rfl (pv 0)) ew_int rfl rfl pi) aw_nil)) hp) scMade.nd rfl (.inl rfl))) (fun e => nomatch e)
    | ending =>
      refine sw_if (d := false) (tw_eq (tw_kind .plain hr.units (ew_name 0 rfl (pv 0)) ew_int ew_str pi) rfl) (fun e => nomatch e) fun _ => bw_one ?_
      refine sw_if (d := false) (tw_eq (tw_kind .size hr.units (ew_name 0 rfl (pv 0)) ew_int ew_str pi) rfl) (fun e => nomatch e) fun _ => bw_one ?_
      exact sw_if (d := false) (tw_eq (tw_kind .rest hr.units (ew_name 0 rfl (pv 0)) ew_int ew_str pi) rfl) (fun e => nomatch e) (fun _ => bw_one (sw_set 1 (ew_make (fs := fun z => [("_name", rD K (.str z))]) n L.T.mkEnding (ok_mInit L.T (L.T.isi (.ending n)).cl (L.T.nName (.ending n))) (hr.mono (by decide)) rfl L.T.gEnding (aw_cons (ew_ixTD (d := .str n) 1 (ew_name 0 rfl (pv 0)) ew_int rfl rfl pi) aw_nil) hp.1) scMade.nd rfl (.inl rfl)))
  · show Ew _ W _ _ (rIns d.cPart (fsPart K d (QD.part ⟨k, n, v, u⟩)))
    refine ew_if (tw_val (ew_ixTD (d := .bool u) 3 (ew_name 0 rfl (pv 0)) ew_int rfl rfl pi) (by intro _; rfl)) (fun h => ?_) fun h => ?_
    · subst h
      exact ew_makeK (fs := fsPart K d) (rl := [rMeas K d (QD.m ⟨k, n, v, true⟩)]) (rk := [rD K (.bool true)]) (QD.part ⟨k, n, v, true⟩) L.T.mkPart (ok_pInitD L.T F') (hr.mono (by decide)) rfl L.T.gPart hb (fun _ _ _ _ _ => rfl) (aw_cons (ew_name 1 rfl (pv 1)) aw_nil) (kw_cons ew_bl kw_nil) trivial rfl rfl rfl
    · subst h
      exact ew_make (fs := fun m => fsPart K d ⟨m, false⟩) (QD.m ⟨k, n, v, false⟩) L.T.mkPart (ok_pInit L.T) (hr.mono (by decide)) rfl L.T.gPart (aw_cons (ew_name 1 rfl (pv 1)) aw_nil) trivial
theorem scLPlain : FnScope ["_law_part_here"] ["_law_part_here"] (defScope sLPlain) := ⟨rfl, rfl, rfl, by decide +kernel, rfl, by decide +kernel, by decide +kernel⟩
theorem ok_lplain (L : Lx P K mg d e) : FnR P w K mg base CX0 1 e.fLPlain (spW (α := QD) (fun W z => True) (fun z => [rD K z.t]) (fun z => rD K z.pl.t)) := by
  obtain ⟨fd, F⟩ := L.lLPlain
  refine fn_w F scLPlain (F.binds fun _ _ _ _ _ _ us hl => match us, hl with | [_], _ => rfl) (fun _ => rfl) fun cdv A outer s H E W z hr hp => ⟨none, bw_one (sw_ret ?_), fun _ e => nomatch e⟩
  obtain ⟨k, n, v, u⟩ := z
  have pi : ∀ {j : Nat} {pp : Pos} {i : Int}, PlainIx (.Constant (.int i) j pp) := fun _ _ => rfl
  cases k with
  | rest => exact ew_if (d := true) (tw_eq (tw_kind .rest hr.units (ew_name 0 rfl (pv 0)) ew_int ew_str pi) rfl) (fun _ => ew_name 0 rfl (pv 0)) (fun e => nomatch e)
  | plain => exact ew_if (d := false) (tw_eq (tw_kind .rest hr.units (ew_name 0 rfl (pv 0)) ew_int ew_str pi) rfl) (fun e => nomatch e) (fun _ => ew_tupD (ds := [.str "plain", .str n, .int 0, .bool u]) (aw_cons (ew_ixTD 0 (ew_name 0 rfl (pv 0)) ew_int rfl rfl pi) (aw_cons (ew_ixTD 1 (ew_name 0 rfl (pv 0)) ew_int rfl rfl pi) (aw_cons ew_int (aw_cons (ew_ixTD 3 (ew_name 0 rfl (pv 0)) ew_int rfl rfl pi) aw_nil)))) (by simp))
  | size => exact ew_if (d := false) (tw_eq (tw_kind .rest hr.units (ew_name 0 rfl (pv 0)) ew_int ew_str pi) rfl) (fun e => nomatch e) (fun _ => ew_tupD (ds := [.str "size", .str n, .int 0, .bool u]) (aw_cons (ew_ixTD 0 (ew_name 0 rfl (pv 0)) ew_int rfl rfl pi) (aw_cons (ew_ixTD 1 (ew_name 0 rfl (pv 0)) ew_int rfl rfl pi) (aw_cons ew_int (aw_cons (ew_ixTD 3 (ew_name 0 rfl (pv 0)) ew_int rfl rfl pi) aw_nil)))) (by simp))
  | ending => exact ew_if (d := false) (tw_eq (tw_kind .rest hr.units (ew_name 0 rfl (pv 0)) ew_int ew_str pi) rfl) (fun e => nomatch e) (fun _ => ew_tupD (ds := [.str "ending", .str n, .int 0, .bool u]) (aw_cons (ew_ixTD 0 (ew_name 0 rfl (pv 0)) ew_int rfl rfl pi) (aw_cons (ew_ixTD 1 (ew_name 0 rfl (pv 0)) ew_int rfl rfl pi) (aw_cons ew_int (aw_cons (ew_ixTD 3 (ew_name 0 rfl (pv 0)) ew_int rfl rfl pi) aw_nil)))) (by simp))
end
end K31
namespace K31
open PySem L2 Py
def cols : List (L2.Key × V) := [(.inr "year", .str "numbers"), (.inr "title", .str "words"), (.inr "b", .str "numbers")]
def names : List Str := ["year", "title", "b"]
def QCol (q : QD) : Prop := (q.name = "title" ∧ q.k ≠ .rest) ∨ ((q.name = "year" ∨ q.name = "b") ∧ q.k ≠ .ending)
theorem good_names : ∀ z ∈ names, Good z := by
  intro z hz
  simp only [names, List.mem_cons, List.not_mem_nil, or_false] at hz
  rcases hz with rfl | rfl | rfl <;> exact good_of (by decide +kernel)
abbrev QAll (q : QD) : Prop := QOk q ∧ QCol q
/-- some part's tuple -/
abbrev rQ (K : PySem.W.Frag) : Rep := rEx (α := {q : QD // QAll q}) fun q => rD K q.1.t
section
variable {P : Program} {w : PySem.World} {K : PySem.W.Frag} {mg : Str → Option Value} {base : Heap} {d : Ad} {e : Ld}
theorem scLPart : FnScope ["_law_state", "_law_columns", "_law_name", "_law_words"] ["_law_state", "_law_columns"] (defScope sLPart) := ⟨rfl, rfl, rfl, by decide +kernel, rfl, by decide +kernel, by decide +kernel⟩
def kR (K : PySem.W.Frag) (ks : List Kd) : List Rep := ks.map fun k => rD K (.str k.s)
theorem kR_len {K : PySem.W.Frag} {ks : List Kd} : (kR K ks).length = ks.length := List.length_map _
theorem kR_get {K : PySem.W.Frag} {ks : List Kd} {v : V} {H : Hp} (i : Fin (kR K ks).length) (h : ((kR K ks)[i]).p v H) : ∃ k ∈ ks, (rD K (.str k.s)).p v H := by
  have hm : (kR K ks)[i] ∈ kR K ks := List.getElem_mem _
  obtain ⟨k, hk, e⟩ := List.mem_map.mp hm
  exact ⟨k, hk, by rw [e]; exact h⟩
def kdsN : List Kd := [.plain, .size, .rest]
def kdsW : List Kd := [.plain, .size, .ending]
theorem ok_lpart (L : Lx P K mg d e) : FnR P w K mg base CX0 5 e.fLPart (spW (α := DZ) (fun W z => Draws K W z.p z.l z.zs) (fun z => [rRef z.p, rDict cols]) (fun z => rQ K)) := by
  obtain ⟨fd, F⟩ := L.lLPart
  obtain ⟨fd1, F1⟩ := L.lNext
  obtain ⟨fd2, F2⟩ := L.lPick
  refine fn_w F scLPart (F.binds fun _ _ _ _ _ _ us hl => match us, hl with | [_, _], _ => rfl) (fun _ => rfl) fun cdv A outer s H E W z hr hp => ⟨none, ?_, fun _ e => nomatch e⟩
  refine bw_cons (N := [some (rRef z.p), some (rDict cols), some (rEx (α := Fin 3) fun i => rD K (.str names[i])), none]) (sw_set 2 (ew_sub (ew_call (z, (names.map PyData.str).map (rD K)) (ok_pick L) hr F2.kp rfl L.gPick (aw_cons (ew_name 0 rfl (pv 0)) (aw_cons (ew_sub (ew_listDict (ds := names.map .str) rfl rfl L.T.bList (ew_name 1 rfl (pv 1)) (fun H => ⟨Dp.str _, Dp.str _, Dp.str _, trivial⟩)) fun _ _ p => rD_lst.mp p) aw_nil)) ⟨hp, by simp [names]⟩) fun v H ⟨i, h⟩ => ?_) scLPart.nd rfl (.inl rfl)) ?_
  · have h' : (((names.map PyData.str).map (rD K))[i.1]'(i.2)).p v H := h
    rw [List.getElem_map, List.getElem_map] at h'
    exact ⟨⟨i.1, by simpa [names] using i.2⟩, h'⟩
  refine bw_ex 2 rfl fun i => ?_
  have key : ∀ (n : Str) (b : Bool) (ks : List Kd), Good n → SeqAt.shaped (.str n) = true → valV cols (Sum.inr n) = some (.str (kindS b)) → ks = (if b then kdsW else kdsN) → (∀ k ∈ ks, ∀ v u, QCol ⟨k, n, v, u⟩) → ks.length = 3 →
      Bw (cxOf CX0 P w K mg base ["_law_state", "_law_columns", "_law_name", "_law_words"] "_law_part" (defScope sLPart) e.fLPart cdv A outer s H E).nox W [some (rRef z.p), some (rDict cols), some (rD K (.str n)), none] ((defBody sLPart).drop 1) ⟨rQ K, none, none, none⟩ := by
    intro n b ks gn sn hv hks hc hl
    refine bw_cons (N := [some (rRef z.p), some (rDict cols), some (rD K (.str n)), some (rLst (kR K kdsN))]) (sw_set 3 (ew_lst (aw_cons ew_str (aw_cons ew_str (aw_cons ew_str aw_nil))) (by rw [kR_len]; decide)) scLPart.nd rfl (.inl rfl)) ?_
    refine bw_cons (N := [some (rRef z.p), some (rDict cols), some (rD K (.str n)), some (rLst (kR K ks))]) (sw_if (d := b) (tw_eq (tw_eqD hr.units (ew_dget (d := .str (kindS b)) (hu_of hr) (ew_name 1 rfl (pv 1)) (ew_name 2 rfl (pv 2)) hv (fun _ => Dp.str _) (by intro _ _; rfl)) ew_str (by cases b <;> exact strOk_lit (by decide +kernel)) (strOk_lit (by decide +kernel))) (by rw [eqv_str, beq_str]; cases b <;> decide +kernel)) (fun h => ?_) fun h => ?_) ?_
    · subst h
      subst hks
      exact bw_one (sw_set 3 (ew_lst (aw_cons ew_str (aw_cons ew_str (aw_cons ew_str aw_nil))) (by rw [kR_len]; decide)) scLPart.nd rfl (.inl rfl))
    · subst h
      subst hks
      exact bw_nil
    refine bw_one (sw_ret (ew_sub (ew_tup (rl := [rEx (α := Fin (kR K ks).length) (fun i => (kR K ks)[i]), rD K (.str n), rEx (α := {i : Int // 2 ≤ i ∧ i ≤ 9}) (fun i => rD K (.int i.1)), rEx (α := Bool) (fun u => rD K (.bool u))])
      (aw_cons (ew_call (z, kR K ks) (ok_pick L) hr F2.kp rfl L.gPick (aw_cons (ew_name 0 rfl (pv 0)) (aw_cons (ew_sub (ew_name 3 rfl (pv 3)) fun _ _ => lst_seq) aw_nil)) ⟨hp, by rw [kR_len, hl]; decide⟩)
      (aw_cons (ew_name 2 rfl (pv 2)) (aw_cons (ew_op op_add ew_int (ew_call (z, 8) (ok_next L) (hr.mono (by decide)) F1.kp rfl L.gNext (aw_cons (ew_name 0 rfl (pv 0)) (aw_cons ew_int aw_nil)) ⟨hp, show (0 : Int) < 8 by decide⟩) (R2w.exr fun i => R2w.in (α := {i : Int // 2 ≤ i ∧ i ≤ 9}) ⟨2 + i.1, by have := i.2; omega⟩ (r2_IK fun _ => Dp.int _)))
      (aw_cons (ew_cmp (op_eqD hr.units) (ew_call (z, 2) (ok_next L) (hr.mono (by decide)) F1.kp rfl L.gNext (aw_cons (ew_name 0 rfl (pv 0)) (aw_cons ew_int aw_nil)) ⟨hp, show (0 : Int) < 2 by decide⟩) ew_int (R2w.exl fun i => R2w.in _ (r2_eqDK (shaped_int _) (shaped_int _))) (nomark _)) aw_nil)))) (by simp)) fun v H h => ?_))
    obtain ⟨a, xs, ev, hs, hrr⟩ := h
    match xs, hrr with
    | [x1, x2, x3, x4], ⟨⟨i, h1⟩, h2, ⟨j, h3⟩, ⟨u, h4⟩, _⟩ =>
      obtain ⟨k, hk, h1'⟩ := kR_get i h1
      exact ⟨⟨⟨k, n, j.1, u⟩, ⟨gn, j.2⟩, hc k hk _ _⟩, rD_tup.mpr ⟨a, [x1, x2, x3, x4], ev, hs, h1', h2, h3, h4, trivial⟩⟩
  match i with
  | 0 => exact key "year" false kdsN (good_names _ (by simp [names])) (strOk_lit (by decide +kernel)) rfl rfl (by simp [kdsN, QCol]) rfl
  | 1 => exact key "title" true kdsW (good_names _ (by simp [names])) (strOk_lit (by decide +kernel)) rfl rfl (by simp [kdsW, QCol]) rfl
  | 2 => exact key "b" false kdsN (good_names _ (by simp [names])) (strOk_lit (by decide +kernel)) rfl rfl (by simp [kdsN, QCol]) rfl
end
end K31
namespace K31
open PySem L2 Py
theorem kd_inj {k k' : Kd} : (k.s == k'.s) = decide (k = k') := by cases k <;> cases k' <;> decide +kernel
theorem eqv_t (q q' : QD) : PyData.eqv q.t q'.t = decide (q = q') := by
  obtain ⟨k, n, v, u⟩ := q
  obtain ⟨k', n', v', u'⟩ := q'
  show PyData.eqv (.tuple [.str k.s, .str n, .int v, .bool u]) (.tuple [.str k'.s, .str n', .int v', .bool u']) = _
  rw [PyData.eqv]
  have hk : (k.s = k'.s) = (k = k') := by
    refine propext ⟨fun h => ?_, fun h => by rw [h]⟩
    have z := kd_inj (k := k) (k' := k')
    rw [h] at z
    simpa using z.symm
  simp only [PyData.eqvAll, eqv_str, eqv_int, eqv_bl, beq_str, hk]
  by_cases h1 : k = k' <;> by_cases h2 : n = n' <;> by_cases h3 : v = v' <;> by_cases h4 : u = u' <;> simp [h1, h2, h3, h4]
theorem lay_t {q : QD} (h : Good q.name) : q.t.canLay0 = true ∧ q.t.depth = 1 := by
  obtain ⟨k, n, v, u⟩ := q
  have hk : PyData.strOk k.s = true := by cases k <;> decide +kernel
  have hn : PyData.strOk n = true := h.strOk
  simp [QD.t, PyData.canLay0, PyData.canLayAll0, PyData.depth, PyData.depthAll, hk, hn]
theorem shaped_t {q : QD} (h : Good q.name) : SeqAt.shaped q.t = true := by
  obtain ⟨h1, h2⟩ := lay_t h
  simp [SeqAt.shaped, h1, h2]
theorem lay_ts : ∀ {qs : List QD}, (∀ q ∈ qs, Good q.name) → PyData.canLayAll0 (qs.map QD.t) = true ∧ PyData.depthAll (qs.map QD.t) ≤ 1
  | [], _ => ⟨rfl, Nat.zero_le _⟩
  | q :: qs, h => by
    obtain ⟨h1, h2⟩ := lay_t (h q (List.mem_cons_self ..))
    obtain ⟨h3, h4⟩ := lay_ts (qs := qs) fun q hq => h q (List.mem_cons_of_mem _ hq)
    constructor
    · show (q.t.canLay0 && PyData.canLayAll0 (qs.map QD.t)) = true
      rw [h1, h3] <;> rfl
    · show max q.t.depth (PyData.depthAll (qs.map QD.t)) ≤ 1
      omega
theorem shaped_ts {qs : List QD} (h : ∀ q ∈ qs, Good q.name) : SeqAt.shaped (.list (qs.map QD.t)) = true := by
  obtain ⟨h1, h2⟩ := lay_ts h
  have e1 : PyData.canLay0 (.list (qs.map QD.t)) = true := h1
  have e2 : PyData.depth (.list (qs.map QD.t)) ≤ 64 := by show PyData.depthAll (qs.map QD.t) + 1 ≤ 64; omega
  simp [SeqAt.shaped, e1, e2]
theorem eqv_nil (qs : List QD) : PyData.eqv (.list (qs.map QD.t)) (.list []) = decide (qs = []) := by
  cases qs with
  | nil => decide +kernel
  | cons q qs =>
    show PyData.eqv (.list (q.t :: qs.map QD.t)) (.list []) = _
    rw [PyData.eqv, PyData.eqvAll]
    simp
theorem eqv_ts : ∀ (qs ps : List QD), PyData.eqvAll (qs.map QD.t) (ps.map QD.t) = decide (qs = ps)
  | [], [] => by simp [PyData.eqvAll]
  | [], _ :: _ => by simp [PyData.eqvAll]
  | _ :: _, [] => by simp [PyData.eqvAll]
  | q :: qs, p :: ps => by
    show PyData.eqvAll (q.t :: qs.map QD.t) (p.t :: ps.map QD.t) = _
    rw [PyData.eqvAll, eqv_t, eqv_ts qs ps]
    by_cases h1 : q = p <;> by_cases h2 : qs = ps <;> simp [h1, h2]
theorem part_pl (q : QD) : q.pl.part = q.part := by
  obtain ⟨k, n, v, u⟩ := q
  cases k <;> rfl
theorem pl_part {q q' : QD} : q.pl = q'.pl ↔ q.part = q'.part := by
  constructor
  · intro h
    rw [← part_pl q, ← part_pl q', h]
  · intro h
    obtain ⟨k, n, v, u⟩ := q
    obtain ⟨k', n', v', u'⟩ := q'
    cases k <;> cases k' <;> simp_all [QD.part, QD.m, QD.pl]
section
variable {P : Program} {w : PySem.World} {K : PySem.W.Frag} {mg : Str → Option Value} {base : Heap} {d : Ad} {e : Ld}
theorem scLKey : FnScope ["_law_parts", "_law_found", "_law_part_here"] ["_law_parts"] (defScope sLKey) := ⟨rfl, rfl, rfl, by decide +kernel, rfl, by decide +kernel, by decide +kernel⟩
abbrev parts (qs : List QD) : List PartD := qs.map QD.part
theorem getD_t {qs : List QD} {i : Nat} (hi : i < qs.length) : ((qs.map QD.t).map (rD K)).getD i rNon = rD K (qs[i]).t := by
  rw [List.map_map]
  exact getD_map (f := fun q => rD K (QD.t q)) hi
theorem ok_lkey (L : Lx P K mg d e) : FnR P w K mg base CX0 6 e.fLKey (spW (α := List QD) (fun W z => z.length ≤ 6 ∧ ∀ q ∈ z, QOk q) (fun z => [rD K (.list (z.map QD.t))]) (fun z => rKey K d (parts z))) := by
  obtain ⟨fd, F⟩ := L.lLKey
  obtain ⟨fd1, F1⟩ := L.lMade
  refine fn_w F scLKey (F.binds fun _ _ _ _ _ _ us hl => match us, hl with | [_], _ => rfl) (fun _ => rfl) fun cdv A outer s H E W z hr hp => ⟨none, ?_, fun _ e => nomatch e⟩
  refine bw_cons (N := [some (rD K (.list (z.map QD.t))), some (rKey K d []), none]) (sw_set (r := rKey K d []) 1 (ew_make0 (fs := fsKey K d) ([] : List PartD) L.T.mkKey (ok_kInit L.T) (hr.mono (by decide)) rfl L.T.gKey rfl (by simp)) scLKey.nd rfl (.inl rfl)) ?_
  refine bw_cons (N := [some (rD K (.list (z.map QD.t))), some (rKey K d (parts z)), none]) (sw_for (fun i => [some (rD K (.list (z.map QD.t))), some (rKey K d (parts (z.take i))), none]) (fun i => [some (rD K (.list (z.map QD.t))), some (rKey K d (parts (z.take i))), some (((z.map QD.t).map (rD K)).getD i rNon)]) rfl ?_ (iw_lstD (ew_name 0 rfl (pv 0))) (fun i hi => gw_name 2 (pg_name scLKey.nd rfl (.inl rfl))) (fun i hi => ?_) .never rfl) (bw_one (sw_ret (ew_name 1 rfl (pv 1))))
  · rw [List.length_map, List.take_length] <;> rfl
  · have hi' : i < z.length := by simpa using hi
    rw [getD_t hi']
    refine bw_cons (N := [some (rD K (.list (z.map QD.t))), some (rKey K d (parts (z.take (i + 1)))), some (rD K (z[i]).t)]) ?_ (bw_wipe 2 (bw_nilN rfl))
    have e1 : parts (z.take (i + 1)) = parts (z.take i) ++ [(z[i]).part] := by
      rw [List.take_succ_eq_append_getElem hi']
      exact List.map_append
    rw [e1]
    have hq := hp.2 _ (List.getElem_mem hi')
    refine sw_set (r := rKey K d (parts (z.take i) ++ [(z[i]).part])) 1 (ew_binOwn .Add (ew_name 1 rfl (pv 1)) (rb := rKey K d [(z[i]).part]) ?_ (hasM (m := "__add__") (rl := [rKey K d [(z[i]).part]]) (parts (z.take i), [(z[i]).part]) L.T.isiK.cl L.T.mKAdd (ok_kAdd L.T) (hr.mono (by decide)) ?_ rfl rfl rfl) insOf insOf L.T.sfK) scLKey.nd rfl (.inl rfl)
    · exact ew_make (fs := fsKey K d) [(z[i]).part] L.T.mkKey (ok_kInit L.T) (hr.mono (by decide)) rfl L.T.gKey (aw_cons (ew_call (z[i]) (ok_made L) hr F1.kp rfl L.gMade (aw_cons (ew_name 2 rfl (pv 2)) aw_nil) hq) aw_nil) (by simp)
    · have := hp.1
      simp [parts]
      omega
/-! ### a key, checked -/
theorem units65 {k : Nat} {A : Around} (r : Room k A) : A.units + 65 < cLine := by have := r.un; omega
def flipQ (q : QD) : QD := { q with dn := !q.dn }
theorem iw_ts {X : Cx} {W : Py.World} {rs : Rs} {tg it : Expr} {qs : List QD} (h : Ew X W rs it (rD X.K (.list (qs.map QD.t)))) : Iw X W rs tg it qs.length (fun i => ((qs.map QD.t).map (rD X.K)).getD i rNon) := by
  have z := iw_lstD (tg := tg) h
  rw [List.length_map] at z
  exact z
theorem qgood {q : QD} (h : Good q.name) : PGood q.part := by
  cases hk : q.k <;> (unfold PGood QD.part QD.m Meas.name; rw [hk]; exact h)
theorem any_pl (qs : List QD) (q : QD) : ((qs.map QD.pl).map QD.t).any (fun z => PyData.eqv z q.pl.t) = decide (q.part ∈ parts qs) := by
  rw [List.any_map]
  by_cases h : q.part ∈ parts qs
  · rw [decide_eq_true h, List.any_eq_true]
    obtain ⟨p, hp, e⟩ := List.mem_map.mp h
    exact ⟨p.pl, List.mem_map_of_mem hp, by show PyData.eqv p.pl.t q.pl.t = true; rw [eqv_t]; exact decide_eq_true (pl_part.mpr e)⟩
  · rw [decide_eq_false h, List.any_eq_false]
    intro x hx
    obtain ⟨p, hp, rfl⟩ := List.mem_map.mp hx
    show ¬ PyData.eqv p.pl.t q.pl.t = true
    rw [eqv_t]
    simp only [decide_eq_true_eq]
    exact fun e => h (List.mem_map.mpr ⟨p, hp, pl_part.mp e⟩)
theorem pl_name (q : QD) : q.pl.name = q.name := by
  obtain ⟨k, n, v, u⟩ := q
  cases k <;> rfl
theorem scStands : FnScope ["_law_whole", "_law_parts", "_law_part_here", "_law_at", "_law_other", "_law_one"] ["_law_whole", "_law_parts"] (defScope sStands) := ⟨rfl, rfl, rfl, by decide +kernel, rfl, by decide +kernel, by decide +kernel⟩
theorem ok_stands (L : Lx P K mg d e) : FnR P w K mg base CX0 8 e.fStands (spW (α := List QD) (fun W z => z.length ≤ 6 ∧ ∀ q ∈ z, QOk q) (fun z => [rKey K d (parts z), rD K (.list (z.map QD.t))]) (fun z => rD K (.bool true))) := by
  obtain ⟨fd, F⟩ := L.lStands
  obtain ⟨fd1, F1⟩ := L.lMade
  obtain ⟨fd2, F2⟩ := L.lLPlain
  obtain ⟨fd3, F3⟩ := L.lLKey
  obtain ⟨qp, hqp⟩ := L.T.qKp
  refine fn_w F scStands (F.binds fun _ _ _ _ _ _ us hl => match us, hl with | [_, _], _ => rfl) (fun _ => rfl) fun cdv A outer s H E W z hr hp => ⟨none, ?_, fun _ e => nomatch e⟩
  obtain ⟨h6, hok⟩ := hp
  have hg : ∀ q ∈ z, Good q.name := fun q hq => (hok q hq).1
  have hlen : (parts z).length = z.length := List.length_map _
  have hlt : (z.map QD.t).length = z.length := List.length_map _
  have kg : KGood (parts z) := ⟨by rw [hlen]; exact h6, fun p hp => by obtain ⟨q, hq, rfl⟩ := List.mem_map.mp hp; cases hk : q.k <;> (unfold PGood QD.part QD.m Meas.name; rw [hk]; exact hg q hq)⟩
  refine bw_cons (N := [some (rKey K d (parts z)), some (rD K (.list (z.map QD.t))), none, none, none, none]) (sw_if (d := false) (tw_eq (tw_neD hr.units (ew_lenOwn (m := (parts z).length) (by omega) rfl L.T.bLen (ew_name 0 rfl (pv 0)) (hasM (m := "__len__") (parts z) L.T.isiK.cl L.T.mKLen (ok_kLen L.T) (hr.mono (by decide)) trivial rfl rfl rfl)) (ew_lenD rfl L.T.bLen (ew_name 1 rfl (pv 1))) (shaped_int _) (shaped_int _)) (by rw [eqv_int, hlen, hlt]; simp)) (fun e => nomatch e) fun _ => bw_nil) ?_
  refine bw_cons (N := [some (rKey K d (parts z)), some (rD K (.list (z.map QD.t))), none, none, none, none]) (sw_if (d := false) (tw_eq (tw_neD hr.units (ew_boolOwn (m := (parts z).length) (parts z) (by omega) rfl L.T.bBool (ew_name 0 rfl (pv 0)) L.T.nbK L.T.mKLen (ok_kLen L.T) (hr.mono (by decide)) trivial rfl rfl) (ew_neD hr.units (ew_name 1 rfl (pv 1)) (ew_lstD (ds := []) aw_nil (by decide)) (shaped_ts hg) (by decide +kernel)) (shaped_bl _) (shaped_bl _)) (by rw [eqv_nil, eqv_bl, hlen]; cases z <;> simp)) (fun e => nomatch e) fun _ => bw_nil) ?_
  refine bw_cons (N := [some (rKey K d (parts z)), some (rD K (.list (z.map QD.t))), none, none, none, none]) (sw_if (d := false) ?_ (fun e => nomatch e) fun _ => bw_nil) ?_
  · have hrc := rcW_lstN (X := (cxOf CX0 P w K mg base ["_law_whole", "_law_parts", "_law_part_here", "_law_at", "_law_other", "_law_one"] "_law_stands" (defScope sStands) e.fStands cdv A outer s H E).nox) (W := W) (eqw_parts L.T kg.2 kg.2)
    rw [List.length_map, lists_eqL] at hrc
    refine tw_eq (tw_rc (fun _ _ => rfl) hrc (hr.mono (by decide)) (ew_prop (ew_name 0 rfl (pv 0)) (hasP (parts z) L.T.isiK.cl hqp (ok_kParts L.T) (hr.mono (by decide)) trivial rfl rfl) rfl) ?_ rfl) (by simp)
    rw [List.map_map, ← range_map _ (fun i => rPart K d (QD.part (z.getD i ⟨.plain, "", 0, false⟩))) z (fun i hi => by rw [List.getD_eq_getElem?_getD, List.getElem?_eq_getElem hi]; rfl)]
    refine ew_lcAll 2 (y := "_law_part_here") _ rfl scStands.nd (n := z.length) (item := fun i => ((z.map QD.t).map (rD K)).getD i rNon) (iw_ts (ew_name 1 rfl (pv 1))) (blkOk_by (N := ["_law_whole", "_law_parts", "_law_part_here", "_law_at", "_law_other", "_law_one"]) (sc := defScope sStands) (by decide +kernel)) (by omega) (fun _ _ _ _ _ => pg_name scStands.nd rfl (.inl rfl)) ?_
    intro s' H' C cl fp D o i hi
    rw [getD_t hi, List.getD_eq_getElem?_getD, List.getElem?_eq_getElem hi]
    exact ew_call (α := QD) (res := fun z : QD => rPart K d z.part) (z[i]) (ok_made L) (hr.mono (by decide)) F1.kp rfl L.gMade (aw_cons (ew_name 2 rfl (pv 2)) aw_nil) (hok _ (List.getElem_mem hi))
  refine bw_cons (N := [some (rKey K d (parts z)), some (rD K (.list (z.map QD.t))), none, none, none, none]) (sw_for (fun i => [some (rKey K d (parts z)), some (rD K (.list (z.map QD.t))), none, none, none, none]) (fun i => [some (rKey K d (parts z)), some (rD K (.list (z.map QD.t))), some (((z.map QD.t).map (rD K)).getD i rNon), some (rD K (.int i)), none, none]) rfl rfl (iw_enum rfl L.bEnum (ew_sub (ew_name 1 rfl (pv 1)) fun _ _ p => rD_lst.mp p)) (fun i hi => gw_tup rfl (gws_cons (gw_name 3 (pg_name scStands.nd rfl (.inl rfl))) (gws_cons (gw_name 2 (pg_name scStands.nd rfl (.inl rfl))) gws_nil))) (fun i hi => ?_) .never rfl) (bw_one (sw_ret ?_))
  · have hi' : i < z.length := by simpa using hi
    rw [getD_t hi']
    have hq := hok _ (List.getElem_mem hi')
    have hpi : (parts z)[i]? = some (z[i]).part := by rw [List.getElem?_map, List.getElem?_eq_getElem hi']; rfl
    refine bw_cons (N := [some (rKey K d (parts z)), some (rD K (.list (z.map QD.t))), some (rD K (z[i]).t), some (rD K (.int i)), none, none]) (sw_if (d := false) (tw_eq (tw_l (lw_or (c := false) (d := false) (tw_eq (tw_not (tw_rc (fun _ _ => rfl) (rc_part L.T (qgood hq.1) (qgood hq.1)) (hr.mono (by decide)) (ew_ixOwn (parts z, i, (z[i]).part) (ew_name 0 rfl (pv 0)) (ew_name 3 rfl (pv 3)) L.T.mKGet L.T.fnKGet (ok_kGet L.T) (hr.mono (by decide)) hpi rfl (by intro _ _; rfl)) (ew_call (z[i]) (ok_made L) (hr.mono (by decide)) F1.kp rfl L.gMade (aw_cons (ew_name 2 rfl (pv 2)) aw_nil) hq) rfl)) (by simp)) fun _ => lw_one (tw_eq (tw_notInOwn (ew_call (z[i]) (ok_made L) (hr.mono (by decide)) F1.kp rfl L.gMade (aw_cons (ew_name 2 rfl (pv 2)) aw_nil) hq) (ew_name 0 rfl (pv 0)) (hasM (m := "__contains__") (parts z, (z[i]).part) L.T.isiK.cl L.T.mKCont (ok_kCont L.T) hr ⟨kg, qgood hq.1⟩ rfl rfl rfl) rfl) (by rw [decide_eq_true (List.mem_of_getElem? hpi)]; rfl)))) rfl) (fun e => nomatch e) fun _ => bw_nil) ?_
    refine bw_cons (N := [some (rKey K d (parts z)), some (rD K (.list (z.map QD.t))), some (rD K (z[i]).t), some (rD K (.int i)), some (rD K (flipQ z[i]).t), none]) (sw_set (r := rD K (flipQ z[i]).t) 4 (ew_catTD (ds := [.str (z[i]).k.s, .str (z[i]).name, .int (z[i]).div]) (ds' := [.bool (!(z[i]).dn)]) (ew_takeTD (ds := [.str (z[i]).k.s, .str (z[i]).name, .int (z[i]).div, .bool (z[i]).dn]) (m := 3) (ew_name 2 rfl (pv 2)) ew_int (by simp)) (ew_tupD (aw_cons (ew_not (ew_ixTD 3 (ew_name 2 rfl (pv 2)) ew_int rfl rfl (by intro _ _; rfl))) aw_nil) (by simp)) (by simp)) scStands.nd rfl (.inl rfl)) ?_
    have hqf : QOk (flipQ z[i]) := hq
    refine bw_cons (N := [some (rKey K d (parts z)), some (rD K (.list (z.map QD.t))), some (rD K (z[i]).t), some (rD K (.int i)), some (rD K (flipQ z[i]).t), none]) (sw_if (d := false) (tw_eq (tw_neD (d := .bool (decide ((flipQ z[i]).part ∈ parts z))) (d' := .bool (((z.map QD.pl).map QD.t).any (fun x => PyData.eqv x (flipQ z[i]).pl.t))) hr.units
      (ew_inOwn (ew_call (flipQ z[i]) (ok_made L) (hr.mono (by decide)) F1.kp rfl L.gMade (aw_cons (ew_name 4 rfl (pv 4)) aw_nil) hqf) (ew_name 0 rfl (pv 0)) (hasM (m := "__contains__") (parts z, (flipQ z[i]).part) L.T.isiK.cl L.T.mKCont (ok_kCont L.T) hr ⟨kg, qgood hqf.1⟩ rfl rfl rfl) rfl)
      (ew_cmp (op_inD (units65 hr)) (ew_call (flipQ z[i]) (ok_lplain L) (hr.mono (by decide)) F2.kp rfl L.gLPlain (aw_cons (ew_name 4 rfl (pv 4)) aw_nil) trivial) (ew_sub ?_ fun _ _ p => rD_lst.mpr (lst_seq p)) (r2_inDK (shaped_t (by rw [pl_name]; exact hqf.1)) (shaped_ts (qs := z.map QD.pl) fun q hq => by obtain ⟨q', h1, rfl⟩ := List.mem_map.mp hq; rw [pl_name]; exact hg q' h1)) rfl) (shaped_bl _) (shaped_bl _)) (by rw [eqv_bl, any_pl]; simp)) (fun e => nomatch e) fun _ => bw_nil) (bw_wipe 2 (bw_wipe 3 (bw_wipe 4 (bw_nilN rfl))))
    rw [List.map_map, List.map_map, ← range_map _ (fun i => rD K (QD.t (QD.pl (z.getD i ⟨.plain, "", 0, false⟩)))) z (fun i hi => by rw [List.getD_eq_getElem?_getD, List.getElem?_eq_getElem hi]; rfl)]
    refine ew_lcAll 5 (y := "_law_one") _ rfl scStands.nd (n := z.length) (item := fun i => ((z.map QD.t).map (rD K)).getD i rNon) (iw_ts (ew_name 1 rfl (pv 1))) (blkOk_by (N := ["_law_whole", "_law_parts", "_law_part_here", "_law_at", "_law_other", "_law_one"]) (sc := defScope sStands) (by decide +kernel)) (by omega) (fun _ _ _ _ _ => pg_name scStands.nd rfl (.inl rfl)) ?_
    intro s' H' C cl fp D o i hi
    rw [getD_t hi, List.getD_eq_getElem?_getD, List.getElem?_eq_getElem hi]
    exact ew_call (α := QD) (res := fun z : QD => rD K z.pl.t) (z[i]) (ok_lplain L) (hr.mono (by decide)) F2.kp rfl L.gLPlain (aw_cons (ew_name 5 rfl (pv 5)) aw_nil) trivial
  · show Ew _ W _ _ (rD K (.bool true))
    have e1 : true = decide (parts z = parts z) := by simp
    rw [e1]
    exact ew_rc (fun _ _ => rfl) (rc_key L.T kg kg) hr (ew_name 0 rfl (pv 0)) (ew_call (α := List QD) (res := fun z : List QD => rKey K d (parts z)) z (ok_lkey L) (hr.mono (by decide)) F3.kp rfl L.gLKey (aw_cons (ew_name 1 rfl (pv 1)) aw_nil) ⟨h6, hok⟩) rfl
end
end K31
namespace K31
open PySem L2 Py
/-- no value at all -/
def rNev : Rep := ⟨fun _ _ => False, fun _ h => h⟩
section
variable {P : Program} {w : PySem.World} {K : PySem.W.Frag} {mg : Str → Option Value} {base : Heap} {d : Ad} {e : Ld}
theorem ok_kInitX (T : Tx P K mg d) : FnR P w K mg base (L2.CX P w) 1 d.fKInit (spIR d.cKey d.cBadKey (fun z : List PartD => 6 < z.length ∧ z.length ≤ 1000) (fun z => z.map (rPart K d))) := by
  obtain ⟨fd, F⟩ := T.kInit
  refine fn_isR F scKInit (fun z h => by rw [List.length_map]; omega) (fun k1 k2 k3 k4 k5 k6 => StX.bind_star1 (B := fun vs => bindArgs (PySem.W.fnOf "__init__" "Key.__init__" (defArgs sKInit) (defBody sKInit) (defScope sKInit) .none k1 k2 k3 k4 k5 k6) ⟨vs, []⟩) (p1 := "self") (pv := "parts") (fun _ => rfl) (fun _ _ _ => rfl)) fun cdv A outer s H E W x dx z hr hp => ?_
  refine pss_cs (pss_cons (ps_if (?h1 : PT _ _ (tWT (W.hold x (.ins d.cKey dx [])) [some (rRef x), some (rTup K (z.map (rPart K d))), none] false)) pss_never pss_nil) (pss_cons (ps_if (?h2 : PT _ _ (tWT (W.hold x (.ins d.cKey dx [])) [some (rRef x), some (rTup K (z.map (rPart K d))), none] true)) (pss_one (ps_raise rfl (takes_of rfl rfl rfl rfl) (pmk_own PySem.F.excBase_ValueError T.xBad T.gBad T.kBad (raises_own T.bBad T.tBad) rfl))) pss_never) pss_never)) ?h3
  case h2 => exact tw_eq (tw_gt (ew_lenTup rfl T.bLen (ew_name 1 rfl (pv 1))) (ew_globI rfl T.gMost)) (decide_eq_true (by rw [List.length_map]; omega))
  case h3 =>
    rintro D σ H1 ⟨k, g, q⟩
    exact ⟨k, g, fun H2 k2 e2 => iteF ⟨k2, g.mono e2, fun H3 k3 e3 => iteT (q H3 k3 (e2.trans e3))⟩⟩
  case h1 =>
    refine tw_not (c := true) (tw_val (c := true) ?_ (by intro _; rfl))
    have e : (((List.range z.length).map fun _ => true).all id) = true := by simp
    rw [← e]
    refine ew_all rfl rfl T.bAll ?_
    rw [List.map_map]
    refine ew_lcAll 2 (y := "part") _ rfl scKInit.nd (n := z.length) (item := fun i => (z.map (rPart K d)).getD i rNon) ?_ (blkOk_by (N := ["self", "parts", "part"]) (sc := defScope sKInit) (by decide +kernel)) (by omega) (fun _ _ _ _ _ => pg_name scKInit.nd rfl (.inl rfl)) ?_
    · exact iw_tupM (ew_name 1 rfl (pv 1))
    · intro s' H' C cl fp D o i hi
      rw [getD_map hi]
      exact ew_isi (t := .ref d.cPart) (d := true) rfl T.bIsi (ew_name 2 rfl (pv 2)) (ew_cls rfl T.gPart) (.own d.cPart) (isR_ins T.isiP) T.kP
theorem ok_kAddX (T : Tx P K mg d) : FnR P w K mg base (L2.CX P w) 3 d.fKAdd (spR (α := List PartD × List PartD) d.cBadKey (fun _ z => 6 < (z.1 ++ z.2).length ∧ (z.1 ++ z.2).length ≤ 1000) (fun z => [rKey K d z.1, rKey K d z.2])) := by
  obtain ⟨fd, F⟩ := T.kAdd
  refine fn_r F scKAdd (F.binds fun _ _ _ _ _ _ us hl => match us, hl with | [_, _], _ => rfl) (fun _ => rfl) fun cdv A outer s H E W z hr hp => ?_
  have hr3 : (z.1 ++ z.2).map (rPart K d) = z.1.map (rPart K d) ++ z.2.map (rPart K d) := List.map_append
  refine pss_cs (pss_cons (?h1 : PS _ _ (sW W [some (rKey K d z.1), some (rKey K d z.2), none] ⟨rNev, some [some (rKey K d z.1), some (rKey K d z.2), none], none, none⟩)) (pss_cons (?h2 : PS _ _ (sW W [some (rKey K d z.1), some (rKey K d z.2), none] ⟨rNev, some [some (rKey K d z.1), some (rKey K d z.2), some (rTup K ((z.1 ++ z.2).map (rPart K d)))], none, none⟩)) (pss_one (ps_ret (pe_makeSRT (W := W) (rs := [some (rKey K d z.1), some (rKey K d z.2), some (rTup K ((z.1 ++ z.2).map (rPart K d)))]) (z.1 ++ z.2) T.mkKey (ok_kInitX T) (passes_call (takes_of rfl rfl rfl rfl) fun _ _ _ _ h => h) (hr.mono (by decide)) rfl T.gKey (ew_name 2 rfl (pv 2)) hp))))) ?h3
  case h1 => exact sw_if (d := false) (tw_not (c := true) (tw_val (ew_isi (t := .ref d.cKey) (d := true) rfl T.bIsi (ew_name 1 rfl (pv 1)) (ew_cls rfl T.gKey) (.own d.cKey) (isR_ins T.isiK) T.kK) (by intro _; rfl))) (fun e => nomatch e) fun _ => bw_nilN rfl
  case h2 =>
    rw [hr3]
    have hp' : z.1.length + z.2.length ≤ 1000 := by simpa using hp.2
    exact sw_set (O := ⟨rNev, none, none, none⟩) (r := rTup K (z.1.map (rPart K d) ++ z.2.map (rPart K d))) 2 (ew_catT (ew_fld (ew_name 0 rfl (pv 0)) (f := "_parts") rfl T.isiK.cl T.nKp rfl) (ew_fld (ew_name 1 rfl (pv 1)) (f := "_parts") rfl T.isiK.cl T.nKp rfl) (by rw [List.length_map, List.length_map]; omega)) scKAdd.nd rfl (.inl rfl)
  case h3 =>
    rintro D σ H1 ⟨k, g, q⟩
    refine ⟨k, g, fun v H' _ _ p => p.elim, fun N eN σ2 H2 k2 e2 g2 => ?_, (fun N z => nomatch z), (fun N z => nomatch z)⟩
    cases eN
    refine ⟨k2, g2, fun v H' _ _ p => p.elim, fun N eN σ3 H3 k3 e3 g3 => ?_, (fun N z => nomatch z), (fun N z => nomatch z)⟩
    cases eN
    exact ⟨k3, g3, fun H4 k4 e4 => q H4 k4 ((e2.trans e3).trans e4)⟩
theorem scRefused : FnScope ["_law_one", "_law_other"] ["_law_one", "_law_other"] (defScope sRefused) := ⟨rfl, rfl, rfl, by decide +kernel, rfl, by decide +kernel, by decide +kernel⟩
theorem ok_refused (L : Lx P K mg d e) : FnR P w K mg base CX0 5 e.fRefused (spW (α := List PartD × List PartD) (fun _ z => 6 < (z.1 ++ z.2).length ∧ (z.1 ++ z.2).length ≤ 1000) (fun z => [rKey K d z.1, rKey K d z.2]) (fun z => rD K (.bool true))) := by
  obtain ⟨fd, F⟩ := L.lRefused
  refine fn_w F scRefused (F.binds fun _ _ _ _ _ _ us hl => match us, hl with | [_, _], _ => rfl) (fun _ => rfl) fun cdv A outer s H E W z hr hp => ⟨none, ?_, fun _ e => nomatch e⟩
  refine pss_cs (pss_cons (ps_try_only (c := .ref d.cBadKey) rfl rfl ⟨rfl, by decide, .inl L.T.gBad⟩ takes0 (fun W' pn xe tk _ => pss_one (ps_expr (pe_op (op_ownR .Add (C := d.cKey) (f := d.fKAdd) (k := 3) (E := fun cls dd H => ∀ σ, W' cls dd σ H) (passes_call tk fun _ _ _ _ h => h _) L.T.sfK L.T.mKAdd (ok_kAddX L.T) hr) (ew_name (W := W) (rs := [some (rKey K d z.1), some (rKey K d z.2)]) 0 rfl (pv 0)) (ew_name (W := W) (rs := [some (rKey K d z.1), some (rKey K d z.2)]) 1 rfl (pv 1))) rfl)) (fun a oe cls dd pn _ _ => pss_one (ps_ret (pe_bl)))) pss_never) ?_
  rintro D σ H1 ⟨k, g, q, _⟩
  refine ⟨k, g, fun x H2 k2 e2 p2 => ⟨k2, g.mono e2, fun y H3 k3 e3 p3 => ?_⟩⟩
  obtain ⟨a, dx, fs, ex, hi, fl⟩ := (rKey K d z.1).mono e3 p2
  obtain ⟨b, dy, gs, ey, hj, fl'⟩ := p3
  refine ⟨a, b, dx, dy, fs, gs, ex, ey, W.sub H3 _ _ hi, W.sub H3 _ _ hj, W, z, hp, k3, ⟨⟨a, dx, fs, ex, hi, fl⟩, ⟨b, dy, gs, ey, hj, fl'⟩, trivial⟩, fun H4 k4 e4 σ' => ⟨true, L.T.eBad, fun _ a ha => ?_, fun h => nomatch h⟩⟩
  exact q _ H4 k4 ((e2.trans e3).trans e4) (Dp.bl true)
end
end K31
namespace K31
open PySem L2 Py
/-- a list of parts' tuples, a list's object -/
abbrev rQs (K : PySem.W.Frag) (qs : List QD) : Rep := rLst ((qs.map QD.t).map (rD K))
theorem ew_qs {X : Cx} {W : Py.World} {rs : Rs} {e : Expr} {qs : List QD} (h : Ew X W rs e (rQs X.K qs)) : Ew X W rs e (rD X.K (.list (qs.map QD.t))) := ew_sub h fun _ _ p => rD_lst.mpr (lst_seq p)
section
variable {P : Program} {w : PySem.World} {K : PySem.W.Frag} {mg : Str → Option Value} {base : Heap} {d : Ad} {e : Ld}
abbrev NOne : List Str := ["_law_state", "_law_columns", "_law_one", "_law_other", "_law_left", "_law_right", "_law_part_here", "_law_some", "_law_step", "_law_cell_here", "_law_back", "_law_turn"]
theorem scOneRight : FnScope NOne ["_law_state"] (defScope sOneRight) := ⟨rfl, rfl, rfl, by decide +kernel, rfl, by decide +kernel, by decide +kernel⟩
/-- the drawn parts -/
theorem conv_parts {K : PySem.W.Frag} {n : {i : Int // 0 ≤ i ∧ i < 5} → Nat} (hn : ∀ c, n c ≤ 4) (v : V) (H : Hp) (h : (rEx fun c => rLst ((List.range (n c)).map fun _ => rQ K)).p v H) : ∃ qs : {qs : List QD // qs.length ≤ 4 ∧ ∀ q ∈ qs, QAll q}, (rQs K qs.1).p v H := by
  obtain ⟨c, h⟩ := h
  obtain ⟨qs, e, h⟩ := lst_ex h
  have e2 : (qs.map fun q : {q : QD // QAll q} => rD K q.1.t) = ((qs.map (·.1)).map QD.t).map (rD K) := by rw [List.map_map, List.map_map]; rfl
  rw [e2] at h
  exact ⟨⟨qs.map (·.1), by rw [List.length_map, e]; exact hn c, fun q hq => by obtain ⟨q', _, rfl⟩ := List.mem_map.mp hq; exact q'.2⟩, h⟩
theorem col_of {q : QD} (h : QCol q) : ∃ b, valV cols (Sum.inr q.name) = some (.str (kindS b)) ∧ (b = true → q.k ≠ .rest) ∧ (b = false → q.k ≠ .ending) := by
  rcases h with ⟨h1, h2⟩ | ⟨h1 | h1, h2⟩
  · exact ⟨true, by rw [h1]; rfl, fun _ => h2, fun h => nomatch h⟩
  · exact ⟨false, by rw [h1]; rfl, (fun h => nomatch h), fun _ => h2⟩
  · exact ⟨false, by rw [h1]; rfl, (fun h => nomatch h), fun _ => h2⟩
theorem small8 {n : Nat} (h : n ≤ 8) : n ≤ sizeLine := Nat.le_of_lt (small1000 (by omega))
theorem conv_cell {K : PySem.W.Frag} {q : QD} {b : Bool} (hq : QOk q) (h1 : b = true → q.k ≠ .rest) (h2 : b = false → q.k ≠ .ending) (v : V) (H : Hp) (h : (cellR K b).p v H) : ∃ c : {c : PyData // ofOk q.m c ∧ SeqAt.shaped (ofD q.m c) = true}, (rD K c.1).p v H := by
  obtain ⟨k, n, dv, u⟩ := q
  cases b with
  | true =>
    obtain ⟨⟨z, g⟩, h⟩ := h
    have h0 : k ≠ .rest := h1 rfl
    refine ⟨⟨.str z, ?_⟩, h⟩
    cases k with
    | plain => exact ⟨trivial, shaped_str g⟩
    | size => exact ⟨small8 g.2.1, shaped_int _⟩
    | rest => exact absurd rfl h0
    | ending =>
      refine ⟨⟨g.1, small8 g.2.1⟩, strOk_lit ?_⟩
      have hi : z.length - 1 < z.cps.size := by have := g.1; have e : z.length = z.cps.size := rfl; omega
      have hc : z.cps.getD (z.length - 1) 0 ∈ z.cps.toList := by
        rw [Array.getD_eq_getD_getElem?, Array.getElem?_eq_getElem hi]
        simp
      have : ∀ c ∈ ("abcdefghijklmnopqrstuvwxyz" : Str).cps.toList, c < 0x110000 := by decide +kernel
      have hlt := this _ (g.2.2 _ hc)
      unfold PyData.strOk
      simpa using hlt
  | false =>
    obtain ⟨i, h⟩ := h
    have h0 : k ≠ .ending := h2 rfl
    refine ⟨⟨.int i, ?_⟩, h⟩
    cases k with
    | plain => exact ⟨trivial, shaped_int _⟩
    | size => exact ⟨trivial, shaped_int _⟩
    | rest => exact ⟨by show 0 < dv; have := hq.2.1; change 2 ≤ dv at this; omega, shaped_int _⟩
    | ending => exact absurd rfl h0
theorem noOf (K : PySem.W.Frag) (m : Meas) : (fldsOf K m).lookup ("of" : Str) = none := by cases m <;> rfl
theorem map_pl {xs ys : List QD} : (parts xs = parts ys) ↔ (xs.map QD.pl = ys.map QD.pl) := by
  induction xs generalizing ys with
  | nil => cases ys <;> simp [parts]
  | cons x xs ih =>
    cases ys with
    | nil => simp [parts]
    | cons y ys =>
      have h := ih (ys := ys)
      simp only [parts] at h
      simp [parts, pl_part, h]
theorem parts_flip (qs : List QD) : (parts qs).map negP = parts (qs.map flipQ) := by
  show (qs.map QD.part).map negP = (qs.map flipQ).map QD.part
  rw [List.map_map, List.map_map]
  rfl
theorem neg_neg (ps : List PartD) : (ps.map negP).map negP = ps := by
  rw [List.map_map]
  conv => rhs; rw [← List.map_id ps]
  refine List.map_congr_left fun p _ => ?_
  obtain ⟨m, u⟩ := p
  cases u <;> rfl
theorem kgood {qs : List QD} (h6 : qs.length ≤ 6) (h : ∀ q ∈ qs, Good q.name) : KGood (parts qs) := ⟨by rw [List.length_map]; exact h6, fun p hp => by obtain ⟨q, hq, rfl⟩ := List.mem_map.mp hp; exact qgood (h q hq)⟩
theorem ok_oneRight (L : Lx P K mg d e) : FnR P w K mg base CX0 9 e.fOneRight (spW (α := DZ) (fun W z => Draws K W z.p z.l z.zs) (fun z => [rRef z.p]) (fun z => rD K (.bool true))) := by
  obtain ⟨fd, F⟩ := L.lOneRight
  obtain ⟨fdp, Fp⟩ := L.lLPart
  obtain ⟨fdn, Fn⟩ := L.lNext
  obtain ⟨fdk, Fk⟩ := L.lLKey
  obtain ⟨fds, Fs⟩ := L.lStands
  refine fn_w F scOneRight (F.binds fun _ _ _ _ _ _ us hl => match us, hl with | [_], _ => rfl) (fun _ => rfl) fun cdv A outer s H E W z hr hp => ⟨none, ?_, fun _ e => nomatch e⟩
  -- the columns
  refine bw_cons (N := [some (rRef z.p), some (rDict cols), none, none, none, none, none, none, none, none, none, none]) (sw_set (r := rDict cols) 1 (ew_disp (kvs := cols) (pps_cons pe_str pe_str (pps_cons pe_str pe_str (pps_cons pe_str pe_str pps_nil))) rfl rfl (by simp) (by decide) (fun σ H Q q => q) (by decide)) scOneRight.nd rfl (.inr rfl)) ?_
  -- the parts of one, and of the other
  refine bw_cons (N := [some (rRef z.p), some (rDict cols), some _, none, none, none, none, none, none, none, none, none]) (sw_lcE (x := "_law_turn") (N := fun c : {i : Int // 0 ≤ i ∧ i < 5} => c.1.toNat) (item := fun i => rD K (.int i)) 2 11 4 (fun _ => rQ K) rfl scOneRight.nd (ie_range1 rfl L.bRange (ew_call (z, 5) (ok_next L) (hr.mono (by decide)) Fn.kp rfl L.gNext (aw_cons (ew_name 0 rfl (pv 0)) (aw_cons ew_int aw_nil)) ⟨hp, show (0 : Int) < 5 by decide⟩) (fun c => by have := c.2; omega)) (fun c => by have := c.2; omega) (blkOk_by (N := NOne) (sc := defScope sOneRight) (by decide +kernel)) (by decide) rfl rfl rfl (fun _ _ _ _ _ => pg_name scOneRight.nd rfl (.inl rfl)) ?_) ?_
  · intro s' H' C cl fp D o i hi
    exact ew_call (α := DZ) (res := fun z : DZ => rQ K) z (ok_lpart L) (hr.mono (by decide)) Fp.kp rfl L.gLPart (aw_cons (ew_name 0 rfl (pv 0)) (aw_cons (ew_name 1 rfl (pv 1)) aw_nil)) (hp.hold D o)
  refine bw_open 2 rfl (conv_parts fun c => by have := c.2; omega) fun one => ?_
  refine bw_cons (N := [some (rRef z.p), some (rDict cols), some (rQs K one.1), some _, none, none, none, none, none, none, none, none]) (sw_lcE (x := "_law_turn") (N := fun c : {i : Int // 0 ≤ i ∧ i < 5} => c.1.toNat) (item := fun i => rD K (.int i)) 3 11 4 (fun _ => rQ K) rfl scOneRight.nd (ie_range1 rfl L.bRange (ew_call (z, 5) (ok_next L) (hr.mono (by decide)) Fn.kp rfl L.gNext (aw_cons (ew_name 0 rfl (pv 0)) (aw_cons ew_int aw_nil)) ⟨hp, show (0 : Int) < 5 by decide⟩) (fun c => by have := c.2; omega)) (fun c => by have := c.2; omega) (blkOk_by (N := NOne) (sc := defScope sOneRight) (by decide +kernel)) (by decide) rfl rfl rfl (fun _ _ _ _ _ => pg_name scOneRight.nd rfl (.inl rfl)) ?_) ?_
  · intro s' H' C cl fp D o i hi
    exact ew_call (α := DZ) (res := fun z : DZ => rQ K) z (ok_lpart L) (hr.mono (by decide)) Fp.kp rfl L.gLPart (aw_cons (ew_name 0 rfl (pv 0)) (aw_cons (ew_name 1 rfl (pv 1)) aw_nil)) (hp.hold D o)
  refine bw_open 3 rfl (conv_parts fun c => by have := c.2; omega) fun oth => ?_
  obtain ⟨h1, g1⟩ := one.2
  obtain ⟨h2, g2⟩ := oth.2
  have o1 : ∀ q ∈ one.1, QOk q := fun q hq => (g1 q hq).1
  have o2 : ∀ q ∈ oth.1, QOk q := fun q hq => (g2 q hq).1
  have y1 : ∀ q ∈ one.1, Good q.name := fun q hq => (o1 q hq).1
  have y2 : ∀ q ∈ oth.1, Good q.name := fun q hq => (o2 q hq).1
  have k1 := kgood (by omega) y1
  have k2 := kgood (by omega) y2
  -- the two keys
  refine bw_cons (N := [some (rRef z.p), some (rDict cols), some (rQs K one.1), some (rQs K oth.1), some (rKey K d (parts one.1)), some (rKey K d (parts oth.1)), none, none, none, none, none, none]) (sw_par 4 5 rfl scOneRight.nd rfl rfl (by decide) rfl rfl (aw_cons (ew_call one.1 (ok_lkey L) (hr.mono (by decide)) Fk.kp rfl L.gLKey (aw_cons (ew_qs (ew_name 2 rfl (pv 2))) aw_nil) ⟨by omega, o1⟩) (aw_cons (ew_call oth.1 (ok_lkey L) (hr.mono (by decide)) Fk.kp rfl L.gLKey (aw_cons (ew_qs (ew_name 3 rfl (pv 3))) aw_nil) ⟨by omega, o2⟩) aw_nil)) rfl) ?_
  refine bw_cons (N := [some (rRef z.p), some (rDict cols), some (rQs K one.1), some (rQs K oth.1), some (rKey K d (parts one.1)), some (rKey K d (parts oth.1)), none, none, none, none, none, none]) (sw_if (d := false) (tw_l (lw_or (c := false) (d := false) (tw_not (c := true) (tw_val (ew_call one.1 (ok_stands L) hr Fs.kp rfl L.gStands (aw_cons (ew_name 4 rfl (pv 4)) (aw_cons (ew_qs (ew_name 2 rfl (pv 2))) aw_nil)) ⟨by omega, o1⟩) (by intro _; rfl))) fun _ => lw_one (tw_not (c := true) (tw_val (ew_call oth.1 (ok_stands L) hr Fs.kp rfl L.gStands (aw_cons (ew_name 5 rfl (pv 5)) (aw_cons (ew_qs (ew_name 3 rfl (pv 3))) aw_nil)) ⟨by omega, o2⟩) (by intro _; rfl))))) (fun e => nomatch e) fun _ => bw_nil) ?_
  refine bw_cons (N := [some (rRef z.p), some (rDict cols), some (rQs K one.1), some (rQs K oth.1), some (rKey K d (parts one.1)), some (rKey K d (parts oth.1)), none, none, none, none, none, none]) ?sum ?_
  case sum =>
    refine sw_if (tw_gt (ew_add (ew_lenD rfl L.T.bLen (ew_qs (ew_name 2 rfl (pv 2)))) (ew_lenD rfl L.T.bLen (ew_qs (ew_name 3 rfl (pv 3))))) ew_int) (fun h => bw_one ?_) fun h => bw_one ?_
    · obtain ⟨fdr, Fr⟩ := L.lRefused
      have h' := of_decide_eq_true h
      rw [List.length_map, List.length_map] at h'
      exact sw_if (d := false) (tw_not (c := true) (tw_val (ew_call (parts one.1, parts oth.1) (ok_refused L) (hr.mono (by decide)) Fr.kp rfl L.gRefused (aw_cons (ew_name 4 rfl (pv 4)) (aw_cons (ew_name 5 rfl (pv 5)) aw_nil)) ⟨by rw [List.length_append, List.length_map, List.length_map]; omega, by rw [List.length_append, List.length_map, List.length_map]; omega⟩) (by intro _; rfl))) (fun e => nomatch e) fun _ => bw_nil
    · have h' := of_decide_eq_false h
      rw [List.length_map, List.length_map] at h'
      have h6 : (one.1 ++ oth.1).length ≤ 6 := by rw [List.length_append]; omega
      refine sw_if (d := false) (tw_not (c := true) (tw_val (ew_call (one.1 ++ oth.1) (ok_stands L) hr Fs.kp rfl L.gStands (aw_cons ?s1 (aw_cons (ew_qs ?s2) aw_nil)) ⟨h6, fun q hq => (List.mem_append.mp hq).elim (o1 q) (o2 q)⟩) (by intro _; rfl))) (fun e => nomatch e) fun _ => bw_nil
      case s1 =>
        have e1 : parts (one.1 ++ oth.1) = parts one.1 ++ parts oth.1 := List.map_append
        rw [e1]
        exact ew_binOwn .Add (ew_name 4 rfl (pv 4)) (rb := rKey K d (parts oth.1)) (ew_name 5 rfl (pv 5)) (hasM (m := "__add__") (rl := [rKey K d (parts oth.1)]) (parts one.1, parts oth.1) L.T.isiK.cl L.T.mKAdd (ok_kAdd L.T) (hr.mono (by decide)) (by show (parts one.1 ++ parts oth.1).length ≤ 6; rw [← e1, List.length_map]; exact h6) rfl rfl rfl) insOf insOf L.T.sfK
      case s2 =>
        show Ew _ W _ _ (rLst (((one.1 ++ oth.1).map QD.t).map (rD K)))
        rw [List.map_append, List.map_append]
        exact ew_catL (ew_name 2 rfl (pv 2)) (ew_name 3 rfl (pv 3)) (by rw [List.length_map, List.length_map, List.length_map, List.length_map]; omega)
  -- the turned key
  refine bw_cons (N := [some (rRef z.p), some (rDict cols), some (rQs K one.1), some (rQs K oth.1), some (rKey K d (parts one.1)), some (rKey K d (parts oth.1)), none, none, none, none, none, none]) (sw_if (d := false) (tw_not (c := true) (tw_val (ew_call (one.1.map flipQ) (ok_stands L) hr Fs.kp rfl L.gStands (aw_cons ?t1 (aw_cons (ew_qs ?t2) aw_nil)) ⟨by rw [List.length_map]; omega, fun q hq => by obtain ⟨q', hq', rfl⟩ := List.mem_map.mp hq; exact o1 q' hq'⟩) (by intro _; rfl))) (fun e => nomatch e) fun _ => bw_nil) ?_
  case t1 =>
    rw [← parts_flip]
    exact ew_negOwn (ra := rKey K d (parts one.1)) (ew_name 4 rfl (pv 4)) (hasM (m := "__neg__") (parts one.1) L.T.isiK.cl L.T.mKNeg (ok_kNeg L.T) (hr.mono (by decide)) (by rw [List.length_map]; omega) rfl rfl rfl)
  case t2 =>
    show Ew _ W _ _ (rLst (((one.1.map flipQ).map QD.t).map (rD K)))
    rw [List.map_map, List.map_map, ← range_map _ (fun i => rD K (QD.t (flipQ (one.1.getD i ⟨.plain, "", 0, false⟩)))) one.1 (fun i hi => by rw [List.getD_eq_getElem?_getD, List.getElem?_eq_getElem hi]; rfl)]
    refine ew_lcAll 6 (y := "_law_part_here") _ rfl scOneRight.nd (n := one.1.length) (item := fun i => ((one.1.map QD.t).map (rD K)).getD i rNon) (iw_ts (ew_qs (ew_name 2 rfl (pv 2)))) (blkOk_by (N := NOne) (sc := defScope sOneRight) (by decide +kernel)) (by omega) (fun _ _ _ _ _ => pg_name scOneRight.nd rfl (.inl rfl)) ?_
    intro s' H' C cl fp D o i hi
    rw [getD_t hi, List.getD_eq_getElem?_getD, List.getElem?_eq_getElem hi]
    exact ew_catTD (ds := [.str (one.1[i]).k.s, .str (one.1[i]).name, .int (one.1[i]).div]) (ds' := [.bool (!(one.1[i]).dn)]) (ew_takeTD (ds := [.str (one.1[i]).k.s, .str (one.1[i]).name, .int (one.1[i]).div, .bool (one.1[i]).dn]) (m := 3) (ew_name 6 rfl (pv 6)) ew_int (by simp)) (ew_tupD (aw_cons (ew_not (ew_ixTD 3 (ew_name 6 rfl (pv 6)) ew_int rfl rfl (by intro _ _; rfl))) aw_nil) (by simp)) (by simp)
  -- turned twice
  refine bw_cons (N := [some (rRef z.p), some (rDict cols), some (rQs K one.1), some (rQs K oth.1), some (rKey K d (parts one.1)), some (rKey K d (parts oth.1)), none, none, none, none, none, none]) (sw_if (d := false) (tw_eq (tw_not (tw_rc (fun _ _ => rfl) (rc_key (X := (cxOf CX0 P w K mg base NOne "_law_one_right" (defScope sOneRight) e.fOneRight cdv A outer s H E).nox) (W := W) (p := ((parts oth.1).map negP).map negP) L.T (by rw [neg_neg]; exact k2) k2) (hr.mono (by decide)) (ew_negOwn (ra := rKey K d ((parts oth.1).map negP)) (ew_negOwn (ra := rKey K d (parts oth.1)) (ew_name 5 rfl (pv 5)) (hasM (m := "__neg__") (parts oth.1) L.T.isiK.cl L.T.mKNeg (ok_kNeg L.T) (hr.mono (by decide)) (by rw [List.length_map]; omega) rfl rfl rfl)) (hasM (m := "__neg__") ((parts oth.1).map negP) L.T.isiK.cl L.T.mKNeg (ok_kNeg L.T) (hr.mono (by decide)) (by rw [List.length_map, List.length_map]; omega) rfl rfl rfl)) (ew_name 5 rfl (pv 5)) rfl)) (by rw [neg_neg]; simp)) (fun e => nomatch e) fun _ => bw_nil) ?_
  -- the plain tuples
  obtain ⟨fdl, Fl⟩ := L.lLPlain
  refine bw_cons (N := [some (rRef z.p), some (rDict cols), some (rQs K one.1), some (rQs K oth.1), some (rKey K d (parts one.1)), some (rKey K d (parts oth.1)), none, some (rLst (((oth.1.map QD.pl).map QD.t).map (rD K))), none, none, none, none]) ?u1 ?_
  case u1 =>
    rw [List.map_map, List.map_map, ← range_map _ (fun i => rD K (QD.t (QD.pl (oth.1.getD i ⟨.plain, "", 0, false⟩)))) oth.1 (fun i hi => by rw [List.getD_eq_getElem?_getD, List.getElem?_eq_getElem hi]; rfl)]
    refine sw_lcAll 7 6 (x := "_law_part_here") _ rfl scOneRight.nd (n := oth.1.length) (item := fun i => ((oth.1.map QD.t).map (rD K)).getD i rNon) (iw_ts (ew_qs (ew_name 3 rfl (pv 3)))) (blkOk_by (N := NOne) (sc := defScope sOneRight) (by decide +kernel)) (by omega) rfl rfl rfl (fun _ _ _ _ _ => pg_name scOneRight.nd rfl (.inl rfl)) ?_
    intro s' H' C cl fp D o i hi
    rw [getD_t hi, List.getD_eq_getElem?_getD, List.getElem?_eq_getElem hi]
    exact ew_call (α := QD) (res := fun z : QD => rD K z.pl.t) (oth.1[i]) (ok_lplain L) (hr.mono (by decide)) Fl.kp rfl L.gLPlain (aw_cons (ew_name 6 rfl (pv 6)) aw_nil) trivial
  -- the same, and of the same tuples
  have sh : ∀ {qs : List QD}, (∀ q ∈ qs, Good q.name) → SeqAt.shaped (.list ((qs.map QD.pl).map QD.t)) = true := fun {qs} h => shaped_ts fun q hq => by obtain ⟨q', h1, rfl⟩ := List.mem_map.mp hq; rw [pl_name]; exact h q' h1
  refine bw_cons (N := [some (rRef z.p), some (rDict cols), some (rQs K one.1), some (rQs K oth.1), some (rKey K d (parts one.1)), some (rKey K d (parts oth.1)), none, some (rLst (((oth.1.map QD.pl).map QD.t).map (rD K))), none, none, none, none]) (sw_if (d := false) (tw_eq (tw_neD hr.units (ew_rc (fun _ _ => rfl) (rc_key L.T k1 k2) (hr.mono (by decide)) (ew_name 4 rfl (pv 4)) (ew_name 5 rfl (pv 5)) rfl) (ew_eqD (d := .list ((one.1.map QD.pl).map QD.t)) (d' := .list ((oth.1.map QD.pl).map QD.t)) hr.units (ew_sub ?v1 fun _ _ p => rD_lst.mpr (lst_seq p)) (ew_sub (ew_name 7 rfl (pv 7)) fun _ _ p => rD_lst.mpr (lst_seq p)) (sh y1) (sh y2)) (shaped_bl _) (shaped_bl _)) ?v2) (fun e => nomatch e) fun _ => bw_nil) ?_
  case v1 =>
    have eqm : ((one.1.map QD.pl).map QD.t).map (rD K) = (List.range one.1.length).map (fun i => rD K (QD.t (QD.pl (one.1.getD i ⟨.plain, "", 0, false⟩)))) := by
      rw [List.map_map, List.map_map]
      exact (range_map _ _ one.1 (fun i hi => by rw [List.getD_eq_getElem?_getD, List.getElem?_eq_getElem hi]; rfl)).symm
    show Ew _ W _ _ (rLst (((one.1.map QD.pl).map QD.t).map (rD K)))
    rw [eqm]
    refine ew_lcAll 6 (y := "_law_part_here") _ rfl scOneRight.nd (n := one.1.length) (item := fun i => ((one.1.map QD.t).map (rD K)).getD i rNon) (iw_ts (ew_qs (ew_name 2 rfl (pv 2)))) (blkOk_by (N := NOne) (sc := defScope sOneRight) (by decide +kernel)) (by omega) (fun _ _ _ _ _ => pg_name scOneRight.nd rfl (.inl rfl)) ?_
    intro s' H' C cl fp D o i hi
    rw [getD_t hi, List.getD_eq_getElem?_getD, List.getElem?_eq_getElem hi]
    exact ew_call (α := QD) (res := fun z : QD => rD K z.pl.t) (one.1[i]) (ok_lplain L) (hr.mono (by decide)) Fl.kp rfl L.gLPlain (aw_cons (ew_name 6 rfl (pv 6)) aw_nil) trivial
  case v2 =>
    have e1 : PyData.eqv (.list ((one.1.map QD.pl).map QD.t)) (.list ((oth.1.map QD.pl).map QD.t)) = decide (one.1.map QD.pl = oth.1.map QD.pl) := by rw [PyData.eqv]; exact eqv_ts _ _
    rw [e1, eqv_bl]
    have e2 : decide (parts one.1 = parts oth.1) = decide (one.1.map QD.pl = oth.1.map QD.pl) := decide_eq_decide.mpr map_pl
    rw [e2]
    simp
  -- part by part
  obtain ⟨fdm, Fm⟩ := L.lMade
  obtain ⟨fdc, Fc⟩ := L.lCell
  obtain ⟨fde, Fe⟩ := L.lMeasured
  obtain ⟨qm, hqm⟩ := L.T.qPm
  obtain ⟨qd, hqd⟩ := L.T.qPd
  obtain ⟨qn, hqn⟩ := L.T.qName
  refine bw_cons (N := [some (rRef z.p), some (rDict cols), some (rQs K one.1), some (rQs K oth.1), some (rKey K d (parts one.1)), some (rKey K d (parts oth.1)), none, some (rLst (((oth.1.map QD.pl).map QD.t).map (rD K))), none, none, none, none]) (sw_for (fun i => [some (rRef z.p), some (rDict cols), some (rQs K one.1), some (rQs K oth.1), some (rKey K d (parts one.1)), some (rKey K d (parts oth.1)), none, some (rLst (((oth.1.map QD.pl).map QD.t).map (rD K))), none, none, none, none]) (fun i => [some (rRef z.p), some (rDict cols), some (rQs K one.1), some (rQs K oth.1), some (rKey K d (parts one.1)), some (rKey K d (parts oth.1)), some (((one.1.map QD.t).map (rD K)).getD i rNon), some (rLst (((oth.1.map QD.pl).map QD.t).map (rD K))), none, none, none, none]) rfl rfl (iw_ts (ew_qs (ew_name 2 rfl (pv 2)))) (fun i hi => gw_name 6 (pg_name scOneRight.nd rfl (.inl rfl))) (fun i hi => ?_) .never rfl) (bw_one (sw_ret ?_))
  · rw [getD_t hi]
    have hq := g1 _ (List.getElem_mem hi)
    obtain ⟨b, hv, hb1, hb2⟩ := col_of hq.2
    refine bw_cons (N := [some (rRef z.p), some (rDict cols), some (rQs K one.1), some (rQs K oth.1), some (rKey K d (parts one.1)), some (rKey K d (parts oth.1)), some (rD K (one.1[i]).t), some (rLst (((oth.1.map QD.pl).map QD.t).map (rD K))), some (rPart K d (one.1[i]).part), some (cellR K b), none, none]) (sw_par 8 9 rfl scOneRight.nd rfl rfl (by decide) rfl rfl (aw_cons (ew_call (one.1[i]) (ok_made L) (hr.mono (by decide)) Fm.kp rfl L.gMade (aw_cons (ew_name 6 rfl (pv 6)) aw_nil) hq.1) (aw_cons (ew_call (z, b) (ok_cell L) (hr.mono (by decide)) Fc.kp rfl L.gCell (aw_cons (ew_name 0 rfl (pv 0)) (aw_cons (ew_dget (d := .str (kindS b)) (hu_of hr) (ew_name 1 rfl (pv 1)) (ew_ixTD (d := .str (one.1[i]).name) 1 (ew_name 6 rfl (pv 6)) ew_int rfl rfl (by intro _ _; rfl)) hv (fun _ => Dp.str _) (by intro _ _; rfl)) aw_nil)) hp) aw_nil)) rfl) ?_
    refine bw_open 9 rfl (conv_cell hq.1 hb1 hb2) fun c => ?_
    have hg := hq.1.1
    have hsm : SeqAt.shaped (.str (one.1[i]).name) = true := shaped_str hg
    have hmn : (one.1[i]).m.name = (one.1[i]).name := by cases hk : (one.1[i]).k <;> (unfold QD.m; rw [hk]; rfl)
    refine bw_cons (N := [some (rRef z.p), some (rDict cols), some (rQs K one.1), some (rQs K oth.1), some (rKey K d (parts one.1)), some (rKey K d (parts oth.1)), some (rD K (one.1[i]).t), some (rLst (((oth.1.map QD.pl).map QD.t).map (rD K))), some (rPart K d (one.1[i]).part), some (rD K c.1), none, none]) (sw_if (d := false) (tw_eq (tw_neD (d := ofD (one.1[i]).m c.1) (d' := ofD (one.1[i]).m c.1) hr.units (ew_meth (ew_prop (ew_name 8 rfl (pv 8)) (hasP (one.1[i]).part L.T.isiP.cl hqm (ok_pMeas L.T) (hr.mono (by decide)) trivial rfl rfl) rfl) (aw_cons (ew_name 9 rfl (pv 9)) aw_nil) (hasM (m := "of") ((one.1[i]).m, c.1) (L.T.isi (one.1[i]).m).cl (L.T.mOf (one.1[i]).m) (ok_of L.T (one.1[i]).m) (hr.mono (by decide)) ⟨rfl, c.2.1⟩ rfl ?w1 rfl)) (ew_call ((one.1[i]), c.1) (ok_measured L) (hr.mono (by decide)) Fe.kp rfl L.gMeasured (aw_cons (ew_name 6 rfl (pv 6)) (aw_cons (ew_name 9 rfl (pv 9)) aw_nil)) c.2.1) c.2.2 c.2.2) ?w2) (fun e => nomatch e) fun _ => bw_nil) ?_
    case w1 => exact noOf _ _
    case w2 =>
      have hl : PyData.canLay0 (ofD (one.1[i]).m c.1) = true := by
        have := c.2.2
        unfold SeqAt.shaped at this
        simp only [Bool.and_eq_true] at this
        exact this.1
      rw [PySem.SeqAt.eqv_refl _ hl] <;> rfl
    refine bw_cons (N := [some (rRef z.p), some (rDict cols), some (rQs K one.1), some (rQs K oth.1), some (rKey K d (parts one.1)), some (rKey K d (parts oth.1)), some (rD K (one.1[i]).t), some (rLst (((oth.1.map QD.pl).map QD.t).map (rD K))), some (rPart K d (one.1[i]).part), some (rD K c.1), none, none]) (sw_if (d := false) (tw_eq (tw_neD (d := .str (one.1[i]).m.name) (d' := .str (one.1[i]).name) hr.units (ew_prop (ew_prop (ew_name 8 rfl (pv 8)) (hasP (one.1[i]).part L.T.isiP.cl hqm (ok_pMeas L.T) (hr.mono (by decide)) trivial rfl rfl) rfl) (hasP (one.1[i]).m (L.T.isi (one.1[i]).m).cl (hqn (one.1[i]).m) (ok_mName L.T) (hr.mono (by decide)) trivial rfl rfl) rfl) (ew_ixTD (d := .str (one.1[i]).name) 1 (ew_name 6 rfl (pv 6)) ew_int rfl rfl (by intro _ _; rfl)) (by rw [hmn]; exact hsm) hsm) (by rw [hmn, eqv_str]; simp)) (fun e => nomatch e) fun _ => bw_nil) ?_
    refine bw_cons (N := [some (rRef z.p), some (rDict cols), some (rQs K one.1), some (rQs K oth.1), some (rKey K d (parts one.1)), some (rKey K d (parts oth.1)), some (rD K (one.1[i]).t), some (rLst (((oth.1.map QD.pl).map QD.t).map (rD K))), some (rPart K d (one.1[i]).part), some (rD K c.1), none, none]) (sw_if (d := false) (tw_eq (tw_neD (d := .bool (one.1[i]).dn) (d' := .bool (one.1[i]).dn) hr.units (ew_prop (ew_name 8 rfl (pv 8)) (hasP (one.1[i]).part L.T.isiP.cl hqd (ok_pDown L.T) (hr.mono (by decide)) trivial rfl rfl) rfl) (ew_ixTD (d := .bool (one.1[i]).dn) 3 (ew_name 6 rfl (pv 6)) ew_int rfl rfl (by intro _ _; rfl)) (shaped_bl _) (shaped_bl _)) (by rw [eqv_bl]; simp)) (fun e => nomatch e) fun _ => bw_nil) ?_
    refine bw_cons (N := [some (rRef z.p), some (rDict cols), some (rQs K one.1), some (rQs K oth.1), some (rKey K d (parts one.1)), some (rKey K d (parts oth.1)), some (rD K (one.1[i]).t), some (rLst (((oth.1.map QD.pl).map QD.t).map (rD K))), some (rPart K d (one.1[i]).part), some (rD K c.1), some (rPart K d (negP (one.1[i]).part)), none]) (sw_set 10 (ew_negOwn (ra := rPart K d (one.1[i]).part) (ew_name 8 rfl (pv 8)) (hasM (m := "__neg__") (one.1[i]).part L.T.isiP.cl L.T.mPNeg (ok_pNeg L.T) (hr.mono (by decide)) trivial rfl rfl rfl)) scOneRight.nd rfl (.inl rfl)) ?_
    refine bw_cons (N := [some (rRef z.p), some (rDict cols), some (rQs K one.1), some (rQs K oth.1), some (rKey K d (parts one.1)), some (rKey K d (parts oth.1)), some (rD K (one.1[i]).t), some (rLst (((oth.1.map QD.pl).map QD.t).map (rD K))), some (rPart K d (one.1[i]).part), some (rD K c.1), some (rPart K d (negP (one.1[i]).part)), none]) (sw_if (d := false) ?x1 (fun e => nomatch e) fun _ => bw_nil) (bw_wipe 6 (bw_wipe 8 (bw_wipe 9 (bw_wipe 10 (bw_nilN rfl)))))
    case x1 =>
      have gp : PGood (one.1[i]).part := qgood hg
      refine tw_l (lw_or (c := false) (d := false) (tw_eq (tw_eqD (d := .bool (negP (one.1[i]).part).down) (d' := .bool (one.1[i]).part.down) hr.units (ew_prop (ew_name 10 rfl (pv 10)) (hasP (negP (one.1[i]).part) L.T.isiP.cl hqd (ok_pDown L.T) (hr.mono (by decide)) trivial rfl rfl) rfl) (ew_prop (ew_name 8 rfl (pv 8)) (hasP ((one.1[i]).part) L.T.isiP.cl hqd (ok_pDown L.T) (hr.mono (by decide)) trivial rfl rfl) rfl) (shaped_bl _) (shaped_bl _)) ?a1) fun _ => lw_or (c := false) (d := false) (tw_eq (tw_not (tw_rc (fun _ _ => rfl) (rc_meas (m := (negP (one.1[i]).part).m) (m' := (one.1[i]).part.m) L.T gp gp) (hr.mono (by decide)) (ew_prop (ew_name 10 rfl (pv 10)) (hasP (negP (one.1[i]).part) L.T.isiP.cl hqm (ok_pMeas L.T) (hr.mono (by decide)) trivial rfl rfl) rfl) (ew_prop (ew_name 8 rfl (pv 8)) (hasP ((one.1[i]).part) L.T.isiP.cl hqm (ok_pMeas L.T) (hr.mono (by decide)) trivial rfl rfl) rfl) rfl)) ?a2) fun _ => lw_one (tw_eq (tw_not (tw_rc (fun _ _ => rfl) (rc_part (p := negP (negP (one.1[i]).part)) (p' := (one.1[i]).part) L.T gp gp) (hr.mono (by decide)) (ew_negOwn (ra := rPart K d (negP (one.1[i]).part)) (ew_name 10 rfl (pv 10)) (hasM (m := "__neg__") (negP (one.1[i]).part) L.T.isiP.cl L.T.mPNeg (ok_pNeg L.T) (hr.mono (by decide)) trivial rfl rfl rfl)) (ew_name 8 rfl (pv 8)) rfl)) ?a3))
      case a1 =>
        rw [eqv_bl]
        show ((!(one.1[i]).dn) == (one.1[i]).dn) = false
        cases (one.1[i]).dn <;> rfl
      case a2 => simp [negP]
      case a3 => simp [negP, Bool.not_not]
  · obtain ⟨mc, p1, p2, cr, cm1, cm2⟩ := L.T.cmPart
    have gt : Good ("title" : Str) := good_names _ (by simp [names])
    have e0 : (true : Bool) = (decide ((⟨.plain "title", false⟩ : PartD) = ⟨.plain "title", false⟩) && decide ((⟨.plain "title", true⟩ : PartD) = ⟨.plain "title", true⟩)) := by decide
    show Ew _ W _ _ (rD K (.bool true))
    rw [e0]
    refine ew_and (ew_rc (fun _ _ => rfl) (rc_part L.T gt gt) (hr.mono (by decide)) (ew_cmeth (β := Str) (res := fun z : Str => rPart K d ⟨.plain z, false⟩) ("title" : Str) (ew_cls rfl L.T.gPart) cr cm1 (ok_pUp L.T) (hr.mono (by decide)) (aw_cons ew_str aw_nil) rfl gt) (ew_make (α := Meas) (fs := fun m => fsPart K d ⟨m, false⟩) (.plain "title") L.T.mkPart (ok_pInit L.T) (hr.mono (by decide)) rfl L.T.gPart (aw_cons (ew_make (α := Str) (fs := fun z => [("_name", rD K (.str z))]) ("title" : Str) L.T.mkPlain (ok_mInit L.T (L.T.isi (.plain "title")).cl (L.T.nName (.plain "title"))) (hr.mono (by decide)) rfl L.T.gPlain (aw_cons ew_str aw_nil) gt) aw_nil) trivial) rfl) fun _ => ew_one (ew_rc (fun _ _ => rfl) (rc_part L.T gt gt) (hr.mono (by decide)) (ew_cmeth (β := Str) (res := fun z : Str => rPart K d ⟨.plain z, true⟩) ("title" : Str) (ew_cls rfl L.T.gPart) cr cm2 (ok_pDownw L.T) (hr.mono (by decide)) (aw_cons ew_str aw_nil) rfl gt) (ew_negOwn (ra := rPart K d ⟨.plain "title", false⟩) (ew_make (α := Meas) (fs := fun m => fsPart K d ⟨m, false⟩) (.plain "title") L.T.mkPart (ok_pInit L.T) (hr.mono (by decide)) rfl L.T.gPart (aw_cons (ew_make (α := Str) (fs := fun z => [("_name", rD K (.str z))]) ("title" : Str) L.T.mkPlain (ok_mInit L.T (L.T.isi (.plain "title")).cl (L.T.nName (.plain "title"))) (hr.mono (by decide)) rfl L.T.gPlain (aw_cons ew_str aw_nil) gt) aw_nil) trivial) (hasM (m := "__neg__") ⟨.plain "title", false⟩ L.T.isiP.cl L.T.mPNeg (ok_pNeg L.T) (hr.mono (by decide)) trivial rfl rfl rfl)) rfl)
end
end K31
namespace K31
open PySem L2 Py
theorem iw_range3 {X : Cx} {W : Py.World} {rs : Rs} {tg a b c : Expr} {p pos : Pos} {i j k : Int} {n : Nat} (hg : Gl X "range") (hm : X.mg "range" = none) (h : Aw X W rs [a, b, c] [rD X.K (.int i), rD X.K (.int j), rD X.K (.int k)]) (hr : RgC i j k n)
    (hs : starEach [a, b, c] X.env = (false, eval a X.env) :: starEach [b, c] X.env := by rfl) (hpl : (backTo pos (starEach [b, c] X.env)).any (·.1) = false := by rfl) :
    Iw X W rs tg (.Call (.Name "range" p) [a, b, c] [] pos) n (fun m => rD X.K (.int (i + (m : Nat) * k))) := by
  refine pi_cs (pi_range3 hg hm h hs hpl) ?_
  rintro σ H R ⟨kk, g, q⟩
  refine ⟨kk, g, ?_⟩
  intro vs H1 k1 e1 hp
  obtain ⟨x, y, z, rfl, h1, h2, h3⟩ := reps3 hp
  refine ⟨i, j, k, n, by rw [rD_int.mp h1, rD_int.mp h2, rD_int.mp h3], hr, q (Itc i k n) (fun _ => True) (fun m H x H' => H' = H ∧ x = .int (i + (m : Nat) * k)) H1 ⟨fun m H hm _ => hm, fun H _ => Nat.le_refl n, fun m H x H' _ _ h => h⟩ k1 e1 (fun _ _ _ => trivial) ?_⟩
  rintro m x H2 H3 hi ⟨eH, hx⟩
  exact .inl ⟨eH, fun G2 _ _ => rD_int.mpr hx⟩
section
variable {P : Program} {w : PySem.World} {K : PySem.W.Frag} {mg : Str → Option Value} {base : Heap} {d : Ad} {e : Ld}
theorem scLaw : FnScope ["_law_script", "_law_by"] ["_law_script"] (defScope sLaw) := ⟨rfl, rfl, rfl, by decide +kernel, rfl, by decide +kernel, by decide +kernel⟩
def spLaw (K : PySem.W.Frag) : Sp := fun vs H Q _ => ∃ (a : Addr) (ns : List Int), vs = [.ref a] ∧ SqL K H a (ns.map V.int) ∧ ns.length ≤ 63 ∧ ∀ H', Q (.bl true) H'
theorem law_body (L : Lx P K mg d e) {f : Addr} (cdv : Value) (A : Around) (outer : List Env) (s : Shared) (H : Hp) (E : XK) (W : Py.World) (l : Addr) (zs : List Int) (hl : zs.length ≤ 63) (hs : ∀ H, W.ok H → SqL K H l (zs.map V.int)) (hr : Room 9 (A.deeper (PyProof.Rows.envOfC "law" (defScope sLaw) s.heap.objs.size f cdv))) :
    Bw (cxOf CX0 P w K mg base ["_law_script", "_law_by"] "law" (defScope sLaw) f cdv A outer s H E).nox W [some (rRef l), none] (defBody sLaw) ⟨rD K (.bool true), none, none, none⟩ := by
  obtain ⟨fd1, F1⟩ := L.lOneRight
  have hm : ∃ m : Nat, m < 25 ∧ ((if (if ((zs.map V.int).length : Int) < 24 then ((zs.map V.int).length : Int) else 24) > 1 then (if ((zs.map V.int).length : Int) < 24 then ((zs.map V.int).length : Int) else 24) else 1) : Int) = m := by
    rw [List.length_map]
    refine ⟨(if (if (zs.length : Int) < 24 then (zs.length : Int) else 24) > 1 then (if (zs.length : Int) < 24 then (zs.length : Int) else 24) else 1 : Int).toNat, ?_, ?_⟩ <;> split <;> split at * <;> omega
  obtain ⟨m, hm1, hm2⟩ := hm
  have hrg : ∀ m : Fin 25, RgC 0 ((m.1 : Nat) : Int) 2 (Builtin.Range.rangeSize 0 ((m.1 : Nat) : Int) 2).toNat := by
    unfold RgC
    decide +kernel
  have hrm := hrg ⟨m, hm1⟩
  refine bw_cons (N := [some (rRef l), none]) (sw_for (fun _ => [some (rRef l), none]) (fun i => [some (rRef l), some (rD K (.int (0 + (i : Nat) * 2)))]) rfl rfl (iw_range3 (j := (m : Int)) rfl L.bRange (aw_cons ew_int (aw_cons ?h1 (aw_cons ew_int aw_nil))) hrm) (fun i hi => gw_name 1 (pg_name scLaw.nd rfl (.inl rfl))) (fun i hi => ?h2) .never rfl) (bw_one (sw_ret ew_bl))
  case h1 =>
    rw [← hm2]
    exact ew_max2 rfl rfl L.bMax (aw_cons ew_int (aw_cons (ew_min2 rfl rfl L.bMin (aw_cons ew_int (aw_cons (ew_lenH hs rfl L.T.bLen (ew_name 0 rfl (pv 0))) aw_nil))) aw_nil))
  case h2 =>
    refine bw_cons (N := [some (rRef l), some (rD K (.int (0 + (i : Nat) * 2)))]) (sw_if (d := false) (tw_not (c := true) (tw_val (ew_drawCall (zs := zs) (l := l) (fun p => (⟨p, l, zs⟩ : DZ)) (res := rD K (.bool true)) (ok_oneRight L) hs (fun p W' h => h) (fun p => rfl) hr F1.kp rfl L.gOneRight (aw_cons (ew_name 0 rfl (pv 0)) (aw_cons (ew_name 1 rfl (pv 1)) (aw_cons ew_int aw_nil))) (by omega)) (by intro _; rfl))) (fun e => nomatch e) fun _ => bw_nil) (bw_wipe 1 (bw_nilN rfl))
theorem ok_law (L : Lx P K mg d e) {f : Addr} {fd : FuncData} (F : Fun K "law" "law" sLaw f fd) : FnOk P w K mg base CX0 10 f fd ["_law_script"] (spLaw K) := by
  refine F.ok scLaw (fun vs H Q E ⟨a, ns, ev, _⟩ => by rw [ev] <;> rfl) ?_
  rintro cdv A outer s H vs Q E hr ⟨a, ns, ev, hs, hl, q⟩
  subst ev
  have key : ∃ W : Py.World, W.ok H ∧ ∀ H, W.ok H → SqL K H a (ns.map V.int) := by
    rcases hs with h | h
    · cases ho : H a with
      | none => rcases h with h | ⟨o, h⟩ <;> (rw [ho] at h; cases h)
      | some o =>
        refine ⟨World.all.hold a o, ⟨trivial, id, ho⟩, fun H' k => .inl ?_⟩
        unfold Rd
        rw [k.2.2, ← ho]
        exact h
    · exact ⟨World.all, trivial, fun H' _ => .inr h⟩
  obtain ⟨W, kW, hW⟩ := key
  exact ⟨_, (law_body L cdv A outer s H E W a ns hl hW hr), kW, ⟨⟨_, rfl, rfl⟩, trivial⟩, fun v H' _ _ p => by rw [rD_bl.mp p]; exact q H', (fun N z => nomatch z), (fun N z => nomatch z), (fun N z => nomatch z)⟩
end
end K31
namespace K31
open PySem L2 Py PyProof.Rows
section
variable {K : PySem.W.Frag} {x qual : Str} {st : Stmt} {f : Addr} {oc : Value} {od an : Option Addr} {osl : Array (Option Value)} {kV doc pm cdv ct : Value}
theorem funE (l : K.lookup f = some ⟨oc, od, .func (PySem.W.fnOf x qual (defArgs st) (defBody st) (defScope st) .none kV doc pm an cdv ct), osl⟩) (c : PySem.W.codeIn K cdv qual = true) (k : PySem.W.keepIn K (.ref f) = true) : ∃ fd, Fun K x qual st f fd := ⟨_, fun_mk l c k⟩
theorem funD1 {D : Addr} (l : K.lookup f = some ⟨oc, od, .func (PySem.W.fnOf "__init__" "Part.__init__" (defArgs sPInit) (defBody sPInit) (defScope sPInit) .none (.ref D) doc pm an cdv ct), osl⟩) (c : PySem.W.codeIn K cdv "Part.__init__" = true) (k : PySem.W.keepIn K (.ref f) = true) (kw : PySem.W.nsIn K D "down" = some (some (.bool false))) :
    ∃ fd, FunD K "__init__" "Part.__init__" (defArgs sPInit) (defBody sPInit) (defScope sPInit) [] [("down", .bl false)] f fd :=
  ⟨_, ⟨_, _, _, _, _, _, _, _, _, _, rfl, l, c, .inl ⟨rfl, rfl⟩, .inr ⟨D, rfl, fun q hq => by
    have e : q = (("down" : Str), V.bl false) := by simpa using hq
    subst e
    exact ⟨_, kw, rfl⟩⟩⟩, k⟩
theorem funC1 {P : Program} {cda cc D : Addr} {ccl cl : Value} {cdd cld : Option Addr} {ccs csl : Array (Option Value)} {vs : Array Value} {file : Str} {tf : Tok} {cd : ClassData} (l : K.lookup f = some ⟨oc, od, .func (PySem.W.fnX "__init__" "Rest.__init__" (defArgs sRInit) (defBody sRInit) (defScope sRInit) [("__class__", cc)] .none .none doc pm an (.ref cda) ct), osl⟩)
    (c : PySem.W.codeIn K (.ref cda) "Rest.__init__" = true) (lc : K.lookup cda = some ⟨ccl, cdd, .fields vs, ccs⟩) (hv : vs[2]? = some (.str file tf)) (hf : ((P.main.file : Str) == file) = true) (le : K.lookup cc = some ⟨cl, cld, .cell (some (.ref D)), csl⟩) (hcl : PySem.W.clsIn K D = some cd) (ns : PySem.W.nsIn K mainGlobals "super" = some none) (tp : (P.main.scope.names.lookup ("super" : Str)).isSome = false) (ay : PySem.W.nsIn K cStatics "thirdparty.any" = some none) :
    ∃ cda cc, FunC P K "__init__" "Rest.__init__" (defArgs sRInit) (defBody sRInit) (defScope sRInit) f cda cc D :=
  ⟨cda, cc, ⟨_, _, _, _, _, _, _, l⟩, c, ⟨_, _, _, _, _, _, lc, hv, hf⟩, ⟨_, _, _, le⟩, ⟨_, hcl⟩, ns, tp, ay⟩
end
theorem all_mk {P : Program} {K : PySem.W.Frag} {h : Heap} {mg : Str → Option Value} {cPlain cSize cRest cEnding cPart cKey cMeasure cBadKey fIsName fIsInteger fIsBetween fMInit fMEq fMName fPlainOf fSizeOf fRInit fREq fROf fEOf fPInit fPEq fPNeg fPUp fPDownw fPMeas fPDown fKInit fKEq fKLen fKAdd fKNeg fKCont fKGet fKParts fCellAt fDraw fNumber fNext fPick fCell fMeasured fMade fLPart fLKey fStands fLPlain fRefused fOneRight fLaw qN qPm qPd qKp pUp_ pDw_ : Addr} {tL tN tM : Tok} {mc : Value} {rest_qN rest_qPm rest_qPd rest_qKp rest_pUp_ rest_pDw_ : List Value} {w : PySem.World} {fa : Addr} (X : K.In h) (G : h.Ns mainGlobals mg) (hfa : mg "law" = some (.ref fa)) (vL : PySem.W.nsIn K mainGlobals "LETTERS" = some (some (.str "abcdefghijklmnopqrstuvwxyz" tL))) (vN : PySem.W.nsIn K mainGlobals "LONGEST" = some (some (.int 8 tN))) (vM : PySem.W.nsIn K mainGlobals "MOST_PARTS" = some (some (.int 6 tM))) (n_len : PySem.W.nsIn K mainGlobals "len" = some none) (n_all : PySem.W.nsIn K mainGlobals "all" = some none) (n_isinstance : PySem.W.nsIn K mainGlobals "isinstance" = some none) (n_str : PySem.W.nsIn K mainGlobals "str" = some none) (n_int : PySem.W.nsIn K mainGlobals "int" = some none) (n_bool : PySem.W.nsIn K mainGlobals "bool" = some none) (n_type : PySem.W.nsIn K mainGlobals "type" = some none) (n_abs : PySem.W.nsIn K mainGlobals "abs" = some none) (n_list : PySem.W.nsIn K mainGlobals "list" = some none) (n_range : PySem.W.nsIn K mainGlobals "range" = some none) (n_max : PySem.W.nsIn K mainGlobals "max" = some none) (n_min : PySem.W.nsIn K mainGlobals "min" = some none) (n_enumerate : PySem.W.nsIn K mainGlobals "enumerate" = some none) (r_fIsName : PySem.W.nsIn K mainGlobals "is_name" = some (some (.ref fIsName))) (r_fIsInteger : PySem.W.nsIn K mainGlobals "is_integer" = some (some (.ref fIsInteger))) (r_fIsBetween : PySem.W.nsIn K mainGlobals "is_between" = some (some (.ref fIsBetween))) (r_cMeasure : PySem.W.nsIn K mainGlobals "Measure" = some (some (.ref cMeasure))) (r_cPlain : PySem.W.nsIn K mainGlobals "Plain" = some (some (.ref cPlain))) (r_cSize : PySem.W.nsIn K mainGlobals "Size" = some (some (.ref cSize))) (r_cRest : PySem.W.nsIn K mainGlobals "Rest" = some (some (.ref cRest))) (r_cEnding : PySem.W.nsIn K mainGlobals "Ending" = some (some (.ref cEnding))) (r_cPart : PySem.W.nsIn K mainGlobals "Part" = some (some (.ref cPart))) (r_cKey : PySem.W.nsIn K mainGlobals "Key" = some (some (.ref cKey))) (r_cBadKey : PySem.W.nsIn K mainGlobals "BadKey" = some (some (.ref cBadKey))) (r_fCellAt : PySem.W.nsIn K mainGlobals "_law_cell_at" = some (some (.ref fCellAt))) (r_fDraw : PySem.W.nsIn K mainGlobals "_law_draw" = some (some (.ref fDraw))) (r_fNumber : PySem.W.nsIn K mainGlobals "_law_number" = some (some (.ref fNumber))) (r_fNext : PySem.W.nsIn K mainGlobals "_law_next" = some (some (.ref fNext))) (r_fPick : PySem.W.nsIn K mainGlobals "_law_pick" = some (some (.ref fPick))) (r_fCell : PySem.W.nsIn K mainGlobals "_law_cell" = some (some (.ref fCell))) (r_fMeasured : PySem.W.nsIn K mainGlobals "_law_measured" = some (some (.ref fMeasured))) (r_fMade : PySem.W.nsIn K mainGlobals "_law_made" = some (some (.ref fMade))) (r_fLPart : PySem.W.nsIn K mainGlobals "_law_part" = some (some (.ref fLPart))) (r_fLKey : PySem.W.nsIn K mainGlobals "_law_key" = some (some (.ref fLKey))) (r_fStands : PySem.W.nsIn K mainGlobals "_law_stands" = some (some (.ref fStands))) (r_fLPlain : PySem.W.nsIn K mainGlobals "_law_plain" = some (some (.ref fLPlain))) (r_fRefused : PySem.W.nsIn K mainGlobals "_law_refused" = some (some (.ref fRefused))) (r_fOneRight : PySem.W.nsIn K mainGlobals "_law_one_right" = some (some (.ref fOneRight))) (r_law : PySem.W.nsIn K mainGlobals "law" = some (some (.ref fLaw))) (mkPlain : Mk K cPlain fMInit) (mkSize : Mk K cSize fMInit) (mkEnding : Mk K cEnding fMInit) (mkRest : Mk K cRest fRInit) (mkPart : Mk K cPart fPInit) (mkKey : Mk K cKey fKInit) (i_Plain : IsiC K cPlain) (nn_Plain : NoAttr K cPlain "_name") (nd_Plain : NoAttr K cPlain "_divisor") (of_Plain : Meth K cPlain "of" fPlainOf) (eq_Plain : Meth K cPlain "__eq__" fMEq) (qa_Plain : PySem.W.findIn K (.ref cPlain) "name" = some (some (.ref qN))) (nf_Plain_Plain : PySem.W.notFirst K cPlain (.ref cPlain) = true) (nf_Plain_Size : PySem.W.notFirst K cPlain (.ref cSize) = true) (nf_Plain_Rest : PySem.W.notFirst K cPlain (.ref cRest) = true) (nf_Plain_Ending : PySem.W.notFirst K cPlain (.ref cEnding) = true) (kr_Plain : PySem.W.kitOne K (.ref cPlain) (.ref cRest) = some false) (km_Plain : PySem.W.kitOne K (.ref cPlain) (.ref cMeasure) = some true) (ms_Plain : PySem.W.makesIn K cPlain = true) (i_Size : IsiC K cSize) (nn_Size : NoAttr K cSize "_name") (nd_Size : NoAttr K cSize "_divisor") (of_Size : Meth K cSize "of" fSizeOf) (eq_Size : Meth K cSize "__eq__" fMEq) (qa_Size : PySem.W.findIn K (.ref cSize) "name" = some (some (.ref qN))) (nf_Size_Plain : PySem.W.notFirst K cSize (.ref cPlain) = true) (nf_Size_Size : PySem.W.notFirst K cSize (.ref cSize) = true) (nf_Size_Rest : PySem.W.notFirst K cSize (.ref cRest) = true) (nf_Size_Ending : PySem.W.notFirst K cSize (.ref cEnding) = true) (kr_Size : PySem.W.kitOne K (.ref cSize) (.ref cRest) = some false) (km_Size : PySem.W.kitOne K (.ref cSize) (.ref cMeasure) = some true) (ms_Size : PySem.W.makesIn K cSize = true) (i_Rest : IsiC K cRest) (nn_Rest : NoAttr K cRest "_name") (nd_Rest : NoAttr K cRest "_divisor") (of_Rest : Meth K cRest "of" fROf) (eq_Rest : Meth K cRest "__eq__" fREq) (qa_Rest : PySem.W.findIn K (.ref cRest) "name" = some (some (.ref qN))) (nf_Rest_Plain : PySem.W.notFirst K cRest (.ref cPlain) = true) (nf_Rest_Size : PySem.W.notFirst K cRest (.ref cSize) = true) (nf_Rest_Rest : PySem.W.notFirst K cRest (.ref cRest) = true) (nf_Rest_Ending : PySem.W.notFirst K cRest (.ref cEnding) = true) (kr_Rest : PySem.W.kitOne K (.ref cRest) (.ref cRest) = some true) (km_Rest : PySem.W.kitOne K (.ref cRest) (.ref cMeasure) = some true) (ms_Rest : PySem.W.makesIn K cRest = true) (i_Ending : IsiC K cEnding) (nn_Ending : NoAttr K cEnding "_name") (nd_Ending : NoAttr K cEnding "_divisor") (of_Ending : Meth K cEnding "of" fEOf) (eq_Ending : Meth K cEnding "__eq__" fMEq) (qa_Ending : PySem.W.findIn K (.ref cEnding) "name" = some (some (.ref qN))) (nf_Ending_Plain : PySem.W.notFirst K cEnding (.ref cPlain) = true) (nf_Ending_Size : PySem.W.notFirst K cEnding (.ref cSize) = true) (nf_Ending_Rest : PySem.W.notFirst K cEnding (.ref cRest) = true) (nf_Ending_Ending : PySem.W.notFirst K cEnding (.ref cEnding) = true) (kr_Ending : PySem.W.kitOne K (.ref cEnding) (.ref cRest) = some false) (km_Ending : PySem.W.kitOne K (.ref cEnding) (.ref cMeasure) = some true) (ms_Ending : PySem.W.makesIn K cEnding = true) (qb_qN : PySem.W.specialIn K (.ref qN) "__get__" = some (some (.builtin "property.__get__"))) (qc_qN : PySem.W.takesIn K (.ref qN) = some true) (qd_qN : PySem.W.recIn K qN "property" = some (.ref fMName :: rest_qN)) (inj : [cPlain, cSize, cRest, cEnding].Nodup) (iP : IsiC K cPart) (nPm : NoAttr K cPart "_measure") (nPd : NoAttr K cPart "_down") (mPEq : Meth K cPart "__eq__" fPEq) (mPNeg : Meth K cPart "__neg__" fPNeg) (qa_qPm : PySem.W.findIn K (.ref cPart) "measure" = some (some (.ref qPm))) (qb_qPm : PySem.W.specialIn K (.ref qPm) "__get__" = some (some (.builtin "property.__get__"))) (qc_qPm : PySem.W.takesIn K (.ref qPm) = some true) (qd_qPm : PySem.W.recIn K qPm "property" = some (.ref fPMeas :: rest_qPm)) (qa_qPd : PySem.W.findIn K (.ref cPart) "down" = some (some (.ref qPd))) (qb_qPd : PySem.W.specialIn K (.ref qPd) "__get__" = some (some (.builtin "property.__get__"))) (qc_qPd : PySem.W.takesIn K (.ref qPd) = some true) (qd_qPd : PySem.W.recIn K qPd "property" = some (.ref fPDown :: rest_qPd)) (nfP : PySem.W.notFirst K cPart (.ref cPart) = true) (kP : PySem.W.kitOne K (.ref cPart) (.ref cPart) = some true) (ty_cP : PySem.W.typeIn K (.ref cPart) = some mc) (cr1 : PySem.W.readsIn K cPart mc = true) (cr2 : PySem.W.specialIn K (.ref cPart) "__getattribute__" = some (some (.builtin "type.__getattribute__"))) (ca_pUp_ : PySem.W.findCls K (.ref cPart) mc "up" = some (.get (.builtin "classmethod.__get__") (.ref pUp_) .none (.ref cPart))) (cb_pUp_ : PySem.W.recIn K pUp_ "classmethod" = some (.ref fPUp :: rest_pUp_)) (cc_pUp_ : PySem.W.fnIn K fPUp = true) (ca_pDw_ : PySem.W.findCls K (.ref cPart) mc "downward" = some (.get (.builtin "classmethod.__get__") (.ref pDw_) .none (.ref cPart))) (cb_pDw_ : PySem.W.recIn K pDw_ "classmethod" = some (.ref fPDownw :: rest_pDw_)) (cc_pDw_ : PySem.W.fnIn K fPDownw = true) (iK : IsiC K cKey) (nKp : NoAttr K cKey "_parts") (mfKEq : Meth K cKey "__eq__" fKEq) (mfKLen : Meth K cKey "__len__" fKLen) (mfKAdd : Meth K cKey "__add__" fKAdd) (mfKNeg : Meth K cKey "__neg__" fKNeg) (mfKCont : Meth K cKey "__contains__" fKCont) (mfKGet : Meth K cKey "__getitem__" fKGet) (fnKGet : PySem.W.fnIn K fKGet = true) (qa_qKp : PySem.W.findIn K (.ref cKey) "parts" = some (some (.ref qKp))) (qb_qKp : PySem.W.specialIn K (.ref qKp) "__get__" = some (some (.builtin "property.__get__"))) (qc_qKp : PySem.W.takesIn K (.ref qKp) = some true) (qd_qKp : PySem.W.recIn K qKp "property" = some (.ref fKParts :: rest_qKp)) (nfK : PySem.W.notFirst K cKey (.ref cKey) = true) (kK : PySem.W.kitOne K (.ref cKey) (.ref cKey) = some true) (sfK : PySem.W.selfFirst K cKey = true) (nbK : PySem.W.findIn K (.ref cKey) "__bool__" = some none) (xBad : PySem.W.excIn K cBadKey [.type "ValueError", .type "Exception", .type "BaseException", .type "object"] "ValueError.__new__" = true) (kBad : PySem.W.keepIn K (.ref cBadKey) = true) (bBad : PySem.W.subIn K (.ref cBadKey) (.type "BaseException") = some true) (tBad : PySem.W.typeIn K (.ref cBadKey) = some (.type "type")) (eBad : PySem.W.exmOne K (.ref cBadKey) (.ref cBadKey) = some true) (F_isName : ∃ fd, Fun K "is_name" "is_name" sIsName fIsName fd) (F_isInteger : ∃ fd, Fun K "is_integer" "is_integer" sIsInteger fIsInteger fd) (F_isBetween : ∃ fd, Fun K "is_between" "is_between" sIsBetween fIsBetween fd) (F_mInit : ∃ fd, Fun K "__init__" "Measure.__init__" sMInit fMInit fd) (F_mEq : ∃ fd, Fun K "__eq__" "Measure.__eq__" sMEq fMEq fd) (F_mName : ∃ fd, Fun K "name" "Measure.name" sMName fMName fd) (F_plainOf : ∃ fd, Fun K "of" "Plain.of" sPlainOf fPlainOf fd) (F_sizeOf : ∃ fd, Fun K "of" "Size.of" sSizeOf fSizeOf fd) (F_rEq : ∃ fd, Fun K "__eq__" "Rest.__eq__" sREq fREq fd) (F_rOf : ∃ fd, Fun K "of" "Rest.of" sROf fROf fd) (F_eOf : ∃ fd, Fun K "of" "Ending.of" sEOf fEOf fd) (F_pEq : ∃ fd, Fun K "__eq__" "Part.__eq__" sPEq fPEq fd) (F_pNeg : ∃ fd, Fun K "__neg__" "Part.__neg__" sPNeg fPNeg fd) (F_pUp : ∃ fd, Fun K "up" "Part.up" sPUp fPUp fd) (F_pDownw : ∃ fd, Fun K "downward" "Part.downward" sPDownw fPDownw fd) (F_pMeas : ∃ fd, Fun K "measure" "Part.measure" sPMeas fPMeas fd) (F_pDown : ∃ fd, Fun K "down" "Part.down" sPDown fPDown fd) (F_kInit : ∃ fd, Fun K "__init__" "Key.__init__" sKInit fKInit fd) (F_kEq : ∃ fd, Fun K "__eq__" "Key.__eq__" sKEq fKEq fd) (F_kLen : ∃ fd, Fun K "__len__" "Key.__len__" sKLen fKLen fd) (F_kAdd : ∃ fd, Fun K "__add__" "Key.__add__" sKAdd fKAdd fd) (F_kNeg : ∃ fd, Fun K "__neg__" "Key.__neg__" sKNeg fKNeg fd) (F_kCont : ∃ fd, Fun K "__contains__" "Key.__contains__" sKCont fKCont fd) (F_kGet : ∃ fd, Fun K "__getitem__" "Key.__getitem__" sKGet fKGet fd) (F_kParts : ∃ fd, Fun K "parts" "Key.parts" sKParts fKParts fd) (F_lCellAt : ∃ fd, Fun K "_law_cell_at" "_law_cell_at" sCellAt fCellAt fd) (F_lDraw : ∃ fd, Fun K "_law_draw" "_law_draw" sDraw fDraw fd) (F_lNumber : ∃ fd, Fun K "_law_number" "_law_number" sNumber fNumber fd) (F_lNext : ∃ fd, Fun K "_law_next" "_law_next" sNext fNext fd) (F_lPick : ∃ fd, Fun K "_law_pick" "_law_pick" sPick fPick fd) (F_lCell : ∃ fd, Fun K "_law_cell" "_law_cell" sCell fCell fd) (F_lMeasured : ∃ fd, Fun K "_law_measured" "_law_measured" sMeasured fMeasured fd) (F_lMade : ∃ fd, Fun K "_law_made" "_law_made" sMade fMade fd) (F_lLPart : ∃ fd, Fun K "_law_part" "_law_part" sLPart fLPart fd) (F_lLKey : ∃ fd, Fun K "_law_key" "_law_key" sLKey fLKey fd) (F_lStands : ∃ fd, Fun K "_law_stands" "_law_stands" sStands fStands fd) (F_lLPlain : ∃ fd, Fun K "_law_plain" "_law_plain" sLPlain fLPlain fd) (F_lRefused : ∃ fd, Fun K "_law_refused" "_law_refused" sRefused fRefused fd) (F_lOneRight : ∃ fd, Fun K "_law_one_right" "_law_one_right" sOneRight fOneRight fd) (F_law : ∃ fd, Fun K "law" "law" sLaw fLaw fd) (F_pInit : ∃ fd, FunD K "__init__" "Part.__init__" (defArgs sPInit) (defBody sPInit) (defScope sPInit) [] [("down", .bl false)] fPInit fd) (F_rInit : ∃ cda cc, FunC P K "__init__" "Rest.__init__" (defArgs sRInit) (defBody sRInit) (defScope sRInit) fRInit cda cc cRest) (rSup : SupM K cRest cRest "__init__" fMInit) :
    ∃ fd : FuncData, (∀ (s : Shared) (v : Value), BindsTo s fd ⟨[v], []⟩ [("_law_script", v)]) ∧ ∀ base : Heap, K.In base → base.Ns mainGlobals mg → FnOk P w K mg base CX0 10 fa fd ["_law_script"] (spLaw K) := by
  have L : Lx P K mg ⟨cPlain, cSize, cRest, cEnding, cPart, cKey, cMeasure, cBadKey, fIsName, fIsInteger, fIsBetween, fMInit, fMEq, fMName, fPlainOf, fSizeOf, fRInit, fREq, fROf, fEOf, fPInit, fPEq, fPNeg, fPUp, fPDownw, fPMeas, fPDown, fKInit, fKEq, fKLen, fKAdd, fKNeg, fKCont, fKGet, fKParts⟩ ⟨fCellAt, fDraw, fNumber, fNext, fPick, fCell, fMeasured, fMade, fLPart, fLKey, fStands, fLPlain, fRefused, fOneRight⟩ := { T := { gLetters := ⟨_, PySem.W.mg_of X G vL⟩, gLongest := ⟨_, PySem.W.mg_of X G vN⟩, gMost := ⟨_, PySem.W.mg_of X G vM⟩, bLen := PySem.W.mg_none_of X G n_len, bAll := PySem.W.mg_none_of X G n_all, bIsi := PySem.W.mg_none_of X G n_isinstance, bStr := PySem.W.mg_none_of X G n_str, bInt := PySem.W.mg_none_of X G n_int, bBool := PySem.W.mg_none_of X G n_bool, bType := PySem.W.mg_none_of X G n_type, bAbs := PySem.W.mg_none_of X G n_abs, bList := PySem.W.mg_none_of X G n_list, gIsName := PySem.W.mg_of X G r_fIsName, gIsInteger := PySem.W.mg_of X G r_fIsInteger, gIsBetween := PySem.W.mg_of X G r_fIsBetween, gMeasure := PySem.W.mg_of X G r_cMeasure, gPlain := PySem.W.mg_of X G r_cPlain, gSize := PySem.W.mg_of X G r_cSize, gRest := PySem.W.mg_of X G r_cRest, gEnding := PySem.W.mg_of X G r_cEnding, gPart := PySem.W.mg_of X G r_cPart, gKey := PySem.W.mg_of X G r_cKey, isName := F_isName, isInteger := F_isInteger, isBetween := F_isBetween, mInit := F_mInit, mEq := F_mEq, mName := F_mName, plainOf := F_plainOf, sizeOf := F_sizeOf, rEq := F_rEq, rOf := F_rOf, eOf := F_eOf, pEq := F_pEq, pNeg := F_pNeg, pUp := F_pUp, pDownw := F_pDownw, pMeas := F_pMeas, pDown := F_pDown, kInit := F_kInit, kEq := F_kEq, kLen := F_kLen, kAdd := F_kAdd, kNeg := F_kNeg, kCont := F_kCont, kGet := F_kGet, kParts := F_kParts, rInit := F_rInit, rSup := rSup, pInit := F_pInit, isi := fun m => match m with | .plain _ => i_Plain | .size _ => i_Size | .rest _ _ => i_Rest | .ending _ => i_Ending, nName := fun m => match m with | .plain _ => nn_Plain | .size _ => nn_Size | .rest _ _ => nn_Rest | .ending _ => nn_Ending, nDiv := fun m => match m with | .plain _ => nd_Plain | .size _ => nd_Size | .rest _ _ => nd_Rest | .ending _ => nd_Ending, mOf := fun m => match m with | .plain _ => of_Plain | .size _ => of_Size | .rest _ _ => of_Rest | .ending _ => of_Ending, mmEq := fun m => match m with | .plain _ => eq_Plain | .size _ => eq_Size | .rest _ _ => eq_Rest | .ending _ => eq_Ending, qName := ⟨qN, fun m => match m with | .plain _ => ⟨qa_Plain, qb_qN, qc_qN, _, qd_qN⟩ | .size _ => ⟨qa_Size, qb_qN, qc_qN, _, qd_qN⟩ | .rest _ _ => ⟨qa_Rest, qb_qN, qc_qN, _, qd_qN⟩ | .ending _ => ⟨qa_Ending, qb_qN, qc_qN, _, qd_qN⟩⟩, nf := fun m m' => match m, m' with | .plain _, .plain _ => nf_Plain_Plain | .plain _, .size _ => nf_Plain_Size | .plain _, .rest _ _ => nf_Plain_Rest | .plain _, .ending _ => nf_Plain_Ending | .size _, .plain _ => nf_Size_Plain | .size _, .size _ => nf_Size_Size | .size _, .rest _ _ => nf_Size_Rest | .size _, .ending _ => nf_Size_Ending | .rest _ _, .plain _ => nf_Rest_Plain | .rest _ _, .size _ => nf_Rest_Size | .rest _ _, .rest _ _ => nf_Rest_Rest | .rest _ _, .ending _ => nf_Rest_Ending | .ending _, .plain _ => nf_Ending_Plain | .ending _, .size _ => nf_Ending_Size | .ending _, .rest _ _ => nf_Ending_Rest | .ending _, .ending _ => nf_Ending_Ending, kRest := fun m => match m with | .plain _ => kr_Plain | .size _ => kr_Size | .rest _ _ => kr_Rest | .ending _ => kr_Ending, kMeas := fun m => match m with | .plain _ => km_Plain | .size _ => km_Size | .rest _ _ => km_Rest | .ending _ => km_Ending, mks := fun m => match m with | .plain _ => ms_Plain | .size _ => ms_Size | .rest _ _ => ms_Rest | .ending _ => ms_Ending, inj := inj, mkPlain := mkPlain, mkSize := mkSize, mkEnding := mkEnding, mkRest := mkRest, isiP := iP, nPm := nPm, nPd := nPd, mPEq := mPEq, mPNeg := mPNeg, qPm := ⟨qPm, qa_qPm, qb_qPm, qc_qPm, _, qd_qPm⟩, qPd := ⟨qPd, qa_qPd, qb_qPd, qc_qPd, _, qd_qPd⟩, nfP := nfP, kP := kP, mkPart := mkPart, cmPart := ⟨mc, pUp_, pDw_, ⟨cr1, cr2⟩, ⟨ca_pUp_, ⟨_, cb_pUp_⟩, cc_pUp_⟩, ⟨ca_pDw_, ⟨_, cb_pDw_⟩, cc_pDw_⟩⟩, isiK := iK, nKp := nKp, mKEq := mfKEq, mKLen := mfKLen, mKAdd := mfKAdd, mKNeg := mfKNeg, mKCont := mfKCont, mKGet := mfKGet, fnKGet := fnKGet, qKp := ⟨qKp, qa_qKp, qb_qKp, qc_qKp, _, qd_qKp⟩, nfK := nfK, kK := kK, sfK := sfK, nbK := nbK, mkKey := mkKey, gBad := PySem.W.mg_of X G r_cBadKey, xBad := xBad, kBad := kBad, bBad := bBad, tBad := tBad, eBad := eBad }, bRange := PySem.W.mg_none_of X G n_range, bMax := PySem.W.mg_none_of X G n_max, bMin := PySem.W.mg_none_of X G n_min, bEnum := PySem.W.mg_none_of X G n_enumerate, gCellAt := PySem.W.mg_of X G r_fCellAt, lCellAt := F_lCellAt, gDraw := PySem.W.mg_of X G r_fDraw, lDraw := F_lDraw, gNumber := PySem.W.mg_of X G r_fNumber, lNumber := F_lNumber, gNext := PySem.W.mg_of X G r_fNext, lNext := F_lNext, gPick := PySem.W.mg_of X G r_fPick, lPick := F_lPick, gCell := PySem.W.mg_of X G r_fCell, lCell := F_lCell, gMeasured := PySem.W.mg_of X G r_fMeasured, lMeasured := F_lMeasured, gMade := PySem.W.mg_of X G r_fMade, lMade := F_lMade, gLPart := PySem.W.mg_of X G r_fLPart, lLPart := F_lLPart, gLKey := PySem.W.mg_of X G r_fLKey, lLKey := F_lLKey, gStands := PySem.W.mg_of X G r_fStands, lStands := F_lStands, gLPlain := PySem.W.mg_of X G r_fLPlain, lLPlain := F_lLPlain, gRefused := PySem.W.mg_of X G r_fRefused, lRefused := F_lRefused, gOneRight := PySem.W.mg_of X G r_fOneRight, lOneRight := F_lOneRight }
  have ee := hfa.symm.trans (PySem.W.mg_of X G r_law)
  cases ee
  obtain ⟨fd, F⟩ := F_law
  refine ⟨fd, fun s v => ?_, fun base _ _ => ok_law L F⟩
  obtain ⟨oc, od, kV, doc, pm, an, cdv, ct, osl, rfl, lk, hcd⟩ := F.ex
  exact .of_eq rfl
theorem walk {l : PySem.W.OpenLaw} {q : Program} {loose : List Str} {XP : (Str → Option Value) → Heap → Prop} {YP : PySem.World → Heap → Prop} {d : DefRec} {K : Params → PySem.W.Frag} (hn : l.most = some 63) (hdf : d.params.defaults = [])
    (hY : ∀ (w : PySem.World) (h : Heap), YP w h → (K w.params).In h)
    (F : ∀ (w : PySem.World) (mg : Str → Option Value) (fa : Addr) (h : Heap), (K w.params).In h → h.Ns mainGlobals mg → mg d.name = some (.ref fa) →
      ∃ fd : FuncData, (∀ (s : Shared) (u : Value), BindsTo s fd ⟨[u], []⟩ [("_law_script", u)]) ∧ ∀ base : Heap, (K w.params).In base → base.Ns mainGlobals mg → FnOk l.prog w (K w.params) mg base CX0 10 fa fd ["_law_script"] (spLaw (K w.params))) :
    PySem.W.WalkO q loose XP YP l.row.toRowW d [] (fun f vs => PySem.call f vs) :=
  L2.walk_of (n := 63) (k := 10) (x := "_law_script") (CX := fun _ => CX0) (sp := fun w => spLaw (K w.params)) hn (by decide) hdf ⟨rfl, by decide, by decide⟩ hY F (fun _ _ a ns hl _ hS => ⟨a, ns, rfl, hS, hl, fun _ => rfl⟩) fun _ _ _ _ _ z => z
end K31
open PySem PySem.W PyProof.Rows
set_option maxHeartbeats 0 in
open_top head for PySem.Challenge.rw_sortreason_k31_whole_keys
open L2 Py K31 in
set_option maxRecDepth 100000 in
set_option maxHeartbeats 0 in
theorem PySem.Challenge.cw_sortreason_k31_whole_keys_holds : PySem.Challenge.rw_sortreason_k31_whole_keys.Holds :=
  head (by
  k_fill
  refine K31.walk (l := PySem.Challenge.rw_sortreason_k31_whole_keys) rfl rfl (fun w h Y => PySem.W.kIn_of Y) ?F
  case F =>
    intro w mg fa h KX G hmg
    refine' K31.all_mk KX G hmg ?vL ?vN ?vM ?n_len ?n_all ?n_isinstance ?n_str ?n_int ?n_bool ?n_type ?n_abs ?n_list ?n_range ?n_max ?n_min ?n_enumerate ?r_fIsName ?r_fIsInteger ?r_fIsBetween ?r_cMeasure ?r_cPlain ?r_cSize ?r_cRest ?r_cEnding ?r_cPart ?r_cKey ?r_cBadKey ?r_fCellAt ?r_fDraw ?r_fNumber ?r_fNext ?r_fPick ?r_fCell ?r_fMeasured ?r_fMade ?r_fLPart ?r_fLKey ?r_fStands ?r_fLPlain ?r_fRefused ?r_fOneRight ?r_law ?mkPlain ?mkSize ?mkEnding ?mkRest ?mkPart ?mkKey ?i_Plain ?nn_Plain ?nd_Plain ?of_Plain ?eq_Plain ?qa_Plain ?nf_Plain_Plain ?nf_Plain_Size ?nf_Plain_Rest ?nf_Plain_Ending ?kr_Plain ?km_Plain ?ms_Plain ?i_Size ?nn_Size ?nd_Size ?of_Size ?eq_Size ?qa_Size ?nf_Size_Plain ?nf_Size_Size ?nf_Size_Rest ?nf_Size_Ending ?kr_Size ?km_Size ?ms_Size ?i_Rest ?nn_Rest ?nd_Rest ?of_Rest ?eq_Rest ?qa_Rest ?nf_Rest_Plain ?nf_Rest_Size ?nf_Rest_Rest ?nf_Rest_Ending ?kr_Rest ?km_Rest ?ms_Rest ?i_Ending ?nn_Ending ?nd_Ending ?of_Ending ?eq_Ending ?qa_Ending ?nf_Ending_Plain ?nf_Ending_Size ?nf_Ending_Rest ?nf_Ending_Ending ?kr_Ending ?km_Ending ?ms_Ending ?qb_qN ?qc_qN ?qd_qN ?inj ?iP ?nPm ?nPd ?mPEq ?mPNeg ?qa_qPm ?qb_qPm ?qc_qPm ?qd_qPm ?qa_qPd ?qb_qPd ?qc_qPd ?qd_qPd ?nfP ?kP ?ty_cP ?cr1 ?cr2 ?ca_pUp_ ?cb_pUp_ ?cc_pUp_ ?ca_pDw_ ?cb_pDw_ ?cc_pDw_ ?iK ?nKp ?mfKEq ?mfKLen ?mfKAdd ?mfKNeg ?mfKCont ?mfKGet ?fnKGet ?qa_qKp ?qb_qKp ?qc_qKp ?qd_qKp ?nfK ?kK ?sfK ?nbK ?xBad ?kBad ?bBad ?tBad ?eBad ?F_isName ?F_isInteger ?F_isBetween ?F_mInit ?F_mEq ?F_mName ?F_plainOf ?F_sizeOf ?F_rEq ?F_rOf ?F_eOf ?F_pEq ?F_pNeg ?F_pUp ?F_pDownw ?F_pMeas ?F_pDown ?F_kInit ?F_kEq ?F_kLen ?F_kAdd ?F_kNeg ?F_kCont ?F_kGet ?F_kParts ?F_lCellAt ?F_lDraw ?F_lNumber ?F_lNext ?F_lPick ?F_lCell ?F_lMeasured ?F_lMade ?F_lLPart ?F_lLKey ?F_lStands ?F_lLPlain ?F_lRefused ?F_lOneRight ?F_law ?F_pInit ?F_rInit ?rSup
    (case vL => k_is)
    (case vN => k_is)
    (case vM => k_is)
    (case n_len => k_is)
    (case n_all => k_is)
    (case n_isinstance => k_is)
    (case n_str => k_is)
    (case n_int => k_is)
    (case n_bool => k_is)
    (case n_type => k_is)
    (case n_abs => k_is)
    (case n_list => k_is)
    (case n_range => k_is)
    (case n_max => k_is)
    (case n_min => k_is)
    (case n_enumerate => k_is)
    (case r_fIsName => k_is)
    (case r_fIsInteger => k_is)
    (case r_fIsBetween => k_is)
    (case r_cMeasure => k_is)
    (case r_cPlain => k_is)
    (case r_cSize => k_is)
    (case r_cRest => k_is)
    (case r_cEnding => k_is)
    (case r_cPart => k_is)
    (case r_cKey => k_is)
    (case r_cBadKey => k_is)
    (case r_fCellAt => k_is)
    (case r_fDraw => k_is)
    (case r_fNumber => k_is)
    (case r_fNext => k_is)
    (case r_fPick => k_is)
    (case r_fCell => k_is)
    (case r_fMeasured => k_is)
    (case r_fMade => k_is)
    (case r_fLPart => k_is)
    (case r_fLKey => k_is)
    (case r_fStands => k_is)
    (case r_fLPlain => k_is)
    (case r_fRefused => k_is)
    (case r_fOneRight => k_is)
    (case r_law => k_is)
    (case mkPlain => (refine' Mk.mk ?m0 ?m1 ?m2 ?m3; (case m0 => k_is); (case m1 => k_is); (case m2 => k_is); (case m3 => k_is)))
    (case mkSize => (refine' Mk.mk ?m0 ?m1 ?m2 ?m3; (case m0 => k_is); (case m1 => k_is); (case m2 => k_is); (case m3 => k_is)))
    (case mkEnding => (refine' Mk.mk ?m0 ?m1 ?m2 ?m3; (case m0 => k_is); (case m1 => k_is); (case m2 => k_is); (case m3 => k_is)))
    (case mkRest => (refine' Mk.mk ?m0 ?m1 ?m2 ?m3; (case m0 => k_is); (case m1 => k_is); (case m2 => k_is); (case m3 => k_is)))
    (case mkPart => (refine' Mk.mk ?m0 ?m1 ?m2 ?m3; (case m0 => k_is); (case m1 => k_is); (case m2 => k_is); (case m3 => k_is)))
    (case mkKey => (refine' Mk.mk ?m0 ?m1 ?m2 ?m3; (case m0 => k_is); (case m1 => k_is); (case m2 => k_is); (case m3 => k_is)))
    (case i_Plain => (refine' IsiC.mk (Cls.mk ?m0 ?m1 ?m2 ?m3) ?m4 ?m5 ?m6 ?m7; (case m0 => k_is); (case m1 => k_is); (case m2 => k_is); (case m3 => k_is); (case m4 => k_is); (case m5 => k_is); (case m6 => k_is); (case m7 => k_is)))
    (case nn_Plain => (show PySem.W.findIn _ _ _ = _; k_is))
    (case nd_Plain => (show PySem.W.findIn _ _ _ = _; k_is))
    (case of_Plain => (refine' Meth.mk ?m0 ?m1 ?m2; (case m0 => k_is); (case m1 => k_is); (case m2 => k_is)))
    (case eq_Plain => (refine' Meth.mk ?m0 ?m1 ?m2; (case m0 => k_is); (case m1 => k_is); (case m2 => k_is)))
    (case qa_Plain => k_is)
    (case nf_Plain_Plain => k_is)
    (case nf_Plain_Size => k_is)
    (case nf_Plain_Rest => k_is)
    (case nf_Plain_Ending => k_is)
    (case kr_Plain => kernel_rfl)
    (case km_Plain => kernel_rfl)
    (case ms_Plain => k_is)
    (case i_Size => (refine' IsiC.mk (Cls.mk ?m0 ?m1 ?m2 ?m3) ?m4 ?m5 ?m6 ?m7; (case m0 => k_is); (case m1 => k_is); (case m2 => k_is); (case m3 => k_is); (case m4 => k_is); (case m5 => k_is); (case m6 => k_is); (case m7 => k_is)))
    (case nn_Size => (show PySem.W.findIn _ _ _ = _; k_is))
    (case nd_Size => (show PySem.W.findIn _ _ _ = _; k_is))
    (case of_Size => (refine' Meth.mk ?m0 ?m1 ?m2; (case m0 => k_is); (case m1 => k_is); (case m2 => k_is)))
    (case eq_Size => (refine' Meth.mk ?m0 ?m1 ?m2; (case m0 => k_is); (case m1 => k_is); (case m2 => k_is)))
    (case qa_Size => k_is)
    (case nf_Size_Plain => k_is)
    (case nf_Size_Size => k_is)
    (case nf_Size_Rest => k_is)
    (case nf_Size_Ending => k_is)
    (case kr_Size => kernel_rfl)
    (case km_Size => kernel_rfl)
    (case ms_Size => k_is)
    (case i_Rest => (refine' IsiC.mk (Cls.mk ?m0 ?m1 ?m2 ?m3) ?m4 ?m5 ?m6 ?m7; (case m0 => k_is); (case m1 => k_is); (case m2 => k_is); (case m3 => k_is); (case m4 => k_is); (case m5 => k_is); (case m6 => k_is); (case m7 => k_is)))
    (case nn_Rest => (show PySem.W.findIn _ _ _ = _; k_is))
    (case nd_Rest => (show PySem.W.findIn _ _ _ = _; k_is))
    (case of_Rest => (refine' Meth.mk ?m0 ?m1 ?m2; (case m0 => k_is); (case m1 => k_is); (case m2 => k_is)))
    (case eq_Rest => (refine' Meth.mk ?m0 ?m1 ?m2; (case m0 => k_is); (case m1 => k_is); (case m2 => k_is)))
    (case qa_Rest => k_is)
    (case nf_Rest_Plain => k_is)
    (case nf_Rest_Size => k_is)
    (case nf_Rest_Rest => k_is)
    (case nf_Rest_Ending => k_is)
    (case kr_Rest => kernel_rfl)
    (case km_Rest => kernel_rfl)
    (case ms_Rest => k_is)
    (case i_Ending => (refine' IsiC.mk (Cls.mk ?m0 ?m1 ?m2 ?m3) ?m4 ?m5 ?m6 ?m7; (case m0 => k_is); (case m1 => k_is); (case m2 => k_is); (case m3 => k_is); (case m4 => k_is); (case m5 => k_is); (case m6 => k_is); (case m7 => k_is)))
    (case nn_Ending => (show PySem.W.findIn _ _ _ = _; k_is))
    (case nd_Ending => (show PySem.W.findIn _ _ _ = _; k_is))
    (case of_Ending => (refine' Meth.mk ?m0 ?m1 ?m2; (case m0 => k_is); (case m1 => k_is); (case m2 => k_is)))
    (case eq_Ending => (refine' Meth.mk ?m0 ?m1 ?m2; (case m0 => k_is); (case m1 => k_is); (case m2 => k_is)))
    (case qa_Ending => k_is)
    (case nf_Ending_Plain => k_is)
    (case nf_Ending_Size => k_is)
    (case nf_Ending_Rest => k_is)
    (case nf_Ending_Ending => k_is)
    (case kr_Ending => kernel_rfl)
    (case km_Ending => kernel_rfl)
    (case ms_Ending => k_is)
    (case qb_qN => k_is)
    (case qc_qN => k_is)
    (case qd_qN => k_is)
    (case inj => decide)
    (case iP => (refine' IsiC.mk (Cls.mk ?m0 ?m1 ?m2 ?m3) ?m4 ?m5 ?m6 ?m7; (case m0 => k_is); (case m1 => k_is); (case m2 => k_is); (case m3 => k_is); (case m4 => k_is); (case m5 => k_is); (case m6 => k_is); (case m7 => k_is)))
    (case nPm => (show PySem.W.findIn _ _ _ = _; k_is))
    (case nPd => (show PySem.W.findIn _ _ _ = _; k_is))
    (case mPEq => (refine' Meth.mk ?m0 ?m1 ?m2; (case m0 => k_is); (case m1 => k_is); (case m2 => k_is)))
    (case mPNeg => (refine' Meth.mk ?m0 ?m1 ?m2; (case m0 => k_is); (case m1 => k_is); (case m2 => k_is)))
    (case qa_qPm => k_is)
    (case qb_qPm => k_is)
    (case qc_qPm => k_is)
    (case qd_qPm => k_is)
    (case qa_qPd => k_is)
    (case qb_qPd => k_is)
    (case qc_qPd => k_is)
    (case qd_qPd => k_is)
    (case nfP => k_is)
    (case kP => kernel_rfl)
    (case ty_cP => k_is)
    (case cr1 => k_is)
    (case cr2 => k_is)
    (case ca_pUp_ => k_is)
    (case cb_pUp_ => k_is)
    (case cc_pUp_ => k_is)
    (case ca_pDw_ => k_is)
    (case cb_pDw_ => k_is)
    (case cc_pDw_ => k_is)
    (case iK => (refine' IsiC.mk (Cls.mk ?m0 ?m1 ?m2 ?m3) ?m4 ?m5 ?m6 ?m7; (case m0 => k_is); (case m1 => k_is); (case m2 => k_is); (case m3 => k_is); (case m4 => k_is); (case m5 => k_is); (case m6 => k_is); (case m7 => k_is)))
    (case nKp => (show PySem.W.findIn _ _ _ = _; k_is))
    (case mfKEq => (refine' Meth.mk ?m0 ?m1 ?m2; (case m0 => k_is); (case m1 => k_is); (case m2 => k_is)))
    (case mfKLen => (refine' Meth.mk ?m0 ?m1 ?m2; (case m0 => k_is); (case m1 => k_is); (case m2 => k_is)))
    (case mfKAdd => (refine' Meth.mk ?m0 ?m1 ?m2; (case m0 => k_is); (case m1 => k_is); (case m2 => k_is)))
    (case mfKNeg => (refine' Meth.mk ?m0 ?m1 ?m2; (case m0 => k_is); (case m1 => k_is); (case m2 => k_is)))
    (case mfKCont => (refine' Meth.mk ?m0 ?m1 ?m2; (case m0 => k_is); (case m1 => k_is); (case m2 => k_is)))
    (case mfKGet => (refine' Meth.mk ?m0 ?m1 ?m2; (case m0 => k_is); (case m1 => k_is); (case m2 => k_is)))
    (case fnKGet => k_is)
    (case qa_qKp => k_is)
    (case qb_qKp => k_is)
    (case qc_qKp => k_is)
    (case qd_qKp => k_is)
    (case nfK => k_is)
    (case kK => kernel_rfl)
    (case sfK => k_is)
    (case nbK => k_is)
    (case xBad => k_exc)
    (case kBad => k_is)
    (case bBad => k_is)
    (case tBad => k_is)
    (case eBad => kernel_rfl)
    (case F_isName => (refine' K31.funE ?l ?c ?k; (case l => k_is); (case c => k_is); (case k => k_is)))
    (case F_isInteger => (refine' K31.funE ?l ?c ?k; (case l => k_is); (case c => k_is); (case k => k_is)))
    (case F_isBetween => (refine' K31.funE ?l ?c ?k; (case l => k_is); (case c => k_is); (case k => k_is)))
    (case F_mInit => (refine' K31.funE ?l ?c ?k; (case l => k_is); (case c => k_is); (case k => k_is)))
    (case F_mEq => (refine' K31.funE ?l ?c ?k; (case l => k_is); (case c => k_is); (case k => k_is)))
    (case F_mName => (refine' K31.funE ?l ?c ?k; (case l => k_is); (case c => k_is); (case k => k_is)))
    (case F_plainOf => (refine' K31.funE ?l ?c ?k; (case l => k_is); (case c => k_is); (case k => k_is)))
    (case F_sizeOf => (refine' K31.funE ?l ?c ?k; (case l => k_is); (case c => k_is); (case k => k_is)))
    (case F_rEq => (refine' K31.funE ?l ?c ?k; (case l => k_is); (case c => k_is); (case k => k_is)))
    (case F_rOf => (refine' K31.funE ?l ?c ?k; (case l => k_is); (case c => k_is); (case k => k_is)))
    (case F_eOf => (refine' K31.funE ?l ?c ?k; (case l => k_is); (case c => k_is); (case k => k_is)))
    (case F_pEq => (refine' K31.funE ?l ?c ?k; (case l => k_is); (case c => k_is); (case k => k_is)))
    (case F_pNeg => (refine' K31.funE ?l ?c ?k; (case l => k_is); (case c => k_is); (case k => k_is)))
    (case F_pUp => (refine' K31.funE ?l ?c ?k; (case l => k_is); (case c => k_is); (case k => k_is)))
    (case F_pDownw => (refine' K31.funE ?l ?c ?k; (case l => k_is); (case c => k_is); (case k => k_is)))
    (case F_pMeas => (refine' K31.funE ?l ?c ?k; (case l => k_is); (case c => k_is); (case k => k_is)))
    (case F_pDown => (refine' K31.funE ?l ?c ?k; (case l => k_is); (case c => k_is); (case k => k_is)))
    (case F_kInit => (refine' K31.funE ?l ?c ?k; (case l => k_is); (case c => k_is); (case k => k_is)))
    (case F_kEq => (refine' K31.funE ?l ?c ?k; (case l => k_is); (case c => k_is); (case k => k_is)))
    (case F_kLen => (refine' K31.funE ?l ?c ?k; (case l => k_is); (case c => k_is); (case k => k_is)))
    (case F_kAdd => (refine' K31.funE ?l ?c ?k; (case l => k_is); (case c => k_is); (case k => k_is)))
    (case F_kNeg => (refine' K31.funE ?l ?c ?k; (case l => k_is); (case c => k_is); (case k => k_is)))
    (case F_kCont => (refine' K31.funE ?l ?c ?k; (case l => k_is); (case c => k_is); (case k => k_is)))
    (case F_kGet => (refine' K31.funE ?l ?c ?k; (case l => k_is); (case c => k_is); (case k => k_is)))
    (case F_kParts => (refine' K31.funE ?l ?c ?k; (case l => k_is); (case c => k_is); (case k => k_is)))
    (case F_lCellAt => (refine' K31.funE ?l ?c ?k; (case l => k_is); (case c => k_is); (case k => k_is)))
    (case F_lDraw => (refine' K31.funE ?l ?c ?k; (case l => k_is); (case c => k_is); (case k => k_is)))
    (case F_lNumber => (refine' K31.funE ?l ?c ?k; (case l => k_is); (case c => k_is); (case k => k_is)))
    (case F_lNext => (refine' K31.funE ?l ?c ?k; (case l => k_is); (case c => k_is); (case k => k_is)))
    (case F_lPick => (refine' K31.funE ?l ?c ?k; (case l => k_is); (case c => k_is); (case k => k_is)))
    (case F_lCell => (refine' K31.funE ?l ?c ?k; (case l => k_is); (case c => k_is); (case k => k_is)))
    (case F_lMeasured => (refine' K31.funE ?l ?c ?k; (case l => k_is); (case c => k_is); (case k => k_is)))
    (case F_lMade => (refine' K31.funE ?l ?c ?k; (case l => k_is); (case c => k_is); (case k => k_is)))
    (case F_lLPart => (refine' K31.funE ?l ?c ?k; (case l => k_is); (case c => k_is); (case k => k_is)))
    (case F_lLKey => (refine' K31.funE ?l ?c ?k; (case l => k_is); (case c => k_is); (case k => k_is)))
    (case F_lStands => (refine' K31.funE ?l ?c ?k; (case l => k_is); (case c => k_is); (case k => k_is)))
    (case F_lLPlain => (refine' K31.funE ?l ?c ?k; (case l => k_is); (case c => k_is); (case k => k_is)))
    (case F_lRefused => (refine' K31.funE ?l ?c ?k; (case l => k_is); (case c => k_is); (case k => k_is)))
    (case F_lOneRight => (refine' K31.funE ?l ?c ?k; (case l => k_is); (case c => k_is); (case k => k_is)))
    (case F_law => (refine' K31.funE ?l ?c ?k; (case l => k_is); (case c => k_is); (case k => k_is)))
    (case F_pInit => (refine' K31.funD1 ?l ?c ?k ?w; (case l => k_is); (case c => k_is); (case k => k_is); (case w => k_is)))
    (case F_rInit => (refine' K31.funC1 ?l ?c ?lc ?hv ?hf ?le ?cl ?ns ?tp ?an; (case l => k_is); (case c => k_is); (case lc => k_is); (case hv => rfl); (case hf => kernel_rfl); (case le => k_is); (case cl => k_is); (case ns => k_is); (case tp => kernel_rfl); (case an => k_is)))
    (case rSup => (refine' SupM.mk ?a ?b ?c ?d; (case a => k_is); (case b => kernel_rfl); (case c => k_is); (case d => k_is))))
