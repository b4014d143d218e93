import PyProof.Rows.All
import Wide.All
import OpenK.AllK
import Wide.FinOn
import HandS.ForMost
import HandS.ForExc
import HandS.IsInst
import HandS.Wide
import HandS.Deep
import HandS.SetFor
import HandS.SortInts
import HandS.EndBits
import HandS.Property
import HandS.Codes
import HandS.Strs
import HandS.ExcInit
import HandS.ExcSuper
import HandS.FStr
import KE.KExcSuper
import HandS.ExcCtx
import HandS.HotCalls
import HandS.ExcIs
import HandS.ExcField
import KE.KExcIs
import HandS.Text
import PyProof.Draws
import HandS.Defaults
import HandS.CallSlots
import HandS.MakeKwOnly
import KE.RegKIsAll
import KE.RegKSuper
import HandS.TryMany
import HandS.RevRange
import KE.KRevSl
import OpenK.KMeth
import PySem.Challenge.RW_climbrow_k16_whole_span_of_all_pairings
set_option Elab.async false
set_option linter.all false
set_option maxRecDepth 100000
/-! A pure layer over the hand layer: values without addresses, what represents them, states of slots. -/
namespace Pv
open PySem PySem.Spec PyProof.Rows L2

/-- a pure value -/
inductive PV where
  | non | bl (b : Bool) | int (i : Int) | str (x : Str)
  | lst (xs : List PV) | tup (xs : List PV)
  | obj (c : Nat) (vs : List PV)
  | scr (xs : List Int)

/-- own classes: where they stand, their fields -/
structure CT where
  K : PySem.W.Frag
  addr : Nat → Addr
  fld : Nat → List Str

def LIM : Nat := 1000000
theorem lim_size {n : Nat} (h : n ≤ LIM) : n < sizeLine := Nat.lt_of_le_of_lt h (by decide)

mutual
def Rep (T : CT) (H : Hp) (G : Addr → Prop) : PV → V → Prop
  | .non, v => v = .non
  | .bl b, v => v = .bl b
  | .int i, v => v = .int i
  | .str x, v => v = .str x ∧ x.length ≤ LIM ∧ PyData.canLay0 (.str x) = true
  | .lst xs, v => ∃ a vs, v = .ref a ∧ ¬ G a ∧ H a = some (.lst vs) ∧ vs.length ≤ LIM ∧ Reps T H G xs vs
  | .tup xs, v => ∃ a vs, v = .ref a ∧ ¬ G a ∧ H a = some (.tup vs) ∧ vs.length ≤ LIM ∧ Reps T H G xs vs
  | .obj c xs, v => ∃ a dx vs, v = .ref a ∧ ¬ G a ∧ H a = some (.ins (T.addr c) dx ((T.fld c).zip vs)) ∧ (T.fld c).length = vs.length ∧ Reps T H G xs vs
  | .scr ns, v => ∃ a, v = .ref a ∧ ((Rd H a (.lst (ns.map V.int)) ∧ ¬ G a) ∨ SqL T.K (fun _ => none) a (ns.map V.int))
def Reps (T : CT) (H : Hp) (G : Addr → Prop) : List PV → List V → Prop
  | [], vs => vs = []
  | x :: xs, vs => ∃ v r, vs = v :: r ∧ Rep T H G x v ∧ Reps T H G xs r
end

theorem rd_same {H H' : Hp} (e : Same H H') {a : Addr} {u : HO} (h : Rd H a u) : Rd H' a u := by
  rcases h with h | ⟨o, h⟩
  · exact .inl (e _ _ h)
  · exact .inr ⟨o, e _ _ h⟩
theorem rd_dom {H : Hp} {a : Addr} {u : HO} (h : Rd H a u) : H a ≠ none := by
  rcases h with h | ⟨o, h⟩ <;> rw [h] <;> exact fun z => nomatch z
theorem rd_upd {H : Hp} {p a : Addr} {o u : HO} (n : a ≠ p) (h : Rd H a u) : Rd (upd H p o) a u := by
  rcases h with h | ⟨o, h⟩
  · exact .inl (by rw [upd_ne n]; exact h)
  · exact .inr ⟨o, by rw [upd_ne n]; exact h⟩

/-! one lemma for all changes of the heap and of what is avoided -/
mutual
theorem Rep.move {T : CT} {H H' : Hp} {G G' : Addr → Prop} (k : ∀ a u, H a = some u → ¬ G a → H' a = some u ∧ ¬ G' a) : ∀ (p : PV) (v : V), Rep T H G p v → Rep T H' G' p v
  | .non, _, h => h
  | .bl _, _, h => h
  | .int _, _, h => h
  | .str _, _, h => h
  | .lst xs, v, h => by
    unfold Rep at h ⊢
    obtain ⟨a, vs, e, g, r, l, q⟩ := h
    exact ⟨a, vs, e, (k _ _ r g).2, (k _ _ r g).1, l, Reps.move k xs vs q⟩
  | .tup xs, v, h => by
    unfold Rep at h ⊢
    obtain ⟨a, vs, e, g, r, l, q⟩ := h
    exact ⟨a, vs, e, (k _ _ r g).2, (k _ _ r g).1, l, Reps.move k xs vs q⟩
  | .obj c xs, v, h => by
    unfold Rep at h ⊢
    obtain ⟨a, dx, vs, e, g, r, l, q⟩ := h
    exact ⟨a, dx, vs, e, (k _ _ r g).2, (k _ _ r g).1, l, Reps.move k xs vs q⟩
  | .scr ns, v, h => by
    unfold Rep at h ⊢
    obtain ⟨a, e, h⟩ := h
    refine ⟨a, e, ?_⟩
    rcases h with ⟨r | ⟨o, r⟩, g⟩ | h
    · exact .inl ⟨.inl (k _ _ r g).1, (k _ _ r g).2⟩
    · exact .inl ⟨.inr ⟨o, (k _ _ r g).1⟩, (k _ _ r g).2⟩
    · exact .inr h
theorem Reps.move {T : CT} {H H' : Hp} {G G' : Addr → Prop} (k : ∀ a u, H a = some u → ¬ G a → H' a = some u ∧ ¬ G' a) : ∀ (ps : List PV) (vs : List V), Reps T H G ps vs → Reps T H' G' ps vs
  | [], _, h => h
  | x :: xs, vs, h => by
    unfold Reps at h ⊢
    obtain ⟨v, r, e, h1, h2⟩ := h
    exact ⟨v, r, e, Rep.move k x v h1, Reps.move k xs r h2⟩
end
section
variable {T : CT} {H H' : Hp} {G G' : Addr → Prop} {p : PV} {v : V} {ps : List PV} {vs : List V}
theorem Rep.same (e : Same H H') (h : Rep T H G p v) : Rep T H' G p v := Rep.move (fun a u r g => ⟨e _ _ r, g⟩) _ _ h
theorem Reps.same (e : Same H H') (h : Reps T H G ps vs) : Reps T H' G ps vs := Reps.move (fun a u r g => ⟨e _ _ r, g⟩) _ _ h
theorem Rep.weak (e : ∀ a, G' a → G a) (h : Rep T H G p v) : Rep T H G' p v := Rep.move (fun a u r g => ⟨r, fun z => g (e a z)⟩) _ _ h
theorem Reps.weak (e : ∀ a, G' a → G a) (h : Reps T H G ps vs) : Reps T H G' ps vs := Reps.move (fun a u r g => ⟨r, fun z => g (e a z)⟩) _ _ h
theorem Rep.upd {a : Addr} {o : HO} (g : G a) (h : Rep T H G p v) : Rep T (upd H a o) G p v := Rep.move (fun b u r gb => ⟨by rw [upd_ne (fun z : b = a => gb (by rw [z]; exact g))]; exact r, gb⟩) _ _ h
theorem Reps.upd {a : Addr} {o : HO} (g : G a) (h : Reps T H G ps vs) : Reps T (upd H a o) G ps vs := Reps.move (fun b u r gb => ⟨by rw [upd_ne (fun z : b = a => gb (by rw [z]; exact g))]; exact r, gb⟩) _ _ h
/-- what stood before knows nothing of an address that was free -/
theorem Rep.free {a : Addr} (n : H a = none) (h : Rep T H G p v) : Rep T H (fun b => G b ∨ b = a) p v := Rep.move (fun b u r gb => ⟨r, fun z => z.elim gb fun e => by rw [e, n] at r; cases r⟩) _ _ h
theorem Reps.free {a : Addr} (n : H a = none) (h : Reps T H G ps vs) : Reps T H (fun b => G b ∨ b = a) ps vs := Reps.move (fun b u r gb => ⟨r, fun z => z.elim gb fun e => by rw [e, n] at r; cases r⟩) _ _ h
theorem Reps.len : ∀ {ps : List PV} {vs : List V}, Reps T H G ps vs → ps.length = vs.length
  | [], _, h => by unfold Reps at h; rw [h]; rfl
  | _ :: xs, _, h => by
    unfold Reps at h
    obtain ⟨v, r, e, _, h2⟩ := h
    rw [e, List.length_cons, List.length_cons, Reps.len h2]
theorem reps_nil : Reps T H G [] [] := by unfold Reps; rfl
theorem reps_cons (h : Rep T H G p v) (k : Reps T H G ps vs) : Reps T H G (p :: ps) (v :: vs) := by unfold Reps; exact ⟨_, _, rfl, h, k⟩
theorem Reps.app : ∀ {ps qs : List PV} {vs us : List V}, Reps T H G ps vs → Reps T H G qs us → Reps T H G (ps ++ qs) (vs ++ us)
  | [], _, _, _, h, k => by unfold Reps at h; rw [h]; exact k
  | x :: xs, _, _, _, h, k => by
    unfold Reps at h
    obtain ⟨v, r, e, h1, h2⟩ := h
    rw [e]
    exact reps_cons h1 (Reps.app h2 k)
theorem Reps.get : ∀ {ps : List PV} {vs : List V} {i : Nat} {p : PV}, Reps T H G ps vs → ps[i]? = some p → ∃ v, vs[i]? = some v ∧ Rep T H G p v
  | [], _, _, _, _, e => by simp at e
  | x :: xs, _, 0, _, h, e => by
    unfold Reps at h
    obtain ⟨v, r, e1, h1, h2⟩ := h
    rw [e1]
    have e2 := Option.some.inj (show some x = some _ from e)
    rw [← e2]
    exact ⟨v, rfl, h1⟩
  | x :: xs, _, i + 1, _, h, e => by
    unfold Reps at h
    obtain ⟨v, r, e1, h1, h2⟩ := h
    rw [e1]
    exact Reps.get (i := i) h2 (by simpa using e)
theorem Reps.set : ∀ {ps : List PV} {vs : List V} {p : PV} {v : V} (i : Nat), Reps T H G ps vs → Rep T H G p v → Reps T H G (ps.set i p) (vs.set i v)
  | [], _, _, _, _, h, _ => by unfold Reps at h; rw [h]; exact reps_nil
  | x :: xs, _, _, _, 0, h, k => by
    unfold Reps at h
    obtain ⟨v, r, e1, h1, h2⟩ := h
    rw [e1]
    exact reps_cons k h2
  | x :: xs, _, _, _, i + 1, h, k => by
    unfold Reps at h
    obtain ⟨v, r, e1, h1, h2⟩ := h
    rw [e1]
    exact reps_cons h1 (Reps.set i h2 k)
theorem Reps.take : ∀ {ps : List PV} {vs : List V} (n : Nat), Reps T H G ps vs → Reps T H G (ps.take n) (vs.take n)
  | [], _, n, h => by unfold Reps at h; rw [h]; simp; exact reps_nil
  | x :: xs, _, 0, h => by simp; exact reps_nil
  | x :: xs, _, n + 1, h => by
    unfold Reps at h
    obtain ⟨v, r, e1, h1, h2⟩ := h
    rw [e1]
    exact reps_cons h1 (Reps.take n h2)
theorem Reps.drop : ∀ {ps : List PV} {vs : List V} (n : Nat), Reps T H G ps vs → Reps T H G (ps.drop n) (vs.drop n)
  | [], _, n, h => by unfold Reps at h; rw [h]; simp; exact reps_nil
  | x :: xs, _, 0, h => by simpa using h
  | x :: xs, _, n + 1, h => by
    unfold Reps at h
    obtain ⟨v, r, e1, h1, h2⟩ := h
    rw [e1]
    exact Reps.drop n h2
theorem Reps.rev : ∀ {ps : List PV} {vs : List V}, Reps T H G ps vs → Reps T H G ps.reverse vs.reverse
  | [], _, h => by unfold Reps at h; rw [h]; exact reps_nil
  | x :: xs, _, h => by
    unfold Reps at h
    obtain ⟨v, r, e1, h1, h2⟩ := h
    rw [e1, List.reverse_cons, List.reverse_cons]
    exact (Reps.rev h2).app (reps_cons h1 reps_nil)
end

/-! ### typed values -/
class Enc (α : Type) where
  enc : α → PV
open Enc (enc)
instance : Enc PV := ⟨id⟩
instance : Enc Int := ⟨.int⟩
instance : Enc Bool := ⟨.bl⟩
instance : Enc Str := ⟨.str⟩
instance : Enc Unit := ⟨fun _ => .non⟩
instance {α : Type} [Enc α] : Enc (List α) := ⟨fun xs => .lst (xs.map enc)⟩
instance {α : Type} [Enc α] : Enc (Option α) := ⟨fun x => match x with | none => .non | some a => enc a⟩
/-- the script as it comes -/
structure Scr where
  xs : List Int
instance : Enc Scr := ⟨fun s => .scr s.xs⟩
/-- a tuple (its places as a nested pair) -/
structure Tp (α : Type) where
  t : α
class Encs (α : Type) where
  encs : α → List PV
open Encs (encs)
instance : Encs Unit := ⟨fun _ => []⟩
instance {α β : Type} [Enc α] [Encs β] : Encs (α × β) := ⟨fun x => enc x.1 :: encs x.2⟩
instance {α : Type} [Encs α] : Enc (Tp α) := ⟨fun x => .tup (encs x.t)⟩

/-- no address in it -/
class Flat (α : Type) [Enc α] : Prop where
  flat : ∀ a : α, (∃ i, enc a = .int i) ∨ (∃ b, enc a = .bl b) ∨ (∃ x, enc a = .str x) ∨ enc a = .non
instance : Flat Int := ⟨fun i => .inl ⟨i, rfl⟩⟩
instance : Flat Bool := ⟨fun b => .inr (.inl ⟨b, rfl⟩)⟩
instance : Flat Str := ⟨fun x => .inr (.inr (.inl ⟨x, rfl⟩))⟩
instance : Flat Unit := ⟨fun _ => .inr (.inr (.inr rfl))⟩
instance {α : Type} [Enc α] [Flat α] : Flat (Option α) := ⟨fun x => match x with
  | none => .inr (.inr (.inr rfl))
  | some a => Flat.flat a⟩
theorem Rep.flat {T : CT} {H H' : Hp} {G G' : Addr → Prop} {α : Type} [Enc α] [Flat α] {a : α} {v : V} (h : Rep T H G (enc a) v) : Rep T H' G' (enc a) v := by
  rcases Flat.flat a with ⟨i, e⟩ | ⟨i, e⟩ | ⟨i, e⟩ | e <;> rw [e] at h ⊢ <;> exact h
theorem Reps.flat {T : CT} {H H' : Hp} {G G' : Addr → Prop} {α : Type} [Enc α] [Flat α] : ∀ {xs : List α} {vs : List V}, Reps T H G (xs.map enc) vs → Reps T H' G' (xs.map enc) vs
  | [], _, h => h
  | x :: xs, _, h => by
    rw [List.map_cons] at h ⊢
    unfold Reps at h
    obtain ⟨v, r, e1, h1, h2⟩ := h
    rw [e1]
    exact reps_cons (Rep.flat h1) (Reps.flat h2)

/-! ### outcomes -/
/-- how a def hands back: any value, or a list that it made -/
inductive Lv where | raw | pa | fr
inductive RM where
  | val (l : Lv) | nw (l : Lv)
structure Exc where
  c : Nat
  vs : List PV
inductive R (α : Type) where
  | ok (a : α) | ex (x : Exc) | bad
def R.bind {α β : Type} (m : R α) (k : α → R β) : R β := match m with
  | .ok a => k a
  | .ex x => .ex x
  | .bad => .bad
def R.of {α : Type} (o : Option α) : R α := match o with
  | some a => .ok a
  | none => .bad
@[simp] theorem R.of_some {α : Type} (a : α) : R.of (some a) = .ok a := rfl
@[simp] theorem R.of_none {α : Type} : R.of (none : Option α) = .bad := rfl
def R.lt {α β : Type} (a : α) (k : α → R β) : R β := k a
def R.ite {α : Type} (b : Bool) (m n : R α) : R α := match b with
  | true => m
  | false => n
def R.ifm {α : Type} (c : R Bool) (m n : R α) : R α := c.bind fun b => R.ite b m n
/-- no exception -/
def R.nox {α : Type} : R α → R α
  | .ok a => .ok a
  | _ => .bad
@[simp] theorem R.bind_ok {α β : Type} (a : α) (k : α → R β) : (R.ok a).bind k = k a := rfl
@[simp] theorem R.bind_bad {α β : Type} (k : α → R β) : (R.bad).bind k = .bad := rfl
@[simp] theorem R.bind_ex {α β : Type} (x : Exc) (k : α → R β) : (R.ex x).bind k = .ex x := rfl
@[simp] theorem R.lt_eq {α β : Type} (a : α) (k : α → R β) : R.lt a k = k a := rfl
@[simp] theorem R.ite_t {α : Type} (m n : R α) : R.ite true m n = m := rfl
@[simp] theorem R.ite_f {α : Type} (m n : R α) : R.ite false m n = n := rfl
@[simp] theorem R.nox_ok {α : Type} (a : α) : (R.ok a).nox = .ok a := rfl
theorem R.bind_assoc {α β γ : Type} (m : R α) (k : α → R β) (l : β → R γ) : (m.bind k).bind l = m.bind fun a => (k a).bind l := by cases m <;> rfl
end Pv

set_option Elab.async false
set_option linter.all false
set_option maxRecDepth 100000
namespace Pv
open PySem PySem.Spec L2
open Enc (enc)
open Encs (encs)

/-- a slot: nothing is known; a value that is not changed any more; a list that only this slot has -/
inductive Sl where
  | un | sh (l : Lv) (p : PV) | ow (l : Lv) (xs : List PV)
  | xv (a : Addr) (d : Option Addr) (x : Exc)
  | tw (ps : List PV)
def notOw : Sl → Bool
  | .ow _ _ => false
  | .tw _ => false
  | _ => true
/-- no address in it -/
def flV : PV → Bool
  | .int _ => true
  | .str _ => true
  | .bl _ => true
  | .non => true
  | _ => false
theorem Rep.flV {T : CT} {H H' : Hp} {G G' : Addr → Prop} {p : PV} {v : V} (h : Rep T H G p v) (f : Pv.flV p = true) : Rep T H' G' p v := by
  cases p with
  | int i => exact h
  | str y => exact h
  | bl b => exact h
  | non => exact h
  | lst xs => cases f
  | tup xs => cases f
  | obj c vs => cases f
  | scr xs => cases f
theorem Reps.flV {T : CT} {H H' : Hp} {G G' : Addr → Prop} : ∀ {ps : List PV} {vs : List V}, Reps T H G ps vs → ps.all Pv.flV = true → Reps T H' G' ps vs
  | [], _, h, _ => h
  | p :: ps, vs, h, f => by
    unfold Reps at h
    obtain ⟨v, r, e, h1, h2⟩ := h
    rw [List.all_cons, Bool.and_eq_true] at f
    rw [e]
    exact reps_cons (h1.flV f.1) (h2.flV f.2)
/-- the fields of a caught exception -/
def XvOk (T : CT) (H : Hp) (d : Option Addr) (x : Exc) : Prop :=
  x.vs.all flV = true ∧ ((d = none ∧ x.vs = []) ∨ ∃ dx us, d = some dx ∧ H dx = some (.xd ((T.fld x.c).zip us)) ∧ (T.fld x.c).length = us.length ∧ Reps T H (fun _ => False) x.vs us)
theorem XvOk.same {T : CT} {H H' : Hp} {d : Option Addr} {x : Exc} (h : XvOk T H d x) (s : ∀ a o, H a = some (.xd o) → H' a = some (.xd o)) : XvOk T H' d x := by
  obtain ⟨h1, h2⟩ := h
  refine ⟨h1, h2.imp id ?_⟩
  rintro ⟨dx, us, e, h3, h4, h5⟩
  exact ⟨dx, us, e, s _ _ h3, h4, h5.flV h1⟩
/-- what stands around: the classes, the heap at the entry, the wish about exceptions -/
structure Cn where
  T : CT
  H0 : Hp
  W : Option WX
  M : RM

/-- what a value of this sort has nothing to do with -/
def av (l : Lv) (H0 : Hp) (G : Addr → Prop) (os : List (Option Addr)) (a : Addr) : Prop := match l with
  | .raw => False
  | .pa => G a ∨ some a ∈ os
  | .fr => H0 a ≠ none ∨ G a ∨ some a ∈ os
def Lv.st : Lv → Prop
  | .raw => False
  | _ => True

/-- the items of a tuple whose one list (of flat items) at the address o is owned, all others flat -/
def TwOk (T : CT) (H : Hp) (o : Option Addr) : List PV → List V → Prop
  | [], vs => vs = []
  | p :: ps, vs => ∃ v r, vs = v :: r ∧ ((flV p = true ∧ Rep T H (fun _ => False) p v) ∨ ∃ xs a ws, p = .lst xs ∧ xs.all flV = true ∧ o = some a ∧ v = .ref a ∧ H a = some (.lst ws) ∧ ws.length ≤ LIM ∧ Reps T H (fun _ => False) xs ws) ∧ TwOk T H o ps r
theorem TwOk.move {T : CT} {H H' : Hp} {o : Option Addr} (k : ∀ a ws, o = some a → H a = some (.lst ws) → H' a = some (.lst ws)) : ∀ {ps : List PV} {vs : List V}, TwOk T H o ps vs → TwOk T H' o ps vs
  | [], _, h => h
  | p :: ps, _, h => by
    obtain ⟨v, r, e, h1, h2⟩ := h
    refine ⟨v, r, e, ?_, h2.move k⟩
    rcases h1 with ⟨f, r1⟩ | ⟨xs, a, ws, e1, f, e2, e3, e4, e5, e6⟩
    · exact .inl ⟨f, r1.flV f⟩
    · exact .inr ⟨xs, a, ws, e1, f, e2, e3, k a ws e2 e4, e5, e6.flV f⟩
def SlOk (C : Cn) (G : Addr → Prop) (os : List (Option Addr)) (H : Hp) (i : Nat) (σ : St) : Sl → Prop
  | .un => os[i]? = some none
  | .sh l p => l.st ∧ os[i]? = some none ∧ ∃ v, σ[i]? = some (some v) ∧ Rep C.T H (av l C.H0 G os) p v
  | .ow l xs => l.st ∧ ∃ a vs, os[i]? = some (some a) ∧ σ[i]? = some (some (.ref a)) ∧ H a = some (.lst vs) ∧ vs.length ≤ LIM ∧ Reps C.T H (av l C.H0 G os) xs vs
  | .xv a d x => os[i]? = some none ∧ σ[i]? = some (some (.ref a)) ∧ XvOk C.T H d x
  | .tw ps => ∃ o t vs, os[i]? = some o ∧ σ[i]? = some (some (.ref t)) ∧ H t = some (.tup vs) ∧ vs.length ≤ LIM ∧ TwOk C.T H o ps vs

/-- values that lie about: they stay what they are -/
abbrev Hid := List (Lv × PV × V)
structure OkW (C : Cn) (G : Addr → Prop) (Γ : List Sl) (hid : Hid) (os : List (Option Addr)) (σ : St) (H : Hp) : Prop where
  lo : os.length = Γ.length
  ls : σ.length = Γ.length
  ext : Same C.H0 H
  dom : ∀ a, G a → H a ≠ none
  new : ∀ a : Addr, some a ∈ os → C.H0 a = none ∧ H a ≠ none ∧ ¬ G a
  inj : ∀ (i j : Nat) (a : Addr), os[i]? = some (some a) → os[j]? = some (some a) → i = j
  sl : ∀ (i : Nat) (s : Sl), Γ[i]? = some s → SlOk C G os H i σ s
  hd : ∀ q ∈ hid, q.1.st ∧ Rep C.T H (av q.1 C.H0 G os) q.2.1 q.2.2

section
variable {C : Cn} {G : Addr → Prop} {Γ : List Sl} {hid : Hid} {os : List (Option Addr)} {σ : St} {H H' : Hp} {l : Lv} {p : PV} {v : V} {a : Addr} {i : Nat}

theorem OkW.avdom (K : OkW C G Γ hid os σ H) (l : Lv) (a : Addr) (h : av l C.H0 G os a) : H a ≠ none := by
  cases l with
  | raw => exact h.elim
  | pa => exact h.elim (K.dom a) fun h => (K.new a h).2.1
  | fr =>
    rcases h with h | h | h
    · intro z
      cases e : C.H0 a with
      | none => exact h e
      | some o => rw [K.ext a o e] at z; cases z
    · exact K.dom a h
    · exact (K.new a h).2.1
theorem OkW.fresh (K : OkW C G Γ hid os σ H) (n : H a = none) (l : Lv) : ¬ av l C.H0 G os a := fun z => K.avdom l a z n
theorem same_ne {H H' : Hp} (e : Same H H') {a : Addr} (h : H a ≠ none) : H' a ≠ none := by
  cases q : H a with
  | none => exact absurd q h
  | some o => rw [e a o q]; exact fun z => nomatch z
theorem OkW.same (K : OkW C G Γ hid os σ H) (e : Same H H') : OkW C G Γ hid os σ H' := by
  refine ⟨K.lo, K.ls, K.ext.trans e, fun a g => same_ne e (K.dom a g), fun a h => ?_, K.inj, fun i s h => ?_, fun q hq => ⟨(K.hd q hq).1, (K.hd q hq).2.same e⟩⟩
  · obtain ⟨h1, h2, h3⟩ := K.new a h
    exact ⟨h1, same_ne e h2, h3⟩
  · have q := K.sl i s h
    cases s with
    | un => exact (show os[i]? = some none from q)
    | sh l p => obtain ⟨q1, q2, v, q3, q4⟩ := q; exact ⟨q1, q2, v, q3, q4.same e⟩
    | ow l xs => obtain ⟨q1, a, vs, q2, q3, q4, q5, q6⟩ := q; exact ⟨q1, a, vs, q2, q3, e _ _ q4, q5, q6.same e⟩
    | xv a d x => obtain ⟨q1, q2, q3⟩ := q; exact ⟨q1, q2, q3.same fun a o h => e _ _ h⟩
    | tw ps => obtain ⟨o, t, vs, q1, q2, q3, q4, q5⟩ := q; exact ⟨o, t, vs, q1, q2, e _ _ q3, q4, q5.move fun a ws _ h => e _ _ h⟩
theorem av_less {os os' : List (Option Addr)} (h : ∀ a : Addr, some a ∈ os' → some a ∈ os) (l : Lv) (a : Addr) : av l C.H0 G os' a → av l C.H0 G os a := by
  cases l with
  | raw => exact id
  | pa => exact fun z => z.imp id (h a)
  | fr => exact fun z => z.imp id fun z => z.imp id (h a)
theorem mem_set_none {os : List (Option Addr)} {i : Nat} {a : Addr} (h : some a ∈ os.set i none) : some a ∈ os := by
  rcases List.mem_or_eq_of_mem_set h with h | h
  · exact h
  · cases h
theorem get_set_none {os : List (Option Addr)} {i j : Nat} {a : Addr} (h : (os.set i none)[j]? = some (some a)) : os[j]? = some (some a) ∧ j ≠ i := by
  by_cases e : i = j
  · subst e
    rw [List.getElem?_set] at h
    simp at h
  · rw [List.getElem?_set_ne e] at h
    exact ⟨h, fun z => e z.symm⟩
/-- the state with a slot forgotten -/
theorem OkW.clear (K : OkW C G Γ hid os σ H) (i : Nat) (hi : i < Γ.length) (x : Option V) : OkW C G (Γ.set i .un) hid (os.set i none) (σ.set i x) H := by
  refine ⟨by simp [K.lo], by simp [K.ls], K.ext, K.dom, fun a h => K.new a (mem_set_none h), fun m n a h h' => K.inj m n a (get_set_none h).1 (get_set_none h').1, fun j s h => ?_, fun q hq => ⟨(K.hd q hq).1, (K.hd q hq).2.weak (av_less (fun a z => mem_set_none z) q.1)⟩⟩
  by_cases e : i = j
  · subst e
    rw [List.getElem?_set_self hi] at h
    cases h
    show (os.set i none)[i]? = some none
    rw [List.getElem?_set_self (by rw [K.lo]; exact hi)]
  · rw [List.getElem?_set_ne e] at h
    have q := K.sl j s h
    cases s with
    | un => show (os.set i none)[j]? = some none; rw [List.getElem?_set_ne e]; exact q
    | sh l p =>
      obtain ⟨q1, q2, v, q3, q4⟩ := q
      refine ⟨q1, by rw [List.getElem?_set_ne e]; exact q2, v, by rw [List.getElem?_set_ne e]; exact q3, q4.weak (av_less (fun a z => mem_set_none z) l)⟩
    | ow l xs =>
      obtain ⟨q1, a, vs, q2, q3, q4, q5, q6⟩ := q
      refine ⟨q1, a, vs, by rw [List.getElem?_set_ne e]; exact q2, by rw [List.getElem?_set_ne e]; exact q3, q4, q5, q6.weak (av_less (fun a z => mem_set_none z) l)⟩
    | xv a d x =>
      obtain ⟨q1, q2, q3⟩ := q
      exact ⟨by rw [List.getElem?_set_ne e]; exact q1, by rw [List.getElem?_set_ne e]; exact q2, q3⟩
    | tw ps =>
      obtain ⟨o, t, vs, q1, q2, q3, q4, q5⟩ := q
      exact ⟨o, t, vs, by rw [List.getElem?_set_ne e]; exact q1, by rw [List.getElem?_set_ne e]; exact q2, q3, q4, q5⟩
theorem set_set' {α : Type} {xs : List α} {i : Nat} {x y : α} : (xs.set i x).set i y = xs.set i y := by simp
/-- a slot takes a value -/
theorem OkW.put (K : OkW C G Γ hid os σ H) (hi : i < Γ.length) (hl : l.st) (r : Rep C.T H (av l C.H0 G os) p v) : OkW C G (Γ.set i (.sh l p)) hid (os.set i none) (σ.set i (some v)) H := by
  have K1 := K.clear i hi (some v)
  refine ⟨by simp [K.lo], by simp [K.ls], K1.ext, K1.dom, K1.new, K1.inj, fun j s h => ?_, K1.hd⟩
  by_cases e : i = j
  · subst e
    rw [List.getElem?_set_self hi] at h
    cases h
    exact ⟨hl, by rw [List.getElem?_set_self (by rw [K.lo]; exact hi)], v, by rw [List.getElem?_set_self (by rw [K.ls]; exact hi)], r.weak (av_less (fun a z => mem_set_none z) l)⟩
  · refine K1.sl j s ?_
    rw [List.getElem?_set_ne e] at h ⊢
    exact h
theorem mem_set_some {os : List (Option Addr)} {i : Nat} {a b : Addr} (h : some b ∈ os.set i (some a)) : some b ∈ os ∨ b = a := by
  rcases List.mem_or_eq_of_mem_set h with h | h
  · exact .inl h
  · exact .inr (Option.some.inj h)
theorem av_more {os : List (Option Addr)} {i : Nat} {a : Addr} (l : Lv) (hr : l.st) (b : Addr) (h : av l C.H0 G (os.set i (some a)) b) : av l C.H0 G (os.set i none) b ∨ b = a := by
  have m : ∀ b, some b ∈ os.set i (some a) → some b ∈ os.set i none ∨ b = a := fun b h => by
    by_cases e : b = a
    · exact .inr e
    · obtain ⟨j, hj⟩ := List.getElem?_of_mem h
      by_cases ij : i = j
      · subst ij
        by_cases hlt : i < os.length
        · rw [List.getElem?_set_self hlt] at hj
          exact absurd (Option.some.inj (Option.some.inj hj)).symm e
        · rw [List.getElem?_eq_none (by simp; omega)] at hj
          cases hj
      · rw [List.getElem?_set_ne ij] at hj
        refine .inl (List.mem_of_getElem? (i := j) ?_)
        rw [List.getElem?_set_ne ij]
        exact hj
  cases l with
  | raw => exact h.elim
  | pa =>
    rcases h with h | h
    · exact .inl (.inl h)
    · exact (m b h).imp .inr id
  | fr =>
    rcases h with h | h | h
    · exact .inl (.inl h)
    · exact .inl (.inr (.inl h))
    · exact (m b h).imp (fun z => .inr (.inr z)) id
/-- a slot takes a new list -/
theorem OkW.own {H1 : Hp} {xs : List PV} {vs : List V} (K : OkW C G Γ hid os σ H1) (hi : i < Γ.length) (hl : l.st) (e : Same H1 H) (n : H1 a = none) (ha : H a = some (.lst vs)) (hv : vs.length ≤ LIM)
    (r : Reps C.T H (fun b => av l C.H0 G os b ∨ b = a) xs vs) : OkW C G (Γ.set i (.ow l xs)) hid (os.set i (some a)) (σ.set i (some (.ref a))) H := by
  have K1 := K.clear i hi (some (.ref a))
  have nos : some a ∉ os := fun z => (K.new a z).2.1 n
  have h0 : C.H0 a = none := by
    cases q : C.H0 a with
    | none => rfl
    | some o => rw [K.ext a o q] at n; cases n
  have hos : i < os.length := by rw [K.lo]; exact hi
  have mv : ∀ (l : Lv), l.st → ∀ p v, Rep C.T H1 (av l C.H0 G (os.set i none)) p v → Rep C.T H (av l C.H0 G (os.set i (some a))) p v := fun l hl p v h =>
    ((h.free n).same e).weak fun b z => av_more l hl b z
  have mvs : ∀ (l : Lv), l.st → ∀ p v, Reps C.T H1 (av l C.H0 G (os.set i none)) p v → Reps C.T H (av l C.H0 G (os.set i (some a))) p v := fun l hl p v h =>
    ((h.free n).same e).weak fun b z => av_more l hl b z
  refine ⟨by simp [K.lo], by simp [K.ls], K.ext.trans e, fun a g => same_ne e (K.dom a g), fun b hb => ?_, fun m n' b h h' => ?_, fun j s h => ?_, fun q hq => ⟨(K1.hd q hq).1, mv q.1 (K1.hd q hq).1 _ _ (K1.hd q hq).2⟩⟩
  · rcases mem_set_some hb with hb | hb
    · obtain ⟨q1, q2, q3⟩ := K.new b hb
      exact ⟨q1, same_ne e q2, q3⟩
    · rw [hb]
      exact ⟨h0, by rw [ha]; exact (fun z => nomatch z), fun g => K.dom a g n⟩
  · by_cases em : i = m
    · by_cases en : i = n'
      · rw [← em, en]
      · rw [← em, List.getElem?_set_self hos] at h
        rw [List.getElem?_set_ne en] at h'
        have e1 : a = b := Option.some.inj (Option.some.inj h)
        exact absurd (List.mem_of_getElem? h') (e1 ▸ nos)
    · by_cases en : i = n'
      · rw [← en, List.getElem?_set_self hos] at h'
        rw [List.getElem?_set_ne em] at h
        have e1 : a = b := Option.some.inj (Option.some.inj h')
        exact absurd (List.mem_of_getElem? h) (e1 ▸ nos)
      · rw [List.getElem?_set_ne em] at h
        rw [List.getElem?_set_ne en] at h'
        exact K.inj m n' b h h'
  · by_cases ej : i = j
    · subst ej
      rw [List.getElem?_set_self hi] at h
      cases h
      refine ⟨hl, a, vs, by rw [List.getElem?_set_self hos], by rw [List.getElem?_set_self (by rw [K.ls]; exact hi)], ha, hv, r.weak fun b z => ?_⟩
      exact (av_more l hl b z).imp (av_less (fun a z => mem_set_none z) l b) id
    · have q := K1.sl j s (by rw [List.getElem?_set_ne ej] at h ⊢; exact h)
      cases s with
      | un => show (os.set i (some a))[j]? = some none; rw [List.getElem?_set_ne ej]; have q' : (os.set i none)[j]? = some none := q; rw [List.getElem?_set_ne ej] at q'; exact q'
      | sh l p =>
        obtain ⟨q1, q2, v, q3, q4⟩ := q
        rw [List.getElem?_set_ne ej] at q2
        exact ⟨q1, by rw [List.getElem?_set_ne ej]; exact q2, v, q3, mv l q1 _ _ q4⟩
      | ow l xs =>
        obtain ⟨q1, b, us, q2, q3, q4, q5, q6⟩ := q
        rw [List.getElem?_set_ne ej] at q2
        exact ⟨q1, b, us, by rw [List.getElem?_set_ne ej]; exact q2, q3, e _ _ q4, q5, mvs l q1 _ _ q6⟩
      | xv b d x =>
        obtain ⟨q1, q2, q3⟩ := q
        rw [List.getElem?_set_ne ej] at q1
        exact ⟨by rw [List.getElem?_set_ne ej]; exact q1, q2, q3.same fun a o h => e _ _ h⟩
      | tw ps =>
        obtain ⟨o, t, us, q1, q2, q3, q4, q5⟩ := q
        rw [List.getElem?_set_ne ej] at q1
        exact ⟨o, t, us, by rw [List.getElem?_set_ne ej]; exact q1, q2, e _ _ q3, q4, q5.move fun a ws _ h => e _ _ h⟩
/-- a slot's list is changed -/
theorem OkW.chg {xs xs' : List PV} {vs' : List V} {l' : Lv} (K : OkW C G Γ hid os σ H) (h : Γ[i]? = some (.ow l xs)) (ha : os[i]? = some (some a)) (hl' : l'.st) (hv : vs'.length ≤ LIM) (r : Reps C.T H (av l' C.H0 G os) xs' vs') :
    OkW C G (Γ.set i (.ow l' xs')) hid os σ (upd H a (.lst vs')) := by
  obtain ⟨hl, a', vs, q2, q3, q4, q5, q6⟩ := K.sl i _ h
  obtain rfl : a' = a := Option.some.inj (Option.some.inj (q2.symm.trans ha))
  have hi : i < Γ.length := (List.getElem?_eq_some_iff.mp h).1
  have ma : some a' ∈ os := List.mem_of_getElem? ha
  have inav : ∀ l : Lv, l.st → av l C.H0 G os a' := fun l hl => by
    cases l with
    | raw => exact hl.elim
    | pa => exact .inr ma
    | fr => exact .inr (.inr ma)
  have hne : ∀ b, H b ≠ none → upd H a' (.lst vs') b ≠ none := fun b hb => by
    by_cases e : b = a'
    · rw [e, upd_same]; exact fun z => nomatch z
    · rw [upd_ne e]; exact hb
  refine ⟨by simp [K.lo], by simp [K.ls], fun b o e => ?_, fun b g => hne b (K.dom b g), fun b hb => ?_, K.inj, fun j s hj => ?_, fun q hq => ⟨(K.hd q hq).1, (K.hd q hq).2.upd (inav q.1 (K.hd q hq).1)⟩⟩
  · rw [upd_ne (fun z : b = a' => by rw [z, (K.new a' ma).1] at e; cases e)]
    exact K.ext b o e
  · obtain ⟨q1, q2, q3⟩ := K.new b hb
    exact ⟨q1, hne b q2, q3⟩
  · by_cases ej : i = j
    · subst ej
      rw [List.getElem?_set_self hi] at hj
      cases hj
      exact ⟨hl', a', vs', ha, q3, upd_same, hv, r.upd (inav l' hl')⟩
    · rw [List.getElem?_set_ne ej] at hj
      have q := K.sl j s hj
      cases s with
      | un => exact q
      | sh l p => obtain ⟨q1, q2, v, q3, q4⟩ := q; exact ⟨q1, q2, v, q3, q4.upd (inav l q1)⟩
      | ow l ys =>
        obtain ⟨q1, b, us, q2, q3, q4, q5, q6⟩ := q
        have nb : b ≠ a' := fun z => ej (K.inj i j a' ha (z ▸ q2))
        exact ⟨q1, b, us, q2, q3, by rw [upd_ne nb]; exact q4, q5, q6.upd (inav l q1)⟩
      | xv b d x =>
        obtain ⟨p1, p2, p3⟩ := q
        exact ⟨p1, p2, p3.same fun c o hc => by
          have nb : c ≠ a' := fun z => by rw [z, q4] at hc; cases hc
          rw [upd_ne nb]
          exact hc⟩
      | tw ps =>
        obtain ⟨o, t, us, p1, p2, p3, p4, p5⟩ := q
        have nt : t ≠ a' := fun z => by rw [z, q4] at p3; cases p3
        refine ⟨o, t, us, p1, p2, by rw [upd_ne nt]; exact p3, p4, p5.move fun b ws eb hb => ?_⟩
        subst eb
        have nb : b ≠ a' := fun z => ej (K.inj i j a' ha (z ▸ p1))
        rw [upd_ne nb]
        exact hb
/-- a slot's list is given up: it is not changed any more -/
theorem OkW.share {xs : List PV} (K : OkW C G Γ hid os σ H) (h : Γ[i]? = some (.ow l xs)) : OkW C G (Γ.set i (.sh l (.lst xs))) hid (os.set i none) σ H := by
  obtain ⟨hl, a, vs, q2, q3, q4, q5, q6⟩ := K.sl i _ h
  have hi : i < Γ.length := (List.getElem?_eq_some_iff.mp h).1
  have ma : some a ∈ os := List.mem_of_getElem? q2
  have e1 : σ.set i (some (.ref a)) = σ := by
    apply List.ext_getElem?
    intro j
    by_cases e : i = j
    · subst e
      rw [List.getElem?_set_self (by rw [K.ls]; exact hi), q3]
    · rw [List.getElem?_set_ne e]
  have K1 := K.clear i hi (some (.ref a))
  rw [e1] at K1
  refine ⟨by simp [K.lo], by simp [K.ls], K1.ext, K1.dom, K1.new, K1.inj, fun j s hj => ?_, K1.hd⟩
  by_cases e : i = j
  · subst e
    rw [List.getElem?_set_self hi] at hj
    cases hj
    refine ⟨hl, by rw [List.getElem?_set_self (by rw [K.lo]; exact hi)], .ref a, q3, ?_⟩
    unfold Rep
    refine ⟨a, vs, rfl, ?_, q4, q5, q6.weak (av_less (fun a z => mem_set_none z) l)⟩
    have nm : some a ∉ os.set i none := fun z => by
      obtain ⟨j, hj⟩ := List.getElem?_of_mem z
      obtain ⟨h1, h2⟩ := get_set_none hj
      exact h2 (K.inj j i a h1 q2)
    obtain ⟨n1, n2, n3⟩ := K.new a ma
    cases l with
    | raw => exact hl.elim
    | pa => exact fun z => z.elim n3 nm
    | fr => exact fun z => z.elim (fun z => z n1) fun z => z.elim n3 nm
  · refine K1.sl j s ?_
    rw [List.getElem?_set_ne e] at hj ⊢
    exact hj
/-- less is known of a slot -/
theorem OkW.lose (K : OkW C G Γ hid os σ H) (i : Nat) (hi : i < Γ.length) : OkW C G (Γ.set i .un) hid (os.set i none) σ H := by
  have h : σ.set i (σ[i]'(by rw [K.ls]; exact hi)) = σ := by simp
  have := K.clear i hi (σ[i]'(by rw [K.ls]; exact hi))
  rwa [h] at this
theorem OkW.hide {pins : Hid} (K : OkW C G Γ hid os σ H) (r : ∀ q ∈ pins, q.1.st ∧ Rep C.T H (av q.1 C.H0 G os) q.2.1 q.2.2) : OkW C G Γ (pins ++ hid) os σ H :=
  ⟨K.lo, K.ls, K.ext, K.dom, K.new, K.inj, K.sl, fun q hq => by
    rcases List.mem_append.mp hq with h | h
    · exact r q h
    · exact K.hd q h⟩
theorem OkW.bare {pins : Hid} (K : OkW C G Γ (pins ++ hid) os σ H) : OkW C G Γ hid os σ H :=
  ⟨K.lo, K.ls, K.ext, K.dom, K.new, K.inj, K.sl, fun q hq => K.hd q (List.mem_append_right _ hq)⟩
theorem OkW.pins {pins : Hid} (K : OkW C G Γ (pins ++ hid) os σ H) : ∀ q ∈ pins, q.1.st ∧ Rep C.T H (av q.1 C.H0 G os) q.2.1 q.2.2 := fun q hq => K.hd q (List.mem_append_left _ hq)
/-- weaker knowledge, slot by slot -/
inductive Wk : List Sl → List Sl → Prop
  | nil : Wk [] []
  | keep {s : Sl} {a b : List Sl} : Wk a b → Wk (s :: a) (s :: b)
  | lose {s : Sl} {a b : List Sl} : Wk a b → Wk (s :: a) (.un :: b)
  | share {l : Lv} {xs : List PV} {a b : List Sl} : Wk a b → Wk (.ow l xs :: a) (.sh l (.lst xs) :: b)
  | low {p : PV} {a b : List Sl} : Wk a b → Wk (.sh .fr p :: a) (.sh .pa p :: b)
  | lowo {xs : List PV} {a b : List Sl} : Wk a b → Wk (.ow .fr xs :: a) (.ow .pa xs :: b)
theorem OkW.lower {f g : Sl} (K : OkW C G Γ hid os σ H) (h : Γ[i]? = some f) (fg : ∀ os σ H, SlOk C G os H i σ f → SlOk C G os H i σ g) : OkW C G (Γ.set i g) hid os σ H := by
  have hi : i < Γ.length := (List.getElem?_eq_some_iff.mp h).1
  refine ⟨by simp [K.lo], by simp [K.ls], K.ext, K.dom, K.new, K.inj, fun j s hj => ?_, K.hd⟩
  by_cases e : i = j
  · subst e
    rw [List.getElem?_set_self hi] at hj
    cases hj
    exact fg _ _ _ (K.sl i _ h)
  · rw [List.getElem?_set_ne e] at hj
    exact K.sl j s hj
theorem lv_less' {os : List (Option Addr)} (h : Rep C.T H (av .fr C.H0 G os) p v) : Rep C.T H (av .pa C.H0 G os) p v := h.weak fun a z => .inr z
theorem Wk.ok : ∀ {a b : List Sl}, Wk a b → ∀ {pre : List Sl} {os : List (Option Addr)}, OkW C G (pre ++ a) hid os σ H → ∃ os', OkW C G (pre ++ b) hid os' σ H
  | _, _, .nil, pre, os, K => ⟨os, K⟩
  | _, _, .keep (s := s) (a := a) (b := b) w, pre, os, K => by
    have := w.ok (pre := pre ++ [s]) (os := os) (by simpa using K)
    simpa using this
  | _, _, .lose (s := s) (a := a) (b := b) w, pre, os, K => by
    have K1 := K.lose pre.length (by simp)
    have e : (pre ++ s :: a).set pre.length .un = (pre ++ [.un]) ++ a := by simp
    rw [e] at K1
    have := w.ok K1
    simpa using this
  | _, _, .share (l := l) (xs := xs) (a := a) (b := b) w, pre, os, K => by
    have K1 := K.share (i := pre.length) (l := l) (xs := xs) (by simp)
    have e : (pre ++ .ow l xs :: a).set pre.length (.sh l (.lst xs)) = (pre ++ [.sh l (.lst xs)]) ++ a := by simp
    rw [e] at K1
    have := w.ok K1
    simpa using this
  | _, _, .low (p := p) (a := a) (b := b) w, pre, os, K => by
    have K1 := K.lower (i := pre.length) (f := .sh .fr p) (g := .sh .pa p) (by simp) (fun os σ H h => by
      obtain ⟨q1, q2, v, q3, q4⟩ := h
      exact ⟨trivial, q2, v, q3, lv_less' q4⟩)
    have e : (pre ++ .sh .fr p :: a).set pre.length (.sh .pa p) = (pre ++ [.sh .pa p]) ++ a := by simp
    rw [e] at K1
    have := w.ok K1
    simpa using this
  | _, _, .lowo (xs := xs) (a := a) (b := b) w, pre, os, K => by
    have K1 := K.lower (i := pre.length) (f := .ow .fr xs) (g := .ow .pa xs) (by simp) (fun os σ H h => by
      obtain ⟨q1, a, vs, q2, q3, q4, q5, q6⟩ := h
      exact ⟨trivial, a, vs, q2, q3, q4, q5, q6.weak fun a z => .inr z⟩)
    have e : (pre ++ .ow .fr xs :: a).set pre.length (.ow .pa xs) = (pre ++ [.ow .pa xs]) ++ a := by simp
    rw [e] at K1
    have := w.ok K1
    simpa using this
theorem Wk.okw {a b : List Sl} (w : Wk a b) (K : OkW C G a hid os σ H) : ∃ os', OkW C G b hid os' σ H := w.ok (pre := []) K
theorem lv_less {os : List (Option Addr)} (h : Rep C.T H (av .fr C.H0 G os) p v) : Rep C.T H (av .pa C.H0 G os) p v := h.weak fun a z => .inr z
theorem lv_raw {os : List (Option Addr)} {l : Lv} (h : Rep C.T H (av l C.H0 G os) p v) : Rep C.T H (av .raw C.H0 G os) p v := h.weak fun a z => z.elim
end
end Pv

set_option Elab.async false
set_option linter.all false
set_option maxRecDepth 100000
namespace Pv
open PySem PySem.Spec L2
open Enc (enc)
open Encs (encs)

/-! ### what is wanted of an outcome -/
def ExRep (T : CT) (H : Hp) (x : Exc) (cls : Value) (d : Option Addr) : Prop :=
  cls = .ref (T.addr x.c) ∧ ((d = none ∧ x.vs = []) ∨ ∃ dx us, d = some dx ∧ H dx = some (.xd ((T.fld x.c).zip us)) ∧ (T.fld x.c).length = us.length ∧ Reps T H (fun _ => False) x.vs us)
def PoX (C : Cn) (σ : L2.St) (H : Hp) (x : Exc) : Prop := match C.W with
  | none => False
  | some W => ∀ cls d H', Same H H' → ExRep C.T H' x cls d → W cls d σ H'
def PoV {α : Type} [Enc α] (C : Cn) (l : Lv) (G : Addr → Prop) (os : List (Option Addr)) (σ : L2.St) (H : Hp) (Q : VK) : R α → Prop
  | .ok a => ∀ v H', Same H H' → Rep C.T H' (av l C.H0 G os) (enc a) v → Q v H'
  | .ex x => PoX C σ H x
  | .bad => False
def PoN {α : Type} [Enc α] (C : Cn) (l : Lv) (G : Addr → Prop) (os : List (Option Addr)) (σ : L2.St) (H : Hp) (Q : VK) : R (List α) → Prop
  | .ok xs => ∀ p vs H', Same H H' → H p = none → H' p = some (.lst vs) → vs.length ≤ LIM → Reps C.T H' (fun b => av l C.H0 G os b ∨ b = p) (xs.map enc) vs → Q (.ref p) H'
  | .ex x => PoX C σ H x
  | .bad => False
def PoT (C : Cn) (σ : L2.St) (H : Hp) (Q : Bool → Hp → Prop) : R Bool → Prop
  | .ok b => ∀ H', Same H H' → Q b H'
  | .ex x => PoX C σ H x
  | .bad => False
def PoA {β : Type} [Encs β] (C : Cn) (l : Lv) (G : Addr → Prop) (os : List (Option Addr)) (σ : L2.St) (H : Hp) (Q : List V → Hp → Prop) : R β → Prop
  | .ok b => ∀ vs H', Same H H' → Reps C.T H' (av l C.H0 G os) (encs b) vs → Q vs H'
  | .ex x => PoX C σ H x
  | .bad => False

def Evm {α : Type} [Enc α] (C : Cn) (Γ : List Sl) (l : Lv) (t : TE) (m : R α) : Prop := ∀ G hid os σ H Q, OkW C G Γ hid os σ H → PoV C l G os σ H Q m → t σ H Q
def EvN {α : Type} [Enc α] (C : Cn) (Γ : List Sl) (l : Lv) (t : TE) (m : R (List α)) : Prop := ∀ G hid os σ H Q, OkW C G Γ hid os σ H → PoN C l G os σ H Q m → t σ H Q
def EvT (C : Cn) (Γ : List Sl) (t : TT) (m : R Bool) : Prop := ∀ G hid os σ H Q, OkW C G Γ hid os σ H → PoT C σ H Q m → t σ H Q
def EvA {β : Type} [Encs β] (C : Cn) (Γ : List Sl) (l : Lv) (t : TA) (m : R β) : Prop := ∀ G hid os σ H Q, OkW C G Γ hid os σ H → PoA C l G os σ H Q m → t σ H Q

section
variable {C : Cn} {Γ : List Sl} {l l1 l2 : Lv} {α β γ : Type} [Enc α] [Enc β] [Enc γ] {ta tb tc t : TE} {G : Addr → Prop} {os : List (Option Addr)} {σ : L2.St} {H H' : Hp} {x : Exc}
theorem PoX.back (e : Same H H') (h : PoX C σ H x) : PoX C σ H' x := by
  unfold PoX at h ⊢
  cases hw : C.W with
  | none => rw [hw] at h; exact h
  | some W =>
    rw [hw] at h
    exact fun cls d H2 e2 r => h cls d H2 (e.trans e2) r

/-! ### sorts of values -/
theorem evm_pa {m : R α} (h : Evm C Γ .fr t m) : Evm C Γ .pa t m := fun G hid os σ H Q K q => h G hid os σ H Q K (by
  cases m with
  | ok a => exact fun v H' e r => q v H' e (lv_less r)
  | ex x => exact q
  | bad => exact q)
theorem evm_raw {m : R α} (h : Evm C Γ l t m) : Evm C Γ .raw t m := fun G hid os σ H Q K q => h G hid os σ H Q K (by
  cases m with
  | ok a => exact fun v H' e r => q v H' e (lv_raw r)
  | ex x => exact q
  | bad => exact q)
theorem evm_flat [Flat α] {m : R α} (h : Evm C Γ l t m) : Evm C Γ l2 t m := fun G hid os σ H Q K q => h G hid os σ H Q K (by
  cases m with
  | ok a => exact fun v H' e r => q v H' e r.flat
  | ex x => exact q
  | bad => exact q)
theorem evn_pa {m : R (List α)} (h : EvN C Γ .fr t m) : EvN C Γ .pa t m := fun G hid os σ H Q K q => h G hid os σ H Q K (by
  cases m with
  | ok a => exact fun p vs H' e n hp hz r => q p vs H' e n hp hz (r.weak fun a z => z.imp .inr id)
  | ex x => exact q
  | bad => exact q)
theorem evn_flat [Flat α] {m : R (List α)} (h : EvN C Γ l t m) : EvN C Γ l2 t m := fun G hid os σ H Q K q => h G hid os σ H Q K (by
  cases m with
  | ok a => exact fun p vs H' e n hp hz r => q p vs H' e n hp hz r.flat
  | ex x => exact q
  | bad => exact q)
theorem rep_lst {T : CT} {xs : List α} {p : Addr} {vs : List V} (g : ¬ G p) (h : H p = some (.lst vs)) (hz : vs.length ≤ LIM) (r : Reps T H G (xs.map enc) vs) : Rep T H G (enc xs) (.ref p) := by
  show Rep T H G (.lst (xs.map enc)) (.ref p)
  unfold Rep
  exact ⟨p, vs, rfl, g, h, hz, r⟩
theorem evn_ev {m : R (List α)} (h : EvN C Γ l t m) : Evm C Γ l t m := fun G hid os σ H Q K q => h G hid os σ H Q K (by
  cases m with
  | ok a => exact fun p vs H' e n hp hz r => q _ H' e (rep_lst (fun z => (K.fresh n l) z) hp hz (r.weak fun a z => .inl z))
  | ex x => exact q
  | bad => exact q)
theorem lst_rep {T : CT} {xs : List α} {v : V} (r : Rep T H G (enc xs) v) : ∃ p vs, v = .ref p ∧ ¬ G p ∧ H p = some (.lst vs) ∧ vs.length ≤ LIM ∧ Reps T H G (xs.map enc) vs := by
  have r : Rep T H G (.lst (xs.map enc)) v := r
  unfold Rep at r
  exact r
theorem int_rep {T : CT} {i : Int} {v : V} (r : Rep T H G (enc i) v) : v = .int i := r
theorem bl_rep {T : CT} {b : Bool} {v : V} (r : Rep T H G (enc b) v) : v = .bl b := r
theorem str_rep {T : CT} {x : Str} {v : V} (r : Rep T H G (enc x) v) : v = .str x ∧ x.length ≤ LIM ∧ PyData.canLay0 (.str x) = true := r

/-! ### names, constants -/
theorem evm_var {i : Nat} {a : α} (h : Γ[i]? = some (.sh l (enc a))) : Evm C Γ l (tVar i) (.ok a) := fun G hid os σ H Q K q => by
  obtain ⟨_, _, v, e, r⟩ := K.sl i _ h
  exact ⟨v, e, q v H (Same.refl H) r⟩
theorem evm_own {i : Nat} {xs : List α} (h : Γ[i]? = some (.ow l (xs.map enc))) : Evm C Γ .raw (tVar i) (.ok xs) := fun G hid os σ H Q K q => by
  obtain ⟨_, a, vs, _, e, ha, hz, r⟩ := K.sl i _ h
  exact ⟨_, e, q _ H (Same.refl H) (rep_lst id ha hz (r.weak fun a z => z.elim))⟩
theorem evm_int {i : Int} : Evm C Γ .fr (tC (.int i)) (.ok i) := fun G hid os σ H Q K q => q _ H (Same.refl H) (by rfl)
theorem evm_bl {i : Bool} : Evm C Γ .fr (tC (.bl i)) (.ok i) := fun G hid os σ H Q K q => q _ H (Same.refl H) (by rfl)
theorem evm_non : Evm C Γ .fr (tC .non) (.ok ()) := fun G hid os σ H Q K q => q _ H (Same.refl H) (by rfl)
theorem evm_str {x : Str} (hx : x.length ≤ LIM := by decide +kernel) (ho : PyData.canLay0 (.str x) = true := by decide +kernel) : Evm C Γ .fr (tC (.str x)) (.ok x) := fun G hid os σ H Q K q => q _ H (Same.refl H) ⟨rfl, hx, ho⟩

/-! ### operations by values: flat results -/
theorem raw_rep {T : CT} {p : PV} {v : V} (r : Rep T H G p v) : Rep T H (fun _ => False) p v := r.weak fun a z => z.elim
/-- r, asked for values that stand for a and b, gives what o says, a flat value; it changes nothing -/
def RvF (T : CT) (r : R2) (a : α) (b : β) (o : Option γ) : Prop := ∀ H x y Q c, Rep T H (fun _ => False) (enc a) x → Rep T H (fun _ => False) (enc b) y → o = some c →
  (∀ v, Rep T H (fun _ => False) (enc c) v → Q v H) → r x y H Q
theorem evm_op [Flat γ] {r : R2} {m1 : R α} {m2 : R β} {f : α → β → Option γ} (ha : Evm C Γ l1 ta m1) (hb : Evm C Γ l2 tb m2) (hr : ∀ a b, m1 = .ok a → m2 = .ok b → RvF C.T r a b (f a b)) :
    Evm C Γ .fr (tOp r ta tb) (m1.bind fun a => m2.bind fun b => R.of (f a b)) := fun G hid os σ H Q K q => by
  refine ha G hid os σ H _ K ?_
  cases e1 : m1 with
  | bad => rw [e1] at q; exact q
  | ex x => rw [e1] at q; exact q
  | ok a =>
    rw [e1] at q
    intro x H1 s1 r1
    refine hb G hid os σ H1 _ (K.same s1) ?_
    cases e2 : m2 with
    | bad => rw [e2] at q; exact q
    | ex x => rw [e2] at q; exact PoX.back s1 q
    | ok b =>
      rw [e2] at q
      intro y H2 s2 r2
      have q : PoV C .fr G os σ H Q (R.of (f a b)) := q
      cases e3 : f a b with
      | none => rw [e3] at q; exact q.elim
      | some c =>
        rw [e3] at q
        exact hr a b e1 e2 H2 x y Q c (raw_rep (r1.same s2)) (raw_rep r2) e3 fun v r => q v H2 (s1.trans s2) r.flat
theorem evm_opT [Flat γ] {r : R2} {m1 : R α} {m2 : R β} {f : α → β → γ} (ha : Evm C Γ l1 ta m1) (hb : Evm C Γ l2 tb m2) (hr : ∀ a b, RvF C.T r a b (some (f a b))) :
    Evm C Γ .fr (tOp r ta tb) (m1.bind fun a => m2.bind fun b => .ok (f a b)) := evm_op (f := fun a b => some (f a b)) ha hb fun a b _ _ => hr a b
/-- the same where both sides are known -/
theorem evp_op [Flat γ] {r : R2} {a : α} {b : β} {o : Option γ} (ha : Evm C Γ l1 ta (.ok a)) (hb : Evm C Γ l2 tb (.ok b)) (hr : RvF C.T r a b o) : Evm C Γ .fr (tOp r ta tb) (R.of o) :=
  evm_op (f := fun _ _ => o) ha hb fun a' b' e1 e2 => by cases e1; cases e2; exact hr
theorem evp_opT [Flat γ] {r : R2} {a : α} {b : β} {c : γ} (ha : Evm C Γ l1 ta (.ok a)) (hb : Evm C Γ l2 tb (.ok b)) (hr : RvF C.T r a b (some c)) : Evm C Γ .fr (tOp r ta tb) (.ok c) := evp_op (o := some c) ha hb hr

section
variable {T : CT}
theorem rv_II {f : Int → Int → Int} {a b : Int} : RvF T (rI0 fun i j => .int (f i j)) a b (some (f a b)) := fun H x y Q c hx hy e q => by
  cases e
  exact ⟨a, b, hx, hy, q _ rfl⟩
theorem rv_IB {f : Int → Int → Bool} {a b : Int} : RvF T (rI0 fun i j => .bl (f i j)) a b (some (f a b)) := fun H x y Q c hx hy e q => by
  cases e
  exact ⟨a, b, hx, hy, q _ rfl⟩
def optIf {α : Type} (c : Prop) [Decidable c] (a : α) : Option α := if c then some a else none
theorem optIf_some {α : Type} {c : Prop} [Decidable c] {a b : α} (h : optIf c a = some b) : c ∧ a = b := by
  unfold optIf at h
  split at h
  · exact ⟨by assumption, Option.some.inj h⟩
  · cases h
theorem optIf_pos {α : Type} {c : Prop} [Decidable c] {a : α} (h : c) : optIf c a = some a := if_pos h
theorem rv_IIc {f : Int → Int → Int} {P : Int → Int → Prop} {a b : Int} [d : Decidable (P a b)] : RvF T (rI P fun i j => .int (f i j)) a b (optIf (P a b) (f a b)) := fun H x y Q c hx hy e q => by
  obtain ⟨e1, e2⟩ := optIf_some e
  subst e2
  exact ⟨a, b, hx, hy, e1, q _ rfl⟩
end
end
end Pv

set_option Elab.async false
set_option linter.all false
set_option maxRecDepth 100000
namespace Pv
open PySem PySem.Spec L2
open Enc (enc)
open Encs (encs)

/-! ### data -/
mutual
def okD : PV → Bool
  | .non => true | .bl _ => true | .int _ => true | .str _ => true
  | .lst xs => okDs xs | .tup xs => okDs xs
  | .obj _ _ => false | .scr _ => false
def okDs : List PV → Bool
  | [] => true
  | x :: xs => okD x && okDs xs
end
mutual
def toD : PV → PyData
  | .non => .none | .bl b => .bool b | .int i => .int i | .str x => .str x
  | .lst xs => .list (toDs xs) | .tup xs => .tuple (toDs xs)
  | .obj _ _ => .none | .scr _ => .none
def toDs : List PV → List PyData
  | [] => []
  | x :: xs => toD x :: toDs xs
end
mutual
def dep : PV → Nat
  | .lst xs => deps xs + 1 | .tup xs => deps xs + 1
  | _ => 0
def deps : List PV → Nat
  | [] => 0
  | x :: xs => max (dep x) (deps xs)
end
mutual
theorem lay_of {T : CT} {H : Hp} {G : Addr → Prop} : ∀ (p : PV) (v : V), okD p = true → Rep T H G p v → (toD p).canLay0 = true ∧ (toD p).depth = dep p
  | .non, _, _, _ => ⟨rfl, rfl⟩
  | .bl _, _, _, _ => ⟨rfl, rfl⟩
  | .int _, _, _, _ => ⟨rfl, rfl⟩
  | .str x, _, _, h => ⟨h.2.2, rfl⟩
  | .lst xs, v, o, h => by
    unfold Rep at h
    obtain ⟨a, vs, e, _, r, _, q⟩ := h
    have h := lays_of xs vs o q
    simp only [toD, PyData.canLay0, PyData.depth, dep]
    exact ⟨h.1, by rw [h.2]⟩
  | .tup xs, v, o, h => by
    unfold Rep at h
    obtain ⟨a, vs, e, _, r, _, q⟩ := h
    have h := lays_of xs vs o q
    simp only [toD, PyData.canLay0, PyData.depth, dep]
    exact ⟨h.1, by rw [h.2]⟩
theorem lays_of {T : CT} {H : Hp} {G : Addr → Prop} : ∀ (ps : List PV) (vs : List V), okDs ps = true → Reps T H G ps vs → PyData.canLayAll0 (toDs ps) = true ∧ PyData.depthAll (toDs ps) = deps ps
  | [], _, _, _ => ⟨rfl, rfl⟩
  | x :: xs, vs, o, h => by
    unfold Reps at h
    obtain ⟨v, r, e, h1, h2⟩ := h
    simp only [okDs, Bool.and_eq_true] at o
    have h1 := lay_of x v o.1 h1
    have h2 := lays_of xs r o.2 h2
    simp only [toDs, PyData.canLayAll0, PyData.depthAll, deps, Bool.and_eq_true]
    exact ⟨⟨h1.1, h2.1⟩, by rw [h1.2, h2.2]⟩
end
mutual
theorem dp_of {T : CT} {K : PySem.W.Frag} {H : Hp} {G : Addr → Prop} : ∀ (p : PV) (v : V), okD p = true → Rep T H G p v → Dp K H v (toD p)
  | .non, v, _, h => by have h : v = .non := h; rw [h]; exact .non
  | .bl b, v, _, h => by have h : v = .bl b := h; rw [h]; exact .bl b
  | .int i, v, _, h => by have h : v = .int i := h; rw [h]; exact .int i
  | .str x, v, _, h => by have h := h.1; rw [h]; exact .str x
  | .lst xs, v, o, h => by
    unfold Rep at h
    obtain ⟨a, vs, e, _, r, _, q⟩ := h
    rw [e]
    exact .lst (.inl (.inl r)) (dps_of xs vs o q)
  | .tup xs, v, o, h => by
    unfold Rep at h
    obtain ⟨a, vs, e, _, r, _, q⟩ := h
    rw [e]
    exact .tup (.inl (.inl r)) (dps_of xs vs o q)
theorem dps_of {T : CT} {K : PySem.W.Frag} {H : Hp} {G : Addr → Prop} : ∀ (ps : List PV) (vs : List V), okDs ps = true → Reps T H G ps vs → DpAll K H vs (toDs ps)
  | [], vs, _, h => by unfold Reps at h; rw [h]; exact .nil
  | x :: xs, vs, o, h => by
    unfold Reps at h
    obtain ⟨v, r, e, h1, h2⟩ := h
    simp only [okDs, Bool.and_eq_true] at o
    rw [e]
    exact .cons (dp_of x v o.1 h1) (dps_of xs r o.2 h2)
end
theorem shaped_of {T : CT} {H : Hp} {G : Addr → Prop} {p : PV} {v : V} (o : okD p = true) (d : dep p ≤ 64) (r : Rep T H G p v) : SeqAt.shaped (toD p) = true := by
  have h := lay_of p v o r
  show ((toD p).canLay0 && decide ((toD p).depth ≤ 64)) = true
  rw [Bool.and_eq_true]
  exact ⟨h.1, decide_eq_true (by rw [h.2]; exact d)⟩
/-- what == tells of two values -/
def eqP (p q : PV) : Bool := PyData.eqv (toD p) (toD q)
/-- values that == may look into -/
class Dta (α : Type) [Enc α] where
  n : Nat
  ok : ∀ a : α, okD (enc a) = true
  dp : ∀ a : α, dep (enc a) ≤ n
class Dtas (α : Type) [Encs α] where
  n : Nat
  ok : ∀ a : α, okDs (encs a) = true
  dp : ∀ a : α, deps (encs a) ≤ n
instance : Dta Int := ⟨0, fun _ => rfl, fun _ => Nat.le_refl _⟩
instance : Dta Bool := ⟨0, fun _ => rfl, fun _ => Nat.le_refl _⟩
instance : Dta Unit := ⟨0, fun _ => rfl, fun _ => Nat.le_refl _⟩
instance : Dta Str := ⟨0, fun _ => rfl, fun _ => Nat.le_refl _⟩
instance {α : Type} [Enc α] [Dta α] : Dta (Option α) := ⟨Dta.n α, fun a => by cases a with
  | none => rfl
  | some a => exact Dta.ok a, fun a => by cases a with
  | none => exact Nat.zero_le _
  | some a => exact Dta.dp a⟩
theorem okDs_map {α : Type} [Enc α] [Dta α] : ∀ xs : List α, okDs (xs.map enc) = true
  | [] => rfl
  | x :: xs => by rw [List.map_cons]; simp only [okDs, Bool.and_eq_true]; exact ⟨Dta.ok x, okDs_map xs⟩
theorem deps_map {α : Type} [Enc α] [Dta α] : ∀ xs : List α, deps (xs.map enc) ≤ Dta.n α
  | [] => Nat.zero_le _
  | x :: xs => by rw [List.map_cons]; exact Nat.max_le.mpr ⟨Dta.dp x, deps_map xs⟩
instance {α : Type} [Enc α] [Dta α] : Dta (List α) := ⟨Dta.n α + 1, fun xs => okDs_map xs, fun xs => Nat.succ_le_succ (deps_map xs)⟩
instance : Dtas Unit := ⟨0, fun _ => rfl, fun _ => Nat.le_refl _⟩
instance {α β : Type} [Enc α] [Encs β] [Dta α] [Dtas β] : Dtas (α × β) := ⟨max (Dta.n α) (Dtas.n β), fun x => by
  show (okD (enc x.1) && okDs (encs x.2)) = true
  rw [Bool.and_eq_true]
  exact ⟨Dta.ok x.1, Dtas.ok x.2⟩, fun x => by
  show max (dep (enc x.1)) (deps (encs x.2)) ≤ _
  have h1 := Dta.dp x.1
  have h2 := Dtas.dp x.2
  omega⟩
instance {α : Type} [Encs α] [Dtas α] : Dta (Tp α) := ⟨Dtas.n α + 1, fun x => Dtas.ok x.t, fun x => Nat.succ_le_succ (Dtas.dp x.t)⟩

section
variable {T : CT} {α β γ : Type} [Enc α] [Enc β] [Enc γ] {K : PySem.W.Frag}
theorem rv_eqI {a b : Int} : RvF T rEq a b (some (decide (a = b))) := fun H x y Q c hx hy e q => by
  cases e
  rw [int_rep hx, int_rep hy]
  refine ⟨rfl, q _ ?_⟩
  show V.bl _ = V.bl _
  simp
theorem rv_neI {a b : Int} : RvF T rNe a b (some (!decide (a = b))) := fun H x y Q c hx hy e q => by
  cases e
  rw [int_rep hx, int_rep hy]
  refine ⟨rfl, q _ ?_⟩
  show V.bl _ = V.bl _
  simp
theorem rv_eqB {a b : Bool} : RvF T rEq a b (some (decide (a = b))) := fun H x y Q c hx hy e q => by
  cases e
  rw [bl_rep hx, bl_rep hy]
  refine ⟨rfl, q _ ?_⟩
  show V.bl _ = V.bl _
  simp
theorem rv_neB {a b : Bool} : RvF T rNe a b (some (!decide (a = b))) := fun H x y Q c hx hy e q => by
  cases e
  rw [bl_rep hx, bl_rep hy]
  refine ⟨rfl, q _ ?_⟩
  show V.bl _ = V.bl _
  simp
theorem rv_eqS {a b : Str} : RvF T rEq a b (some (decide (a = b))) := fun H x y Q c hx hy e q => by
  cases e
  rw [(str_rep hx).1, (str_rep hy).1]
  refine ⟨rfl, q _ ?_⟩
  show V.bl _ = V.bl _
  simp
theorem rv_neS {a b : Str} : RvF T rNe a b (some (!decide (a = b))) := fun H x y Q c hx hy e q => by
  cases e
  rw [(str_rep hx).1, (str_rep hy).1]
  refine ⟨rfl, q _ ?_⟩
  show V.bl _ = V.bl _
  simp
theorem rv_eqD [Dta α] [Dta β] {a : α} {b : β} (h1 : Dta.n α ≤ 64 := by decide) (h2 : Dta.n β ≤ 64 := by decide) : RvF T (rEqD K) a b (some (eqP (enc a) (enc b))) := fun H x y Q c hx hy e q => by
  cases e
  exact ⟨_, _, dp_of _ _ (Dta.ok a) hx, dp_of _ _ (Dta.ok b) hy, shaped_of (Dta.ok a) (Nat.le_trans (Dta.dp a) h1) hx, shaped_of (Dta.ok b) (Nat.le_trans (Dta.dp b) h2) hy, q _ rfl⟩
theorem rv_neD [Dta α] [Dta β] {a : α} {b : β} (h1 : Dta.n α ≤ 64 := by decide) (h2 : Dta.n β ≤ 64 := by decide) : RvF T (rNeD K) a b (some (!eqP (enc a) (enc b))) := fun H x y Q c hx hy e q => by
  cases e
  exact ⟨_, _, dp_of _ _ (Dta.ok a) hx, dp_of _ _ (Dta.ok b) hy, shaped_of (Dta.ok a) (Nat.le_trans (Dta.dp a) h1) hx, shaped_of (Dta.ok b) (Nat.le_trans (Dta.dp b) h2) hy, q _ rfl⟩
theorem rv_inD [Dta α] [Dta β] {a : α} {b : List β} (h1 : Dta.n α ≤ 64 := by decide) (h2 : Dta.n (List β) ≤ 64 := by decide) : RvF T (rInD K) a b (some ((b.map enc).any fun z => eqP z (enc a))) := fun H x y Q c hx hy e q => by
  cases e
  have e2 : ∀ zs : List PV, ((toDs zs).any fun z => PyData.eqv z (toD (enc a))) = zs.any fun z => eqP z (enc a) := fun zs => by
    induction zs with
    | nil => rfl
    | cons z zs ih => simp only [toDs, List.any_cons, ih, eqP]
  refine ⟨_, _, dp_of _ _ (Dta.ok a) hx, dp_of (.lst (b.map enc)) _ (Dta.ok b) hy, shaped_of (Dta.ok a) (Nat.le_trans (Dta.dp a) h1) hx, shaped_of (p := .lst (b.map enc)) (Dta.ok b) (Nat.le_trans (Dta.dp b) h2) hy, ?_⟩
  rw [e2]
  exact q _ rfl
theorem rv_notInD [Dta α] [Dta β] {a : α} {b : List β} (h1 : Dta.n α ≤ 64 := by decide) (h2 : Dta.n (List β) ≤ 64 := by decide) : RvF T (rNotInD K) a b (some (!(b.map enc).any fun z => eqP z (enc a))) := fun H x y Q c hx hy e q => by
  cases e
  have e2 : ∀ zs : List PV, ((toDs zs).any fun z => PyData.eqv z (toD (enc a))) = zs.any fun z => eqP z (enc a) := fun zs => by
    induction zs with
    | nil => rfl
    | cons z zs ih => simp only [toDs, List.any_cons, ih, eqP]
  refine ⟨_, _, dp_of _ _ (Dta.ok a) hx, dp_of (.lst (b.map enc)) _ (Dta.ok b) hy, shaped_of (Dta.ok a) (Nat.le_trans (Dta.dp a) h1) hx, shaped_of (p := .lst (b.map enc)) (Dta.ok b) (Nat.le_trans (Dta.dp b) h2) hy, ?_⟩
  rw [e2]
  exact q _ rfl
end
end Pv

set_option Elab.async false
set_option linter.all false
set_option maxRecDepth 100000
namespace Pv
open PySem PySem.Spec L2
open Enc (enc)
open Encs (encs)

section
variable {C : Cn} {Γ : List Sl} {l l1 l2 : Lv} {α β γ : Type} [Enc α] [Enc β] [Enc γ] {ta tb tc t : TE} {G : Addr → Prop} {os : List (Option Addr)} {σ : L2.St} {H H' : Hp} {x : Exc} {K : PySem.W.Frag} {T : CT}
theorem rd_seqL {K : PySem.W.Frag} {a : Addr} {vs : List V} (h : H a = some (.lst vs)) : SqL K H a vs := .inl (.inl h)
theorem rd_seqT {K : PySem.W.Frag} {a : Addr} {vs : List V} (h : H a = some (.tup vs)) : SqT K H a vs := .inl (.inl h)

/-! ### one operand -/
/-- what follows an operand: from its value x (which stands for a) in a heap H -/
def RvU {β : Type} [Enc β] (C : Cn) (Γ : List Sl) (l l' : Lv) (r : V → Hp → VK → Prop) (a : α) (m : R β) : Prop :=
  ∀ G hid os σ H Q x, OkW C G Γ hid os σ H → Rep C.T H (av l C.H0 G os) (enc a) x → PoV C l' G os σ H Q m → r x H Q
theorem evm_un {r : V → Hp → VK → Prop} {m : R α} {k : α → R β} {l' : Lv} (ha : Evm C Γ l ta m) (hr : ∀ a, m = .ok a → RvU C Γ l l' r a (k a)) : Evm C Γ l' (tUn r ta) (m.bind k) := fun G hid os σ H Q Kw q => by
  refine ha G hid os σ H _ Kw ?_
  cases e : m with
  | bad => rw [e] at q; exact q
  | ex x => rw [e] at q; exact q
  | ok a =>
    rw [e] at q
    intro x H1 s1 r1
    have q : PoV C l' G os σ H Q (k a) := q
    refine hr a e G hid os σ H1 Q x (Kw.same s1) r1 ?_
    cases e2 : k a with
    | bad => rw [e2] at q; exact q
    | ex x => rw [e2] at q; exact PoX.back s1 q
    | ok b => rw [e2] at q; exact fun v H2 s2 r2 => q v H2 (s1.trans s2) r2
theorem ru_neg {a : Int} : RvU C Γ l .fr (rU fun i => .int (-i)) a (.ok (-a)) := fun G hid os σ H Q x Kw r q => ⟨a, r, q _ H (Same.refl H) rfl⟩

/-! ### an item: x[i] -/
theorem evm_op2 {r : R2} {m1 : R α} {m2 : R β} {k : α → β → R γ} {l' : Lv} (ha : Evm C Γ l1 ta m1) (hb : Evm C Γ l2 tb m2)
    (hr : ∀ a b, ∀ G hid os σ H Q x y, OkW C G Γ hid os σ H → Rep C.T H (av l1 C.H0 G os) (enc a) x → Rep C.T H (av l2 C.H0 G os) (enc b) y → PoV C l' G os σ H Q (k a b) → r x y H Q) :
    Evm C Γ l' (tOp r ta tb) (m1.bind fun a => m2.bind fun b => k a b) := fun G hid os σ H Q Kw q => by
  refine ha G hid os σ H _ Kw ?_
  cases e1 : m1 with
  | bad => rw [e1] at q; exact q
  | ex x => rw [e1] at q; exact q
  | ok a =>
    rw [e1] at q
    intro x H1 s1 r1
    refine hb G hid os σ H1 _ (Kw.same s1) ?_
    cases e2 : m2 with
    | bad => rw [e2] at q; exact q
    | ex x => rw [e2] at q; exact PoX.back s1 q
    | ok b =>
      rw [e2] at q
      intro y H2 s2 r2
      have q : PoV C l' G os σ H Q (k a b) := q
      refine hr a b G hid os σ H2 Q x y (Kw.same (s1.trans s2)) (r1.same s2) r2 ?_
      cases e3 : k a b with
      | bad => rw [e3] at q; exact q
      | ex x => rw [e3] at q; exact PoX.back (s1.trans s2) q
      | ok c => rw [e3] at q; exact fun v H3 s3 r3 => q v H3 ((s1.trans s2).trans s3) r3
theorem atI_map {xs : List α} {i : Int} {a : α} (h : atI xs i = some a) : atI (xs.map enc) i = some (enc a) := by
  unfold atI at h ⊢
  rw [List.length_map]
  cases e : ixN xs.length i with
  | none => rw [e] at h; cases h
  | some j =>
    rw [e] at h
    have h : xs[j]? = some a := h
    show (xs.map enc)[j]? = some (enc a)
    rw [List.getElem?_map, h]
    rfl
theorem Reps.atI {ps : List PV} {vs : List V} {i : Int} {p : PV} (r : Reps T H G ps vs) (h : atI ps i = some p) : ∃ v, L2.atI vs i = some v ∧ Rep T H G p v := by
  unfold L2.atI at h ⊢
  rw [← r.len]
  cases e : ixN ps.length i with
  | none => rw [e] at h; cases h
  | some j =>
    rw [e] at h
    exact r.get h
/-- the item of a list -/
theorem evm_ix {m1 : R (List α)} {m2 : R Int} (ha : Evm C Γ l ta m1) (hb : Evm C Γ l2 tb m2) : Evm C Γ l (tOp (rIxL K) ta tb) (m1.bind fun xs => m2.bind fun i => R.of (atI xs i)) :=
  evm_op2 ha hb fun xs i G hid os σ H Q x y Kw rx ry q => by
    obtain ⟨p, vs, e, _, hp, _, rs⟩ := lst_rep rx
    cases e1 : atI xs i with
    | none => rw [e1] at q; exact q.elim
    | some a =>
      rw [e1] at q
      obtain ⟨v, h1, h2⟩ := rs.atI (atI_map e1)
      exact ⟨p, vs, i, v, e, ry, rd_seqL hp, h1, q v H (Same.refl H) h2⟩
/-- the item of an own list -/
theorem evm_ixo {i : Nat} {xs : List α} {m2 : R Int} (h : Γ[i]? = some (.ow l (xs.map enc))) (hb : Evm C Γ l2 tb m2) : Evm C Γ l (tOp (rIxL K) (tVar i) tb) (m2.bind fun i => R.of (atI xs i)) := fun G hid os σ H Q Kw q => by
  obtain ⟨_, a, vs, _, e, ha, hz, r⟩ := Kw.sl i _ h
  refine ⟨_, e, hb G hid os σ H _ Kw ?_⟩
  cases e2 : m2 with
  | bad => rw [e2] at q; exact q
  | ex x => rw [e2] at q; exact q
  | ok b =>
    rw [e2] at q
    intro y H2 s2 r2
    have q : PoV C l G os σ H Q (R.of (atI xs b)) := q
    cases e1 : atI xs b with
    | none => rw [e1] at q; exact q.elim
    | some c =>
      rw [e1] at q
      obtain ⟨v, h1, h2⟩ := (r.same s2).atI (atI_map e1)
      exact ⟨a, vs, b, v, rfl, r2, rd_seqL (s2 _ _ ha), h1, q v H2 s2 h2⟩
/-- the item of the script -/
theorem evm_ixs {m1 : R Scr} {m2 : R Int} (ha : Evm C Γ l ta m1) (hb : Evm C Γ l2 tb m2) : Evm C Γ .fr (tOp (rIxL C.T.K) ta tb) (m1.bind fun s => m2.bind fun i => R.of (atI s.xs i)) :=
  evm_op2 ha hb fun s i G hid os σ H Q x y Kw rx ry q => by
    obtain ⟨p, e, h⟩ := rx
    have hs : SqL C.T.K H p (s.xs.map V.int) := by
      rcases h with ⟨h, _⟩ | h
      · exact .inl h
      · rcases h with (h | ⟨o, h⟩) | h
        · cases h
        · cases h
        · exact .inr h
    cases e1 : atI s.xs i with
    | none => rw [e1] at q; exact q.elim
    | some a =>
      rw [e1] at q
      refine ⟨p, _, i, .int a, e, ry, hs, ?_, q _ H (Same.refl H) rfl⟩
      unfold atI at e1 ⊢
      rw [List.length_map]
      cases e2 : ixN s.xs.length i with
      | none => rw [e2] at e1; cases e1
      | some j =>
        rw [e2] at e1
        have e1 : s.xs[j]? = some a := e1
        show (s.xs.map V.int)[j]? = _
        rw [List.getElem?_map, e1]
        rfl
/-- a place of a tuple, known -/
theorem evm_ixt {δ : Type} [Encs δ] {m1 : R (Tp δ)} {g : δ → α} {j : Nat} (ha : Evm C Γ l ta m1) (hj : ∀ d : δ, (encs d)[j]? = some (enc (g d))) : Evm C Γ l (tOp (rIxT K) ta (tC (.int (j : Int)))) (m1.bind fun s => .ok (g s.t)) := fun G hid os σ H Q Kw q => by
  refine ha G hid os σ H _ Kw ?_
  cases e1 : m1 with
  | bad => rw [e1] at q; exact q
  | ex x => rw [e1] at q; exact q
  | ok a =>
    rw [e1] at q
    intro x H1 s1 r1
    have r1 : Rep C.T H1 _ (.tup (encs a.t)) x := r1
    unfold Rep at r1
    obtain ⟨p, vs, e, _, hp, _, rs⟩ := r1
    obtain ⟨v, h1, h2⟩ := rs.get (hj a.t)
    exact ⟨p, vs, (j : Int), v, e, rfl, rd_seqT hp, atI_nat h1, q v H1 s1 h2⟩

/-! ### arguments -/
theorem eva_nil : EvA C Γ l tNil (.ok ()) := fun G hid os σ H Q Kw q => q [] H (Same.refl H) reps_nil
theorem eva_cons {β : Type} [Encs β] {ta : TE} {tr : TA} {m : R α} {m2 : R β} (h : Evm C Γ l ta m) (hr : EvA C Γ l tr m2) : EvA C Γ l (tCons ta tr) (m.bind fun a => m2.bind fun b => .ok (a, b)) := fun G hid os σ H Q Kw q => by
  refine h G hid os σ H _ Kw ?_
  cases e1 : m with
  | bad => rw [e1] at q; exact q
  | ex x => rw [e1] at q; exact q
  | ok a =>
    rw [e1] at q
    intro x H1 s1 r1
    refine hr G hid os σ H1 _ (Kw.same s1) ?_
    cases e2 : m2 with
    | bad => rw [e2] at q; exact q
    | ex x => rw [e2] at q; exact PoX.back s1 q
    | ok b =>
      rw [e2] at q
      intro vs H2 s2 r2
      exact q (x :: vs) H2 (s1.trans s2) (reps_cons (r1.same s2) r2)
/-- a call of a built-in whose result is flat and that changes nothing -/
def RaF {β : Type} [Encs β] (T : CT) (r : List V → Hp → VK → Prop) (b : β) (o : Option γ) : Prop := ∀ H xs Q c, Reps T H (fun _ => False) (encs b) xs → o = some c → (∀ v, Rep T H (fun _ => False) (enc c) v → Q v H) → r xs H Q
theorem evm_cb {β : Type} [Encs β] [Flat γ] {r : List V → Hp → VK → Prop} {ta : TA} {m : R β} {f : β → Option γ} (ha : EvA C Γ l ta m) (hr : ∀ b, RaF C.T r b (f b)) : Evm C Γ .fr (tCB r ta) (m.bind fun b => R.of (f b)) := fun G hid os σ H Q Kw q => by
  refine ha G hid os σ H _ Kw ?_
  cases e1 : m with
  | bad => rw [e1] at q; exact q
  | ex x => rw [e1] at q; exact q
  | ok b =>
    rw [e1] at q
    intro vs H1 s1 r1
    have q : PoV C .fr G os σ H Q (R.of (f b)) := q
    cases e2 : f b with
    | none => rw [e2] at q; exact q.elim
    | some c =>
      rw [e2] at q
      exact hr b H1 vs Q c (r1.weak fun a z => z.elim) e2 fun v r => q v H1 s1 r.flat
theorem evm_cbT {β : Type} [Encs β] [Flat γ] {r : List V → Hp → VK → Prop} {ta : TA} {m : R β} {f : β → γ} (ha : EvA C Γ l ta m) (hr : ∀ b, RaF C.T r b (some (f b))) : Evm C Γ .fr (tCB r ta) (m.bind fun b => .ok (f b)) := evm_cb (f := fun b => some (f b)) ha hr
theorem reps1 {vs : List V} (r : Reps T H G (encs ((a, ()) : α × Unit)) vs) : ∃ v, vs = [v] ∧ Rep T H G (enc a) v := by
  obtain ⟨v, rr, e, h1, h2⟩ := r
  have h2 : rr = [] := h2
  exact ⟨v, by rw [e, h2], h1⟩
theorem reps2 {a : α} {b : β} {vs : List V} (r : Reps T H G (encs ((a, b, ()) : α × β × Unit)) vs) : ∃ v u, vs = [v, u] ∧ Rep T H G (enc a) v ∧ Rep T H G (enc b) u := by
  obtain ⟨v, rr, e, h1, h2⟩ := r
  obtain ⟨u, e2, h3⟩ := reps1 (a := b) h2
  exact ⟨v, u, by rw [e, e2], h1, h3⟩
theorem ra_abs {b : Int × Unit} : RaF T (fun xs H Q => ∃ i, xs = [.int i] ∧ Q (.int (if i < 0 then -i else i)) H) b (some (if b.1 < 0 then -b.1 else b.1)) := fun H xs Q c r e q => by
  obtain ⟨v, e1, e2⟩ := reps1 (a := b.1) r
  cases e
  exact ⟨b.1, by rw [e1, int_rep e2], q _ rfl⟩
theorem ra_int {b : Int × Unit} : RaF T (fun xs H Q => (∃ i, xs = [.int i] ∧ Q (.int i) H) ∨ ∃ k, xs = [.bl k] ∧ Q (.int (if k then 1 else 0)) H) b (some b.1) := fun H xs Q c r e q => by
  obtain ⟨v, e1, e2⟩ := reps1 (a := b.1) r
  cases e
  exact .inl ⟨b.1, by rw [e1, int_rep e2], q _ rfl⟩
theorem ra_intB {b : Bool × Unit} : RaF T (fun xs H Q => (∃ i, xs = [.int i] ∧ Q (.int i) H) ∨ ∃ k, xs = [.bl k] ∧ Q (.int (if k then 1 else 0)) H) b (some (if b.1 then (1 : Int) else 0)) := fun H xs Q c r e q => by
  obtain ⟨v, e1, e2⟩ := reps1 (a := b.1) r
  cases e
  exact .inr ⟨b.1, by rw [e1, bl_rep e2], q _ rfl⟩
theorem ra_max2 {b : Int × Int × Unit} : RaF T (fun xs H Q => ∃ i j, xs = [.int i, .int j] ∧ Q (.int (if j > i then j else i)) H) b (some (if b.2.1 > b.1 then b.2.1 else b.1)) := fun H xs Q c r e q => by
  obtain ⟨v, u, e1, e2, e3⟩ := reps2 (a := b.1) (b := b.2.1) r
  cases e
  exact ⟨b.1, b.2.1, by rw [e1, int_rep e2, int_rep e3], q _ rfl⟩
theorem ra_min2 {b : Int × Int × Unit} : RaF T (fun xs H Q => ∃ i j, xs = [.int i, .int j] ∧ Q (.int (if j < i then j else i)) H) b (some (if b.2.1 < b.1 then b.2.1 else b.1)) := fun H xs Q c r e q => by
  obtain ⟨v, u, e1, e2, e3⟩ := reps2 (a := b.1) (b := b.2.1) r
  cases e
  exact ⟨b.1, b.2.1, by rw [e1, int_rep e2, int_rep e3], q _ rfl⟩
theorem ra_len {b : List α × Unit} : RaF T (fun xs H Q => ∃ p ys, xs = [.ref p] ∧ (SqL K H p ys ∨ SqT K H p ys) ∧ Q (.int ys.length) H) b (some (b.1.length : Int)) := fun H xs Q c r e q => by
  obtain ⟨v, e1, e2⟩ := reps1 (a := b.1) r
  obtain ⟨p, vs, e3, _, hp, _, rs⟩ := lst_rep e2
  cases e
  refine ⟨p, vs, by rw [e1, e3], .inl (rd_seqL hp), q _ ?_⟩
  have := rs.len
  rw [List.length_map] at this
  rw [this]
  rfl
theorem ra_lenS {b : Scr × Unit} : RaF T (fun xs H Q => ∃ p ys, xs = [.ref p] ∧ (SqL T.K H p ys ∨ SqT T.K H p ys) ∧ Q (.int ys.length) H) b (some (b.1.xs.length : Int)) := fun H xs Q c r e q => by
  obtain ⟨v, e1, p, e3, h⟩ := reps1 (a := b.1) r
  have hs : SqL T.K H p (b.1.xs.map V.int) := by
    rcases h with ⟨h, _⟩ | h
    · exact .inl h
    · rcases h with (h | ⟨o, h⟩) | h
      · cases h
      · cases h
      · exact .inr h
  cases e
  refine ⟨p, _, by rw [e1, e3], .inl hs, q _ ?_⟩
  rw [List.length_map]
  rfl
theorem ra_lenT {δ : Type} [Encs δ] {b : Tp δ × Unit} {n : Nat} (hn : ∀ d : δ, (encs d).length = n) : RaF T (fun xs H Q => ∃ p ys, xs = [.ref p] ∧ (SqL K H p ys ∨ SqT K H p ys) ∧ Q (.int ys.length) H) b (some (n : Int)) := fun H xs Q c r e q => by
  obtain ⟨v, e1, e2⟩ := reps1 (a := b.1) r
  have e2 : Rep T H _ (.tup (encs b.1.t)) v := e2
  unfold Rep at e2
  obtain ⟨p, vs, e3, _, hp, _, rs⟩ := e2
  cases e
  refine ⟨p, vs, by rw [e1, e3], .inr (rd_seqT hp), q _ ?_⟩
  rw [← rs.len, hn]
  rfl
theorem ints_of : ∀ {ns : List Int} {vs : List V}, Reps T H G (ns.map enc) vs → vs = ns.map V.int
  | [], _, h => h
  | n :: ns, _, h => by
    rw [List.map_cons] at h
    unfold Reps at h
    obtain ⟨v, r, e, h1, h2⟩ := h
    rw [e, int_rep h1, ints_of h2]
    rfl
theorem of_ints : ∀ {ns : List Int}, Reps T H G (ns.map enc) (ns.map V.int)
  | [] => reps_nil
  | n :: ns => reps_cons (by rfl) of_ints
theorem bls_of : ∀ {ns : List Bool} {vs : List V}, Reps T H G (ns.map enc) vs → vs = ns.map V.bl
  | [], _, h => h
  | n :: ns, _, h => by
    rw [List.map_cons] at h
    unfold Reps at h
    obtain ⟨v, r, e, h1, h2⟩ := h
    rw [e, bl_rep h1, bls_of h2]
    rfl
theorem ra_all {b : List Bool × Unit} : RaF T (rAll K) b (some (b.1.all id)) := fun H xs Q c r e q => by
  obtain ⟨v, e1, e2⟩ := reps1 (a := b.1) r
  obtain ⟨p, vs, e3, _, hp, _, rs⟩ := lst_rep e2
  cases e
  refine ⟨p, b.1, by rw [e1, e3], ?_, q _ rfl⟩
  rw [← bls_of rs]
  exact rd_seqL hp
theorem ra_any {b : List Bool × Unit} : RaF T (rAny K) b (some (b.1.any id)) := fun H xs Q c r e q => by
  obtain ⟨v, e1, e2⟩ := reps1 (a := b.1) r
  obtain ⟨p, vs, e3, _, hp, _, rs⟩ := lst_rep e2
  cases e
  refine ⟨p, b.1, by rw [e1, e3], ?_, q _ rfl⟩
  rw [← bls_of rs]
  exact rd_seqL hp
theorem ra_sum {b : List Int × Unit} : RaF T (rSum K) b (some b.1.sum) := fun H xs Q c r e q => by
  obtain ⟨v, e1, e2⟩ := reps1 (a := b.1) r
  obtain ⟨p, vs, e3, _, hp, _, rs⟩ := lst_rep e2
  cases e
  refine ⟨p, b.1, by rw [e1, e3], ?_, q _ rfl⟩
  rw [← ints_of rs]
  exact rd_seqL hp
theorem ra_maxL {b : List Int × Unit} : RaF T (rMax K) b b.1.max? := fun H xs Q c r e q => by
  obtain ⟨v, e1, e2⟩ := reps1 (a := b.1) r
  obtain ⟨p, vs, e3, _, hp, _, rs⟩ := lst_rep e2
  refine ⟨p, b.1, by rw [e1, e3], ?_, ?_, fun m hm hb => q _ ?_⟩
  · rw [← ints_of rs]
    exact rd_seqL hp
  · cases e4 : b.1 with
    | nil => rw [e4] at e; cases e
    | cons x xs => simp
  · have := (List.max?_eq_some_iff (xs := b.1) (a := c)).mp e
    have h1 := this.2 m hm
    have h2 := hb c this.1
    show V.int m = V.int c
    have : m = c := by omega
    rw [this]
theorem ra_minL {b : List Int × Unit} : RaF T (rMin K) b b.1.min? := fun H xs Q c r e q => by
  obtain ⟨v, e1, e2⟩ := reps1 (a := b.1) r
  obtain ⟨p, vs, e3, _, hp, _, rs⟩ := lst_rep e2
  refine ⟨p, b.1, by rw [e1, e3], ?_, ?_, fun m hm hb => q _ ?_⟩
  · rw [← ints_of rs]
    exact rd_seqL hp
  · cases e4 : b.1 with
    | nil => rw [e4] at e; cases e
    | cons x xs => simp
  · have := (List.min?_eq_some_iff (xs := b.1) (a := c)).mp e
    have h1 := this.2 m hm
    have h2 := hb c this.1
    show V.int m = V.int c
    have : m = c := by omega
    rw [this]
end
end Pv

set_option Elab.async false
set_option linter.all false
set_option maxRecDepth 100000
namespace Pv
open PySem PySem.Spec L2
open Enc (enc)
open Encs (encs)

section
variable {C : Cn} {Γ : List Sl} {l l1 l2 : Lv} {α β γ δ : Type} [Enc α] [Enc β] [Enc γ] [Encs δ] {ta tb tc te t : TE} {tt tu : TT} {G : Addr → Prop} {os : List (Option Addr)} {σ : L2.St} {H H' : Hp} {x : Exc} {K : PySem.W.Frag} {T : CT}

/-! ### displays -/
theorem same_new {H : Hp} {p : Addr} {o : HO} (n : H p = none) : Same H (upd H p o) := fun b u e => by
  rw [upd_ne (ne_of_none e n)]
  exact e
theorem evn_lst {ta : TA} {m : R δ} {f : δ → List α} (ha : EvA C Γ l ta m) (hf : ∀ b, encs b = (f b).map enc) (hn : ∀ b, (f b).length ≤ 1000) : EvN C Γ l (tLst ta) (m.bind fun b => .ok (f b)) := fun G hid os σ H Q Kw q => by
  refine ha G hid os σ H _ Kw ?_
  cases e1 : m with
  | bad => rw [e1] at q; exact q
  | ex x => rw [e1] at q; exact q
  | ok b =>
    rw [e1] at q
    intro vs H1 s1 r1
    rw [hf b] at r1
    have hl : vs.length ≤ 1000 := by
      have := r1.len
      rw [List.length_map] at this
      rw [← this]
      exact hn b
    exact ⟨Nat.le_of_lt (lim_size (Nat.le_trans hl (by decide))), fun p np => q p vs _ (s1.trans (same_new np)) (s1.free np) upd_same (Nat.le_trans hl (by decide)) ((r1.free np).same (same_new np))⟩
theorem evm_tup {ta : TA} {m : R δ} (ha : EvA C Γ l ta m) (hn : ∀ b : δ, (encs b).length ≤ 1000) : Evm C Γ l (tTup ta) (m.bind fun b => .ok (Tp.mk b)) := fun G hid os σ H Q Kw q => by
  refine ha G hid os σ H _ Kw ?_
  cases e1 : m with
  | bad => rw [e1] at q; exact q
  | ex x => rw [e1] at q; exact q
  | ok b =>
    rw [e1] at q
    intro vs H1 s1 r1
    have hl : vs.length ≤ 1000 := by rw [← r1.len]; exact hn b
    refine ⟨Nat.le_of_lt (lim_size (Nat.le_trans hl (by decide))), fun p np => q (.ref p) _ (s1.trans (same_new np)) ?_⟩
    show Rep C.T _ _ (.tup (encs b)) (.ref p)
    unfold Rep
    exact ⟨p, vs, rfl, (Kw.same s1).fresh np l, upd_same, Nat.le_trans hl (by decide), r1.same (same_new np)⟩
theorem evn_listof {m : R (List α)} (ha : Evm C Γ l ta m) :
    EvN C Γ l (tCB (fun xs H Q => ∃ p ys, xs = [.ref p] ∧ (SqL K H p ys ∨ SqT K H p ys) ∧ ∀ l, H l = none → Q (.ref l) (upd H l (.lst ys))) (tCons ta tNil)) m := fun G hid os σ H Q Kw q => by
  refine ha G hid os σ H _ Kw ?_
  cases e1 : m with
  | bad => rw [e1] at q; exact q
  | ex x => rw [e1] at q; exact q
  | ok xs =>
    rw [e1] at q
    intro x H1 s1 r1
    obtain ⟨p, vs, e, _, hp, hz, rs⟩ := lst_rep r1
    exact ⟨p, vs, by rw [e], .inl (rd_seqL hp), fun d nd => q d vs _ (s1.trans (same_new nd)) (s1.free nd) upd_same hz ((rs.free nd).same (same_new nd))⟩
/-- the same from an own list -/
theorem evn_listofo {i : Nat} {xs : List α} (h : Γ[i]? = some (.ow l (xs.map enc))) :
    EvN C Γ l (tCB (fun xs H Q => ∃ p ys, xs = [.ref p] ∧ (SqL K H p ys ∨ SqT K H p ys) ∧ ∀ l, H l = none → Q (.ref l) (upd H l (.lst ys))) (tCons (tVar i) tNil)) (.ok xs) := fun G hid os σ H Q Kw q => by
  obtain ⟨_, a, vs, _, e, ha, hz, r⟩ := Kw.sl i _ h
  exact ⟨_, e, a, vs, rfl, .inl (rd_seqL ha), fun d nd => q d vs _ (same_new nd) nd upd_same hz ((r.free nd).same (same_new nd))⟩

/-! ### slices -/
def EvO (C : Cn) (Γ : List Sl) (t : TO) (m : R (Option Int)) : Prop := ∀ G hid os σ H (Q : Option Int → Hp → Prop), OkW C G Γ hid os σ H → (match m with | .ok o => ∀ H', Same H H' → Q o H' | .ex x => PoX C σ H x | .bad => False) → t σ H Q
theorem evo_none : EvO C Γ tNoPart (.ok none) := fun G hid os σ H Q Kw q => q H (Same.refl H)
theorem evo_some {m : R Int} (h : Evm C Γ l t m) : EvO C Γ (tPart t) (m.bind fun i => .ok (some i)) := fun G hid os σ H Q Kw q => by
  refine h G hid os σ H _ Kw ?_
  cases e1 : m with
  | bad => rw [e1] at q; exact q
  | ex x => rw [e1] at q; exact q
  | ok i =>
    rw [e1] at q
    exact fun v H1 s1 r1 => ⟨i, r1, q H1 s1⟩
def cutL {α : Type} (xs : List α) (lo hi : Option Int) : List α := (xs.drop (HT.sIx xs.length 0 lo)).take (HT.sIx xs.length xs.length hi - HT.sIx xs.length 0 lo)
theorem cutL_map {xs : List α} {lo hi : Option Int} : (cutL xs lo hi).map enc = cutL (xs.map enc) lo hi := by
  unfold cutL
  rw [List.map_take, List.map_drop, List.length_map]
theorem Reps.cut {ps : List PV} {vs : List V} (lo hi : Option Int) (r : Reps T H G ps vs) : Reps T H G (cutL ps lo hi) (cutV vs lo hi) := by
  unfold cutL cutV
  rw [r.len]
  exact (r.drop _).take _
theorem cutV_len (vs : List V) (lo hi : Option Int) : (cutV vs lo hi).length ≤ vs.length := by
  unfold cutV
  rw [List.length_take, List.length_drop]
  omega
theorem evn_sl {to to2 : TO} {m1 : R (List α)} {m2 m3 : R (Option Int)} (ha : Evm C Γ l ta m1) (hb : EvO C Γ to m2) (hc : EvO C Γ to2 m3) : EvN C Γ l (tSl (rSlL K) ta to to2) (m1.bind fun xs => m2.bind fun a => m3.bind fun b => .ok (cutL xs a b)) := fun G hid os σ H Q Kw q => by
  refine ha G hid os σ H _ Kw ?_
  cases e1 : m1 with
  | bad => rw [e1] at q; exact q
  | ex x => rw [e1] at q; exact q
  | ok xs =>
    rw [e1] at q
    intro x H1 s1 r1
    refine hb G hid os σ H1 _ (Kw.same s1) ?_
    cases e2 : m2 with
    | bad => rw [e2] at q; exact q
    | ex x => rw [e2] at q; exact PoX.back s1 q
    | ok lo =>
      rw [e2] at q
      intro H2 s2
      refine hc G hid os σ H2 _ (Kw.same (s1.trans s2)) ?_
      cases e3 : m3 with
      | bad => rw [e3] at q; exact q
      | ex x => rw [e3] at q; exact PoX.back (s1.trans s2) q
      | ok hi =>
        rw [e3] at q
        intro H3 s3
        obtain ⟨p, vs, e, _, hp, hz, rs⟩ := lst_rep r1
        have s13 := s2.trans s3
        refine ⟨p, vs, e, rd_seqL (s13 _ _ hp), fun d nd => q d _ _ ((s1.trans s13).trans (same_new nd)) ((s1.trans s13).free nd) upd_same (Nat.le_trans (cutV_len _ _ _) hz) ?_⟩
        rw [cutL_map]
        exact (((rs.same s13).cut lo hi).free nd).same (same_new nd)
theorem evn_slo {i : Nat} {xs : List α} {to to2 : TO} {m2 m3 : R (Option Int)} (h : Γ[i]? = some (.ow l (xs.map enc))) (hb : EvO C Γ to m2) (hc : EvO C Γ to2 m3) : EvN C Γ l (tSl (rSlL K) (tVar i) to to2) (m2.bind fun a => m3.bind fun b => .ok (cutL xs a b)) := fun G hid os σ H Q Kw q => by
  obtain ⟨_, p, vs, _, e, hp, hz, rs⟩ := Kw.sl i _ h
  refine ⟨_, e, hb G hid os σ H _ Kw ?_⟩
  cases e2 : m2 with
  | bad => rw [e2] at q; exact q
  | ex x => rw [e2] at q; exact q
  | ok lo =>
    rw [e2] at q
    intro H2 s2
    refine hc G hid os σ H2 _ (Kw.same s2) ?_
    cases e3 : m3 with
    | bad => rw [e3] at q; exact q
    | ex x => rw [e3] at q; exact PoX.back s2 q
    | ok hi =>
      rw [e3] at q
      intro H3 s3
      have s13 := s2.trans s3
      refine ⟨p, vs, rfl, rd_seqL (s13 _ _ hp), fun d nd => q d _ _ (s13.trans (same_new nd)) (s13.free nd) upd_same (Nat.le_trans (cutV_len _ _ _) hz) ?_⟩
      rw [cutL_map]
      exact (((rs.same s13).cut lo hi).free nd).same (same_new nd)

/-! ### + and * of lists -/
def catL {α : Type} (xs ys : List α) : Option (List α) := optIf (xs.length + ys.length ≤ LIM) (xs ++ ys)
theorem evn_cat {m1 m2 : R (List α)} (ha : Evm C Γ l ta m1) (hb : Evm C Γ l tb m2) : EvN C Γ l (tOp rCat ta tb) (m1.bind fun xs => m2.bind fun ys => R.of (catL xs ys)) := fun G hid os σ H Q Kw q => by
  refine ha G hid os σ H _ Kw ?_
  cases e1 : m1 with
  | bad => rw [e1] at q; exact q
  | ex x => rw [e1] at q; exact q
  | ok xs =>
    rw [e1] at q
    intro x H1 s1 r1
    refine hb G hid os σ H1 _ (Kw.same s1) ?_
    cases e2 : m2 with
    | bad => rw [e2] at q; exact q
    | ex x => rw [e2] at q; exact PoX.back s1 q
    | ok ys =>
      rw [e2] at q
      intro y H2 s2 r2
      have q : PoN C l G os σ H Q (R.of (catL xs ys)) := q
      cases e3 : catL xs ys with
      | none => rw [e3] at q; exact q.elim
      | some zs =>
        rw [e3] at q
        obtain ⟨c, e4⟩ := optIf_some e3
        obtain ⟨p, vs, ex, _, hp, _, rs⟩ := lst_rep r1
        obtain ⟨p', us, ey, _, hp', _, rs'⟩ := lst_rep r2
        have l1 := rs.len
        have l2 := rs'.len
        rw [List.length_map] at l1 l2
        refine ⟨p, p', vs, us, ex, ey, s2 _ _ hp, hp', Nat.le_of_lt (lim_size (by omega)), fun d nd => q d _ _ ((s1.trans s2).trans (same_new nd)) ((s1.trans s2).free nd) upd_same (by rw [List.length_append]; omega) ?_⟩
        rw [← e4, List.map_append]
        exact (((rs.same s2).app rs').free nd).same (same_new nd)
def repL {α : Type} (xs : List α) (k : Int) : Option (List α) := optIf (-(2 ^ 63) ≤ k ∧ k < 2 ^ 63 ∧ xs.length * k.toNat ≤ LIM) (List.replicate k.toNat xs).flatten
theorem Reps.repl {ps : List PV} {vs : List V} (r : Reps T H G ps vs) : ∀ n : Nat, Reps T H G (List.replicate n ps).flatten (List.replicate n vs).flatten
  | 0 => by simp; exact reps_nil
  | n + 1 => by
    rw [List.replicate_succ, List.replicate_succ, List.flatten_cons, List.flatten_cons]
    exact r.app (Reps.repl r n)
theorem repl_len {α : Type} (xs : List α) (n : Nat) : (List.replicate n xs).flatten.length = xs.length * n := by
  induction n with
  | zero => simp
  | succ n ih => rw [List.replicate_succ, List.flatten_cons, List.length_append, ih, Nat.mul_succ]; omega
theorem evn_rep {m1 : R (List α)} {m2 : R Int} (ha : Evm C Γ l ta m1) (hb : Evm C Γ l2 tb m2) : EvN C Γ l (tOp rRep ta tb) (m1.bind fun xs => m2.bind fun k => R.of (repL xs k)) := fun G hid os σ H Q Kw q => by
  refine ha G hid os σ H _ Kw ?_
  cases e1 : m1 with
  | bad => rw [e1] at q; exact q
  | ex x => rw [e1] at q; exact q
  | ok xs =>
    rw [e1] at q
    intro x H1 s1 r1
    refine hb G hid os σ H1 _ (Kw.same s1) ?_
    cases e2 : m2 with
    | bad => rw [e2] at q; exact q
    | ex x => rw [e2] at q; exact PoX.back s1 q
    | ok k =>
      rw [e2] at q
      intro y H2 s2 r2
      have q : PoN C l G os σ H Q (R.of (repL xs k)) := q
      cases e3 : repL xs k with
      | none => rw [e3] at q; exact q.elim
      | some zs =>
        rw [e3] at q
        obtain ⟨⟨c1, c2, c3⟩, e4⟩ := optIf_some e3
        obtain ⟨p, vs, ex, _, hp, _, rs⟩ := lst_rep r1
        have l1 := rs.len
        rw [List.length_map] at l1
        refine ⟨p, k, vs, ex, r2, s2 _ _ hp, c1, c2, Nat.le_of_lt (lim_size (by rw [← l1]; exact c3)), fun d nd => q d _ _ ((s1.trans s2).trans (same_new nd)) ((s1.trans s2).free nd) upd_same (by rw [repl_len, ← l1]; exact c3) ?_⟩
        have e5 : (zs.map enc : List PV) = (List.replicate k.toNat (xs.map enc)).flatten := by
          rw [← e4, List.map_flatten, List.map_replicate]
        rw [e5]
        exact (((rs.same s2).repl k.toNat).free nd).same (same_new nd)

/-! ### sorted, of ints -/
def sortI (xs : List Int) : List Int := xs.mergeSort fun a b => decide (a ≤ b)
theorem sortI_perm (xs : List Int) : (sortI xs).Perm xs := List.mergeSort_perm _ _
theorem sortI_le (xs : List Int) : (sortI xs).Pairwise (· ≤ ·) := by
  have := List.pairwise_mergeSort (le := fun a b : Int => decide (a ≤ b)) (fun a b c h1 h2 => by simp at h1 h2 ⊢; omega) (fun a b => by simp; omega) xs
  exact this.imp fun h => by simpa using h
theorem sorted_one : ∀ {xs ys : List Int}, xs.Perm ys → xs.Pairwise (· ≤ ·) → ys.Pairwise (· ≤ ·) → xs = ys := fun h h1 h2 =>
  h.eq_of_pairwise (fun a b _ _ h1 h2 => Int.le_antisymm h1 h2) h1 h2
theorem evn_sorted {m : R (List Int)} (ha : Evm C Γ l ta m) : EvN C Γ .fr (tCB (rSortedI K) (tCons ta tNil)) (m.bind fun xs => .ok (sortI xs)) := fun G hid os σ H Q Kw q => by
  refine ha G hid os σ H _ Kw ?_
  cases e1 : m with
  | bad => rw [e1] at q; exact q
  | ex x => rw [e1] at q; exact q
  | ok xs =>
    rw [e1] at q
    intro x H1 s1 r1
    obtain ⟨p, vs, e, _, hp, hz, rs⟩ := lst_rep r1
    have hv := ints_of rs
    refine ⟨p, xs, by rw [e], by rw [← hv]; exact rd_seqL hp, fun ns d pm pw nd => ?_⟩
    have e2 : ns = sortI xs := sorted_one (pm.trans (sortI_perm xs).symm) pw (sortI_le xs)
    rw [e2]
    refine q d _ _ (s1.trans (same_new nd)) (s1.free nd) upd_same ?_ of_ints
    rw [List.length_map, (sortI_perm xs).length_eq]
    rw [hv, List.length_map] at hz
    exact hz
end
end Pv

set_option Elab.async false
set_option linter.all false
set_option maxRecDepth 100000
namespace Pv
open PySem PySem.Spec L2
open Enc (enc)
open Encs (encs)

section
variable {C : Cn} {Γ : List Sl} {l l1 l2 : Lv} {α β γ δ : Type} [Enc α] [Enc β] [Enc γ] [Encs δ] {ta tb tc te t : TE} {tt tu : TT} {G : Addr → Prop} {os : List (Option Addr)} {σ : L2.St} {H H' : Hp} {x : Exc} {K : PySem.W.Frag} {T : CT}

/-! ### tests -/
theorem evt_test {m : R Bool} (h : Evm C Γ l t m) : EvT C Γ (tTest t) m := fun G hid os σ H Q Kw q => h G hid os σ H _ Kw (by
  cases m with
  | bad => exact q
  | ex x => exact q
  | ok b => exact fun v H1 s1 r1 => ⟨b, r1, q H1 s1⟩)
theorem evt_B {m : R Bool} (h : Evm C Γ l t m) : EvT C Γ (tB t) m := fun G hid os σ H Q Kw q => h G hid os σ H _ Kw (by
  cases m with
  | bad => exact q
  | ex x => exact q
  | ok b => exact fun v H1 s1 r1 => ⟨b, r1, q H1 s1⟩)
theorem PoT.back {σ : L2.St} {Q : Bool → Hp → Prop} {m : R Bool} (e : Same H H') (q : PoT C σ H Q m) : PoT C σ H' Q m := by
  cases m with
  | bad => exact q
  | ex x => exact PoX.back e q
  | ok b => exact fun H2 s2 => q H2 (e.trans s2)
theorem PoV.back {σ : L2.St} {Q : VK} {m : R α} (e : Same H H') (q : PoV C l G os σ H Q m) : PoV C l G os σ H' Q m := by
  cases m with
  | bad => exact q
  | ex x => exact PoX.back e q
  | ok b => exact fun v H2 s2 r => q v H2 (e.trans s2) r
theorem evt_and {m1 m2 : R Bool} (h1 : EvT C Γ tt m1) (h2 : EvT C Γ tu m2) : EvT C Γ (tAnd tt tu) (m1.bind fun b => R.ite b m2 (.ok false)) := fun G hid os σ H Q Kw q => h1 G hid os σ H _ Kw (by
  cases m1 with
  | bad => exact q
  | ex x => exact q
  | ok b =>
    intro H1 s1
    cases b with
    | true => exact iteT (h2 G hid os σ H1 Q (Kw.same s1) (PoT.back s1 q))
    | false => exact iteF (q H1 s1))
theorem evt_or {m1 m2 : R Bool} (h1 : EvT C Γ tt m1) (h2 : EvT C Γ tu m2) : EvT C Γ (tOr tt tu) (m1.bind fun b => R.ite b (.ok true) m2) := fun G hid os σ H Q Kw q => h1 G hid os σ H _ Kw (by
  cases m1 with
  | bad => exact q
  | ex x => exact q
  | ok b =>
    intro H1 s1
    cases b with
    | true => exact iteT (q H1 s1)
    | false => exact iteF (h2 G hid os σ H1 Q (Kw.same s1) (PoT.back s1 q)))
theorem evt_not {m : R Bool} (h : EvT C Γ tt m) : EvT C Γ (tNot tt) (m.bind fun b => .ok (!b)) := fun G hid os σ H Q Kw q => h G hid os σ H _ Kw (by
  cases m with
  | bad => exact q
  | ex x => exact q
  | ok b => exact fun H1 s1 => q H1 s1)
/-- the truth of a value -/
class Tru (α : Type) [Enc α] where
  tru : α → Bool
  ok : ∀ (K : PySem.W.Frag) (T : CT) (H : Hp) (G : Addr → Prop) (a : α) (v : V), Rep T H G (enc a) v → TruV K v H (tru a)
instance : Tru Int := ⟨fun i => i != 0, fun K T H G a v r => by rw [int_rep r]; exact rfl⟩
instance : Tru Bool := ⟨id, fun K T H G a v r => by rw [bl_rep r]; exact rfl⟩
instance : Tru Str := ⟨fun x => (x.length : Int) != 0, fun K T H G a v r => by rw [(str_rep r).1]; exact ⟨Nat.le_of_lt (lim_size (str_rep r).2.1), rfl⟩⟩
instance {α : Type} [Enc α] : Tru (List α) := ⟨fun xs => !xs.isEmpty, fun K T H G a v r => by
  obtain ⟨p, vs, e, _, hp, _, rs⟩ := lst_rep r
  rw [e]
  refine .inl ⟨vs, rd_seqL hp, ?_⟩
  have := rs.len
  rw [List.length_map] at this
  cases a with
  | nil => cases vs with
    | nil => rfl
    | cons _ _ => simp at this
  | cons _ _ => cases vs with
    | nil => simp at this
    | cons _ _ => rfl⟩
theorem evt_tru [Tru α] {m : R α} (h : Evm C Γ l ta m) : EvT C Γ (fun σ H Q => ta σ H fun x H' => ∃ k, TruV K x H' k ∧ Q k H') (m.bind fun a => .ok (Tru.tru a)) := fun G hid os σ H Q Kw q => h G hid os σ H _ Kw (by
  cases m with
  | bad => exact q
  | ex x => exact q
  | ok a => exact fun v H1 s1 r1 => ⟨Tru.tru a, Tru.ok K C.T H1 _ a v r1, q H1 s1⟩)

/-! ### and, or, not, if as values -/
theorem evm_and {m1 m2 : R Bool} (h1 : Evm C Γ l1 ta m1) (h2 : Evm C Γ l2 tb m2) : Evm C Γ .fr (tAndV ta tb) (m1.bind fun b => R.ite b m2 (.ok false)) := fun G hid os σ H Q Kw q => h1 G hid os σ H _ Kw (by
  cases m1 with
  | bad => exact q
  | ex x => exact q
  | ok b =>
    intro v H1 s1 r1
    refine ⟨b, r1, ?_⟩
    cases b with
    | true => exact iteT ((evm_flat (l2 := .fr) h2) G hid os σ H1 Q (Kw.same s1) (PoV.back s1 q))
    | false => exact iteF (q _ H1 s1 (by rfl)))
theorem evm_or {m1 m2 : R Bool} (h1 : Evm C Γ l1 ta m1) (h2 : Evm C Γ l2 tb m2) : Evm C Γ .fr (tOrV ta tb) (m1.bind fun b => R.ite b (.ok true) m2) := fun G hid os σ H Q Kw q => h1 G hid os σ H _ Kw (by
  cases m1 with
  | bad => exact q
  | ex x => exact q
  | ok b =>
    intro v H1 s1 r1
    refine ⟨b, r1, ?_⟩
    cases b with
    | true => exact iteT (q _ H1 s1 (by rfl))
    | false => exact iteF ((evm_flat (l2 := .fr) h2) G hid os σ H1 Q (Kw.same s1) (PoV.back s1 q)))
theorem evm_not {m : R Bool} (h : Evm C Γ l ta m) : Evm C Γ .fr (tNotV ta) (m.bind fun b => .ok (!b)) := fun G hid os σ H Q Kw q => h G hid os σ H _ Kw (by
  cases m with
  | bad => exact q
  | ex x => exact q
  | ok b => exact fun v H1 s1 r1 => ⟨b, r1, q _ H1 s1 (by rfl)⟩)
theorem evm_if {m : R Bool} {m1 m2 : R α} (h : EvT C Γ tt m) (h1 : Evm C Γ l ta m1) (h2 : Evm C Γ l tb m2) : Evm C Γ l (tIf tt ta tb) (R.ifm m m1 m2) := fun G hid os σ H Q Kw q => h G hid os σ H _ Kw (by
  cases m with
  | bad => exact q
  | ex x => exact q
  | ok b =>
    intro H1 s1
    cases b with
    | true => exact iteT (h1 G hid os σ H1 Q (Kw.same s1) (PoV.back s1 q))
    | false => exact iteF (h2 G hid os σ H1 Q (Kw.same s1) (PoV.back s1 q)))
/-- a < b < c -/
theorem evm_chain {r r' : R2} {m1 : R α} {m2 : R β} {m3 : R γ} {f : α → β → Bool} {g : β → γ → Bool} (ha : Evm C Γ l ta m1) (hb : Evm C Γ l1 tb m2) (hc : Evm C Γ l2 tc m3) (hr : ∀ a b, RvF C.T r a b (some (f a b))) (hr' : ∀ b c, RvF C.T r' b c (some (g b c))) :
    Evm C Γ .fr (tChain r r' ta tb tc) (m1.bind fun a => m2.bind fun b => R.ite (f a b) (m3.bind fun c => .ok (g b c)) (.ok false)) := fun G hid os σ H Q Kw q => by
  refine ha G hid os σ H _ Kw ?_
  cases e1 : m1 with
  | bad => rw [e1] at q; exact q
  | ex x => rw [e1] at q; exact q
  | ok a =>
    rw [e1] at q
    intro x H1 s1 r1
    refine hb G hid os σ H1 _ (Kw.same s1) ?_
    cases e2 : m2 with
    | bad => rw [e2] at q; exact q
    | ex x => rw [e2] at q; exact PoX.back s1 q
    | ok b =>
      rw [e2] at q
      intro y H2 s2 r2
      have q : PoV C .fr G os σ H Q (R.ite (f a b) (m3.bind fun c => .ok (g b c)) (.ok false)) := q
      refine hr a b H2 x y _ (f a b) (raw_rep (r1.same s2)) (raw_rep r2) rfl fun v rv => ?_
      refine ⟨f a b, rv, ?_⟩
      cases e4 : f a b with
      | false =>
        rw [e4] at q
        exact iteF (q _ H2 (s1.trans s2) (by rfl))
      | true =>
        rw [e4] at q
        refine iteT (hc G hid os σ H2 _ (Kw.same (s1.trans s2)) ?_)
        cases e3 : m3 with
        | bad => rw [e3] at q; exact q
        | ex x => rw [e3] at q; exact PoX.back (s1.trans s2) q
        | ok c =>
          rw [e3] at q
          intro z H3 s3 r3
          exact hr' b c H3 y z _ (g b c) (raw_rep (r2.same s3)) (raw_rep r3) rfl fun v rv => q v H3 ((s1.trans s2).trans s3) rv
end
end Pv

set_option Elab.async false
set_option linter.all false
set_option maxRecDepth 100000
namespace Pv
open PySem PySem.Spec L2
open Enc (enc)
open Encs (encs)

/-! ### what a def promises -/
def avC (l : Lv) (G : Addr → Prop) (H : Hp) (a : Addr) : Prop := match l with
  | .raw => False
  | .pa => G a
  | .fr => H a ≠ none ∨ G a
def PoRet (T : CT) (M : RM) (G : Addr → Prop) (H : Hp) (Q : VK) (p : PV) : Prop := match M with
  | .val l => ∀ v H', Same H H' → Rep T H' (avC l G H) p v → Q v H'
  | .nw l => ∀ a vs H' xs, p = .lst xs → Same H H' → H a = none → H' a = some (.lst vs) → vs.length ≤ LIM → Reps T H' (fun b => avC l G H b ∨ b = a) xs vs → Q (.ref a) H'
def PoC {α : Type} [Enc α] (T : CT) (M : RM) (G : Addr → Prop) (H : Hp) (Q : VK) (E : XK) : R α → Prop
  | .ok a => PoRet T M G H Q (enc a)
  | .ex x => ∀ cls d H', Same H H' → ExRep T H' x cls d → E cls d H'
  | .bad => False
/-- a quiet def: no exception -/
def PoQ {α : Type} [Enc α] (T : CT) (M : RM) (G : Addr → Prop) (H : Hp) (Q : VK) : R α → Prop
  | .ok a => PoRet T M G H Q (enc a)
  | _ => False
/-- called with what stands for b it hands back what stands for f b -/
def Pm {β α : Type} [Encs β] [Enc α] (T : CT) (M : RM) (f : β → R α) : Sp := fun vs H Q _ => ∃ (b : β) (G : Addr → Prop), (∀ a, G a → H a ≠ none) ∧ Reps T H G (encs b) vs ∧ PoQ T M G H Q (f b)
def PmX {β α : Type} [Encs β] [Enc α] (T : CT) (M : RM) (f : β → R α) : Sp := fun vs H Q E => ∃ (b : β) (G : Addr → Prop), (∀ a, G a → H a ≠ none) ∧ Reps T H G (encs b) vs ∧ PoC T M G H Q E (f b)

section
variable {C : Cn} {Γ : List Sl} {l l1 l2 : Lv} {α : Type} [Enc α] {β : Type} [Encs β] {ta : TA} {E : XK}
theorem pm_at {T : CT} {M : RM} {f : β → R α} {b : β} {vs : List V} {H : Hp} {Q : VK} {G : Addr → Prop} (dom : ∀ a, G a → H a ≠ none) (r : Reps T H G (encs b) vs) (q : PoQ T M G H Q (f b)) : Pm T M f (vs ++ []) H Q E := by
  rw [List.append_nil]
  exact ⟨b, G, dom, r, q⟩
/-- the general step: from what the arguments are worth -/
theorem call_gen {m : R β} {f : β → R α} {M : RM} {P : (Addr → Prop) → List (Option Addr) → L2.St → Hp → VK → R α → Prop} (ha : EvA C Γ l ta m)
    (hb : ∀ G os σ H Q, ¬ P G os σ H Q .bad) (hx : ∀ G os σ H Q x, P G os σ H Q (.ex x) → False)
    (hm : ∀ G hid os σ H Q H1 a, OkW C G Γ hid os σ H → Same H H1 → P G os σ H Q (.ok a) → ∃ G' : Addr → Prop, (∀ b, G' b → H1 b ≠ none) ∧ (∀ b, G' b → av l C.H0 G os b) ∧ PoRet C.T M G' H1 Q (enc a)) :
    ∀ G hid os σ H Q, OkW C G Γ hid os σ H → (match m with | .ok b => P G os σ H Q (f b) | .ex x => PoX C σ H x | .bad => False) → tCall (Pm C.T M f) [] E ta σ H Q := fun G hid os σ H Q Kw q => by
  refine ha G hid os σ H _ Kw ?_
  cases e1 : m with
  | bad => rw [e1] at q; exact q
  | ex x => rw [e1] at q; exact q
  | ok b =>
    rw [e1] at q
    intro vs H1 s1 r1
    have q : P G os σ H Q (f b) := q
    cases e2 : f b with
    | bad => rw [e2] at q; exact absurd q (hb _ _ _ _ _)
    | ex x => rw [e2] at q; exact (hx _ _ _ _ _ _ q).elim
    | ok a =>
      rw [e2] at q
      obtain ⟨G', d, w, z⟩ := hm G hid os σ H Q H1 a Kw s1 q
      exact pm_at d (r1.weak w) (by rw [e2]; exact z)
theorem av_fr_of {G : Addr → Prop} {os : List (Option Addr)} {hid : Hid} {σ : L2.St} {H H1 : Hp} {G' : Addr → Prop} (Kw : OkW C G Γ hid os σ H) (s1 : Same H H1) (a : Addr) (h : av .fr C.H0 G os a) : avC .fr G' H1 a := .inl (by
  rcases h with h | h | h
  · exact same_ne (Kw.ext.trans s1) h
  · exact same_ne s1 (Kw.dom a h)
  · exact same_ne s1 (Kw.new a h).2.1)
/-- the result is made anew at every depth: whatever the arguments are -/
theorem evm_callF {m : R β} {f : β → R α} (hW : C.W = none) (ha : EvA C Γ .raw ta m) : Evm C Γ .fr (tCall (Pm C.T (.val .fr) f) [] E ta) (m.bind f) := fun G hid os σ H Q Kw q => by
  refine call_gen (M := .val .fr) (P := fun G os σ H Q r => PoV C .fr G os σ H Q r) ha (fun _ _ _ _ _ z => z) (fun _ _ _ _ _ x z => by have z : PoX C _ _ x := z; unfold PoX at z; rw [hW] at z; exact z) (fun G hid os σ H Q H1 a Kw s1 q => ⟨fun _ => False, fun _ z => z.elim, fun _ z => z.elim, fun v H2 s2 r => q v H2 (s1.trans s2) (r.weak fun a z => av_fr_of Kw s1 a z)⟩) G hid os σ H Q Kw ?_
  cases m with
  | bad => exact q
  | ex x => exact q
  | ok b => exact q
theorem evm_callP {m : R β} {f : β → R α} (hW : C.W = none) (ha : EvA C Γ .pa ta m) : Evm C Γ .pa (tCall (Pm C.T (.val .pa) f) [] E ta) (m.bind f) := fun G hid os σ H Q Kw q => by
  refine call_gen (M := .val .pa) (P := fun G os σ H Q r => PoV C .pa G os σ H Q r) ha (fun _ _ _ _ _ z => z) (fun _ _ _ _ _ x z => by have z : PoX C _ _ x := z; unfold PoX at z; rw [hW] at z; exact z) (fun G hid os σ H Q H1 a Kw s1 q => ⟨av .pa C.H0 G os, fun b z => same_ne s1 (Kw.avdom .pa b z), fun _ z => z, fun v H2 s2 r => q v H2 (s1.trans s2) r⟩) G hid os σ H Q Kw ?_
  cases m with
  | bad => exact q
  | ex x => exact q
  | ok b => exact q
theorem evm_callR {m : R β} {f : β → R α} (hW : C.W = none) (ha : EvA C Γ .raw ta m) : Evm C Γ .raw (tCall (Pm C.T (.val .pa) f) [] E ta) (m.bind f) := fun G hid os σ H Q Kw q => by
  refine call_gen (M := .val .pa) (P := fun G os σ H Q r => PoV C .raw G os σ H Q r) ha (fun _ _ _ _ _ z => z) (fun _ _ _ _ _ x z => by have z : PoX C _ _ x := z; unfold PoX at z; rw [hW] at z; exact z) (fun G hid os σ H Q H1 a Kw s1 q => ⟨fun _ => False, fun _ z => z.elim, fun _ z => z.elim, fun v H2 s2 r => q v H2 (s1.trans s2) (r.weak fun a z => z)⟩) G hid os σ H Q Kw ?_
  cases m with
  | bad => exact q
  | ex x => exact q
  | ok b => exact q
theorem evn_callF {m : R β} {f : β → R (List α)} (hW : C.W = none) (ha : EvA C Γ .raw ta m) : EvN C Γ .fr (tCall (Pm C.T (.nw .fr) f) [] E ta) (m.bind f) := fun G hid os σ H Q Kw q => by
  refine call_gen (M := .nw .fr) (P := fun G os σ H Q r => PoN C .fr G os σ H Q r) ha (fun _ _ _ _ _ z => z) (fun _ _ _ _ _ x z => by have z : PoX C _ _ x := z; unfold PoX at z; rw [hW] at z; exact z) (fun G hid os σ H Q H1 a Kw s1 q => ⟨fun _ => False, fun _ z => z.elim, fun _ z => z.elim, fun p vs H2 xs e s2 n hp hz r => q p vs H2 (s1.trans s2) (s1.free n) hp hz (by cases e; exact r.weak fun a z => z.imp (fun z => av_fr_of Kw s1 a z) id)⟩) G hid os σ H Q Kw ?_
  cases m with
  | bad => exact q
  | ex x => exact q
  | ok b => exact q
theorem evn_callP {m : R β} {f : β → R (List α)} (hW : C.W = none) (ha : EvA C Γ .pa ta m) : EvN C Γ .pa (tCall (Pm C.T (.nw .pa) f) [] E ta) (m.bind f) := fun G hid os σ H Q Kw q => by
  refine call_gen (M := .nw .pa) (P := fun G os σ H Q r => PoN C .pa G os σ H Q r) ha (fun _ _ _ _ _ z => z) (fun _ _ _ _ _ x z => by have z : PoX C _ _ x := z; unfold PoX at z; rw [hW] at z; exact z) (fun G hid os σ H Q H1 a Kw s1 q => ⟨av .pa C.H0 G os, fun b z => same_ne s1 (Kw.avdom .pa b z), fun _ z => z, fun p vs H2 xs e s2 n hp hz r => q p vs H2 (s1.trans s2) (s1.free n) hp hz (by cases e; exact r)⟩) G hid os σ H Q Kw ?_
  cases m with
  | bad => exact q
  | ex x => exact q
  | ok b => exact q
theorem eva_pa {m : R β} (h : EvA C Γ .fr ta m) : EvA C Γ .pa ta m := fun G hid os σ H Q K q => h G hid os σ H Q K (by
  cases m with
  | ok a => exact fun v H' e r => q v H' e (r.weak fun a z => .inr z)
  | ex x => exact q
  | bad => exact q)
theorem eva_raw {m : R β} (h : EvA C Γ l ta m) : EvA C Γ .raw ta m := fun G hid os σ H Q K q => h G hid os σ H Q K (by
  cases m with
  | ok a => exact fun v H' e r => q v H' e (r.weak fun a z => z.elim)
  | ex x => exact q
  | bad => exact q)
end

/-! ### what is walked -/
/-- an iterator over what stands for xs, as long as the pins are what they are -/
structure ItOv {α : Type} [Enc α] (T : CT) (J : It) (l : Lv) (pins : List (PV × V)) (xs : List α) : Prop where
  go : ∀ (i : Nat) (a : α) (H : Hp) (A : Addr → Prop), xs[i]? = some a → (∀ b, A b → H b ≠ none) → (∀ q ∈ pins, Rep T H A q.1 q.2) → J.go i H ∧ ∀ x H3, J.yld i H x H3 → Same H H3 ∧ Rep T H3 A (enc a) x
  stop : ∀ (i : Nat) (H : Hp) (A : Addr → Prop), xs.length ≤ i → (∀ q ∈ pins, Rep T H A q.1 q.2) → J.stop i H
def PoI {α : Type} [Enc α] (C : Cn) (l : Lv) (G : Addr → Prop) (os : List (Option Addr)) (σ : L2.St) (H : Hp) (Q : It → Hp → Prop) : R (List α) → Prop
  | .ok xs => ∀ J pins H', Same H H' → (∀ q ∈ pins, Rep C.T H' (av l C.H0 G os) q.1 q.2) → xs.length ≤ LIM → ItOv C.T J l pins xs → Q J H'
  | .ex x => PoX C σ H x
  | .bad => False
def EvI {α : Type} [Enc α] (C : Cn) (Γ : List Sl) (l : Lv) (t : TI) (m : R (List α)) : Prop := ∀ G hid os σ H Q, OkW C G Γ hid os σ H → PoI C l G os σ H Q m → t σ H Q
section
variable {C : Cn} {Γ : List Sl} {l l1 l2 : Lv} {α β : Type} [Enc α] [Enc β] {tl t : TE} {ta : TA} {K : PySem.W.Frag}
theorem evi_list {m : R (List α)} (h : Evm C Γ l tl m) : EvI C Γ l (iList K tl) m := fun G hid os σ H Q Kw q => by
  refine h G hid os σ H _ Kw ?_
  cases e1 : m with
  | bad => rw [e1] at q; exact q
  | ex x => rw [e1] at q; exact q
  | ok xs =>
    rw [e1] at q
    intro v H1 s1 r1
    obtain ⟨p, vs, e, _, hp, hz, rs⟩ := lst_rep r1
    have hl := rs.len
    rw [List.length_map] at hl
    refine ⟨p, e, ⟨vs, rd_seqL hp⟩, q _ [(enc xs, v)] H1 s1 (fun z hz => ?_) (by rw [hl]; exact hz) ⟨fun i a H2 A ha hd hpin => ?_, fun i H2 A hi hpin => ?_⟩⟩
    · rw [List.mem_singleton.mp hz]
      exact r1
    · obtain ⟨p2, us, e2, _, hp2, _, rs2⟩ := lst_rep (hpin _ (List.mem_singleton.mpr rfl))
      have e3 : p2 = p := by
        have : V.ref p2 = V.ref p := e2.symm.trans e
        injection this
      rw [e3] at hp2
      obtain ⟨w, hw, rw'⟩ := rs2.get (show (xs.map enc)[i]? = some (enc a) by rw [List.getElem?_map, ha]; rfl)
      refine ⟨⟨us, w, rd_seqL hp2, hw⟩, fun x H3 hy => ?_⟩
      obtain ⟨eH, hx⟩ := hy
      rw [eH]
      have e4 := hx us (rd_seqL hp2)
      rw [hw] at e4
      cases e4
      exact ⟨Same.refl _, rw'⟩
    · obtain ⟨p2, us, e2, _, hp2, _, rs2⟩ := lst_rep (hpin _ (List.mem_singleton.mpr rfl))
      have e3 : p2 = p := by
        have : V.ref p2 = V.ref p := e2.symm.trans e
        injection this
      rw [e3] at hp2
      have := rs2.len
      rw [List.length_map] at this
      exact ⟨us, rd_seqL hp2, by omega⟩
theorem int_rng (lo : Int) (n : Nat) (T : CT) : ItOv T (Itr lo n) l [] ((List.range n).map fun k : Nat => lo + (k : Int)) :=
  ⟨fun i a H A ha hd _ => by
    rw [List.getElem?_map] at ha
    have hi : i < n := by
      by_cases h : i < n
      · exact h
      · rw [List.getElem?_eq_none (by simp; omega)] at ha
        cases ha
    rw [List.getElem?_range hi] at ha
    cases ha
    exact ⟨hi, fun x H3 hy => by
      obtain ⟨e1, e2⟩ := hy
      rw [e1, e2]
      exact ⟨Same.refl _, rfl⟩⟩, fun i H A hi _ => by
    rw [List.length_map, List.length_range] at hi
    exact hi⟩
def rng (lo hi : Int) : List Int := (List.range (hi - lo).toNat).map fun k : Nat => lo + (k : Int)
def rngO (lo hi : Int) : Option (List Int) := optIf (-1000000 ≤ lo ∧ lo ≤ 1000000 ∧ -1000000 ≤ hi ∧ hi ≤ 1000000 ∧ hi - lo ≤ 1000000) (rng lo hi)
theorem evi_rng1 {m : R Int} (h : Evm C Γ l2 t m) : EvI C Γ l (iRng1 (tCons t tNil)) (m.bind fun n => R.of (rngO 0 n)) := fun G hid os σ H Q Kw q => by
  refine h G hid os σ H _ Kw ?_
  cases e1 : m with
  | bad => rw [e1] at q; exact q
  | ex x => rw [e1] at q; exact q
  | ok n =>
    rw [e1] at q
    intro v H1 s1 r1
    have q : PoI C l G os σ H Q (R.of (rngO 0 n)) := q
    cases e2 : rngO 0 n with
    | none => rw [e2] at q; exact q.elim
    | some xs =>
      rw [e2] at q
      obtain ⟨c, e3⟩ := optIf_some e2
      refine ⟨n, by rw [int_rep r1], by omega, by omega, q _ [] H1 s1 (fun z hz => by cases hz) ?_ ?_⟩
      · rw [← e3]
        simp only [rng, List.length_map, List.length_range]
        show _ ≤ 1000000
        omega
      · rw [← e3]
        have := int_rng (l := l) 0 n.toNat C.T
        simpa [rng] using this
theorem evi_rng2 {m1 m2 : R Int} {t1 t2 : TE} (h1 : Evm C Γ l1 t1 m1) (h2 : Evm C Γ l2 t2 m2) : EvI C Γ l (iRng2 (tCons t1 (tCons t2 tNil))) (m1.bind fun a => m2.bind fun b => R.of (rngO a b)) := fun G hid os σ H Q Kw q => by
  refine h1 G hid os σ H _ Kw ?_
  cases e1 : m1 with
  | bad => rw [e1] at q; exact q
  | ex x => rw [e1] at q; exact q
  | ok n =>
    rw [e1] at q
    intro v H1 s1 r1
    refine h2 G hid os σ H1 _ (Kw.same s1) ?_
    cases e2 : m2 with
    | bad => rw [e2] at q; exact q
    | ex x => rw [e2] at q; exact PoX.back s1 q
    | ok m =>
      rw [e2] at q
      intro u H2 s2 r2
      have q : PoI C l G os σ H Q (R.of (rngO n m)) := q
      cases e3 : rngO n m with
      | none => rw [e3] at q; exact q.elim
      | some xs =>
        rw [e3] at q
        obtain ⟨c, e4⟩ := optIf_some e3
        refine ⟨n, m, by rw [int_rep r1, int_rep r2], ⟨by omega, by omega, by omega, by omega⟩, q _ [] H2 (s1.trans s2) (fun z hz => by cases hz) ?_ ?_⟩
        · rw [← e4]
          simp only [rng, List.length_map, List.length_range]
          show _ ≤ 1000000
          omega
        · rw [← e4]
          exact int_rng (l := l) n (m - n).toNat C.T
def enumF {α : Type} (xs : List α) : List (Tp (Int × α × Unit)) := xs.mapIdx fun i a => ⟨((i : Int), a, ())⟩
theorem evi_enum {m : R (List α)} (h : Evm C Γ l tl m) : EvI C Γ l (iEnum K (tCons tl tNil)) (m.bind fun xs => .ok (enumF xs)) := fun G hid os σ H Q Kw q => by
  refine h G hid os σ H _ Kw ?_
  cases e1 : m with
  | bad => rw [e1] at q; exact q
  | ex x => rw [e1] at q; exact q
  | ok xs =>
    rw [e1] at q
    intro v H1 s1 r1
    obtain ⟨p, vs, e, _, hp, hz, rs⟩ := lst_rep r1
    have hl := rs.len
    rw [List.length_map] at hl
    refine ⟨p, vs, by rw [e], rd_seqL hp, q _ [(enc xs, v)] H1 s1 (fun z hz => ?_) (by simp [enumF, hl, hz]) ⟨fun i a H2 A ha hd hpin => ?_, fun i H2 A hi hpin => ?_⟩⟩
    · rw [List.mem_singleton.mp hz]
      exact r1
    · obtain ⟨p2, us, e2, _, hp2, _, rs2⟩ := lst_rep (hpin _ (List.mem_singleton.mpr rfl))
      have e3 : p2 = p := by
        have : V.ref p2 = V.ref p := e2.symm.trans e
        injection this
      rw [e3] at hp2
      obtain ⟨b, hb, eb⟩ : ∃ b, xs[i]? = some b ∧ a = ⟨((i : Int), b, ())⟩ := by
        simp only [enumF, List.getElem?_mapIdx] at ha
        cases hx : xs[i]? with
        | none => rw [hx] at ha; cases ha
        | some b => rw [hx] at ha; exact ⟨b, rfl, (Option.some.inj ha).symm⟩
      obtain ⟨w, hw, rw'⟩ := rs2.get (show (xs.map enc)[i]? = some (enc b) by rw [List.getElem?_map, hb]; rfl)
      refine ⟨⟨us, w, rd_seqL hp2, hw⟩, fun x H3 hy => ?_⟩
      obtain ⟨d, y, ex, nd, eH, hx⟩ := hy
      have e4 := hx us (rd_seqL hp2)
      rw [hw] at e4
      cases e4
      rw [eH, eb, ex]
      refine ⟨same_new nd, ?_⟩
      show Rep C.T _ _ (.tup (encs ((i : Int), b, ()))) _
      unfold Rep
      exact ⟨d, _, rfl, fun z => hd d z nd, upd_same, (show 2 ≤ LIM by decide), reps_cons (by rfl) (reps_cons (rw'.same (same_new nd)) reps_nil)⟩
    · obtain ⟨p2, us, e2, _, hp2, _, rs2⟩ := lst_rep (hpin _ (List.mem_singleton.mpr rfl))
      have e3 : p2 = p := by
        have : V.ref p2 = V.ref p := e2.symm.trans e
        injection this
      rw [e3] at hp2
      have := rs2.len
      rw [List.length_map] at this
      simp only [enumF, List.length_mapIdx] at hi
      exact ⟨us, rd_seqL hp2, by omega⟩
def zipF {α β : Type} (xs : List α) (ys : List β) : List (Tp (α × β × Unit)) := List.zipWith (fun a b => ⟨(a, b, ())⟩) xs ys
theorem evi_zip {m1 : R (List α)} {m2 : R (List β)} {t1 t2 : TE} (h1 : Evm C Γ l t1 m1) (h2 : Evm C Γ l t2 m2) : EvI C Γ l (iZip K (tCons t1 (tCons t2 tNil))) (m1.bind fun xs => m2.bind fun ys => .ok (zipF xs ys)) := fun G hid os σ H Q Kw q => by
  refine h1 G hid os σ H _ Kw ?_
  cases e1 : m1 with
  | bad => rw [e1] at q; exact q
  | ex x => rw [e1] at q; exact q
  | ok xs =>
    rw [e1] at q
    intro v H1 s1 r1
    refine h2 G hid os σ H1 _ (Kw.same s1) ?_
    cases e2 : m2 with
    | bad => rw [e2] at q; exact q
    | ex x => rw [e2] at q; exact PoX.back s1 q
    | ok ys =>
      rw [e2] at q
      intro u H2 s2 r2
      obtain ⟨p, vs, e, _, hp, hz, rs⟩ := lst_rep (r1.same s2)
      obtain ⟨p', us, e', _, hp', hz', rs'⟩ := lst_rep r2
      have hl := rs.len
      have hl' := rs'.len
      rw [List.length_map] at hl hl'
      have same_at : ∀ {p2 p : Addr} {v : V}, v = .ref p2 → v = .ref p → p2 = p := fun e1 e2 => by
        have := e1.symm.trans e2
        injection this
      refine ⟨p, p', vs, us, by rw [e, e'], rd_seqL hp, rd_seqL hp', q _ [(enc xs, v), (enc ys, u)] H2 (s1.trans s2) (fun z hz => ?_) (by simp only [zipF, List.length_zipWith]; omega) ⟨fun i a H3 A ha hd hpin => ?_, fun i H3 A hi hpin => ?_⟩⟩
      · rcases List.mem_cons.mp hz with hz | hz
        · rw [hz]; exact r1.same s2
        · rw [List.mem_singleton.mp hz]; exact r2
      · obtain ⟨q1, ws, f1, _, g1, _, k1⟩ := lst_rep (hpin (enc xs, v) (by simp))
        obtain ⟨q2, zs, f2, _, g2, _, k2⟩ := lst_rep (hpin (enc ys, u) (by simp))
        rw [same_at f1 e] at g1
        rw [same_at f2 e'] at g2
        obtain ⟨b, c, hb, hc, ea⟩ : ∃ b c, xs[i]? = some b ∧ ys[i]? = some c ∧ a = ⟨(b, c, ())⟩ := by
          simp only [zipF, List.getElem?_zipWith] at ha
          cases hx : xs[i]? with
          | none => rw [hx] at ha; cases ha
          | some b =>
            cases hy : ys[i]? with
            | none => rw [hx, hy] at ha; cases ha
            | some c => rw [hx, hy] at ha; exact ⟨b, c, rfl, rfl, (Option.some.inj ha).symm⟩
        obtain ⟨w, hw, rw'⟩ := k1.get (show (xs.map enc)[i]? = some (enc b) by rw [List.getElem?_map, hb]; rfl)
        obtain ⟨z, hz, rz⟩ := k2.get (show (ys.map enc)[i]? = some (enc c) by rw [List.getElem?_map, hc]; rfl)
        refine ⟨⟨ws, zs, w, z, rd_seqL g1, rd_seqL g2, hw, hz⟩, fun x H4 hy => ?_⟩
        obtain ⟨d, y1, y2, ex, nd, eH, hx1, hx2⟩ := hy
        have e4 := hx1 ws (rd_seqL g1)
        have e5 := hx2 zs (rd_seqL g2)
        rw [hw] at e4
        rw [hz] at e5
        cases e4
        cases e5
        rw [eH, ea, ex]
        refine ⟨same_new nd, ?_⟩
        show Rep C.T _ _ (.tup (encs (b, c, ()))) _
        unfold Rep
        exact ⟨d, _, rfl, fun z => hd d z nd, upd_same, (show 2 ≤ LIM by decide), reps_cons (rw'.same (same_new nd)) (reps_cons (rz.same (same_new nd)) reps_nil)⟩
      · obtain ⟨q1, ws, f1, _, g1, _, k1⟩ := lst_rep (hpin (enc xs, v) (by simp))
        obtain ⟨q2, zs, f2, _, g2, _, k2⟩ := lst_rep (hpin (enc ys, u) (by simp))
        rw [same_at f1 e] at g1
        rw [same_at f2 e'] at g2
        have l1 := k1.len
        have l2 := k2.len
        rw [List.length_map] at l1 l2
        simp only [zipF, List.length_zipWith] at hi
        exact ⟨ws, zs, rd_seqL g1, rd_seqL g2, by omega⟩
end
end Pv

set_option Elab.async false
set_option linter.all false
set_option maxRecDepth 100000
namespace Pv
open PySem PySem.Spec L2
open Enc (enc)
open Encs (encs)

/-! ### targets -/
theorem wipe_len (σ : L2.St) (vs : List Nat) : (wipe σ vs).length = σ.length := wipe_length σ vs
theorem wipe_get (σ : L2.St) : ∀ (vs : List Nat) (i : Nat), (wipe σ vs)[i]? = if i ∈ vs ∧ i < σ.length then some none else σ[i]?
  | [], i => by simp [wipe]
  | v :: vs, i => by
    unfold wipe
    by_cases h : v = i
    · subst h
      by_cases hl : v < σ.length
      · rw [List.getElem?_set_self (by rw [wipe_len]; exact hl)]
        simp [hl]
      · rw [List.getElem?_eq_none (by simp [wipe_len]; omega)]
        simp [hl]
    · rw [List.getElem?_set_ne h, wipe_get σ vs i]
      have h' : ¬ i = v := fun z => h z.symm
      simp [h']
theorem wipe_ext {σ τ : L2.St} {vs : List Nat} (hl : σ.length = τ.length) (h : ∀ i, i ∉ vs → σ[i]? = τ[i]?) : wipe σ vs = wipe τ vs := by
  apply List.ext_getElem?
  intro i
  rw [wipe_get, wipe_get, hl]
  by_cases hi : i ∈ vs
  · by_cases h2 : i < τ.length
    · simp [hi, h2]
    · simp only [hi, h2, and_false, if_false]
      rw [List.getElem?_eq_none (by omega), List.getElem?_eq_none (by omega)]
  · simp only [hi, false_and, if_false]
    exact h i hi
theorem wipe_out {σ : L2.St} {vs : List Nat} {i : Nat} (h : i ∉ vs) : (wipe σ vs)[i]? = σ[i]? := by
  rw [wipe_get]
  simp [h]

section
variable {C : Cn} {Γ : List Sl} {l l1 l2 : Lv} {α β γ : Type} [Enc α] [Enc β] [Enc γ] {K : PySem.W.Frag}
/-- slots as they were but for vs -/
def Bar (vs : List Nat) (σ σ' : L2.St) : Prop := σ.length = σ'.length ∧ ∀ i, i ∉ vs → σ[i]? = σ'[i]?
theorem Bar.refl (vs : List Nat) (σ : L2.St) : Bar vs σ σ := ⟨rfl, fun _ _ => rfl⟩
theorem Bar.set {vs : List Nat} {σ : L2.St} {j : Nat} {x : Option V} (h : j ∈ vs) : Bar vs σ (σ.set j x) := ⟨by simp, fun i hi => by
  rw [List.getElem?_set_ne (fun z : j = i => hi (by rw [← z]; exact h))]⟩
theorem Bar.trans {vs : List Nat} {σ σ1 σ2 : L2.St} (a : Bar vs σ σ1) (b : Bar vs σ1 σ2) : Bar vs σ σ2 := ⟨a.1.trans b.1, fun i hi => (a.2 i hi).trans (b.2 i hi)⟩
def TgB (C : Cn) (l : Lv) (g : TG) (vs : List Nat) (f : List Sl → α → List Sl) : Prop :=
  ∀ G hid os σ H Q v a Γ, OkW C G Γ hid os σ H → (∀ j ∈ vs, os[j]? = some none) → Rep C.T H (av l C.H0 G os) (enc a) v → (∀ os' σ', OkW C G (f Γ a) hid os' σ' H → Bar vs σ σ' → (∀ b : Addr, some b ∈ os → some b ∈ os') → Q σ' H) → g v σ H Q
theorem lt_of_some {os : List (Option Addr)} {j : Nat} (h : os[j]? = some none) : j < os.length := (List.getElem?_eq_some_iff.mp h).1
theorem keep_none {os : List (Option Addr)} {j : Nat} (h : os[j]? = some none) (b : Addr) (hb : some b ∈ os) : some b ∈ os.set j none := by
  obtain ⟨i, hi⟩ := List.getElem?_of_mem hb
  refine List.mem_of_getElem? (i := i) ?_
  by_cases e : j = i
  · rw [e, hi] at h; cases h
  · rw [List.getElem?_set_ne e]; exact hi
theorem none_set {os : List (Option Addr)} {j k : Nat} (h : os[k]? = some none) : (os.set j none)[k]? = some none := by
  by_cases e : j = k
  · rw [e, List.getElem?_set_self (lt_of_some h)]
  · rw [List.getElem?_set_ne e]; exact h
theorem tg_name {j : Nat} (hl : l.st) : TgB C l (gName j) [j] (fun Γ (a : α) => Γ.set j (.sh l (enc a))) := fun G hid os σ H Q v a Γ Kw hj r q =>
  q _ _ (Kw.put (by rw [← Kw.lo]; exact lt_of_some (hj j (by simp))) hl r) (Bar.set (by simp)) (keep_none (hj j (by simp)))
theorem tg_two {j k : Nat} (hl : l.st) : TgB C l (gTup K 2 (gCons (gName j) (gCons (gName k) gNil))) [j, k] (fun Γ (a : Tp (α × β × Unit)) => (Γ.set j (.sh l (enc a.t.1))).set k (.sh l (enc a.t.2.1))) := fun G hid os σ H Q v a Γ Kw hj r q => by
  have r : Rep C.T H _ (.tup (encs a.t)) v := r
  unfold Rep at r
  obtain ⟨p, vs, e, _, hp, _, rs⟩ := r
  obtain ⟨v1, v2, e2, r1, r2⟩ := reps2 (a := a.t.1) (b := a.t.2.1) rs
  have K1 := Kw.put (by rw [← Kw.lo]; exact lt_of_some (hj j (by simp))) hl r1
  have r2' : Rep C.T H (av l C.H0 G (os.set j none)) (enc a.t.2.1) v2 := r2.weak (av_less (fun a z => mem_set_none z) l)
  have K2 := K1.put (i := k) (by rw [List.length_set, ← Kw.lo]; exact lt_of_some (hj k (by simp))) hl r2'
  refine ⟨p, vs, e, rd_seqT hp, by rw [e2]; rfl, ?_⟩
  rw [e2]
  refine ⟨v1, [v2], rfl, v2, [], rfl, rfl, ?_⟩
  exact q _ _ K2 ((Bar.set (by simp)).trans (Bar.set (by simp))) fun b hb => keep_none (none_set (hj k (by simp))) b (keep_none (hj j (by simp)) b hb)
theorem tg_three {j k m : Nat} (hl : l.st) : TgB C l (gTup K 3 (gCons (gName j) (gCons (gName k) (gCons (gName m) gNil)))) [j, k, m] (fun Γ (a : Tp (α × β × γ × Unit)) => ((Γ.set j (.sh l (enc a.t.1))).set k (.sh l (enc a.t.2.1))).set m (.sh l (enc a.t.2.2.1))) := fun G hid os σ H Q v a Γ Kw hj r q => by
  have r : Rep C.T H _ (.tup (encs a.t)) v := r
  unfold Rep at r
  obtain ⟨p, vs, e, _, hp, _, v1, rr, e1, r1, rs⟩ := r
  obtain ⟨v2, v3, e2, r2, r3⟩ := reps2 (a := a.t.2.1) (b := a.t.2.2.1) rs
  have K1 := Kw.put (by rw [← Kw.lo]; exact lt_of_some (hj j (by simp))) hl r1
  have r2' : Rep C.T H (av l C.H0 G (os.set j none)) (enc a.t.2.1) v2 := r2.weak (av_less (fun a z => mem_set_none z) l)
  have K2 := K1.put (i := k) (by rw [List.length_set, ← Kw.lo]; exact lt_of_some (hj k (by simp))) hl r2'
  have r3' : Rep C.T H (av l C.H0 G ((os.set j none).set k none)) (enc a.t.2.2.1) v3 := r3.weak (av_less (fun a z => mem_set_none (mem_set_none z)) l)
  have K3 := K2.put (i := m) (by rw [List.length_set, List.length_set, ← Kw.lo]; exact lt_of_some (hj m (by simp))) hl r3'
  refine ⟨p, vs, e, rd_seqT hp, by rw [e1, e2]; rfl, ?_⟩
  rw [e1, e2]
  refine ⟨v1, [v2, v3], rfl, v2, [v3], rfl, v3, [], rfl, rfl, ?_⟩
  exact q _ _ K3 (((Bar.set (by simp)).trans (Bar.set (by simp))).trans (Bar.set (by simp))) fun b hb => keep_none (none_set (none_set (hj m (by simp)))) b (keep_none (none_set (hj k (by simp))) b (keep_none (hj j (by simp)) b hb))
end

/-! ### comprehensions -/
/-- the slots vs are forgotten -/
def forget (Γ : List Sl) : List Nat → List Sl
  | [] => Γ
  | v :: vs => (forget Γ vs).set v .un
def mapR {α β : Type} (f : α → R β) : List α → R (List β)
  | [] => .ok []
  | x :: xs => (f x).bind fun y => (mapR f xs).bind fun ys => .ok (y :: ys)
def compR {α β : Type} (t : α → R Bool) (f : α → R β) : List α → R (List β)
  | [] => .ok []
  | x :: xs => (t x).bind fun b => R.ite b ((f x).bind fun y => (compR t f xs).bind fun ys => .ok (y :: ys)) (compR t f xs)
section
variable {C : Cn} {Γ : List Sl} {hid : Hid} {G : Addr → Prop} {os : List (Option Addr)} {σ : L2.St} {H : Hp}
theorem forget_len (Γ : List Sl) : ∀ vs, (forget Γ vs).length = Γ.length
  | [] => rfl
  | v :: vs => by unfold forget; rw [List.length_set, forget_len Γ vs]
theorem OkW.wipe (Kw : OkW C G Γ hid os σ H) : ∀ vs : List Nat, (∀ j ∈ vs, os[j]? = some none) → ∃ os', OkW C G (forget Γ vs) hid os' (L2.wipe σ vs) H ∧ (∀ a : Addr, some a ∈ os' → some a ∈ os) ∧ (∀ a : Addr, some a ∈ os → some a ∈ os') ∧ (∀ j : Nat, os[j]? = some none → os'[j]? = some none)
  | [], _ => ⟨os, Kw, fun _ z => z, fun _ z => z, fun _ z => z⟩
  | v :: vs, h => by
    obtain ⟨os', K1, m, m', n⟩ := OkW.wipe Kw vs fun j hj => h j (List.mem_cons_of_mem _ hj)
    have hv := h v List.mem_cons_self
    exact ⟨_, K1.clear v (by rw [forget_len, ← Kw.lo]; exact lt_of_some hv) none, fun a z => m a (mem_set_none z), fun a z => keep_none (n v hv) a (m' a z), fun j hj => none_set (n j hj)⟩
theorem none_of {Γ : List Sl} (Kw : OkW C G Γ hid os σ H) {j : Nat} (hj : j < Γ.length) (hn : ∀ s, Γ[j]? = some s → notOw s = true) : os[j]? = some none := by
  have hg : Γ[j]? = some Γ[j] := List.getElem?_eq_getElem hj
  have q := Kw.sl j _ hg
  cases e : Γ[j] with
  | un => rw [e] at q; exact q
  | sh l p => rw [e] at q; exact q.2.1
  | ow l xs => rw [e] at hg; exact nomatch hn _ hg
  | tw ps => rw [e] at hg; exact nomatch hn _ hg
  | xv a d x => rw [e] at q; exact q.1
end
section
variable {C : Cn} {Γ : List Sl} {l l1 l2 : Lv} {α β γ : Type} [Enc α] [Enc β] [Enc γ] {K : PySem.W.Frag} {wi : TI} {g : TG} {tt : TT} {te : TE} {vs : List Nat}
/-- hidden lists: what is avoided may be more -/
theorem av_ext {H0 : Hp} {G : Addr → Prop} {os : List (Option Addr)} {l : Lv} (hl : l.st) {D a : Addr} (h : av l H0 G os a ∨ a = D) : av l H0 (fun b => G b ∨ b = D) os a := by
  cases l with
  | raw => exact hl.elim
  | pa => rcases h with (h | h) | h
          · exact .inl (.inl h)
          · exact .inr h
          · exact .inl (.inr h)
  | fr => rcases h with (h | h | h) | h
          · exact .inl h
          · exact .inr (.inl (.inl h))
          · exact .inr (.inr h)
          · exact .inr (.inl (.inr h))
theorem av_ext' {H0 : Hp} {G : Addr → Prop} {os : List (Option Addr)} {l : Lv} {D a : Addr} (h : av l H0 (fun b => G b ∨ b = D) os a) : av l H0 G os a ∨ a = D := by
  cases l with
  | raw => exact h.elim
  | pa => rcases h with (h | h) | h
          · exact .inl (.inl h)
          · exact .inr h
          · exact .inl (.inr h)
  | fr => rcases h with h | (h | h) | h
          · exact .inl (.inl h)
          · exact .inl (.inr (.inl h))
          · exact .inr h
          · exact .inl (.inr (.inr h))
theorem OkW.more {G : Addr → Prop} {hid : Hid} {os : List (Option Addr)} {σ : L2.St} {H H' : Hp} {D : Addr} (Kw : OkW C G Γ hid os σ H) (s : Same H H') (n : H D = none) (d : H' D ≠ none) : OkW C (fun b => G b ∨ b = D) Γ hid os σ H' := by
  have mv : ∀ (l : Lv), l.st → ∀ p v, Rep C.T H (av l C.H0 G os) p v → Rep C.T H' (av l C.H0 (fun b => G b ∨ b = D) os) p v := fun l hl p v h => ((h.free n).same s).weak fun b z => av_ext' z
  have mvs : ∀ (l : Lv), l.st → ∀ p v, Reps C.T H (av l C.H0 G os) p v → Reps C.T H' (av l C.H0 (fun b => G b ∨ b = D) os) p v := fun l hl p v h => ((h.free n).same s).weak fun b z => av_ext' z
  refine ⟨Kw.lo, Kw.ls, Kw.ext.trans s, fun a g => g.elim (fun g => same_ne s (Kw.dom a g)) fun e => by rw [e]; exact d, fun a h => ?_, Kw.inj, fun i x h => ?_, fun q hq => ⟨(Kw.hd q hq).1, mv q.1 (Kw.hd q hq).1 _ _ (Kw.hd q hq).2⟩⟩
  · obtain ⟨h1, h2, h3⟩ := Kw.new a h
    exact ⟨h1, same_ne s h2, fun z => z.elim h3 fun e => by rw [e] at h2; exact h2 n⟩
  · have q := Kw.sl i x h
    cases x with
    | un => exact q
    | sh l p => obtain ⟨q1, q2, v, q3, q4⟩ := q; exact ⟨q1, q2, v, q3, mv l q1 _ _ q4⟩
    | ow l xs => obtain ⟨q1, a, us, q2, q3, q4, q5, q6⟩ := q; exact ⟨q1, a, us, q2, q3, s _ _ q4, q5, mvs l q1 _ _ q6⟩
    | xv a d x => obtain ⟨q1, q2, q3⟩ := q; exact ⟨q1, q2, q3.same fun a o h => s _ _ h⟩
    | tw ps => obtain ⟨o, t, us, q1, q2, q3, q4, q5⟩ := q; exact ⟨o, t, us, q1, q2, s _ _ q3, q4, q5.move fun a ws _ h => s _ _ h⟩
theorem mut_same {H1 H2 : Hp} {D : Addr} {o : HO} (s : Same H1 H2) (n : H1 D = none) : Same H1 (upd H2 D o) := fun b u e => by
  rw [upd_ne (ne_of_none e n)]
  exact s b u e
theorem compR_len {t : α → R Bool} {f : α → R β} : ∀ {xs : List α} {ys : List β}, compR t f xs = .ok ys → ys.length ≤ xs.length
  | [], ys, h => by cases h; exact Nat.le_refl _
  | x :: xs, ys, h => by
    unfold compR at h
    cases e1 : t x with
    | bad => rw [e1] at h; cases h
    | ex z => rw [e1] at h; cases h
    | ok b =>
      rw [e1] at h
      cases b with
      | false =>
        have := compR_len (xs := xs) (ys := ys) h
        simp only [List.length_cons]; omega
      | true =>
        have h : (f x).bind _ = .ok ys := h
        cases e2 : f x with
        | bad => rw [e2] at h; cases h
        | ex z => rw [e2] at h; cases h
        | ok y =>
          rw [e2] at h
          have h : (compR t f xs).bind _ = .ok ys := h
          cases e3 : compR t f xs with
          | bad => rw [e3] at h; cases h
          | ex z => rw [e3] at h; cases h
          | ok zs =>
            rw [e3] at h
            cases h
            have := compR_len e3
            simp only [List.length_cons]; omega
/-- [e for x in xs if t] -/
theorem evn_lc {l3 : Lv} {m : R (List α)} {fg : List Sl → α → List Sl} {mt : α → R Bool} {me : α → R β} (hW : C.W = none) (hl : l.st) (hl1 : l3.st) (hcv : l1 = l3 ∨ ∀ (H H' : Hp) (A A' : Addr → Prop) (a : α) (v : V), Rep C.T H A (enc a) v → Rep C.T H' A' (enc a) v) (hi : EvI C Γ l1 wi m) (hvs : ∀ j ∈ vs, j < Γ.length ∧ ∀ s, Γ[j]? = some s → notOw s = true) (hg : TgB (α := α) C l3 g vs fg)
    (ht : ∀ a, EvT C (fg (forget Γ vs) a) tt (mt a)) (he : ∀ a, Evm C (fg (forget Γ vs) a) l te (me a)) : EvN C Γ l (tLc wi g tt te vs) (m.bind fun xs => compR mt me xs) := fun G hid os σ H Q Kw q => by
  refine hi G hid os σ H _ Kw ?_
  cases e1 : m with
  | bad => rw [e1] at q; exact q
  | ex x => rw [e1] at q; exact q
  | ok xs =>
    rw [e1] at q
    intro J pins H1 s1 hp hz iv D nD
    have q : PoN C l G os σ H Q (compR mt me xs) := q
    have hno : ∀ j ∈ vs, os[j]? = some none := fun j hj => none_of Kw (hvs j hj).1 (hvs j hj).2
    obtain ⟨os', Kv, mo, mo', mn⟩ := (Kw.same s1).wipe vs hno
    have avw : ∀ l a, av l C.H0 G os' a → av l C.H0 G os a := fun l a => av_less mo l a
    -- what is held before turn i: the list so far, and what is wanted of the rest
    refine ⟨fun i k H2 => k = xs.length - i ∧ i ≤ xs.length ∧ ∃ acc us, Same H1 H2 ∧ H2 D = some (.lst us) ∧ us.length = acc.length ∧ acc.length ≤ i ∧ Reps C.T H2 (fun b => av l C.H0 G os b ∨ b = D) (acc.map enc) us ∧
      (match compR mt me (xs.drop i) with | .ok ys => ∀ us2 H3, Same H1 H3 → H3 D = some (.lst us2) → us2.length ≤ LIM → Reps C.T H3 (fun b => av l C.H0 G os b ∨ b = D) ((acc ++ ys).map enc) us2 → Q (.ref D) H3 | _ => False),
      ⟨xs.length, by simp, Nat.zero_le _, [], [], same_new nD, upd_same, rfl, Nat.le_refl _, reps_nil, ?_⟩, fun i k H2 hk => ?_⟩
    · rw [List.drop_zero]
      cases e2 : compR mt me xs with
      | bad => rw [e2] at q; exact q
      | ex x => rw [e2] at q; have q : PoX C σ H x := q; unfold PoX at q; rw [hW] at q; exact q
      | ok ys =>
        rw [e2] at q
        exact fun us2 H3 s3 h3 hz3 r3 => q D us2 H3 (s1.trans s3) (s1.free nD) h3 hz3 r3
    · obtain ⟨ek, hi', acc, us, s2, hD, hlen, hle, rs, hq⟩ := hk
      have pinsR : ∀ z ∈ pins, Rep C.T H2 (fun b => av l1 C.H0 G os b ∨ b = D) z.1 z.2 := fun z hz => ((hp z hz).free nD).same s2
      have domA : ∀ b, (av l1 C.H0 G os b ∨ b = D) → H2 b ≠ none := fun b hb => by
        rcases hb with hb | hb
        · exact same_ne (s1.trans s2) (Kw.avdom l1 b hb)
        · rw [hb, hD]; exact fun z => nomatch z
      by_cases hlt : i < xs.length
      · right
        have hx : xs[i]? = some xs[i] := List.getElem?_eq_getElem hlt
        obtain ⟨hgo, hy⟩ := iv.go i _ H2 _ hx domA pinsR
        refine ⟨hgo, fun H3 => ∃ k', k' < k ∧ (k' = xs.length - (i + 1) ∧ i + 1 ≤ xs.length ∧ ∃ acc us, Same H1 H3 ∧ H3 D = some (.lst us) ∧ us.length = acc.length ∧ acc.length ≤ i + 1 ∧ Reps C.T H3 (fun b => av l C.H0 G os b ∨ b = D) (acc.map enc) us ∧
          (match compR mt me (xs.drop (i + 1)) with | .ok ys => ∀ us2 H3, Same H1 H3 → H3 D = some (.lst us2) → us2.length ≤ LIM → Reps C.T H3 (fun b => av l C.H0 G os b ∨ b = D) ((acc ++ ys).map enc) us2 → Q (.ref D) H3 | _ => False)), fun H3 hh => hh, fun x H3 hyx => ?_⟩
        obtain ⟨s3, rx⟩ := hy x H3 hyx
        have K3 : OkW C (fun b => G b ∨ b = D) (forget Γ vs) hid os' (L2.wipe σ vs) H3 := Kv.more (s2.trans s3) nD (same_ne s3 (by rw [hD]; exact fun z => nomatch z))
        refine hg _ hid os' _ H3 _ x xs[i] _ K3 (fun j hj => mn j (hno j hj)) (hcv.elim (fun e => by rw [← e]; exact rx.weak fun b z => (av_ext' z).imp (avw l1 b) id) fun k => k _ _ _ _ _ _ rx) (fun os2 σ2 K4 bar mo2 => ⟨?_, ?_⟩)
        · exact (wipe_ext (σ := σ2) (τ := L2.wipe σ vs) bar.1.symm fun j hj => (bar.2 j hj).symm).trans (wipe_ext (wipe_len σ vs) fun j hj => wipe_out hj)
        · -- the test, the element
          have hd : xs.drop i = xs[i] :: xs.drop (i + 1) := List.drop_eq_getElem_cons hlt
          rw [hd] at hq
          unfold compR at hq
          refine ht xs[i] _ hid os2 σ2 H3 _ K4 ?_
          cases e2 : mt xs[i] with
          | bad => rw [e2] at hq; exact hq
          | ex z => rw [e2] at hq; exact hq.elim
          | ok b =>
            rw [e2] at hq
            intro H4 s4
            have hD4 : H4 D = some (.lst us) := s4 _ _ (s3 _ _ hD)
            have s14 := (s2.trans s3).trans s4
            cases b with
            | false =>
              refine iteF ⟨xs.length - (i + 1), by omega, rfl, by omega, acc, us, s14, hD4, hlen, by omega, rs.same (s3.trans s4), ?_⟩
              exact hq
            | true =>
              refine iteT (he xs[i] _ hid os2 σ2 H4 _ (K4.same s4) ?_)
              have hq : (match (me xs[i]).bind fun y => (compR mt me (xs.drop (i + 1))).bind fun ys => R.ok (y :: ys) with | .ok ys => ∀ us2 H3, Same H1 H3 → H3 D = some (.lst us2) → us2.length ≤ LIM → Reps C.T H3 (fun b => av l C.H0 G os b ∨ b = D) ((acc ++ ys).map enc) us2 → Q (.ref D) H3 | _ => False) := hq
              cases e3 : me xs[i] with
              | bad => rw [e3] at hq; exact hq
              | ex z => rw [e3] at hq; exact hq.elim
              | ok y =>
                rw [e3] at hq
                intro v H5 s5 rv
                have hD5 : H5 D = some (.lst us) := s5 _ _ hD4
                have s15 := s14.trans s5
                refine ⟨us, hD5, lim_size (by omega), xs.length - (i + 1), by omega, rfl, by omega, acc ++ [y], us ++ [v], mut_same s15 nD, upd_same, by simp [hlen], by simp; omega, ?_, ?_⟩
                · rw [List.map_append]
                  have gD : (fun b => av l C.H0 G os b ∨ b = D) D := .inr rfl
                  exact Reps.upd gD ((rs.same ((s3.trans s4).trans s5)).app (reps_cons (rv.weak fun b z => av_ext hl (z.imp (av_less (fun a z => mo2 a (mo' a z)) l b) id)) reps_nil))
                · have hq : (match (compR mt me (xs.drop (i + 1))).bind fun ys => R.ok (y :: ys) with | .ok ys => ∀ us2 H3, Same H1 H3 → H3 D = some (.lst us2) → us2.length ≤ LIM → Reps C.T H3 (fun b => av l C.H0 G os b ∨ b = D) ((acc ++ ys).map enc) us2 → Q (.ref D) H3 | _ => False) := hq
                  cases e4 : compR mt me (xs.drop (i + 1)) with
                  | bad => rw [e4] at hq; exact hq
                  | ex z => rw [e4] at hq; exact hq
                  | ok ys =>
                    rw [e4] at hq
                    show ∀ us2 H3, _
                    rw [List.append_assoc]
                    exact hq
      · left
        refine ⟨iv.stop i H2 _ (by omega) pinsR, ?_⟩
        have hd : xs.drop i = [] := List.drop_eq_nil_of_le (by omega)
        rw [hd] at hq
        have hq : ∀ us2 H3, Same H1 H3 → H3 D = some (.lst us2) → us2.length ≤ LIM → Reps C.T H3 (fun b => av l C.H0 G os b ∨ b = D) ((acc ++ []).map enc) us2 → Q (.ref D) H3 := hq
        rw [List.append_nil] at hq
        exact hq us H2 s2 hD (by omega) rs
end
end Pv

set_option Elab.async false
set_option linter.all false
set_option maxRecDepth 100000
namespace Pv
open PySem PySem.Spec L2
open Enc (enc)
open Encs (encs)

/-! ### blocks -/
inductive Oc where
  | nx (Γ : List Sl) | bk (Γ : List Sl) | ct (Γ : List Sl) | rt (p : PV)
def PoO (C : Cn) (G : Addr → Prop) (hid : Hid) (D : Ends) : Oc → Prop
  | .nx Γ => ∀ os σ H, OkW C G Γ hid os σ H → D.nx σ H
  | .bk Γ => ∀ os σ H, OkW C G Γ hid os σ H → D.bk σ H
  | .ct Γ => ∀ os σ H, OkW C G Γ hid os σ H → D.ct σ H
  | .rt p => PoRet C.T C.M G C.H0 D.rt p
def PoXB (C : Cn) (x : Exc) : Prop := match C.W with
  | none => False
  | some W => ∀ σ cls d H, Same C.H0 H → ExRep C.T H x cls d → W cls d σ H
def PoB {β : Type} (C : Cn) (G : Addr → Prop) (hid : Hid) (D : Ends) (out : β → Oc) : R β → Prop
  | .ok b => PoO C G hid D (out b)
  | .ex x => PoXB C x
  | .bad => False
def BD {β : Type} (C : Cn) (Γ : List Sl) (t : TS) (m : R β) (out : β → Oc) : Prop := ∀ G hid os σ H D, OkW C G Γ hid os σ H → PoB C G hid D out m → t D σ H

section
variable {C : Cn} {Γ Γ' : List Sl} {l l1 l2 : Lv} {α γ : Type} [Enc α] [Enc γ] {β ε : Type} {out : β → Oc} {K : PySem.W.Frag} {te ta tb : TE} {tt : TT} {t u w : TS}
theorem pox_of {x : Exc} {G : Addr → Prop} {hid : Hid} {os : List (Option Addr)} {σ : L2.St} {H : Hp} (Kw : OkW C G Γ hid os σ H) (q : PoXB C x) : PoX C σ H x := by
  unfold PoXB at q
  unfold PoX
  cases hw : C.W with
  | none => rw [hw] at q; exact q
  | some W => rw [hw] at q; exact fun cls d H' s r => q σ cls d H' (Kw.ext.trans s) r
theorem bd_assoc {t1 t2 : TS} {m : R β} (h : BD C Γ (tSeq t1 (tSeq t2 u)) m out) : BD C Γ (tSeq (tSeq t1 t2) u) m out := h
theorem bd_nil {m : R β} (h : BD C Γ u m out) : BD C Γ (tSeq tNext u) m out := h
theorem bd_wk {m : R β} (w : Wk Γ Γ') (h : BD C Γ' t m out) : BD C Γ t m out := fun G hid os σ H D Kw q => by
  obtain ⟨os', K'⟩ := w.okw Kw
  exact h G hid os' σ H D K' q
theorem bd_end {b : β} (w : Wk Γ Γ') (h : out b = .nx Γ') : BD C Γ tNext (.ok b) out := fun G hid os σ H D Kw q => by
  obtain ⟨os', K'⟩ := w.okw Kw
  have q : PoO C G hid D (out b) := q
  rw [h] at q
  exact q os' σ H K'
theorem bd_break {b : β} (w : Wk Γ Γ') (h : out b = .bk Γ') : BD C Γ (tSeq tBreak u) (.ok b) out := fun G hid os σ H D Kw q => by
  obtain ⟨os', K'⟩ := w.okw Kw
  have q : PoO C G hid D (out b) := q
  rw [h] at q
  exact q os' σ H K'
theorem bd_cont {b : β} (w : Wk Γ Γ') (h : out b = .ct Γ') : BD C Γ (tSeq tCont u) (.ok b) out := fun G hid os σ H D Kw q => by
  obtain ⟨os', K'⟩ := w.okw Kw
  have q : PoO C G hid D (out b) := q
  rw [h] at q
  exact q os' σ H K'
/-- behind an expression: what is known of its outcome -/
theorem ex_cases {α : Type} {m : R α} {k : α → R β} {G : Addr → Prop} {hid : Hid} {D : Ends} (q : PoB C G hid D out (m.bind k)) : (∃ a, m = .ok a ∧ PoB C G hid D out (k a)) ∨ (∃ x, m = .ex x ∧ PoXB C x) := by
  cases m with
  | bad => exact q.elim
  | ex x => exact .inr ⟨x, rfl, q⟩
  | ok a => exact .inl ⟨a, rfl, q⟩
theorem bd_set {i : Nat} {m : R α} {k : α → R β} (h : Evm C Γ l te m) (hl : l.st) (hi : i < Γ.length) (hk : ∀ a, BD C (Γ.set i (.sh l (enc a))) u (k a) out) : BD C Γ (tSeq (tAsg te (gName i)) u) (m.bind k) out := fun G hid os σ H D Kw q => by
  refine h G hid os σ H _ Kw ?_
  rcases ex_cases q with ⟨a, e, q⟩ | ⟨x, e, q⟩ <;> rw [e]
  · exact fun v H1 s1 r1 => hk a G hid _ _ H1 D ((Kw.same s1).put hi hl r1) q
  · exact pox_of Kw q
theorem bd_setP {i : Nat} {a : α} {k : α → R β} (h : Evm C Γ l te (.ok a)) (hl : l.st) (hi : i < Γ.length) (hk : ∀ a, BD C (Γ.set i (.sh l (enc a))) u (k a) out) : BD C Γ (tSeq (tAsg te (gName i)) u) (R.lt a k) out := bd_set h hl hi hk
theorem bd_setN {i : Nat} {m : R (List α)} {k : List α → R β} (h : EvN C Γ l te m) (hl : l.st) (hi : i < Γ.length) (hk : ∀ xs, BD C (Γ.set i (.ow l (xs.map enc))) u (k xs) out) : BD C Γ (tSeq (tAsg te (gName i)) u) (m.bind k) out := fun G hid os σ H D Kw q => by
  refine h G hid os σ H _ Kw ?_
  rcases ex_cases q with ⟨a, e, q⟩ | ⟨x, e, q⟩ <;> rw [e]
  · exact fun p vs H1 s1 n hp hz r1 => hk a G hid _ _ H1 D (Kw.own hi hl s1 n hp hz r1) q
  · exact pox_of Kw q
theorem bd_setNP {i : Nat} {a : List α} {k : List α → R β} (h : EvN C Γ l te (.ok a)) (hl : l.st) (hi : i < Γ.length) (hk : ∀ xs, BD C (Γ.set i (.ow l (xs.map enc))) u (k xs) out) : BD C Γ (tSeq (tAsg te (gName i)) u) (R.lt a k) out := bd_setN h hl hi hk
theorem bd_drop {m : R α} {k : R β} (h : Evm C Γ l te m) (hk : BD C Γ u k out) : BD C Γ (tSeq (tDrop te) u) (m.bind fun _ => k) out := fun G hid os σ H D Kw q => by
  refine h G hid os σ H _ Kw ?_
  rcases ex_cases q with ⟨a, e, q⟩ | ⟨x, e, q⟩ <;> rw [e]
  · exact fun v H1 s1 r1 => hk G hid os σ H1 D (Kw.same s1) q
  · exact pox_of Kw q
theorem avC_av {G : Addr → Prop} {H0 : Hp} {os : List (Option Addr)} (a : Addr) (h : avC l G H0 a) : av l H0 G os a := by
  cases l with
  | raw => exact h
  | pa => exact .inl h
  | fr => exact h.imp id .inl
/-- return, a value -/
theorem bd_ret {m : R α} {k : α → β} (hM : C.M = .val l) (h : Evm C Γ l te m) (ho : ∀ a, out (k a) = .rt (enc a)) : BD C Γ (tSeq (tRet te) u) (m.bind fun a => .ok (k a)) out := fun G hid os σ H D Kw q => by
  refine h G hid os σ H _ Kw ?_
  rcases ex_cases q with ⟨a, e, q⟩ | ⟨x, e, q⟩ <;> rw [e]
  · intro v H1 s1 r1
    have q : PoO C G hid D (out (k a)) := q
    rw [ho] at q
    have q : PoRet C.T C.M G C.H0 D.rt (enc a) := q
    unfold PoRet at q
    rw [hM] at q
    exact q v H1 (Kw.ext.trans s1) (r1.weak fun a z => avC_av a z)
  · exact pox_of Kw q
theorem bd_ret1 {out : α → Oc} {m : R α} (hM : C.M = .val l) (h : Evm C Γ l te m) (ho : ∀ a, out a = .rt (enc a)) : BD C Γ (tSeq (tRet te) u) m out := by
  have := bd_ret (u := u) (k := fun a => a) (out := out) hM h ho
  cases m <;> exact this
/-- return, a new list -/
theorem bd_retN {m : R (List α)} {k : List α → β} (hM : C.M = .nw l) (h : EvN C Γ l te m) (ho : ∀ a, out (k a) = .rt (enc a)) : BD C Γ (tSeq (tRet te) u) (m.bind fun a => .ok (k a)) out := fun G hid os σ H D Kw q => by
  refine h G hid os σ H _ Kw ?_
  rcases ex_cases q with ⟨a, e, q⟩ | ⟨x, e, q⟩ <;> rw [e]
  · intro p vs H1 s1 n hp hz r1
    have q : PoO C G hid D (out (k a)) := q
    rw [ho] at q
    have q : PoRet C.T C.M G C.H0 D.rt (enc a) := q
    unfold PoRet at q
    rw [hM] at q
    exact q p vs H1 (a.map enc) rfl (Kw.ext.trans s1) (Kw.ext.free n) hp hz (r1.weak fun a z => z.imp (fun z => avC_av a z) id)
  · exact pox_of Kw q
theorem bd_retN1 {out : List α → Oc} {m : R (List α)} (hM : C.M = .nw l) (h : EvN C Γ l te m) (ho : ∀ a, out a = .rt (enc a)) : BD C Γ (tSeq (tRet te) u) m out := by
  have := bd_retN (u := u) (k := fun a => a) (out := out) hM h ho
  cases m <;> exact this
/-- return, an own list -/
theorem bd_retO {i : Nat} {xs : List α} {k : β} (hM : C.M = .nw l) (h : Γ[i]? = some (.ow l (xs.map enc))) (ho : out k = .rt (enc xs)) : BD C Γ (tSeq (tRet (tVar i)) u) (.ok k) out := fun G hid os σ H D Kw q => by
  have K2 := Kw.share h
  obtain ⟨hl, p, vs, e2, e3, hp, hz, rs⟩ := Kw.sl i _ h
  have q : PoO C G hid D (out k) := q
  rw [ho] at q
  have q : PoRet C.T C.M G C.H0 D.rt (enc xs) := q
  unfold PoRet at q
  rw [hM] at q
  have mp : some p ∈ os := List.mem_of_getElem? e2
  refine ⟨_, e3, q p vs H (xs.map enc) rfl Kw.ext (Kw.new p mp).1 hp hz (rs.weak fun a z => ?_)⟩
  rcases z with z | z
  · exact avC_av a z
  · rw [z]
    cases l with
    | raw => exact hl.elim
    | pa => exact .inr mp
    | fr => exact .inr (.inr mp)
theorem bd_if {c : R Bool} {m1 m2 : R β} (hc : EvT C Γ tt c) (h1 : BD C Γ (tSeq t u) m1 out) (h2 : BD C Γ (tSeq w u) m2 out) : BD C Γ (tSeq (tIfS tt t w) u) (R.ifm c m1 m2) out := fun G hid os σ H D Kw q => by
  refine hc G hid os σ H _ Kw ?_
  rcases ex_cases (k := fun b => R.ite b m1 m2) q with ⟨a, e, q⟩ | ⟨x, e, q⟩ <;> rw [e]
  · intro H1 s1
    cases a with
    | true => exact iteT (h1 G hid os σ H1 D (Kw.same s1) q)
    | false => exact iteF (h2 G hid os σ H1 D (Kw.same s1) q)
  · exact pox_of Kw q
/-- two ways that meet again -/
theorem bd_join {m : R ε} {k : ε → R β} {es : ε → List Sl} (h : BD C Γ t m (fun s => .nx (es s))) (hk : ∀ s, BD C (es s) u (k s) out) : BD C Γ (tSeq t u) (m.bind k) out := fun G hid os σ H D Kw q => by
  refine h G hid os σ H _ Kw ?_
  rcases ex_cases q with ⟨a, e, q⟩ | ⟨x, e, q⟩ <;> rw [e]
  · exact fun os' σ' H' K' => hk a G hid os' σ' H' D K' q
  · exact q
theorem bd_tail {m : R β} (h : BD C Γ (tSeq t tNext) m out) : BD C Γ t m out := h
/-- xs.append(e) -/
def appL {α : Type} (xs : List α) (a : α) : Option (List α) := optIf (xs.length < LIM) (xs ++ [a])
theorem bd_app {i : Nat} {xs : List α} {m : R α} {k : List α → R β} (h : Γ[i]? = some (.ow l (xs.map enc))) (he : Evm C Γ l te m) (hk : ∀ ys, BD C (Γ.set i (.ow l (ys.map enc))) u (k ys) out) :
    BD C Γ (tSeq (tDrop (tBM K "list" rAppend (tVar i) (tCons te tNil))) u) (m.bind fun a => (R.of (appL xs a)).bind k) out := fun G hid os σ H D Kw q => by
  obtain ⟨hl, p, vs, e2, e3, hp, hz, rs⟩ := Kw.sl i _ h
  refine ⟨_, e3, .inl ⟨rfl, vs, rd_seqL hp⟩, he G hid os σ H _ Kw ?_⟩
  rcases ex_cases q with ⟨a, e, q⟩ | ⟨x, e, q⟩ <;> rw [e]
  · intro v H1 s1 r1
    rcases ex_cases q with ⟨ys, ey, q⟩ | ⟨x, ey, q⟩
    · cases ea : appL xs a with
      | none => rw [ea] at ey; cases ey
      | some zs =>
        rw [ea] at ey
        cases ey
        obtain ⟨c, ez⟩ := optIf_some ea
        have hlen := rs.len
        rw [List.length_map] at hlen
        refine ⟨p, vs, v, rfl, rfl, s1 _ _ hp, lim_size (by omega), ?_⟩
        refine hk ys G hid os σ _ D ?_ q
        refine (Kw.same s1).chg h e2 hl (by rw [List.length_append, List.length_singleton]; omega) ?_
        rw [← ez, List.map_append]
        exact (rs.same s1).app (reps_cons r1 reps_nil)
    · cases ea : appL xs a with
      | none => rw [ea] at ey; cases ey
      | some zs => rw [ea] at ey; cases ey
  · exact pox_of Kw q
/-- xs[i] = e -/
def setL {α : Type} (xs : List α) (i : Int) (a : α) : Option (List α) := (ixN xs.length i).map fun j => xs.set j a
theorem bd_seti {i : Nat} {xs : List α} {m : R α} {mi : R Int} {k : List α → R β} {ti : TE} (h : Γ[i]? = some (.ow l (xs.map enc))) (he : Evm C Γ l te m) (hi : Evm C Γ l2 ti mi) (hk : ∀ ys, BD C (Γ.set i (.ow l (ys.map enc))) u (k ys) out) :
    BD C Γ (tSeq (tAsg te (gSub (tVar i) ti rSetL)) u) (m.bind fun a => mi.bind fun j => (R.of (setL xs j a)).bind k) out := fun G hid os σ H D Kw q => by
  obtain ⟨hl, p, vs, e2, e3, hp, hz, rs⟩ := Kw.sl i _ h
  refine he G hid os σ H _ Kw ?_
  rcases ex_cases q with ⟨a, e, q⟩ | ⟨x, e, q⟩ <;> rw [e]
  · intro v H1 s1 r1
    refine ⟨_, e3, hi G hid os σ H1 _ (Kw.same s1) ?_⟩
    rcases ex_cases q with ⟨j, ej, q⟩ | ⟨x, ej, q⟩ <;> rw [ej]
    · intro y H2 s2 r2
      rcases ex_cases q with ⟨ys, ey, q⟩ | ⟨x, ey, q⟩
      · cases ea : setL xs j a with
        | none => rw [ea] at ey; cases ey
        | some zs =>
          rw [ea] at ey
          cases ey
          unfold setL at ea
          have hlen := rs.len
          rw [List.length_map] at hlen
          cases eo : ixN xs.length j with
          | none => rw [eo] at ea; cases ea
          | some n =>
            rw [eo] at ea
            have ez : xs.set n a = ys := Option.some.inj ea
            refine ⟨p, vs, j, n, rfl, r2, s2 _ _ (s1 _ _ hp), by rw [← hlen]; exact eo, ?_⟩
            refine hk ys G hid os σ _ D ?_ q
            refine (Kw.same (s1.trans s2)).chg h e2 hl (by rw [List.length_set]; exact hz) ?_
            rw [← ez, List.map_set]
            exact (rs.same (s1.trans s2)).set n (r1.same s2)
      · cases ea : setL xs j a with
        | none => rw [ea] at ey; cases ey
        | some zs => rw [ea] at ey; cases ey
    · exact pox_of (Kw.same s1) q
  · exact pox_of Kw q

/-! ### loops -/
inductive Stp (S A : Type) where
  | nx (s : S) | bk (s : S) | rt (a : A)
def loopR {α S A : Type} (f : α → S → R (Stp S A)) : List α → S → R (Stp S A)
  | [], s => .ok (.nx s)
  | x :: xs, s => (f x s).bind fun r => match r with
    | .nx s' => loopR f xs s'
    | .bk s' => .ok (.bk s')
    | .rt a => .ok (.rt a)
def Stp.fin {S A β : Type} (k : S → R β) (ret : A → R β) : Stp S A → R β
  | .nx s => k s
  | .bk s => k s
  | .rt a => ret a
def oStp {S A : Type} (es : S → List Sl) (er : A → PV) : Stp S A → Oc
  | .nx s => .nx (es s)
  | .bk s => .bk (es s)
  | .rt a => .rt (er a)
section
variable {S A : Type} {es : S → List Sl} {er : A → PV} {wi : TI} {g : TG} {vs : List Nat} {fg : List Sl → α → List Sl} {s0 : S}
/-- a loop: the state between two turns is es s -/
theorem bd_for {m : R (List α)} {f : α → S → R (Stp S A)} {k : S → R β} {ret : A → R β} (hi : EvI C Γ l1 wi m) (hl1 : l1.st) (w : Wk Γ (es s0)) (hg : TgB (α := α) C l1 g vs fg) (hvs : ∀ s, ∀ j ∈ vs, (es s)[j]? = some .un)
    (hb : ∀ x s, BD C (fg (es s) x) t (f x s) (oStp es er)) (hk : ∀ s, BD C (es s) u (k s) out) (hr : ∀ a, ∃ b, ret a = .ok b ∧ out b = .rt (er a)) :
    BD C Γ (tSeq (tFor wi g t) u) (m.bind fun xs => (loopR f xs s0).bind (Stp.fin k ret)) out := fun G hid os σ H D Kw q => by
  refine hi G hid os σ H _ Kw ?_
  rcases ex_cases q with ⟨xs, e, q⟩ | ⟨x, e, q⟩ <;> rw [e]
  · intro J pins H1 s1 hp hz iv
    obtain ⟨os0, K0⟩ := w.okw ((Kw.same s1).hide (pins := pins.map fun z => (l1, z.1, z.2)) (fun z hz => by
      obtain ⟨z', h1, h2⟩ := List.mem_map.mp hz
      rw [← h2]
      exact ⟨hl1, hp z' h1⟩))
    refine ⟨fun i n σ2 H2 => n = xs.length - i ∧ i ≤ xs.length ∧ ∃ s os2, OkW C G (es s) ((pins.map fun z => (l1, z.1, z.2)) ++ hid) os2 σ2 H2 ∧ PoB C G hid D out ((loopR f (xs.drop i) s).bind (Stp.fin k ret)),
      ⟨xs.length, by simp, Nat.zero_le _, s0, os0, K0, by rw [List.drop_zero]; exact q⟩, fun i n σ2 H2 hw => ?_⟩
    obtain ⟨en, hi', s, os2, K2, q2⟩ := hw
    have pinsR : ∀ z ∈ pins, Rep C.T H2 (av l1 C.H0 G os2) z.1 z.2 := fun z hz => (K2.pins _ (List.mem_map.mpr ⟨z, hz, rfl⟩)).2
    by_cases hlt : i < xs.length
    · right
      have hx : xs[i]? = some xs[i] := List.getElem?_eq_getElem hlt
      obtain ⟨hgo, hy⟩ := iv.go i _ H2 _ hx (fun b hb => K2.avdom l1 b hb) pinsR
      have hd : xs.drop i = xs[i] :: xs.drop (i + 1) := List.drop_eq_getElem_cons hlt
      rw [hd] at q2
      unfold loopR at q2
      refine ⟨hgo, fun σ3 H3 => ∃ n', n' < n ∧ (n' = xs.length - (i + 1) ∧ i + 1 ≤ xs.length ∧ ∃ s os2, OkW C G (es s) ((pins.map fun z => (l1, z.1, z.2)) ++ hid) os2 σ3 H3 ∧ PoB C G hid D out ((loopR f (xs.drop (i + 1)) s).bind (Stp.fin k ret))), fun _ _ hh => hh, fun x H3 hyx => ?_⟩
      obtain ⟨s3, rx⟩ := hy x H3 hyx
      refine hg G _ os2 σ2 H3 _ x xs[i] _ (K2.same s3) (fun j hj => ?_) rx (fun os4 σ4 K4 _ _ => ?_)
      · exact K2.sl j _ (hvs s j hj)
      · refine hb xs[i] s G _ os4 σ4 H3 _ K4 ?_
        rw [R.bind_assoc] at q2
        rcases ex_cases q2 with ⟨r, er', q3⟩ | ⟨x, ex', q3⟩
        · rw [er']
          cases r with
          | nx s' =>
            intro os5 σ5 H5 K5
            exact ⟨xs.length - (i + 1), by omega, rfl, by omega, s', os5, K5, q3⟩
          | bk s' =>
            intro os5 σ5 H5 K5
            exact hk s' G hid os5 σ5 H5 D K5.bare q3
          | rt a =>
            obtain ⟨b, hb1, hb2⟩ := hr a
            have q3 : PoB C G hid D out (ret a) := q3
            rw [hb1] at q3
            have q3 : PoO C G hid D (out b) := q3
            rw [hb2] at q3
            exact q3
        · rw [ex']
          exact q3
    · left
      have hd : xs.drop i = [] := List.drop_eq_nil_of_le (by omega)
      rw [hd] at q2
      exact ⟨iv.stop i H2 _ (by omega) pinsR, hk s G hid os2 σ2 H2 D K2.bare q2⟩
  · exact pox_of Kw q
/-- a loop that is neither left nor broken off -/
def foldR {α S : Type} (f : α → S → R S) : List α → S → R S
  | [], s => .ok s
  | x :: xs, s => (f x s).bind fun s' => foldR f xs s'
theorem foldR_loop {f : α → S → R S} {A : Type} : ∀ (xs : List α) (s : S), loopR (A := A) (fun x s => (f x s).bind fun s' => .ok (.nx s')) xs s = (foldR f xs s).bind fun s' => .ok (.nx s')
  | [], s => rfl
  | x :: xs, s => by
    unfold loopR foldR
    cases f x s with
    | bad => rfl
    | ex z => rfl
    | ok s' => exact foldR_loop xs s'
theorem bd_fold {m : R (List α)} {f : α → S → R S} {k : S → R β} (hi : EvI C Γ l1 wi m) (hl1 : l1.st) (w : Wk Γ (es s0)) (hg : TgB (α := α) C l1 g vs fg) (hvs : ∀ s, ∀ j ∈ vs, (es s)[j]? = some .un)
    (hb : ∀ x s, BD C (fg (es s) x) t (f x s) (fun s => .nx (es s))) (hk : ∀ s, BD C (es s) u (k s) out) :
    BD C Γ (tSeq (tFor wi g t) u) (m.bind fun xs => (foldR f xs s0).bind k) out := by
  have h := bd_for (A := Empty) (er := fun z => nomatch z) (f := fun x s => (f x s).bind fun s' => .ok (.nx s')) (k := k) (ret := fun z => nomatch z) (out := out) (u := u) hi hl1 w hg hvs (fun x s => fun G hid os σ H D Kw q => hb x s G hid os σ H D Kw (by
    cases e : f x s with
    | bad => rw [e] at q; exact q
    | ex z => rw [e] at q; exact q
    | ok s' => rw [e] at q; exact q)) hk (fun z => nomatch z)
  have e : (fun xs => (loopR (A := Empty) (fun x s => (f x s).bind fun s' => .ok (.nx s')) xs s0).bind (Stp.fin k fun z => nomatch z)) = fun xs => (foldR f xs s0).bind k := by
    funext xs
    rw [foldR_loop, R.bind_assoc]
    rfl
  rw [e] at h
  exact h
end
end
end Pv

set_option Elab.async false
set_option linter.all false
set_option maxRecDepth 100000
namespace Pv
open PySem PySem.Spec L2
open Enc (enc)
open Encs (encs)

section
variable {P : Program} {w : World} {K : PySem.W.Frag} {mg : Str → Option Value} {base : Heap} {α β : Type} [Enc α] [Encs β] {T : CT} {M : RM}
/-- the slots at the entry -/
def entry (N : List Str) (ps : List PV) : List Sl := ps.map (Sl.sh .pa) ++ List.replicate (N.length - ps.length) .un
theorem okw_start {H : Hp} {G : Addr → Prop} {N : List Str} {vs : List V} {ps : List PV} {W : Option WX} (dom : ∀ a, G a → H a ≠ none) (r : Reps T H G ps vs) (hn : ps.length ≤ N.length) :
    OkW ⟨T, H, W, M⟩ G (entry N ps) [] (List.replicate N.length none) (L2.start N vs) H := by
  have hl := r.len
  have none_at : ∀ (i : Nat) (a : Addr), (List.replicate N.length (none : Option Addr))[i]? = some (some a) → False := fun i a h => by
    rw [List.getElem?_replicate] at h
    split at h <;> cases h
  refine ⟨by simp [entry]; omega, ?_, Same.refl H, dom, fun a h => ?_, fun i j a h => (none_at i a h).elim, fun i s h => ?_, fun q hq => by cases hq⟩
  · simp [entry, L2.start]; omega
  · obtain ⟨i, hi⟩ := List.getElem?_of_mem h
    exact (none_at i a hi).elim
  · have hi : i < N.length := by
      have := (List.getElem?_eq_some_iff.mp h).1
      simp [entry] at this
      omega
    have hos : (List.replicate N.length (none : Option Addr))[i]? = some none := by
      rw [List.getElem?_replicate, if_pos hi]
    by_cases hlt : i < ps.length
    · have e1 : (entry N ps)[i]? = some (.sh .pa ps[i]) := by
        unfold entry
        rw [List.getElem?_append_left (by simpa using hlt), List.getElem?_map, List.getElem?_eq_getElem hlt]
        rfl
      rw [e1] at h
      cases h
      obtain ⟨v, hv, rv⟩ := r.get (List.getElem?_eq_getElem hlt)
      refine ⟨trivial, hos, v, ?_, rv.weak fun a z => ?_⟩
      · unfold L2.start
        rw [List.getElem?_append_left (by simp; omega), List.getElem?_map, hv]
        rfl
      · rcases z with z | z
        · exact z
        · obtain ⟨i, hi⟩ := List.getElem?_of_mem z
          exact (none_at i a hi).elim
    · have e1 : (entry N ps)[i]? = some .un := by
        unfold entry
        rw [List.getElem?_append_right (by simpa using hlt), List.getElem?_replicate]
        simp
        omega
      rw [e1] at h
      cases h
      exact hos
/-- a quiet def, by its body -/
theorem fn_pm {x qual : Str} {st : Stmt} {f : Addr} {fd : FuncData} {N ps : List Str} {k : Nat} {g : β → R α} (F : Fun K x qual st f fd) (S : FnScope N ps (defScope st)) (hlen : ∀ b : β, (encs b).length = ps.length)
    (hbody : ∀ (cdv : Value) (A : Around) (outer : List Env) (s : Shared) (H : Hp) (E : XK), Room k (A.deeper (PyProof.Rows.envOfC qual (defScope st) s.heap.objs.size f cdv)) →
      ∃ t, PSs (cxOf CX0 P w K mg base N qual (defScope st) f cdv A outer s H E).nox (defBody st) t ∧ ∀ b : β, BD ⟨T, H, none, M⟩ (entry N (encs b)) t (g b) (fun a => .rt (enc a))) :
    FnOk P w K mg base CX0 (k + 1) f fd ps (Pm T M g) := by
  have hpl : ps.length ≤ N.length := by have := congrArg List.length S.pre; rw [List.length_take] at this; omega
  refine F.ok S (fun vs H Q E h => ?_) (fun cdv A outer s H vs Q E hr h => ?_)
  · obtain ⟨b, G, _, r, _⟩ := h
    rw [← r.len, hlen]
  · obtain ⟨b, G, dom, r, q⟩ := h
    obtain ⟨t, ht, hb⟩ := hbody cdv A outer s H E hr
    refine ⟨t, ht, hb b G [] _ _ H _ (okw_start dom r (by rw [hlen]; exact hpl)) ?_⟩
    cases e : g b with
    | bad => rw [e] at q; exact q
    | ex z => rw [e] at q; exact q
    | ok a => rw [e] at q; exact q
/-- a quiet def that hands back nothing -/
theorem fn_pmU {x qual : Str} {st : Stmt} {f : Addr} {fd : FuncData} {N ps : List Str} {k : Nat} {g : β → R Unit} (F : Fun K x qual st f fd) (S : FnScope N ps (defScope st)) (hlen : ∀ b : β, (encs b).length = ps.length)
    (hbody : ∀ (cdv : Value) (A : Around) (outer : List Env) (s : Shared) (H : Hp) (E : XK), Room k (A.deeper (PyProof.Rows.envOfC qual (defScope st) s.heap.objs.size f cdv)) →
      ∃ t, PSs (cxOf CX0 P w K mg base N qual (defScope st) f cdv A outer s H E).nox (defBody st) t ∧ ∀ b : β, BD ⟨T, H, none, .val .fr⟩ (entry N (encs b)) t (g b) (fun _ => .nx (List.replicate N.length .un))) :
    FnOk P w K mg base CX0 (k + 1) f fd ps (Pm T (.val .fr) g) := by
  have hpl : ps.length ≤ N.length := by have := congrArg List.length S.pre; rw [List.length_take] at this; omega
  refine F.ok S (fun vs H Q E h => ?_) (fun cdv A outer s H vs Q E hr h => ?_)
  · obtain ⟨b, G, _, r, _⟩ := h
    rw [← r.len, hlen]
  · obtain ⟨b, G, dom, r, q⟩ := h
    obtain ⟨t, ht, hb⟩ := hbody cdv A outer s H E hr
    refine ⟨t, ht, hb b G [] _ _ H _ (okw_start dom r (by rw [hlen]; exact hpl)) ?_⟩
    cases e : g b with
    | bad => rw [e] at q; exact q
    | ex z => rw [e] at q; exact q
    | ok a =>
      rw [e] at q
      intro os σ H2 K2
      exact q .non H2 K2.ext rfl
/-- the law's own promise, from the mirror's answer -/
def spLaw (K : PySem.W.Frag) : Sp := fun vs H Q _ => ∃ (a : Addr) (ns : List Int), vs = [.ref a] ∧ SqL K H a (ns.map V.int) ∧ ns.length ≤ 63 ∧ ∀ H', Q (.bl true) H'
theorem law_pm {CX : CXT} {k : Nat} {fa : Addr} {fd : FuncData} {x : Str} {g : Scr × Unit → R Bool} (hT : T.K = K) (F : FnOk P w K mg base CX k fa fd [x] (Pm T (.val .fr) g)) (h : ∀ ns : List Int, ns.length ≤ 63 → g (⟨ns⟩, ()) = .ok true) :
    FnOk P w K mg base CX k fa fd [x] (spLaw K) := F.imp fun vs H Q E hq => by
  obtain ⟨a, ns, e, hs, hl, q⟩ := hq
  refine ⟨(⟨ns⟩, ()), fun _ => False, fun _ z => z.elim, ?_, ?_⟩
  · rw [e]
    refine reps_cons ?_ reps_nil
    show Rep T H _ (.scr ns) (.ref a)
    unfold Rep
    refine ⟨a, rfl, ?_⟩
    rcases hs with hs | hs
    · exact .inl ⟨hs, fun z => z⟩
    · rw [hT]
      exact .inr (.inr hs)
  · rw [h ns hl]
    intro v H' s r
    have r : v = .bl true := r
    rw [r]
    exact q H'
end
end Pv

set_option Elab.async false
set_option linter.all false
set_option maxRecDepth 100000
namespace Pv
open PySem PySem.Spec L2
open Enc (enc)
open Encs (encs)
def mulO (a b : Int) : Option Int := optIf ((-(2 ^ 64) < a ∧ a < 2 ^ 64) ∨ (-(2 ^ 64) < b ∧ b < 2 ^ 64)) (a * b)
def modO (a b : Int) : Option Int := optIf (0 < b) (a % b)
def divO (a b : Int) : Option Int := optIf (0 < b ∧ b < 2 ^ 4000) (a / b)
def powO (a b : Int) : Option Int := optIf (0 ≤ b ∧ b ≤ 1000 ∧ -(2 ^ 63) < a ∧ a < 2 ^ 63) (a ^ b.toNat)
theorem rv_of {T : CT} {α β γ : Type} [Enc α] [Enc β] [Enc γ] {r : R2} {a : α} {b : β} {o o' : Option γ} (h : RvF T r a b o) (e : ∀ c, o' = some c → o = some c) : RvF T r a b o' := fun H x y Q c hx hy ec q => h H x y Q c hx hy (e c ec) q
section
variable {T : CT} {a b : Int}
theorem rv_mul : RvF T (rI CMul fun i j => .int (i * j)) a b (mulO a b) := fun H x y Q c hx hy e q => by
  obtain ⟨e1, e2⟩ := optIf_some e
  exact ⟨a, b, hx, hy, e1, q _ (by rw [← e2]; rfl)⟩
theorem rv_mod : RvF T (rI (fun _ j => 0 < j) fun i j => .int (i % j)) a b (modO a b) := fun H x y Q c hx hy e q => by
  obtain ⟨e1, e2⟩ := optIf_some e
  exact ⟨a, b, hx, hy, e1, q _ (by rw [← e2]; rfl)⟩
theorem rv_div : RvF T (rI CDivW fun i j => .int (i / j)) a b (divO a b) := fun H x y Q c hx hy e q => by
  obtain ⟨⟨e1, e3⟩, e2⟩ := optIf_some e
  refine ⟨a, b, hx, hy, wide_div (b := 4000) e1 ?_ (by decide) (by decide), q _ (by rw [← e2]; rfl)⟩
  have : (b.natAbs : Int) < ((2 ^ 4000 : Nat) : Int) := by
    rw [Int.natAbs_of_nonneg (by omega)]
    simpa using e3
  exact Int.ofNat_lt.mp this
theorem rv_pow : RvF T (rI CPow fun i j => .int (i ^ j.toNat)) a b (powO a b) := fun H x y Q c hx hy e q => by
  obtain ⟨⟨e1, e3, e4, e5⟩, e2⟩ := optIf_some e
  exact ⟨a, b, hx, hy, ⟨e1, by omega, by omega⟩, q _ (by rw [← e2]; rfl)⟩
end
/-- one entry more -/
theorem lt_of {n : Nat} {xs : List Sl} (h : decide (n < xs.length) = true) : n < xs.length := of_decide_eq_true h
theorem Evm.cast {α : Type} [Enc α] {C : Cn} {Γ : List Sl} {l : Lv} {t : TE} {m m' : R α} (h : Evm C Γ l t m) (e : m = m') : Evm C Γ l t m' := e ▸ h
theorem EvN.cast {α : Type} [Enc α] {C : Cn} {Γ : List Sl} {l : Lv} {t : TE} {m m' : R (List α)} (h : EvN C Γ l t m) (e : m = m') : EvN C Γ l t m' := e ▸ h
theorem EvT.cast {C : Cn} {Γ : List Sl} {t : TT} {m m' : R Bool} (h : EvT C Γ t m) (e : m = m') : EvT C Γ t m' := e ▸ h
theorem EvI.cast {α : Type} [Enc α] {C : Cn} {Γ : List Sl} {l : Lv} {t : TI} {m m' : R (List α)} (h : EvI C Γ l t m) (e : m = m') : EvI C Γ l t m' := e ▸ h
end Pv

set_option Elab.async false
set_option linter.all false
set_option maxRecDepth 100000
namespace Pv
open PySem PySem.Spec L2
open Enc (enc)
open Encs (encs)

/-! ### the form of a mirror -/
theorem R.bind_right {α : Type} (m : R α) : (m.bind fun a => R.ok a) = m := by cases m <;> rfl
theorem compR_map {α β : Type} (f : α → β) : ∀ xs : List α, compR (fun _ => R.ok true) (fun a => R.ok (f a)) xs = R.ok (xs.map f)
  | [] => rfl
  | x :: xs => by
    unfold compR
    rw [compR_map f xs]
    rfl
theorem compR_filter {α β : Type} (p : α → Bool) (f : α → β) : ∀ xs : List α, compR (fun a => R.ok (p a)) (fun a => R.ok (f a)) xs = R.ok ((xs.filter p).map f)
  | [] => rfl
  | x :: xs => by
    unfold compR
    rw [compR_filter p f xs]
    cases h : p x <;> simp [List.filter_cons, h, R.bind, R.ite]
theorem R.ifm_ok {α : Type} (b : Bool) (m n : R α) : R.ifm (R.ok b) m n = R.ite b m n := rfl
theorem R.ite_ok {α : Type} (b : Bool) (x y : α) : R.ite b (R.ok x) (R.ok y) = R.ok (if b then x else y) := by cases b <;> rfl
theorem R.ite_and (b c : Bool) : R.ite b (R.ok c) (R.ok false) = R.ok (b && c) := by cases b <;> rfl
theorem R.ite_or (b c : Bool) : R.ite b (R.ok true) (R.ok c) = R.ok (b || c) := by cases b <;> rfl

/-! ### calls of the text's defs -/
/-- a def of the text that keeps its promise, with all that a caller needs -/
structure Kd (P : Program) (w : World) (K : PySem.W.Frag) (mg : Str → Option Value) (base : Heap) (CX : CXT) (x : Str) (ps : List Str) (k : Nat) (sp : Sp) : Prop where
  ex : ∃ f fd, mg x = some (.ref f) ∧ PySem.W.keepIn K (.ref f) = true ∧ Binds K fd ps [] ∧ FnOk P w K mg base CX k f fd ps sp
theorem pe_kd {X : Cx} {x : Str} {ps : List Str} {k : Nat} {sp : Sp} {e : Expr} {es : List Expr} {t : TA} {p pos : Pos} (h : Kd X.prog X.w X.K X.mg X.base CX0 x ps k sp) (hr : Room k X.A) (hg : Gl X x) (ha : PA X (e :: es) t) (hd : (x == ("__debug__" : Str)) = false := by decide)
    (he : starEach (e :: es) X.env = (false, eval e X.env) :: starEach es X.env := by rfl) (hpl : (backTo pos (starEach es X.env)).any (·.1) = false := by rfl) :
    PE X (.Call (.Name x p) (e :: es) [] pos) (tCall sp [] E0 t) := by
  obtain ⟨f, fd, hm, hk, hb, F⟩ := h.ex
  exact pe_call F hr hg hm hk hb .nil pass0 ha hd he hpl
theorem hu65 {k : Nat} {A : Around} (r : Room k A) : A.units + 65 < cLine := by have := r.un; omega

/-! ### slots that are not own -/
theorem hv1 {Γ : List Sl} {j : Nat} {s : Sl} (h : Γ[j]? = some s) (hs : notOw s = true) : ∀ k ∈ [j], k < Γ.length ∧ ∀ s, Γ[k]? = some s → notOw s = true := fun k hk => by
  rw [List.mem_singleton.mp hk]
  refine ⟨(List.getElem?_eq_some_iff.mp h).1, fun s z => ?_⟩
  rw [h] at z
  cases z
  exact hs
theorem hvc {Γ : List Sl} {j : Nat} {vs : List Nat} {s : Sl} (h : Γ[j]? = some s) (hs : notOw s = true) (r : ∀ k ∈ vs, k < Γ.length ∧ ∀ s, Γ[k]? = some s → notOw s = true) : ∀ k ∈ j :: vs, k < Γ.length ∧ ∀ s, Γ[k]? = some s → notOw s = true := fun k hk => by
  rcases List.mem_cons.mp hk with e | e
  · exact hv1 h hs k (by rw [e]; exact List.mem_singleton.mpr rfl)
  · exact r k e
theorem hu1 {S : Type} {es : S → List Sl} {j : Nat} (h : ∀ s, (es s)[j]? = some .un) : ∀ s, ∀ k ∈ [j], (es s)[k]? = some .un := fun s k hk => by
  rw [List.mem_singleton.mp hk]; exact h s
theorem huc {S : Type} {es : S → List Sl} {j : Nat} {vs : List Nat} (h : ∀ s, (es s)[j]? = some .un) (r : ∀ s, ∀ k ∈ vs, (es s)[k]? = some .un) : ∀ s, ∀ k ∈ j :: vs, (es s)[k]? = some .un := fun s k hk => by
  rcases List.mem_cons.mp hk with e | e
  · rw [e]; exact h s
  · exact r s k e

section
variable {C : Cn} {Γ : List Sl} {l l1 l2 : Lv} {α β γ : Type} [Enc α] [Enc β] [Enc γ] {ta tb tc te t : TE} {G : Addr → Prop} {os : List (Option Addr)} {σ : L2.St} {H H' : Hp} {x : Exc} {K : PySem.W.Frag} {T : CT} {u : TS} {ε : Type} {out : ε → Oc}
/-! ### a test of a yes -/
theorem evt_yes : EvT C Γ tYes (.ok true) := fun G hid os σ H Q Kw q => q H (Same.refl H)
/-! ### isinstance, one class -/
/-- what type a value of this sort has -/
class TyA (α : Type) [Enc α] where
  ty : String
  ok : ∀ (K : PySem.W.Frag) (T : CT) (H : Hp) (G : Addr → Prop) (a : α) (v : V), Rep T H G (enc a) v → TyX K H v (.type ty)
instance : TyA Int := ⟨"int", fun K T H G a v r => by rw [int_rep r]; exact .base (.int a)⟩
instance : TyA Bool := ⟨"bool", fun K T H G a v r => by rw [bl_rep r]; exact .base (.bl a)⟩
instance : TyA Str := ⟨"str", fun K T H G a v r => by rw [(str_rep r).1]; exact .base (.str a)⟩
instance {α : Type} [Enc α] : TyA (List α) := ⟨"list", fun K T H G a v r => by
  obtain ⟨p, vs, e, _, hp, _⟩ := lst_rep r
  rw [e]
  exact .base (.lst hp)⟩
instance {δ : Type} [Encs δ] : TyA (Tp δ) := ⟨"tuple", fun K T H G a v r => by
  have r : Rep T H G (.tup (encs a.t)) v := r
  unfold Rep at r
  obtain ⟨p, vs, e, _, hp, _⟩ := r
  rw [e]
  exact .base (.tup hp)⟩
theorem evm_isi [TyA α] {c : String} {b : Bool} {m : R α} (ha : Evm C Γ l ta m) (hk : kitB (TyA.ty α) c = some b) : Evm C Γ .fr (tCB (rIsi K) (tCons ta (tCons (tC (.ty c)) tNil))) (m.bind fun _ => .ok b) := fun G hid os σ H Q Kw q => by
  refine ha G hid os σ H _ Kw ?_
  cases e1 : m with
  | bad => rw [e1] at q; exact q
  | ex x => rw [e1] at q; exact q
  | ok a =>
    rw [e1] at q
    intro v H1 s1 r1
    exact ⟨v, .ty c, .type (TyA.ty α), .type c, b, rfl, .ty c, TyA.ok K C.T H1 _ a v r1, kit_ty hk, q _ H1 s1 rfl⟩
/-! ### xs.count(k), ints -/
theorem evm_cnt {m1 : R (List Int)} {m2 : R Int} (ha : Evm C Γ l1 ta m1) (hb : Evm C Γ l2 tb m2) : Evm C Γ .fr (tBM K "list" (rCntI K) ta (tCons tb tNil)) (m1.bind fun xs => m2.bind fun k => .ok ((xs.count k : Nat) : Int)) := fun G hid os σ H Q Kw q => by
  refine ha G hid os σ H _ Kw ?_
  cases e1 : m1 with
  | bad => rw [e1] at q; exact q
  | ex x => rw [e1] at q; exact q
  | ok xs =>
    rw [e1] at q
    intro v H1 s1 r1
    obtain ⟨p, vs, e, _, hp, _, rs⟩ := lst_rep r1
    have hv := ints_of rs
    rw [e]
    refine ⟨.inl ⟨rfl, vs, rd_seqL hp⟩, hb G hid os σ H1 _ (Kw.same s1) ?_⟩
    cases e2 : m2 with
    | bad => rw [e2] at q; exact q
    | ex x => rw [e2] at q; exact PoX.back s1 q
    | ok k =>
      rw [e2] at q
      intro y H2 s2 r2
      exact ⟨p, xs, k, rfl, by rw [int_rep r2], by rw [← hv]; exact rd_seqL (s2 _ _ hp), q _ H2 (s1.trans s2) rfl⟩
/-! ### x in (a, b, ..) -/
def flatP : PV → Bool
  | .non => true | .bl _ => true | .int _ => true | .str _ => true
  | _ => false
class Flats (δ : Type) [Encs δ] : Prop where
  flat : ∀ d : δ, (encs d).all flatP = true
instance : Flats Unit := ⟨fun _ => rfl⟩
theorem flatP_of {α : Type} [Enc α] [Flat α] (a : α) : flatP (enc a) = true := by
  rcases Flat.flat a with ⟨i, e⟩ | ⟨i, e⟩ | ⟨i, e⟩ | e <;> rw [e] <;> rfl
instance {α δ : Type} [Enc α] [Flat α] [Encs δ] [Flats δ] : Flats (α × δ) := ⟨fun d => by
  show (flatP (enc d.1) && (encs d.2).all flatP) = true
  rw [flatP_of, Flats.flat]
  rfl⟩
theorem flatP_rep {p q : PV} {x y : V} (hp : flatP p = true) (hq : flatP q = true) (r : Rep T H G p x) (r' : Rep T H G q y) : flatV x = true ∧ eqV x y = eqP p q := by
  cases p with
  | non =>
    have r : x = .non := r
    subst r
    cases q with
    | non => have r' : y = .non := r'; subst r'; exact ⟨rfl, rfl⟩
    | bl b => have r' : y = .bl b := r'; subst r'; exact ⟨rfl, rfl⟩
    | int b => have r' : y = .int b := r'; subst r'; exact ⟨rfl, rfl⟩
    | str b => have r' := r'.1; subst r'; exact ⟨rfl, rfl⟩
    | _ => cases hq
  | bl a =>
    have r : x = .bl a := r
    subst r
    cases q with
    | non => have r' : y = .non := r'; subst r'; exact ⟨rfl, rfl⟩
    | bl b => have r' : y = .bl b := r'; subst r'; exact ⟨rfl, rfl⟩
    | int b => have r' : y = .int b := r'; subst r'; exact ⟨rfl, rfl⟩
    | str b => have r' := r'.1; subst r'; exact ⟨rfl, rfl⟩
    | _ => cases hq
  | int a =>
    have r : x = .int a := r
    subst r
    cases q with
    | non => have r' : y = .non := r'; subst r'; exact ⟨rfl, rfl⟩
    | bl b => have r' : y = .bl b := r'; subst r'; exact ⟨rfl, rfl⟩
    | int b => have r' : y = .int b := r'; subst r'; exact ⟨rfl, rfl⟩
    | str b => have r' := r'.1; subst r'; exact ⟨rfl, rfl⟩
    | _ => cases hq
  | str a =>
    have r := r.1
    subst r
    cases q with
    | non => have r' : y = .non := r'; subst r'; exact ⟨rfl, rfl⟩
    | bl b => have r' : y = .bl b := r'; subst r'; exact ⟨rfl, rfl⟩
    | int b => have r' : y = .int b := r'; subst r'; exact ⟨rfl, rfl⟩
    | str b => have r' := r'.1; subst r'; exact ⟨rfl, rfl⟩
    | _ => cases hq
  | _ => cases hp
theorem flats_rep {q : PV} {y : V} (hq : flatP q = true) (r' : Rep T H G q y) : ∀ {ps : List PV} {xs : List V}, ps.all flatP = true → Reps T H G ps xs → xs.all flatV = true ∧ inV y xs = ps.any fun p => eqP p q
  | [], xs, _, h => by
    unfold Reps at h
    rw [h]
    exact ⟨rfl, rfl⟩
  | p :: ps, xs, hf, h => by
    unfold Reps at h
    obtain ⟨v, r, e, h1, h2⟩ := h
    rw [List.all_cons, Bool.and_eq_true] at hf
    obtain ⟨f1, f2⟩ := flatP_rep hf.1 hq h1 r'
    obtain ⟨g1, g2⟩ := flats_rep hq r' hf.2 h2
    unfold inV at g2 ⊢
    rw [e, List.all_cons, List.any_cons, List.any_cons, f1, f2, g1, g2]
    exact ⟨rfl, rfl⟩
theorem rv_inT {δ : Type} [Flat α] [Encs δ] [Flats δ] {a : α} {b : Tp δ} : RvF T (rIn K false) a b (some ((encs b.t).any fun z => eqP z (enc a))) := fun H x y Q c hx hy e q => by
  cases e
  have hy : Rep T H _ (.tup (encs b.t)) y := hy
  unfold Rep at hy
  obtain ⟨p, vs, e, _, hp, _, rs⟩ := hy
  obtain ⟨f1, f2⟩ := flats_rep (flatP_of a) hx (Flats.flat b.t) rs
  refine ⟨p, vs, e, .inr (rd_seqT hp), (flatP_rep (flatP_of a) (flatP_of a) hx hx).1, f1, ?_⟩
  rw [f2]
  exact q _ rfl
theorem rv_notInT {δ : Type} [Flat α] [Encs δ] [Flats δ] {a : α} {b : Tp δ} : RvF T (rIn K true) a b (some (!(encs b.t).any fun z => eqP z (enc a))) := fun H x y Q c hx hy e q => by
  cases e
  have hy : Rep T H _ (.tup (encs b.t)) y := hy
  unfold Rep at hy
  obtain ⟨p, vs, e, _, hp, _, rs⟩ := hy
  obtain ⟨f1, f2⟩ := flats_rep (flatP_of a) hx (Flats.flat b.t) rs
  refine ⟨p, vs, e, .inr (rd_seqT hp), (flatP_rep (flatP_of a) (flatP_of a) hx hx).1, f1, ?_⟩
  rw [f2]
  exact q _ rfl
end
end Pv

set_option Elab.async false
set_option linter.all false
set_option maxRecDepth 100000
namespace Pv
open PySem PySem.Spec L2
/-! the layer's rules with the written part named -/
section
variable {X : Cx} (K : PySem.W.Frag)
def rLenK : List V → Hp → VK → Prop := fun xs H Q => ∃ p ys, xs = [.ref p] ∧ (SqL K H p ys ∨ SqT K H p ys) ∧ Q (.int ys.length) H
def rListK : List V → Hp → VK → Prop := fun xs H Q => ∃ p ys, xs = [.ref p] ∧ (SqL K H p ys ∨ SqT K H p ys) ∧ ∀ l, H l = none → Q (.ref l) (upd H l (.lst ys))
theorem k_len (h : X.K = K) : CallR X (.builtin "len") (rLenK K) := by subst h; exact call_len_seq
theorem k_list (h : X.K = K) : CallR X (.type "list") (rListK K) := by subst h; exact call_list_of
theorem k_all (h : X.K = K) (hc : X.calm = true) : CallR X (.builtin "all") (rAll K) := by subst h; exact cr_all hc
theorem k_any (h : X.K = K) (hc : X.calm = true) : CallR X (.builtin "any") (rAny K) := by subst h; exact cr_any hc
theorem k_sum (h : X.K = K) (hc : X.calm = true) : CallR X (.builtin "sum") (rSum K) := by subst h; exact cr_sum hc
theorem k_max (h : X.K = K) (hc : X.calm = true) : CallR X (.builtin "max") (rMax K) := by subst h; exact cr_max hc
theorem k_min (h : X.K = K) (hc : X.calm = true) : CallR X (.builtin "min") (rMin K) := by subst h; exact cr_min hc
theorem k_sorted (h : X.K = K) : CallR X (.builtin "sorted") (rSortedI K) := by subst h; exact cr_sortedI
theorem k_isi (h : X.K = K) : CallR X (.builtin "isinstance") (rIsi K) := by subst h; exact call_isi
theorem k_ixl (h : X.K = K) : IxR X (rIxL K) := by subst h; exact ix_list
theorem k_ixt (h : X.K = K) : IxR X (rIxT K) := by subst h; exact ix_tup
theorem k_sll (h : X.K = K) : SlR X (rSlL K) := by subst h; exact sl_list
theorem k_eqD (h : X.K = K) (hu : X.A.units + 64 < cLine) : OpR X (compareOp .Eq) (rEqD K) := by subst h; exact op_eqD hu
theorem k_neD (h : X.K = K) (hu : X.A.units + 64 < cLine) : OpR X (compareOp .NotEq) (rNeD K) := by subst h; exact op_neD hu
theorem k_inD (h : X.K = K) (hu : X.A.units + 65 < cLine) : OpR X (compareOp .In) (rInD K) := by subst h; exact op_inD hu
theorem k_niD (h : X.K = K) (hu : X.A.units + 65 < cLine) : OpR X (compareOp .NotIn) (rNotInD K) := by subst h; exact op_notInD hu
theorem k_inS (h : X.K = K) : OpR X (compareOp .In) (rIn K false) := by subst h; exact op_in_seq
theorem k_niS (h : X.K = K) : OpR X (compareOp .NotIn) (rIn K true) := by subst h; exact op_notIn_seq
theorem k_cnt (h : X.K = K) : MtR X "list.count" (rCntI K) := by subst h; exact mt_lcount
theorem k_pil {tg l : Expr} {tl : TE} (h : X.K = K) (hl : PE X l tl) : PI X tg l (iList K tl) := by subst h; exact pi_list hl
theorem k_enum {e : Expr} {ta : TA} {p pos tpos : Pos} {elts : List Expr} {kk : Nat} (h : X.K = K) (hg : Gl X "enumerate") (hm : X.mg "enumerate" = none) (ha : PA X [e] ta) (hs : starEach [e] X.env = [(false, eval e X.env)] := by rfl) :
    PI X (.Tuple elts kk tpos) (.Call (.Name "enumerate" p) [e] [] pos) (iEnum K ta) := by subst h; exact pi_enum hg hm ha hs
theorem k_zip {e e2 : Expr} {ta : TA} {p pos tpos : Pos} {elts : List Expr} {kk : Nat} (h : X.K = K) (hg : Gl X "zip") (hm : X.mg "zip" = none) (ha : PA X [e, e2] ta)
    (hs : starEach [e, e2] X.env = (false, eval e X.env) :: starEach [e2] X.env := by rfl) (hpl : (backTo pos (starEach [e2] X.env)).any (·.1) = false := by rfl) :
    PI X (.Tuple elts kk tpos) (.Call (.Name "zip" p) [e, e2] [] pos) (iZip K ta) := by subst h; exact pi_zip hg hm ha hs hpl
theorem k_gtup {es : List Expr} {k : Nat} {t : TGs} {n : Nat} {pos : Pos} (h : X.K = K) (hc : X.calm = true) (hp : PGs X es t)
    (hn : (assignEach es X.env).length = n := by rfl) (hst : (assignEach es X.env).findIdx? (·.1) = none := by rfl) : PG X (.Tuple es k pos) (gTup K n t) := by subst h; exact pg_tup hc hp hn hst
def tTru (ta : TE) : TT := fun σ H Q => ta σ H fun x H' => ∃ k, TruV K x H' k ∧ Q k H'
theorem k_tru {a : Expr} {ta : TE} (h : X.K = K) (ha : PE X a ta) (he : ∀ whole, isTrue a X.env whole = (do let v ← whole; standAt a.pos; holding [v] (truthy v))) : PT X a (tTru K ta) := by subst h; exact pt_truth ha he
theorem k_bm {e : Expr} {Tn : String} {r : V → List V → Hp → VK → Prop} {to : TE} {t : TA} (h : X.K = K) (h2 : PE X e (tBM X.K Tn r to t)) : PE X e (tBM K Tn r to t) := by subst h; exact h2
end
end Pv

set_option Elab.async false
set_option linter.all false
set_option maxRecDepth 100000
namespace Pv
open PySem PySem.Spec L2
open Enc (enc)
open Encs (encs)

/-! ### objects of own classes: made, read -/
/-- what an __init__ promises that stores its arguments in order: the fields are fs -/
def SpInit (C : Addr) (fs : List Str) : Sp := fun vs H Q _ => ∃ (x dx : Addr) (us : List V), vs = .ref x :: us ∧ us.length = fs.length ∧ H x = some (.ins C dx []) ∧
  ∀ H', (∀ b o, b ≠ x → H b = some o → H' b = some o) → H' x = some (.ins C dx (fs.zip us)) → Q .non H'
section
variable {C : Cn} {Γ : List Sl} {l l1 l2 : Lv} {α β γ δ : Type} [Enc α] [Enc β] [Enc γ] [Encs δ] {ta tb tc te t : TE} {G : Addr → Prop} {os : List (Option Addr)} {σ : L2.St} {H H' : Hp} {x : Exc} {K : PySem.W.Frag} {T : CT} {E : XK}
theorem evm_make {c : Nat} {ta : TA} {m : R δ} {f : δ → α} (ha : EvA C Γ l ta m) (he : ∀ d, enc (f d) = .obj c (encs d)) (hl : ∀ d : δ, (encs d).length = (C.T.fld c).length) : Evm C Γ l (tMake (C.T.addr c) (SpInit (C.T.addr c) (C.T.fld c)) [] E ta) (m.bind fun d => .ok (f d)) := fun G hid os σ H Q Kw q => by
  refine ha G hid os σ H _ Kw ?_
  cases e1 : m with
  | bad => rw [e1] at q; exact q
  | ex x => rw [e1] at q; exact q
  | ok d =>
    rw [e1] at q
    intro vs H1 s1 r1 x dx nx nd ne
    refine ⟨x, dx, vs, by rw [List.append_nil], by rw [← r1.len, hl], upd_same, fun H2 hk hx => ⟨rfl, ?_⟩⟩
    have s2 : Same H1 H2 := fun b o e => hk b o (fun z => by rw [z, nx] at e; cases e) (by
      rw [upd_ne (fun z => by rw [z, nx] at e; cases e), upd_ne (fun z => by rw [z, nd] at e; cases e)]
      exact e)
    refine q (.ref x) H2 (s1.trans s2) ?_
    rw [he]
    unfold Rep
    exact ⟨x, dx, vs, rfl, (Kw.same s1).fresh nx l, hx, by rw [← r1.len, hl], r1.same s2⟩
theorem zip_lookup : ∀ {fs : List Str} {us : List V} {i : Nat} {f : Str} {v : V}, fs.Nodup → fs[i]? = some f → us[i]? = some v → (fs.zip us).lookup f = some v
  | [], _, _, _, _, _, h, _ => by simp at h
  | _ :: _, [], _, _, _, _, _, h => by simp at h
  | g :: fs, u :: us, 0, f, v, nd, h, h' => by
    have e1 : g = f := Option.some.inj h
    have e2 : u = v := Option.some.inj h'
    subst e1
    subst e2
    show List.lookup g ((g, u) :: fs.zip us) = _
    rw [List.lookup_cons_self]
  | g :: fs, u :: us, i + 1, f, v, nd, h, h' => by
    have h1 : fs[i]? = some f := h
    have ne : (f == g) = false := by
      rw [beq_eq_false_iff_ne]
      intro z
      rw [List.nodup_cons] at nd
      exact nd.1 (z ▸ List.mem_of_getElem? h1)
    show List.lookup f ((g, u) :: fs.zip us) = _
    rw [List.lookup_cons, ne]
    exact zip_lookup (List.nodup_cons.mp nd).2 h1 h'
theorem evm_fld {c i : Nat} {f : Str} {m : R α} {g : α → β} {ks : α → List PV} (ha : Evm C Γ l ta m) (he : ∀ o, enc o = .obj c (ks o)) (hg : ∀ o, (ks o)[i]? = some (enc (g o))) (hf : (C.T.fld c)[i]? = some f) (nd : (C.T.fld c).Nodup)
    (cl : Cls K (C.T.addr c)) (na : NoAttr K (C.T.addr c) f) : Evm C Γ l (tFld K ta f) (m.bind fun o => .ok (g o)) := fun G hid os σ H Q Kw q => by
  refine ha G hid os σ H _ Kw ?_
  cases e1 : m with
  | bad => rw [e1] at q; exact q
  | ex x => rw [e1] at q; exact q
  | ok o =>
    rw [e1] at q
    intro v H1 s1 r1
    rw [he] at r1
    unfold Rep at r1
    obtain ⟨a, dx, vs, e, _, ha, _, rs⟩ := r1
    obtain ⟨u, hu, ru⟩ := rs.get (hg o)
    exact ⟨a, C.T.addr c, dx, _, u, e, ha, cl, na, zip_lookup nd hf hu, q u H1 s1 ru⟩
/-- a property, its getter a def with the object as its one argument -/
theorem evm_prop {c : Nat} {m : R α} {f : α × Unit → R β} {ks : α → List PV} (hW : C.W = none) (ha : Evm C Γ l ta m) (he : ∀ o, enc o = .obj c (ks o)) : Evm C Γ .fr (tProp (C.T.addr c) (Pm C.T (.val .fr) f) [] E ta) (m.bind fun o => f (o, ())) := fun G hid os σ H Q Kw q => by
  refine ha G hid os σ H _ Kw ?_
  cases e1 : m with
  | bad => rw [e1] at q; exact q
  | ex x => rw [e1] at q; exact q
  | ok o =>
    rw [e1] at q
    intro v H1 s1 r1
    have r2 := r1
    rw [he] at r2
    unfold Rep at r2
    obtain ⟨a, dx, vs, e, _, ha, _, _⟩ := r2
    refine ⟨a, dx, _, e, ha, (o, ()), fun _ => False, fun _ z => z.elim, reps_cons (by rw [← e]; exact raw_rep r1) reps_nil, ?_⟩
    have q : PoV C .fr G os σ H Q (f (o, ())) := q
    cases e2 : f (o, ()) with
    | bad => rw [e2] at q; exact q
    | ex x => rw [e2] at q; have q : PoX C σ H x := q; unfold PoX at q; rw [hW] at q; exact q
    | ok b => rw [e2] at q; exact fun u H2 s2 r => q u H2 (s1.trans s2) (r.weak fun a z => av_fr_of Kw s1 a z)
/-- isinstance of an object of the class itself -/
theorem evm_isC {c : Nat} {m : R α} {ks : α → List PV} (ha : Evm C Γ l ta m) (he : ∀ o, enc o = .obj c (ks o)) :
    Evm C Γ .fr (tCB (fun xs H Q => ∃ a dx fs, xs = [.ref a, .ref (C.T.addr c)] ∧ H a = some (.ins (C.T.addr c) dx fs) ∧ Q (.bl true) H) (tCons ta (tCons (tC (.ref (C.T.addr c))) tNil))) (m.bind fun _ => .ok true) := fun G hid os σ H Q Kw q => by
  refine ha G hid os σ H _ Kw ?_
  cases e1 : m with
  | bad => rw [e1] at q; exact q
  | ex x => rw [e1] at q; exact q
  | ok o =>
    rw [e1] at q
    intro v H1 s1 r1
    rw [he] at r1
    unfold Rep at r1
    obtain ⟨a, dx, vs, e, _, ha, _, _⟩ := r1
    exact ⟨a, dx, _, by rw [e], ha, q _ H1 s1 rfl⟩
end
section
variable {P : Program} {w : World} {K : PySem.W.Frag} {mg : Str → Option Value} {base : Heap}
/-- an __init__ that stores two arguments -/
theorem init_two {C : Addr} {f1 f2 : Str} {qual : Str} {st : Stmt} {f : Addr} {fd : FuncData} {a b c : Str} (F : Fun K "__init__" qual st f fd) (S : FnScope [a, b, c] [a, b, c] (defScope st)) (ne : ¬ f1 = f2)
    (cl : Cls K C) (n1 : NoAttr K C f1) (n2 : NoAttr K C f2)
    (ht : ∀ (cdv : Value) (A : Around) (outer : List Env) (s : Shared) (H : Hp) (E : XK),
      PSs (cxOf CX0 P w K mg base [a, b, c] qual (defScope st) f cdv A outer s H E).nox (defBody st) (tSeq (sFld K (tVar 0) (tVar 1) f1) (tSeq (sFld K (tVar 0) (tVar 2) f2) tNext))) :
    FnOk P w K mg base CX0 1 f fd [a, b, c] (SpInit C [f1, f2]) := by
  refine F.ok S (fun vs H Q E h => ?_) (fun cdv A outer s H vs Q E hr h => ?_)
  · obtain ⟨x, dx, us, rfl, hl, _⟩ := h
    rw [List.length_cons, hl]
    rfl
  · obtain ⟨x, dx, us, rfl, hl, hx, q⟩ := h
    match us, hl with
    | [u1, u2], _ =>
      refine ⟨_, ht cdv A outer s H E, ?_⟩
      refine ⟨u1, rfl, .ref x, rfl, x, C, dx, [], rfl, hx, cl, n1, by decide, ?_⟩
      refine ⟨u2, rfl, .ref x, rfl, x, C, dx, _, rfl, upd_same, cl, n2, by show 1 < 1000; decide, ?_⟩
      refine q _ (fun b o hb e => ?_) ?_
      · rw [upd_ne hb, upd_ne hb]
        exact e
      · rw [upd_same]
        show some (HO.ins C dx (if f1 = f2 then _ else (f1, u1) :: putF f2 u2 [])) = _
        rw [if_neg ne]
        rfl
end
end Pv

set_option Elab.async false
set_option linter.all false
set_option maxRecDepth 100000
namespace Pv
section
open PySem PySem.Spec PyProof.Rows L2
variable {P : Program} {w : World} {A : Around} {E : Value → Shared → Prop} {s : Shared}
abbrev setObj (w : World) : Obj := { cls := .type "set", dict := none, data := .set #[] 0 (.fresh 0 0 (!w.params.followText "set-order")) }
set_option maxHeartbeats 3200000 in
/-- set(xs) of a list of ints -/
theorem set_listI {p : Addr} {its : Array Value} (ns : List Int) {Q : Value → Shared → Prop} (quietA : A.handled = none) (isl : s.heap.IsList p its) (hints : IntsAre its.toList ns) (few : ns.length + 1 < scanBound)
    (then_ : ∀ (g : Heap) (tk c : Nat), SetR w g s.heap.objs.size (fun j => decide (j ∈ ns)) c → c ≤ ns.length → (∀ b o, s.heap.get? b = some o → g.get? b = some o) → Q (.ref s.heap.objs.size) { s with heap := g, toks := tk }) :
    wpAny (model P w) A (call (.type "set") [.ref p]) Q E s := by
  have size_eq : its.size = ns.length := by
    have z := IntsAre.length hints
    rwa [Array.length_toList] at z
  obtain ⟨k0, k1, k2⟩ := F.called_set.mro
  have k3 := F.called_set.made
  have k4 := F.called_set.sub
  refine wpAny_call (codeAny_of_tree ?_)
  show wpAny _ _ (callAny (.type "set") _) _ _ _
  refine wpAny_pure ⟨Code.quiet_builtin _ (by decide +kernel), codeAny_builtin F.entry_type_call ?_⟩
  rw [Around.under_plain (weight_type_call_type "set" [.ref p] []) rfl]
  have k5 := F.called_set.notType
  have k6 := F.called_set.canCreate
  have k7 := F.typeCall_set_1 (.ref p)
  repeat (any_goals (first | assumption | wp_step))
  refine codeAny_mono (code_set_led1 (.ref p) (E := E) (Q₁ := fun v t => v = .ref s.heap.objs.size ∧ t = { s with heap := s.heap.push (setObj w) }) ⟨rfl, rfl⟩) fun r t hr => ?_
  cases r with
  | error e => exact hr
  | ok fl =>
    cases fl with
    | ret obj =>
      obtain ⟨rfl, rfl⟩ := hr
      have at_ : (s.heap.push (setObj w)).get? s.heap.objs.size = some (setObj w) := Heap.get?_push_size _ rfl
      have ty_ : Shared.TypeIs { s with heap := s.heap.push (setObj w) } (.ref s.heap.objs.size) "set" := ⟨_, at_, rfl⟩
      have k8 := F.called_set.init.lookup
      have k9 := F.called_set.init.bind (.ref s.heap.objs.size)
      repeat (any_goals (first | assumption | wp_step))
      refine codeAny_mono (codeAny_call_builtin (R := wants (fun v t => v = .none ∧ ∃ g tk c, t = { s with heap := g, toks := tk } ∧ SetR w g s.heap.objs.size (fun j => decide (j ∈ ns)) c ∧ c ≤ ns.length ∧
          (∀ b o, s.heap.get? b = some o → g.get? b = some o)) E) F.called_set.init.plain F.entry_set_init (check_set_init_1 ty_ ?_)) fun r2 t2 hr2 => ?_
      · obtain ⟨lo, lo1, lo2, ln, lo3⟩ := isl
        obtain ⟨c_, d_, x_, y_⟩ := lo
        simp only at lo2 lo3
        subst lo2
        subst lo3
        have lo4 : (s.heap.push (setObj w)).get? p = some { cls := .type "list", dict := d_, data := .seq its ln, slots := y_ } := Heap.get?_push_of_some _ lo1
        have j1 := F.sub_list_set
        have j2 := F.sub_list_frozenset
        have j3 : (Value.type "list" == Value.type "dict") = false := by decide
        have isl1 : (s.heap.push (setObj w)).IsList p its := ⟨_, lo4, rfl, ln, rfl⟩
        unfold Builtin.«set.__init__» noKeywords Builtin.Frozenset.updateFrom
        generalize hpi : pyIter = pi
        wp_walk
        subst hpi
        refine wpAny_pyIter_list isl1 ?_
        refine wpAny_bind (wpAny_runValue ?_)
        have below : p < s.heap.objs.size := Heap.lt_size lo1
        have quiet3 : A.in1.in1.in1.handled = none := by simp [quietA]
        have apart : p ≠ (s.heap.push (setObj w)).objs.size := by
          rw [Heap.size_push]
          exact Nat.ne_of_lt (Nat.lt_succ_of_lt below)
        have notin : s.heap.objs.size ∉ [(s.heap.push (setObj w)).objs.size, p] := by
          rw [Heap.size_push]
          simp only [List.mem_cons, List.mem_singleton, List.not_mem_nil, or_false, not_or]
          exact ⟨Nat.ne_of_lt (Nat.lt_succ_self _), Nat.ne_of_gt below⟩
        have vals : ∀ (i : Nat) (v : Value), its[i]? = some v → ∃ k t, ns[i]? = some k ∧ v = .int k t := fun i v hv => by
          have lt : i < ns.length := by
            rw [← size_eq]
            exact (Array.getElem?_eq_some_iff.mp hv).1
          obtain ⟨t, e⟩ := PyProof.Rows.IntsAre.int_at hints i v (by rw [Array.getElem?_toList]; exact hv)
          refine ⟨ns[i], t, List.getElem?_eq_getElem lt, ?_⟩
          rw [e, List.getD_eq_getElem?_getD, List.getElem?_eq_getElem lt] <;> rfl
        refine set_update_ints ((Walks.list quiet3 _ p apart its).toS) s.heap.objs.size notin ns size_eq few vals (its.size - 0) 0 _ (by omega) (Nat.zero_le _)
          ⟨⟨_, Heap.get?_push_size _ rfl, rfl, rfl⟩, (isl1.push _)⟩ ?first ?last
        case first =>
          have got : ((s.heap.push (setObj w)).push { cls := .type "list_iterator", data := .fields #[.ref p, .int 0 0] }).get? s.heap.objs.size = some (setObj w) := Heap.get?_push_of_some _ at_
          exact ⟨0, Nat.le_refl 0, setR_new_at got⟩
        case last =>
          intro t c mv hc hR
          obtain ⟨g, a1, a2, tk, a3⟩ := t
          have b1 : a1 = s.gens := mv.gens
          have b2 : a2 = s.drawn := mv.drawn
          have b3 : a3 = s.os := mv.os
          subst b1
          subst b2
          subst b3
          show wpAny _ _ _ _ _ _
          refine wpAny_pure ?_
          show wpAny _ _ (ret Value.none) _ _ _
          rw [size_eq] at hc
          refine wpAny_pure ⟨rfl, g, tk, c, rfl, hR, hc, fun b o e => ?_⟩
          have lt := Heap.lt_size e
          have n1 : b ≠ s.heap.objs.size := Nat.ne_of_lt lt
          have n2 : b ≠ (s.heap.push (setObj w)).objs.size := by
            rw [Heap.size_push]
            exact Nat.ne_of_lt (Nat.lt_succ_of_lt lt)
          refine mv.heap b o ?_ (Heap.get?_push_of_some _ (Heap.get?_push_of_some _ e))
          simp only [List.mem_cons, List.mem_singleton, List.not_mem_nil, or_false, not_or]
          exact ⟨n1, n2⟩
      · cases r2 with
        | error e => exact hr2
        | ok f2 =>
          cases f2 with
          | ret v =>
            obtain ⟨rfl, g, tk, c, rfl, q1, q2, q3⟩ := hr2
            repeat (any_goals (first | assumption | wp_step))
            exact then_ _ _ _ q1 q2 q3
          | _ => exact hr2.elim
    | _ => exact hr.elim
end
section
open PySem PySem.Spec L2
variable {X : Cx}
def rSetI (K : PySem.W.Frag) (w : World) : List V → Hp → VK → Prop := fun vs H Q => ∃ (a : Addr) (ns : List Int), vs = [.ref a] ∧ SqL K H a (ns.map V.int) ∧ ns.length + 1 < scanBound ∧
  ∀ p c, H p = none → c ≤ ns.length → Q (.ref p) (upd H p (SetO w p (fun j => decide (j ∈ ns)) c))
theorem k_setI (K : PySem.W.Frag) (h : X.K = K) (hc : X.calm = true) : CallR X (.type "set") (rSetI K X.w) := by
  subst h
  intro pins s σ H vs us Q I r h
  obtain ⟨a, ns, rfl, hs, few, q⟩ := h
  rw [Vals.ref1 r]
  obtain ⟨its, rv, pl, hz⟩ := I.list hs
  refine set_listI ns (I.ok.hd hc) pl.isList (by simpa using Vals.ints rv) few fun g tk c hR hle kp => ?_
  have hn : H s.heap.objs.size = none := I.hok.fresh (Nat.le_refl _)
  exact ⟨.ref _, upd H s.heap.objs.size (SetO X.w s.heap.objs.size (fun j => decide (j ∈ ns)) c), I.laid kp (Nat.le_refl _) (setO_new hR), rfl, q _ c hn hle⟩
end
section
open PySem PySem.Spec L2
open Enc (enc)
open Encs (encs)
variable {C : Cn} {Γ : List Sl} {l : Lv} {ta : TE} {K : PySem.W.Frag} {w : World}
/-- sorted(set(xs)): each number once, rising -/
def onceI : List Int → List Int
  | [] => []
  | x :: xs => if x ∈ onceI xs then onceI xs else x :: onceI xs
theorem mem_onceI {k : Int} : ∀ {xs : List Int}, k ∈ onceI xs ↔ k ∈ xs
  | [] => Iff.rfl
  | x :: xs => by
    unfold onceI
    split
    · rw [mem_onceI, List.mem_cons]
      rename_i h
      exact ⟨.inr, fun z => z.elim (fun e => e ▸ mem_onceI.mp h) id⟩
    · rw [List.mem_cons, List.mem_cons, mem_onceI]
theorem nodup_onceI : ∀ {xs : List Int}, (onceI xs).Nodup
  | [] => List.nodup_nil
  | x :: xs => by
    unfold onceI
    split
    · exact nodup_onceI
    · rename_i h
      exact List.nodup_cons.mpr ⟨h, nodup_onceI⟩
def sortSet (xs : List Int) : Option (List Int) := optIf (xs.length < 64) (sortI (onceI xs))
theorem pair_lt_one : ∀ {xs ys : List Int}, xs.Pairwise (· < ·) → ys.Pairwise (· < ·) → (∀ k, k ∈ xs ↔ k ∈ ys) → xs = ys := fun h1 h2 hm => by
  refine List.Perm.eq_of_pairwise (le := fun a b : Int => a < b) (fun a b _ _ h h' => by omega) h1 h2 ?_
  refine (List.perm_ext_iff_of_nodup ?_ ?_).mpr hm
  · exact h1.imp fun h => by omega
  · exact h2.imp fun h => by omega
theorem sortI_nodup_lt {xs : List Int} (h : xs.Nodup) : (sortI xs).Pairwise (· < ·) := by
  have h1 := sortI_le xs
  have h2 : (sortI xs).Nodup := (sortI_perm xs).nodup_iff.mpr h
  exact (h1.and h2).imp fun ⟨a, b⟩ => by omega
theorem evn_sortSet {m : R (List Int)} (ha : Evm C Γ l ta m) : EvN C Γ .fr (tCB (rSortedSet w) (tCons (tCB (rSetI K w) (tCons ta tNil)) tNil)) (m.bind fun xs => R.of (sortSet xs)) := fun G hid os σ H Q Kw q => by
  refine ha G hid os σ H _ Kw ?_
  cases e1 : m with
  | bad => rw [e1] at q; exact q
  | ex x => rw [e1] at q; exact q
  | ok xs =>
    rw [e1] at q
    intro v H1 s1 r1
    have q : PoN C .fr G os σ H Q (R.of (sortSet xs)) := q
    cases e2 : sortSet xs with
    | none => rw [e2] at q; exact q.elim
    | some zs =>
      rw [e2] at q
      obtain ⟨hl, hz⟩ := optIf_some e2
      obtain ⟨p, vs, e, _, hp, _, rs⟩ := lst_rep r1
      have hv := ints_of rs
      refine ⟨p, xs, by rw [e], by rw [← hv]; exact rd_seqL hp, by show _ < 4096; omega, fun a c na hc => ?_⟩
      refine ⟨a, _, c, rfl, upd_same, by omega, fun ns d hpw hm hlen nd => ?_⟩
      have en : ns = zs := by
        rw [← hz]
        refine pair_lt_one hpw (sortI_nodup_lt (nodup_onceI)) fun k => ?_
        rw [hm k, (sortI_perm _).mem_iff, mem_onceI, decide_eq_true_iff]
      have s2 : Same H1 (upd H1 a (SetO w a (fun j => decide (j ∈ xs)) c)) := same_new na
      have s3 := s2.trans (same_new nd (o := HO.lst (ns.map V.int)))
      rw [en] at s3 ⊢
      refine q d _ _ (s1.trans s3) (s1.free (s2.free nd)) upd_same ?_ of_ints
      rw [List.length_map, ← en, hlen]
      exact Nat.le_trans (by omega) (show 64 ≤ LIM by decide)
end
end Pv

set_option Elab.async false
set_option linter.all false
set_option maxRecDepth 100000
namespace Pv
open PySem PySem.Spec L2
open Enc (enc)
open Encs (encs)
/-- an own class of plain records: what the top has written of it -/
structure KdC (P : Program) (w : World) (K : PySem.W.Frag) (mg : Str → Option Value) (base : Heap) (T : CT) (c : Nat) (x : Str) (fs ps : List Str) (k : Nat) : Prop where
  fl : T.fld c = fs
  nd : fs.Nodup
  cl : Cls K (T.addr c)
  na : ∀ f, f ∈ fs → NoAttr K (T.addr c) f
  gm : mg x = some (.ref (T.addr c))
  ini : ∃ f fd, Mk K (T.addr c) f ∧ Binds K fd ps [] ∧ FnOk P w K mg base CX0 k f fd ps (SpInit (T.addr c) fs)
  isc : C8.InsC K (T.addr c)
theorem pe_kmake {X : Cx} {T : CT} {c k : Nat} {x : Str} {fs ps : List Str} {e : Expr} {es : List Expr} {t : TA} {p pos : Pos} (y : KdC X.prog X.w X.K X.mg X.base T c x fs ps k) (hr : Room (k + 1) X.A) (hg : Gl X x) (ha : PA X (e :: es) t)
    (hd : (x == ("__debug__" : Str)) = false := by decide) (he : starEach (e :: es) X.env = (false, eval e X.env) :: starEach es X.env := by rfl) (hpl : (backTo pos (starEach es X.env)).any (·.1) = false := by rfl) :
    PE X (.Call (.Name x p) (e :: es) [] pos) (tMake (T.addr c) (SpInit (T.addr c) (T.fld c)) [] E0 t) := by
  obtain ⟨f, fd, hm, hb, F⟩ := y.ini
  rw [y.fl]
  exact pe_make hm F hr hg y.gm hb .nil C8.pass0 ha hd he hpl
theorem pe_kprop {X : Cx} {T : CT} {c k : Nat} {f : Str} {sp : Sp} {e : Expr} {pos : Pos} {ta : TE} (he : PE X e ta) (cl : Cls X.K (T.addr c)) (h : ∃ p a fd, PropOf X.K (T.addr c) f p a ∧ Binds X.K fd ["self"] [] ∧ FnOk X.prog X.w X.K X.mg X.base CX0 k a fd ["self"] sp)
    (hr : Room (k + 1) X.A) (hab : attributeBase e f X.env (eval e X.env) = eval e X.env) : PE X (.Attribute e f pos) (tProp (T.addr c) sp [] E0 ta) := by
  obtain ⟨p, a, fd, hp, hb, F⟩ := h
  exact pe_prop he cl hp F hr hb .nil C8.pass0 hab
section
variable {C : Cn} {Γ : List Sl} {l l1 l2 : Lv} {α β γ δ : Type} [Enc α] [Enc β] {ta tb tc te t : TE}
theorem evm_fldK {P : Program} {w : World} {K : PySem.W.Frag} {mg : Str → Option Value} {base : Heap} {k : Nat} {x : Str} {fs ps : List Str} {c i : Nat} {f : Str} {m : R α} {g : α → β} {ks : α → List PV} (y : KdC P w K mg base C.T c x fs ps k) (ha : Evm C Γ l ta m) (he : ∀ o, enc o = .obj c (ks o)) (hg : ∀ o, (ks o)[i]? = some (enc (g o)))
    (hf : fs[i]? = some f) : Evm C Γ l (tFld K ta f) (m.bind fun o => .ok (g o)) :=
  evm_fld ha he hg (y.fl.symm ▸ hf) (y.fl.symm ▸ y.nd) y.cl (y.na f (List.mem_of_getElem? hf))
end
end Pv


set_option Elab.async false
set_option linter.all false
set_option maxRecDepth 100000
namespace Pv
open PySem PySem.Spec L2
open Enc (enc)
open Encs (encs)

/-! ### what a mirror answers: a calculus of outcomes -/
def Ok {α : Type} (m : R α) (Q : α → Prop) : Prop := ∃ a, m = .ok a ∧ Q a
section
variable {α β S A : Type} {m n : R α} {Q : α → Prop}
theorem Ok.ok {a : α} (h : Q a) : Ok (.ok a) Q := ⟨a, rfl, h⟩
theorem Ok.bind {m : R α} {k : α → R β} {Q : β → Prop} (h : Ok m fun a => Ok (k a) Q) : Ok (m.bind k) Q := by
  obtain ⟨a, e, b, e2, q⟩ := h
  exact ⟨b, by rw [e]; exact e2, q⟩
theorem Ok.lt {a : α} {k : α → R β} {Q : β → Prop} (h : Ok (k a) Q) : Ok (R.lt a k) Q := h
theorem Ok.ite {b : Bool} (h1 : b = true → Ok m Q) (h2 : b = false → Ok n Q) : Ok (R.ite b m n) Q := by
  cases b with
  | true => exact h1 rfl
  | false => exact h2 rfl
theorem Ok.ifm {c : R Bool} (h : Ok c fun b => Ok (R.ite b m n) Q) : Ok (R.ifm c m n) Q := Ok.bind h
theorem Ok.imp {P : α → Prop} (h : Ok m P) (hi : ∀ a, P a → Q a) : Ok m Q := by
  obtain ⟨a, e, p⟩ := h
  exact ⟨a, e, hi a p⟩
theorem Ok.eq {a : α} (e : m = .ok a) (h : Q a) : Ok m Q := ⟨a, e, h⟩
theorem Ok.get {m : R α} {a : α} (h : Ok m (· = a)) : m = .ok a := by
  obtain ⟨b, e, q⟩ := h
  rw [e, q]
theorem Ok.of {o : Option α} {a : α} (e : o = some a) (h : Q a) : Ok (R.of o) Q := ⟨a, by rw [e]; rfl, h⟩
theorem Ok.opt {c : Prop} [Decidable c] {a : α} (hc : c) (h : Q a) : Ok (R.of (optIf c a)) Q := Ok.of (if_pos hc) h
theorem atI_of {xs : List α} {i : Int} (h0 : 0 ≤ i) (h1 : i < xs.length) : ∃ a, atI xs i = some a ∧ xs[i.toNat]? = some a := by
  have hl : i.toNat < xs.length := by omega
  refine ⟨xs[i.toNat], ?_, List.getElem?_eq_getElem hl⟩
  have e : (i.toNat : Int) = i := by omega
  have z := atI_nat (List.getElem?_eq_getElem hl)
  rwa [e] at z
theorem atI_neg {xs : List α} {i : Int} (h0 : i < 0) (h1 : -(xs.length : Int) ≤ i) : atI xs i = xs[(i + xs.length).toNat]? := by
  unfold atI ixN
  rw [if_neg (by omega), if_pos h1]
  rfl
theorem Ok.at {xs : List α} {i : Int} {Q : α → Prop} (h0 : 0 ≤ i) (h1 : i < xs.length) (h : ∀ a, xs[i.toNat]? = some a → Q a) : Ok (R.of (atI xs i)) Q := by
  obtain ⟨a, e, e2⟩ := atI_of h0 h1
  exact Ok.of e (h a e2)
theorem Ok.atEnd {xs : List α} {i : Int} {Q : α → Prop} (h0 : i < 0) (h1 : -(xs.length : Int) ≤ i) (h : ∀ a, xs[(i + xs.length).toNat]? = some a → Q a) : Ok (R.of (atI xs i)) Q := by
  have hl : (i + xs.length).toNat < xs.length := by omega
  refine Ok.of (a := xs[(i + xs.length).toNat]) ?_ (h _ (List.getElem?_eq_getElem hl))
  rw [atI_neg h0 h1, List.getElem?_eq_getElem hl]
theorem Ok.mul {a b : Int} {Q : Int → Prop} (hc : (-(2 ^ 64) < a ∧ a < 2 ^ 64) ∨ (-(2 ^ 64) < b ∧ b < 2 ^ 64)) (h : Q (a * b)) : Ok (R.of (mulO a b)) Q := Ok.opt hc h
theorem Ok.mod {a b : Int} {Q : Int → Prop} (hc : 0 < b) (h : Q (a % b)) : Ok (R.of (modO a b)) Q := Ok.opt hc h
theorem Ok.div {a b : Int} {Q : Int → Prop} (hc : 0 < b) (hz : b < 2 ^ 4000) (h : Q (a / b)) : Ok (R.of (divO a b)) Q := Ok.opt ⟨hc, hz⟩ h
theorem Ok.app {xs : List α} {a : α} {Q : List α → Prop} (hc : xs.length < LIM) (h : Q (xs ++ [a])) : Ok (R.of (appL xs a)) Q := Ok.opt hc h
theorem Ok.cat {xs ys : List α} {Q : List α → Prop} (hc : xs.length + ys.length ≤ LIM) (h : Q (xs ++ ys)) : Ok (R.of (catL xs ys)) Q := Ok.opt hc h
theorem Ok.set {xs : List α} {i : Int} {a : α} {Q : List α → Prop} (h0 : 0 ≤ i) (h1 : i < xs.length) (h : Q (xs.set i.toNat a)) : Ok (R.of (setL xs i a)) Q := by
  refine Ok.of (a := xs.set i.toNat a) ?_ h
  unfold setL ixN
  rw [if_pos h0, if_pos h1]
  rfl
theorem Ok.range {lo hi : Int} {Q : List Int → Prop} (h0 : -1000000 ≤ lo ∧ lo ≤ 1000000 ∧ -1000000 ≤ hi ∧ hi ≤ 1000000 ∧ hi - lo ≤ 1000000) (h : Q (rng lo hi)) : Ok (R.of (rngO lo hi)) Q := Ok.opt h0 h
/-- a walk with an invariant: P i s behind i items -/
theorem foldR_inv {f : α → S → R S} {P : Nat → S → Prop} : ∀ (xs : List α) (k : Nat) (s : S), (∀ i (h : i < xs.length) s, P (k + i) s → Ok (f xs[i] s) (P (k + i + 1))) → P k s → Ok (foldR f xs s) (P (k + xs.length))
  | [], k, s, _, h => ⟨s, rfl, h⟩
  | x :: xs, k, s, st, h => by
    obtain ⟨s1, e, p⟩ := st 0 (Nat.succ_pos _) s h
    obtain ⟨s2, e2, p2⟩ := foldR_inv (f := f) (P := P) xs (k + 1) s1 (fun i hi s hp => by
      have := st (i + 1) (Nat.succ_lt_succ hi) s (by rw [show k + (i + 1) = k + 1 + i by omega]; exact hp)
      rw [show k + (i + 1) + 1 = k + 1 + i + 1 by omega] at this
      exact this) p
    refine ⟨s2, ?_, by rw [List.length_cons, show k + (xs.length + 1) = k + 1 + xs.length by omega]; exact p2⟩
    show (f x s).bind _ = _
    have e : f x s = .ok s1 := e
    rw [e]
    exact e2
theorem Ok.fold {f : α → S → R S} (P : Nat → S → Prop) {xs : List α} {s : S} {Q : S → Prop} (h0 : P 0 s) (st : ∀ i (h : i < xs.length) s, P i s → Ok (f xs[i] s) (P (i + 1))) (h : ∀ s, P xs.length s → Q s) : Ok (foldR f xs s) Q :=
  (foldR_inv xs 0 s (fun i hi s hp => by rw [Nat.zero_add] at hp ⊢; exact st i hi s hp) h0).imp fun s hs => h s (by rw [Nat.zero_add] at hs; exact hs)
theorem rng_len {lo hi : Int} : (rng lo hi).length = (hi - lo).toNat := by
  unfold rng
  rw [List.length_map, List.length_range]
theorem rng_get {lo hi : Int} {i : Nat} (h : i < (rng lo hi).length) : (rng lo hi)[i] = lo + (i : Int) := by
  have h2 : i < (hi - lo).toNat := by rwa [rng_len] at h
  have e : (rng lo hi)[i]? = some (lo + (i : Int)) := by
    unfold rng
    rw [List.getElem?_map, List.getElem?_range h2]
    rfl
  rw [List.getElem?_eq_getElem h] at e
  exact Option.some.inj e
theorem Ok.foldRng {f : Int → S → R S} (P : Nat → S → Prop) {n : Int} {s : S} {Q : S → Prop} (h0 : P (0 : Nat) s) (st : ∀ i : Nat, (i : Int) < n → ∀ s, P i s → Ok (f (i : Int) s) (P (i + 1))) (h : ∀ s, P n.toNat s → Q s) : Ok (foldR f (Pv.rng 0 n) s) Q :=
  Ok.fold P h0 (fun i hi s hp => by
    have e := rng_get hi
    rw [rng_len] at hi
    rw [e, Int.zero_add]
    exact st i (by omega) s hp) fun s hs => h s (by rw [rng_len, Int.sub_zero] at hs; exact hs)
/-- a walk that may be left by a return: all is well, or the first that isn't -/
theorem loopR_all {f : α → Unit → R (Stp Unit A)} {p : α → Bool} {bad : A} : ∀ xs : List α, (∀ x, x ∈ xs → f x () = .ok (if p x then .nx () else .rt bad)) → loopR f xs () = .ok (if xs.all p then .nx () else .rt bad)
  | [], _ => rfl
  | x :: xs, h => by
    have h1 := h x (List.mem_cons_self ..)
    have h2 := loopR_all xs fun y hy => h y (List.mem_cons_of_mem _ hy)
    show (f x ()).bind _ = _
    rw [h1, List.all_cons]
    cases p x with
    | true => exact h2
    | false => rfl
/-- a comprehension whose test and item never fail -/
theorem compR_ok {t : α → R Bool} {f : α → R β} {p : α → Bool} {g : α → β} : ∀ {xs : List α}, (∀ x, x ∈ xs → t x = .ok (p x)) → (∀ x, x ∈ xs → f x = .ok (g x)) → compR t f xs = .ok ((xs.filter p).map g)
  | [], _, _ => rfl
  | x :: xs, h1, h2 => by
    have ih := compR_ok (xs := xs) (fun y hy => h1 y (List.mem_cons_of_mem _ hy)) (fun y hy => h2 y (List.mem_cons_of_mem _ hy))
    unfold compR
    rw [h1 x (List.mem_cons_self ..), ih, h2 x (List.mem_cons_self ..)]
    cases e : p x with
    | true => rw [List.filter_cons_of_pos e]; rfl
    | false => rw [List.filter_cons_of_neg (by rw [e]; decide)]; rfl
theorem Ok.comp {t : α → R Bool} {f : α → R β} {xs : List α} {Q : List β → Prop} (p : α → Bool) (g : α → β) (h1 : ∀ x, x ∈ xs → t x = .ok (p x)) (h2 : ∀ x, x ∈ xs → f x = .ok (g x)) (h : Q ((xs.filter p).map g)) : Ok (compR t f xs) Q :=
  ⟨_, compR_ok h1 h2, h⟩
theorem filter_yes {xs : List α} : xs.filter (fun _ => true) = xs := List.filter_eq_self.mpr fun _ _ => rfl
end
/-! ### == of plain values -/
class EqD (α : Type) [Enc α] : Prop where
  eq : ∀ a b : α, eqP (enc a) (enc b) = true ↔ a = b
theorem eqP_dec {α : Type} [Enc α] [DecidableEq α] [EqD α] (a b : α) : eqP (enc a) (enc b) = decide (a = b) := by
  rw [Bool.eq_iff_iff, EqD.eq, decide_eq_true_iff]
theorem eqP_self {α : Type} [Enc α] [EqD α] (a : α) : eqP (enc a) (enc a) = true := (EqD.eq a a).mpr rfl
instance : EqD Int := ⟨fun a b => by
  show (a == b) = true ↔ a = b
  rw [beq_iff_eq]⟩
theorem eqs_iff {α : Type} [Enc α] [EqD α] : ∀ xs ys : List α, PyData.eqvAll (toDs (xs.map enc)) (toDs (ys.map enc)) = true ↔ xs = ys
  | [], [] => by simp [toDs, PyData.eqvAll]
  | [], y :: ys => by simp [toDs, PyData.eqvAll]
  | x :: xs, [] => by simp [toDs, PyData.eqvAll]
  | x :: xs, y :: ys => by
    show (eqP (enc x) (enc y) && PyData.eqvAll (toDs (xs.map enc)) (toDs (ys.map enc))) = true ↔ _
    rw [Bool.and_eq_true, EqD.eq, eqs_iff xs ys, List.cons.injEq]
instance {α : Type} [Enc α] [EqD α] : EqD (List α) := ⟨fun xs ys => eqs_iff xs ys⟩
/-! ### slices from one end -/
theorem sIx_of {n d : Nat} {i : Int} (h : 0 ≤ i) : HT.sIx n d (some i) = min i.toNat n := by
  show (if i < 0 then _ else _) = _
  rw [if_neg (by omega)]
theorem cutL_from {α : Type} {xs : List α} {i : Int} (h : 0 ≤ i) : cutL xs (some i) none = xs.drop i.toNat := by
  unfold cutL
  rw [sIx_of h]
  show (xs.drop _).take (xs.length - _) = _
  rw [List.take_of_length_le (by rw [List.length_drop]; omega)]
  by_cases c : i.toNat ≤ xs.length
  · rw [Nat.min_eq_left c]
  · rw [Nat.min_eq_right (by omega), List.drop_length, List.drop_eq_nil_of_le (by omega)]
theorem cutL_to {α : Type} {xs : List α} {i : Int} (h : 0 ≤ i) : cutL xs none (some i) = xs.take i.toNat := by
  unfold cutL
  rw [sIx_of h]
  show (xs.drop 0).take (min i.toNat xs.length - 0) = _
  rw [List.drop_zero, Nat.sub_zero]
  by_cases c : i.toNat ≤ xs.length
  · rw [Nat.min_eq_left c]
  · rw [Nat.min_eq_right (by omega), List.take_length, List.take_of_length_le (by omega)]
theorem cutL_sub {α : Type} {xs : List α} {lo hi : Option Int} : (cutL xs lo hi).Sublist xs := (List.take_sublist _ _).trans (List.drop_sublist _ _)
/-! ### sorted -/
def insI (x : Int) : List Int → List Int
  | [] => [x]
  | y :: ys => if x ≤ y then x :: y :: ys else y :: insI x ys
def isortI : List Int → List Int
  | [] => []
  | x :: xs => insI x (isortI xs)
theorem insI_perm (x : Int) : ∀ ys : List Int, (insI x ys).Perm (x :: ys)
  | [] => .refl _
  | y :: ys => by
    unfold insI
    split
    · exact .refl _
    · exact ((insI_perm x ys).cons y).trans (.swap x y ys)
theorem insI_le (x : Int) : ∀ ys : List Int, ys.Pairwise (· ≤ ·) → (insI x ys).Pairwise (· ≤ ·)
  | [], _ => List.pairwise_singleton _ _
  | y :: ys, h => by
    unfold insI
    obtain ⟨h1, h2⟩ := List.pairwise_cons.mp h
    split
    · rename_i c
      refine List.pairwise_cons.mpr ⟨fun z hz => ?_, h⟩
      rcases List.mem_cons.mp hz with e | hz
      · omega
      · have := h1 z hz
        omega
    · rename_i c
      refine List.pairwise_cons.mpr ⟨fun z hz => ?_, insI_le x ys h2⟩
      rcases List.mem_cons.mp ((insI_perm x ys).mem_iff.mp hz) with e | hz
      · omega
      · exact h1 z hz
theorem isortI_perm : ∀ xs : List Int, (isortI xs).Perm xs
  | [] => .refl _
  | x :: xs => (insI_perm x _).trans ((isortI_perm xs).cons x)
theorem isortI_le : ∀ xs : List Int, (isortI xs).Pairwise (· ≤ ·)
  | [] => List.Pairwise.nil
  | x :: xs => insI_le x _ (isortI_le xs)
theorem sortI_is (xs : List Int) : sortI xs = isortI xs := sorted_one ((sortI_perm xs).trans (isortI_perm xs).symm) (sortI_le xs) (isortI_le xs)
end Pv

set_option Elab.async false
set_option linter.all false
set_option maxRecDepth 100000
set_option maxHeartbeats 2000000
namespace Pv
open PySem PySem.Spec PyProof.Rows L2 PySem.W PySem.Calls

/-! ### super().__init__(..) in the __init__ of an own exception class over ValueError -/
section
variable {prog : Program} {w : World} {A : Around} {E : Value → Shared → Prop} {h : Heap} {g : Array GenState} {d : Drawn} {t : Nat} {os : OsState}
variable {nm q : Str} {C N : Addr} {bs bm : List Value} {hdct : Bool} {sn : List Str} {sub : List Value} {ab : Bool} {col : Option Bool} {dd : Option Addr} {k0 k1 k2 k3 k5 : Option Value}
theorem call_mw {u e t0 : Addr} {rest : List Value} {Q : Value → Shared → Prop} (hC : h.get? C = some (excClassObj nm q C N bs bm hdct sn sub ab col dd k0 k1 k2 k3 k5 "ValueError.__new__")) (he : h.get? e = some (PySem.HandSPX.excO C t0))
    (hu : h.get? u = some (kxs_mw "ValueError.__init__" e)) (small : rest.length ≤ sizeLine)
    (hq : ∀ h' t1, (∀ b o, b ≠ e → h.get? b = some o → h'.get? b = some o) → h'.get? e = some (PySem.HandSPX.excO C t1) → Q .none ⟨h', g, d, t, os⟩) : wpAny (model prog w) A (call (.ref u) rest) Q E ⟨h, g, d, t, os⟩ := by
  refine wpAny_call (codeAny_of_tree (show wpAny _ A.in1 (callAny (.ref u) (Args.mk rest [])) _ _ _ from ?_))
  unfold callAny
  have e1 : (Value.type "method-wrapper" == Value.type "method" || Value.type "method-wrapper" == Value.type "builtin_function_or_method" || Value.type "method-wrapper" == Value.type "method-wrapper") = true := by decide
  refine wpAny_bind (wpAny_load hu ?_)
  simp only [kxs_mw, e1, if_true]
  refine KFB.if_so (by decide) (wpAny_bind (ESX.check_bound F.excBase_ValueError hC he rfl (wpAny_bind (wpAny_pure (wpAny_pure ?_)))))
  refine ⟨Code.quiet_builtin _ (by decide +kernel), codeAny_builtin F.excBase_ValueError.initEntry ?_⟩
  rw [Around.under_plainId F.excBase_ValueError.init.plain]
  wp_walk
  refine hq _ h.objs.size (fun b o hb ho => ?_) ?_
  · rw [Heap.get?_update_other _ _ (Ne.symm hb)]; exact Heap.get?_push_of_some _ ho
  · rw [Heap.get?_update_self _ (Heap.get?_push_of_some _ he) rfl]; rfl
end

/-! ### the context of such an __init__ -/
def cxS (CX : CXT) (P : Program) (w : World) (K : PySem.W.Frag) (mg : Str → Option Value) (base : Heap) (N : List Str) (qual : Str) (scope : Scope) (f : Addr) (cd : Value) (cc : Addr) (A : Around) (outer : List Env) (s : Shared) (H : Hp) (E : XK) : Cx :=
  { cxOf CX P w K mg base N qual scope f cd A outer s H E with
    A := A.deeper (ksEnv qual scope s.heap.objs.size f cd cc)
    env := ksEnv qual scope s.heap.objs.size f cd cc
    stack := ksEnv qual scope s.heap.objs.size f cd cc :: outer
    fn := fun y => !(y == ("__class__" : Str))
    xe := fun e s' => wpAny (model P w) (A.deeper (ksEnv qual scope s.heap.objs.size f cd cc)) (leaving (ksEnv qual scope s.heap.objs.size f cd cc) e) (fun _ s'' => CX outer H s E e s'') (fun e' s'' => CX outer H s E e' s'') s' }
structure SupScope (ps : List Str) (sc : Scope) : Prop where
  kind : sc.kind = .function
  co : sc.isCoroutine = false
  gen : sc.isGenerator = false
  nd : ps.Nodup
  par : ∀ x ∈ ps, sc.names.lookup x = some .local
  nocell : ∀ y ∈ sc.names, y.2 ≠ .cell
  free : ∀ y ∈ sc.names, y.2 = .free → y.1 = ("__class__" : Str)
theorem zip_fst_sub : ∀ (ps : List Str) (us : List Value), ((ps.zip us).map Prod.fst).Sublist ps
  | [], _ => List.Sublist.refl _
  | _ :: _, [] => List.nil_sublist _
  | p :: ps, _ :: us => (zip_fst_sub ps us).cons₂ p
theorem lookup_rev {ps : List Str} {us : List Value} {i : Nat} {x : Str} {u : Value} (nd : ps.Nodup) (h1 : ps[i]? = some x) (h2 : us[i]? = some u) : (ps.zip us).reverse.lookup x = some u := by
  have key : ∀ l : List (Str × Value), (l.map Prod.fst).Nodup → (x, u) ∈ l → l.lookup x = some u := fun l => by
    induction l with
    | nil => intro _ h; cases h
    | cons p l ih =>
      intro nd h
      obtain ⟨y, v⟩ := p
      rw [List.map_cons, List.nodup_cons] at nd
      rcases List.mem_cons.mp h with e | h
      · cases e; exact List.lookup_cons_self
      · have ne : (x == y) = false := by
          rw [beq_eq_false_iff_ne]
          intro z
          have m := List.mem_map_of_mem (f := Prod.fst) h
          have z : x = y := z
          rw [← z] at nd
          exact nd.1 m
        rw [List.lookup_cons, ne]
        exact ih nd.2 h
  refine key _ ?_ ?_
  · rw [List.map_reverse, (List.reverse_perm _).nodup_iff]
    refine nd.sublist ?_
    exact zip_fst_sub ps us
  · rw [List.mem_reverse]
    have : (ps.zip us)[i]? = some (x, u) := by
      rw [List.getElem?_zip_eq_some]
      exact ⟨h1, h2⟩
    exact List.mem_of_getElem? this
theorem inv_sup {CX : CXT} {P : Program} {w : World} {K : PySem.W.Frag} {mg : Str → Option Value} {base : Heap} {ps : List Str} {qual : Str} {scope : Scope} {f cc D : Addr} {cd cl : Value} {cld : Option Addr} {csl : Array (Option Value)} {A : Around} {outer : List Env} {s : Shared} {h1 : Heap} {tk : Nat} {H : Hp} {E : XK} {us : List Value} {vs : List V}
    (S : SupScope ps scope) (hd : A.handled = none) (e0 : Env0 P w K mg base A outer s H) (hl : vs.length = ps.length) (r : Vals vs us) (hcell : K.lookup cc = some ⟨cl, cld, .cell (some (.ref D)), csl⟩)
    (hn : h1.Ns s.heap.objs.size (fun x => (ps.zip us).reverse.lookup x)) (hk : ∀ b o, s.heap.get? b = some o → h1.get? b = some o) :
    Inv (cxS CX P w K mg base ps qual scope f cd cc A outer s H E) [] (L2.start ps vs) H { s with heap := h1, toks := tk } := by
  have oc : base.get? cc = some ⟨cl, cld, .cell (some (.ref D)), csl⟩ := e0.mod.kin _ _ hcell
  have os : s.heap.get? cc = some ⟨cl, cld, .cell (some (.ref D)), csl⟩ := (e0.bs _ _ oc).1
  have look : ∀ x c, (cxS CX P w K mg base ps qual scope f cd cc A outer s H E).env.cells.lookup x = some c → x = "__class__" ∧ c = cc := fun x c h => by
    have h : List.lookup x [(("__class__" : Str), cc)] = some c := h
    rw [List.lookup_cons] at h
    by_cases e : x == ("__class__" : Str)
    · rw [e] at h
      exact ⟨beq_iff_eq.mp e, (Option.some.inj h).symm⟩
    · rw [Bool.not_eq_true] at e
      rw [e] at h
      cases h
  have noA : ∀ b : Addr, b ∉ (cxS CX P w K mg base ps qual scope f cd cc A outer s H E).ex := fun b z => absurd (show b ∈ ([] : List Addr) from z) (by simp)
  refine ⟨⟨e0.mod, S.kind, rfl, rfl, Nat.le_refl _, fun y z c h1 h2 => ?_, fun y hy => ?_, fun y c hf h => ?_, fun _ => hd, Around.frames_deeper e0.frames, .inr ⟨rfl, rfl⟩, fun b z => absurd z (noA b), e0.bs, e0.bsz, fun b _ _ => noA b, fun b z => absurd z (noA b), e0.funs, e0.frf⟩,
    rfl, e0.bare, Un.kept hk, ⟨_, hn, fun i y v h1 h2 h3 => ?_⟩, fun y c h => ?_, e0.hok.fresh (Nat.le_refl _), fun y c h => ?_, fun p hp => absurd (show p ∈ ([] : List (Addr × Obj)) from hp) (by simp), e0.hok.kept hk, ?_⟩
  · rw [(look _ _ h1).1, (look _ _ h2).1]
  · have hy : scope.names.lookup y = some .cell ∨ scope.names.lookup y = some .free := hy
    rcases hy with hy | hy
    · exact absurd rfl (S.nocell _ (PySem.mem_of_lookup hy))
    · have e := S.free _ (PySem.mem_of_lookup hy) rfl
      exact ⟨cc, by rw [show y = "__class__" from e]; exact List.lookup_cons_self⟩
  · rw [(look _ _ h).1] at hf
    exact absurd (show (!(("__class__" : Str) == ("__class__" : Str))) = true from hf) (by simp)
  · have hi : i < vs.length := by
      have h1' : ps[i]? = some y := h1
      rw [hl]
      exact (List.getElem?_eq_some_iff.mp h1').1
    have ha : vs[i]? = some v := by
      unfold L2.start at h2
      rw [List.getElem?_append_left (by simpa using hi), List.getElem?_map] at h2
      cases e : vs[i]? with
      | none => rw [e] at h2; cases h2
      | some a => rw [e] at h2; cases h2; rfl
    obtain ⟨u, hu, rv⟩ := r.get ha
    exact ⟨u, rv, .inl ⟨S.par y (List.mem_of_getElem? h1), lookup_rev S.nd h1 hu⟩⟩
  · rw [(look _ _ h).2]
    exact ⟨some (.ref D), _, hk _ _ os, rfl⟩
  · rw [(look _ _ h).2]
    exact (e0.bs _ _ oc).2
  · unfold L2.start
    show _ = ps.length
    rw [List.length_append, List.length_map, List.length_replicate]
    omega

/-- what the written part says of an __init__ of the class D that opens with super().__init__(..), run for an object of the class C -/
structure SupFacts (P : Program) (K : PySem.W.Frag) (mg : Str → Option Value) (scope : Scope) (params : Arguments) (cda cc C D : Addr) (x0 : Str) (i : String) : Prop where
  hp : ∃ ar, (params.posonlyargs ++ params.args).head? = some ar ∧ ar.arg = x0
  code : ∃ ccl cdd ccs vs file tf, K.lookup cda = some ⟨ccl, cdd, .fields vs, ccs⟩ ∧ vs[2]? = some (.str file tf) ∧ ((P.main.file : Str) == file) = true
  cell : ∃ cl cld csl, K.lookup cc = some ⟨cl, cld, .cell (some (.ref D)), csl⟩
  clsD : ∃ cdD, clsIn K D = some cdD
  sub : mroIn K C (.ref D) = some true
  noSuper : mg "super" = none
  hks : scope.names.lookup ("super" : Str) = some .globalImplicit
  hkc : scope.names.lookup ("__class__" : Str) = some .free
  top : (P.main.scope.names.lookup ("super" : Str)).isSome = false
  opq : nsIn K cStatics "thirdparty.any" = some none
  up : ks_superIn K C D "__init__" = some (some (.builtin i))
  base : subIn K (.ref C) (.type "ValueError") = some true
section
variable {CX : CXT} {P : Program} {w : World} {K : PySem.W.Frag} {mg : Str → Option Value} {base : Heap} {ps : List Str} {name qual : Str} {scope : Scope} {params : Arguments} {fbody body : List Stmt} {dV kV doc pm ct oc : Value} {an od : Option Addr} {osl : Array (Option Value)} {f cda cc C D : Addr} {A : Around} {outer : List Env} {s0 : Shared} {H0 : Hp} {E : XK}
theorem at_super {X : Cx} (hX : X = cxS CX P w K mg base ps qual scope f (.ref cda) cc A outer s0 H0 E) {σ : L2.St} {H : Hp} {s : Shared} {a : Addr} {x0 : Str} {e : Expr} {es : List Expr} {t : TA} {p0 p1 p2 p3 p4 : Pos} {rest : List Stmt} {Q : Flow → Shared → Prop} {Qn : L2.St → Hp → Prop}
    (S : SupScope ps scope) (lf : K.lookup f = some ⟨oc, od, .func (ksFn name qual params fbody scope dV kV doc pm an (.ref cda) ct cc), osl⟩) (T : SupFacts P K mg scope params cda cc C D x0 "ValueError.__init__") (h0 : ps[0]? = some x0) (OC : OexC K C)
    (I : Inv X [] σ H s) (hσ : σ[0]? = some (some (.ref a))) (ha : H a = some (exo a C none)) (hargs : PA X (e :: es) t) (ht : t σ H fun vs H1 => vs.length ≤ 1000 ∧ H1 a = some (exo a C none) ∧ Qn σ H1)
    (hrest : ∀ s' H1, Inv X [] σ H1 s' → Qn σ H1 → wpAny (model X.prog X.w) X.A (execs rest X.env) Q X.xe s')
    {pl : Sem Bool} (hcall : eval (.Call (.Attribute (.Call (.Name "super" p0) [] [] p1) "__init__" p2) (e :: es) [] p3) X.env = (do
      let ov ← attributeBase (.Call (.Name "super" p0) [] [] p1) "__init__" X.env (eval (.Call (.Name "super" p0) [] [] p1) X.env)
      standAt p2.atName
      let (f, first) ← holding [ov] (getMethod ov "__init__" pl)
      callWith p3 f first (backTo p3 (starEach (e :: es) X.env)) []) := by rfl)
    (hsw : swapsWith (.Call (.Attribute (.Call (.Name "super" p0) [] [] p1) "__init__" p2) (e :: es) [] p3) none p4.line X.env = pure false := by rfl)
    (he : starEach (e :: es) X.env = (false, eval e X.env) :: starEach es X.env := by rfl) (hpl : (backTo p3 (starEach es X.env)).any (·.1) = false := by rfl) :
    _root_.PySem.wpAt (model X.prog X.w) X.A (.func body X.env) (execs (.Expr (.Call (.Attribute (.Call (.Name "super" p0) [] [] p1) "__init__" p2) (e :: es) [] p3) p4 :: rest) X.env) Q X.xe s := by
  subst hX
  obtain ⟨ar, har, rfl⟩ := T.hp
  obtain ⟨ccl, cdd, ccs, vs, file, tf, lcode, hvs, hfile⟩ := T.code
  obtain ⟨cl, cld, csl, lcell⟩ := T.cell
  obtain ⟨cdD, hD⟩ := T.clsD
  obtain ⟨m, hn, hl⟩ := id I.loc
  obtain ⟨u0, r0, look0⟩ := hl 0 ar.arg (.ref a) h0 hσ (.inl (S.par _ (List.mem_of_getElem? h0)))
  have hka : scope.names.lookup ar.arg = some .local := S.par _ (List.mem_of_getElem? h0)
  obtain rfl : u0 = Value.ref a := r0
  have hv : m ar.arg = some (.ref a) := by
    rcases look0 with ⟨_, z⟩ | ⟨z, _⟩
    · exact z
    · have z : scope.names.lookup ar.arg = some .cell ∨ scope.names.lookup ar.arg = some .free := z
      rw [hka] at z
      rcases z with z | z <;> cases z
  obtain ⟨mb, hb1, hb2⟩ := I.mod.blt
  have hargs' := hargs.run p3
  have KX : K.In s.heap := I.kIn
  obtain ⟨nm, q, N, bs, bm, sn, sub, ab, col, dd, k0, k1, k2, k3, k5, hC, hbm⟩ := OC.cls
  obtain ⟨t1, ho⟩ := exo_at I.hok ha
  obtain ⟨oD, hD1, hD2⟩ : ∃ oD, s.heap.get? D = some oD ∧ oD.data = .cls cdD := by
    have hD := hD
    unfold clsIn at hD
    split at hD
    · rename_i c d cd' sl ho
      cases hD
      exact ⟨_, KX _ _ ho, rfl⟩
    · cases hD
  have hi : interactive (cxS CX P w K mg base ps qual scope f (Value.ref cda) cc A outer s0 H0 E).env = false := by
    show (scope.kind == _ && _) = false
    rw [S.kind]
    rfl
  refine ks_wpAt_execs_cons (ks_wpAt_Expr_any (ks_wpAt_MethodCall ?_ hcall) hi hsw)
  refine ks_wpAt_super_base T.hks T.hkc (by decide) rfl (KX _ _ lf) rfl har rfl (KX _ _ lcode) rfl hvs hfile T.top ?_
  refine ks_loadName_global S.kind T.hks (loadGlobal_builtin (I.mod.glob.keeps I.bk) T.noSuper (hb1.keeps I.bk) ((hb2 _ (by decide +kernel)).trans (by decide +kernel)) ⟨rfl, ?_⟩)
  refine wpAny_loadName_free S.kind T.hkc (show List.lookup ("__class__" : Str) [(("__class__" : Str), cc)] = some cc from List.lookup_cons_self) ⟨_, KX _ _ lcell, rfl⟩ ?_
  refine wpAny_loadName_local S.kind hka hn hv ?_
  obtain ⟨hh, g, d, tk, os⟩ := s
  refine ks_wpAny_isType_cls hD1 hD2 ⟨rfl, ?_⟩
  refine ks_wpAny_call_super hD1 hD2 ho rfl (fun c => by intro z; cases z) (looks_mroIn KX T.sub) (fun h' eso k => ?_)
  have I1 := I.kept (h' := h') (t' := tk) k
  have ho1 := k _ _ ho
  have hxC : a ≠ C := fun z => by
    have y := KX _ _ hC
    rw [← z, ho] at y
    cases y
  cases hc : clsIn K C with
  | none => have := T.up; unfold ks_superIn at this; rw [hc] at this; cases this
  | some cd =>
    have hup := T.up
    unfold ks_superIn at hup
    rw [hc] at hup
    refine kxs_getMethod kxs_ValueError eso (looks_opaque I1.kIn T.opq) (l₀ := cd.mro) (fun A Q E s k q => wpAny_bind ((looks_clsIn I1.kIn hc) A _ E s k (wpAny_pure q))) rfl I1.kIn hup ?_ hxC (by decide) ?_
    · exact (InstAt.type (od := none) ⟨ho1, rfl, rfl, trivial⟩).andThen (looks_subIn I1.kIn T.base)
    · have I2 := I1.kept (h' := h'.push (kxs_mw "ValueError.__init__" a)) (t' := tk + 1) (fun b o z => Heap.get?_push_of_some _ z)
      have hu : (h'.push (kxs_mw "ValueError.__init__" a)).get? h'.objs.size = some (kxs_mw "ValueError.__init__" a) := Heap.get?_push_at rfl rfl
      have I3 := I2.pins_of (pins' := [(h'.objs.size, kxs_mw "ValueError.__init__" a)]) fun p hp => by
        rw [List.mem_singleton] at hp
        subst hp
        exact ⟨hu, I1.hok.fresh (Nat.le_refl _), Nat.ne_of_gt I1.lt, I1.nofs (Nat.le_refl _), fun v z => by cases z⟩
      refine kxs_callWith (i := "ValueError.__init__") (x := a) (by rw [he]; show (false || (backTo p3 (starEach es _)).any (·.1)) = false; rw [hpl]; rfl) ?_
      rw [he] at hargs' ⊢
      refine evalArgs_plain (thn (hargs' _ _ _ _ _ I3 ht) fun us s3 hs3 => ?_)
      obtain ⟨vs3, H3, I4, r4, hz, ha3, q3⟩ := hs3
      refine ⟨(I4.pin _ (List.mem_append_right _ (List.mem_singleton.mpr rfl))).1, ?_⟩
      have I5 := I4.pins_of (pins' := []) fun p hp => by cases hp
      obtain ⟨t3, ho3⟩ := exo_at I5.hok ha3
      have hlen : us.length ≤ sizeLine := by
        rw [← Paired.length r4, sizeLine_eq]
        omega
      obtain ⟨h3, g3, d3, tk3, os3⟩ := s3
      refine call_mw (I5.kIn _ _ hC) ho3 ((I4.pin _ (List.mem_append_right _ (List.mem_singleton.mpr rfl))).1) hlen fun h4 t4 k4 e4 => ?_
      have J := I5.write (t' := tk3) (x := a) (e := a) (o := exo a C none) (by rw [ha3]; exact True.intro) (.inl rfl) k4 ⟨_, e4⟩ (exo_ok e4)
      have eu : upd H3 a (exo a C none) = H3 := by
        funext b
        by_cases hb : b = a
        · rw [hb, upd_same, ha3]
        · rw [upd_ne hb]
      rw [eu] at J
      exact wpAt_of_wpAny (hrest _ H3 J q3)
end
end Pv

set_option Elab.async false
set_option linter.all false
set_option maxRecDepth 100000
set_option maxHeartbeats 2000000
namespace Pv
open PySem PySem.Spec PyProof.Rows L2 PySem.W PySem.Calls
section
variable {CX : CXT} {P : Program} {w : World} {K : PySem.W.Frag} {mg : Str → Option Value} {base : Heap} {ps : List Str} {name qual : Str} {scope : Scope} {params : Arguments} {dV kV doc pm ct oc : Value} {an od : Option Addr} {osl : Array (Option Value)} {f cda cc C D : Addr} {sp : Sp} {k : Nat}
/-- such an __init__ keeps its promise, by the arguments that it hands up and by the rest of its body -/
theorem fn_sup {x0 : Str} {e : Expr} {es : List Expr} {p0 p1 p2 p3 p4 : Pos} {rest : List Stmt} (S : SupScope ps scope)
    (lf : K.lookup f = some ⟨oc, od, .func (ksFn name qual params (.Expr (.Call (.Attribute (.Call (.Name "super" p0) [] [] p1) "__init__" p2) (e :: es) [] p3) p4 :: rest) scope dV kV doc pm an (.ref cda) ct cc), osl⟩)
    (hcd : codeIn K (.ref cda) qual = true) (T : SupFacts P K mg scope params cda cc C D x0 "ValueError.__init__") (h0 : ps[0]? = some x0) (OC : OexC K C) (len : ∀ vs H Q E, sp vs H Q E → vs.length = ps.length)
    (hbody : ∀ (A : Around) (outer : List Env) (s : Shared) (H : Hp) (vs : List V) (Q : VK) (E : XK), Room k (A.deeper (ksEnv qual scope s.heap.objs.size f (.ref cda) cc)) → sp vs H Q E →
      ∃ (a : Addr) (t : TA) (tr : TS), (L2.start ps vs)[0]? = some (some (.ref a)) ∧ H a = some (exo a C none) ∧ PA (cxS CX P w K mg base ps qual scope f (.ref cda) cc A outer s H E) (e :: es) t ∧ PSs (cxS CX P w K mg base ps qual scope f (.ref cda) cc A outer s H E) rest tr ∧
        t (L2.start ps vs) H (fun us H1 => us.length ≤ 1000 ∧ H1 a = some (exo a C none) ∧ tr { nx := fun _ H' => Q .non H', rt := Q } (L2.start ps vs) H1))
    {pl : Sem Bool} (hcall : ∀ X : Env, eval (.Call (.Attribute (.Call (.Name "super" p0) [] [] p1) "__init__" p2) (e :: es) [] p3) X = (do
      let ov ← attributeBase (.Call (.Name "super" p0) [] [] p1) "__init__" X (eval (.Call (.Name "super" p0) [] [] p1) X)
      standAt p2.atName
      let (f, first) ← holding [ov] (getMethod ov "__init__" pl)
      callWith p3 f first (backTo p3 (starEach (e :: es) X)) []))
    (hsw : ∀ X : Env, swapsWith (.Call (.Attribute (.Call (.Name "super" p0) [] [] p1) "__init__" p2) (e :: es) [] p3) none p4.line X = pure false)
    (he : ∀ X : Env, starEach (e :: es) X = (false, eval e X) :: starEach es X) (hpl : ∀ X : Env, (backTo p3 (starEach es X)).any (·.1) = false) :
    FnOk P w K mg base CX (k + 1) f (ksFn name qual params (.Expr (.Call (.Attribute (.Call (.Name "super" p0) [] [] p1) "__init__" p2) (e :: es) [] p3) p4 :: rest) scope dV kV doc pm an (.ref cda) ct cc) ps sp := by
  refine ⟨len, fun A outer s H args us vs Q E hr e0 hb r hsp => ?_⟩
  have hl := len _ _ _ _ hsp
  have KX : K.In s.heap := e0.mod.kin.keeps fun b o e => (e0.bs b o e).1
  have lim : s.heap.NoLimit := e0.mod.nolimit.keeps fun b o e => (e0.bs b o e).1
  obtain ⟨cl, cld, csl, lcell⟩ := T.cell
  obtain ⟨a, t, tr, h1, h2, h3, h4, h5⟩ := hbody A outer s H vs Q E (hr.deeper _) hsp
  refine ks_codeAny_call_defAt hr.depth (KX _ _ lf) rfl lim (codeRec_of KX hcd) rfl hb S.nocell (fun y hy => S.par y.1 (List.of_mem_zip hy).1) (fun g1 hns hk => ?_) S.co S.gen S.kind
  have I := inv_sup (CX := CX) (E := E) (qual := qual) (f := f) (cd := .ref cda) (tk := s.toks + (ps.zip us).length) S hr.hd e0 hl r lcell hns hk
  refine ks_wpAt_mono (at_super (X := cxS CX P w K mg base ps qual scope f (.ref cda) cc A outer s H E) rfl S lf T h0 OC I h1 h2 h3 h5 (Q := SP (cxS CX P w K mg base ps qual scope f (.ref cda) cc A outer s H E) [] { nx := fun _ H' => Q .non H', rt := Q })
    (fun s' H1 J q => h4.run [] s' _ H1 _ J q) (hcall _) (hsw _) (he _) (hpl _)) (fun fl s' hs => ?_) fun e s' hs => hs
  have fin : ∀ {σ' : L2.St} {H' : Hp} {v : V} {u : Value}, L2.Inv (cxS CX P w K mg base ps qual scope f (.ref cda) cc A outer s H E) [] σ' H' s' → RelV v u → Q v H' → CE outer P w H s Q u s' :=
    fun {σ' H' v u} J rv q => ⟨v, H', J.os, J.bare, J.base, J.hok, rv, q⟩
  cases fl with
  | ret u =>
    obtain ⟨v, σ', H', J, rv, q⟩ := hs
    exact fin J rv q
  | next =>
    obtain ⟨σ', H', J, q⟩ := hs
    exact fin (v := V.non) (u := Value.none) J rfl q
  | brk =>
    obtain ⟨_, _, _, q⟩ := hs
    exact False.elim q
  | cont =>
    obtain ⟨_, _, _, q⟩ := hs
    exact False.elim q
end
/-! ### the text that is handed up -/
def PrV (v : V) : Prop := (∃ y : Str, v = .str y ∧ y.length ≤ 2000) ∨ ∃ i : Int, v = .int i ∧ i.natAbs.log2 < 1920
def Prt (σ : L2.St) (t : TE) : Prop := ∀ (H : Hp) (Q : VK), (∀ y : Str, y.length ≤ 2000 → Q (.str y) H) → t σ H Q
theorem prt_c {σ : L2.St} {c : Str} (h : c.length ≤ 2000 := by decide) : Prt σ (tC (.str c)) := fun H Q q => q c h
theorem prt_f {σ : L2.St} {i : Nat} {v : V} (hv : σ[i]? = some (some v)) (h : PrV v) : Prt σ (tFmt (tVar i)) := fun H Q q => by
  refine ⟨v, hv, ?_⟩
  rcases h with ⟨y, e, hz⟩ | ⟨n, e, hz⟩
  · exact .inl ⟨y, e, Nat.le_trans hz (by rw [sizeLine_eq]; decide), q y hz⟩
  · exact .inr ⟨n, e, hz, q _ (Nat.le_trans (PyProof.Rows.int_text_len_1921 hz) (by decide))⟩
theorem prt_js {σ : L2.St} : ∀ (ts : List TE) (acc : Str) (H : Hp) (Q : Str → Hp → Prop), (∀ t, t ∈ ts → Prt σ t) → acc.length + 2000 * ts.length ≤ 100000 → (∀ y : Str, Q y H) → tJs ts acc σ H Q
  | [], acc, H, Q, _, _, q => q acc
  | t :: ts, acc, H, Q, h, hl, q => by
    rw [List.length_cons] at hl
    refine h t (List.mem_cons_self ..) H _ fun y hy => ⟨y, rfl, ?_, prt_js ts (acc ++ y) H Q (fun u hu => h u (List.mem_cons_of_mem _ hu)) ?_ q⟩
    · rw [Str.length_append, sizeLine_eq]
      omega
    · rw [Str.length_append]
      omega
end Pv

set_option Elab.async false
set_option linter.all false
set_option maxRecDepth 100000
set_option maxHeartbeats 2000000
namespace Pv
open PySem PySem.Spec PyProof.Rows L2 PySem.W PySem.Calls
/-! ### the fields, stored one after the other -/
def trF (K : PySem.W.Frag) : List (Str × Nat) → TS
  | [] => tNext
  | (f, i) :: r => tSeq (tOst K f (tVar 0) (tVar i)) (trF K r)
def SpExI (C : Addr) (fs : List Str) : Sp := fun vs H Q _ => ∃ (a : Addr) (us : List V), vs = .ref a :: us ∧ us.length = fs.length ∧ (∀ u, u ∈ us → PrV u) ∧ H a = some (exo a C none) ∧
  ∀ (d : Addr) (H' : Hp), H d = none → d ≠ a → (∀ b, b ≠ a → b ≠ d → H' b = H b) → H' a = some (exo a C (some d)) → H' d = some (exd d (fs.zip us).reverse) → Q .non H'
theorem tr_more {K : PySem.W.Frag} {a C d : Addr} {σ : L2.St} {D : Ends} (h0 : σ[0]? = some (some (.ref a))) (OC : OexC K C) (ne : d ≠ a) : ∀ (l : List (Str × Nat × V)) (acc : List (Str × V)) (H : Hp), H a = some (exo a C (some d)) → H d = some (exd d acc) → acc.length + l.length ≤ 900 →
    (∀ x, x ∈ l → σ[x.2.1]? = some (some x.2.2) ∧ findIn K (.ref C) x.1 = some none) →
    (∀ H', (∀ b, b ≠ a → b ≠ d → H' b = H b) → H' a = some (exo a C (some d)) → H' d = some (exd d ((l.map fun x => (x.1, x.2.2)).reverse ++ acc)) → D.nx σ H') → trF K (l.map fun x => (x.1, x.2.1)) D σ H
  | [], acc, H, ha, hd, _, _, q => q H (fun _ _ _ => rfl) ha hd
  | (f, i, u) :: l, acc, H, ha, hd, hl, hx, q => by
    rw [List.length_cons] at hl
    obtain ⟨e1, e2⟩ := hx _ (List.mem_cons_self ..)
    refine ⟨u, e1, .ref a, h0, a, C, rfl, OC, e2, .inr ⟨d, acc, ha, hd, by omega, ?_⟩⟩
    refine tr_more h0 OC ne l ((f, u) :: acc) _ (by rw [upd_ne (Ne.symm ne)]; exact ha) upd_same (by rw [List.length_cons]; omega) (fun x h => hx x (List.mem_cons_of_mem _ h)) fun H' k k1 k2 => q H' (fun b hb hb2 => ?_) k1 ?_
    · rw [k b hb hb2, upd_ne hb2]
    · rw [k2, List.map_cons, List.reverse_cons, List.append_assoc]
      rfl
theorem tr_first {K : PySem.W.Frag} {a C : Addr} {σ : L2.St} {D : Ends} (h0 : σ[0]? = some (some (.ref a))) (OC : OexC K C) {f : Str} {i : Nat} {u : V} {l : List (Str × Nat × V)} {H : Hp} (ha : H a = some (exo a C none)) (hl : l.length ≤ 800)
    (hx : ∀ x, x ∈ (f, i, u) :: l → σ[x.2.1]? = some (some x.2.2) ∧ findIn K (.ref C) x.1 = some none)
    (q : ∀ d H', H d = none → d ≠ a → (∀ b, b ≠ a → b ≠ d → H' b = H b) → H' a = some (exo a C (some d)) → H' d = some (exd d (((f, i, u) :: l).map fun x => (x.1, x.2.2)).reverse) → D.nx σ H') :
    trF K (((f, i, u) :: l).map fun x => (x.1, x.2.1)) D σ H := by
  obtain ⟨e1, e2⟩ := hx _ (List.mem_cons_self ..)
  refine ⟨u, e1, .ref a, h0, a, C, rfl, OC, e2, .inl ⟨ha, fun dx hn ne => ?_⟩⟩
  refine tr_more h0 OC ne l [(f, u)] _ upd_same (by rw [upd_ne ne, upd_same]) (by show 1 + _ ≤ 900; omega) (fun x h => hx x (List.mem_cons_of_mem _ h)) fun H' k k1 k2 => q dx H' hn ne (fun b hb hb2 => ?_) k1 ?_
  · rw [k b hb hb2, upd_ne hb, upd_ne hb2]
  · rw [k2, List.map_cons, List.reverse_cons]
section
variable {CX : CXT} {P : Program} {w : World} {K : PySem.W.Frag} {mg : Str → Option Value} {base : Heap} {x0 : Str} {xs : List Str} {name qual : Str} {scope : Scope} {params : Arguments} {dV kV doc pm ct oc : Value} {an od : Option Addr} {osl : Array (Option Value)} {f cda cc C D : Addr}
def ixs : Nat → List Str → List (Str × Nat)
  | _, [] => []
  | i, f :: r => (f, i) :: ixs (i + 1) r
def ixv : Nat → List Str → List V → List (Str × Nat × V)
  | i, f :: r, u :: us => (f, i, u) :: ixv (i + 1) r us
  | _, _, _ => []
theorem ixv_fst : ∀ (i : Nat) (fs : List Str) (us : List V), us.length = fs.length → (ixv i fs us).map (fun x => (x.1, x.2.1)) = ixs i fs
  | _, [], [], _ => rfl
  | i, f :: r, u :: us, h => by
    show (f, i) :: _ = (f, i) :: _
    rw [ixv_fst (i + 1) r us (Nat.succ.inj h)]
theorem ixv_val : ∀ (i : Nat) (fs : List Str) (us : List V), (ixv i fs us).map (fun x => (x.1, x.2.2)) = fs.zip us
  | _, [], _ => by simp [ixv]
  | _, _ :: _, [] => by simp [ixv]
  | i, f :: r, u :: us => by
    show (f, u) :: _ = (f, u) :: _
    rw [ixv_val (i + 1) r us]
    rfl
theorem ixv_len : ∀ (i : Nat) (fs : List Str) (us : List V), (ixv i fs us).length ≤ fs.length
  | _, [], _ => by simp [ixv]
  | _, _ :: _, [] => by simp [ixv]
  | i, f :: r, u :: us => Nat.succ_le_succ (ixv_len (i + 1) r us)
theorem ixv_mem : ∀ (i : Nat) (fs : List Str) (us : List V) (x : Str × Nat × V), x ∈ ixv i fs us → x.1 ∈ fs ∧ ∃ j, x.2.1 = i + j ∧ us[j]? = some x.2.2
  | _, [], _, _, h => by simp [ixv] at h
  | _, _ :: _, [], _, h => by simp [ixv] at h
  | i, f :: r, u :: us, x, h => by
    rcases List.mem_cons.mp (show x ∈ (f, i, u) :: ixv (i + 1) r us from h) with e | h
    · subst e
      exact ⟨List.mem_cons_self .., 0, rfl, rfl⟩
    · obtain ⟨h1, j, h2, h3⟩ := ixv_mem (i + 1) r us x h
      exact ⟨List.mem_cons_of_mem _ h1, j + 1, by omega, h3⟩
/-- the __init__ of an exception class: a text of its arguments handed up, then each argument stored under the field of its place -/
theorem fn_exi {fs : List Str} {e : Expr} {es : List Expr} {p0 p1 p2 p3 p4 : Pos} {rest : List Stmt} {t : TA} (S : SupScope (x0 :: xs) scope)
    (lf : K.lookup f = some ⟨oc, od, .func (ksFn name qual params (.Expr (.Call (.Attribute (.Call (.Name "super" p0) [] [] p1) "__init__" p2) (e :: es) [] p3) p4 :: rest) scope dV kV doc pm an (.ref cda) ct cc), osl⟩)
    (hcd : codeIn K (.ref cda) qual = true) (T : SupFacts P K mg scope params cda cc C D x0 "ValueError.__init__") (OC : OexC K C) (hfs : fs.length = xs.length) (hf0 : 0 < fs.length) (hf9 : fs.length ≤ 800) (na : ∀ g, g ∈ fs → findIn K (.ref C) g = some none)
    (ha : ∀ (A : Around) (outer : List Env) (s : Shared) (H : Hp) (E : XK), PA (cxS CX P w K mg base (x0 :: xs) qual scope f (.ref cda) cc A outer s H E) (e :: es) t)
    (hr : ∀ (A : Around) (outer : List Env) (s : Shared) (H : Hp) (E : XK), PSs (cxS CX P w K mg base (x0 :: xs) qual scope f (.ref cda) cc A outer s H E) rest (trF K (ixs 1 fs)))
    (ht : ∀ (v : V) (us : List V) (H : Hp) (Q : List V → Hp → Prop), us.length = fs.length → (∀ u, u ∈ us → PrV u) → (∀ y : Str, Q [.str y] H) → t ((v :: us).map some) H Q)
    {pl : Sem Bool} (hcall : ∀ X : Env, eval (.Call (.Attribute (.Call (.Name "super" p0) [] [] p1) "__init__" p2) (e :: es) [] p3) X = (do
      let ov ← attributeBase (.Call (.Name "super" p0) [] [] p1) "__init__" X (eval (.Call (.Name "super" p0) [] [] p1) X)
      standAt p2.atName
      let (f, first) ← holding [ov] (getMethod ov "__init__" pl)
      callWith p3 f first (backTo p3 (starEach (e :: es) X)) []))
    (hsw : ∀ X : Env, swapsWith (.Call (.Attribute (.Call (.Name "super" p0) [] [] p1) "__init__" p2) (e :: es) [] p3) none p4.line X = pure false)
    (he : ∀ X : Env, starEach (e :: es) X = (false, eval e X) :: starEach es X) (hpl : ∀ X : Env, (backTo p3 (starEach es X)).any (·.1) = false) :
    FnOk P w K mg base CX 1 f (ksFn name qual params (.Expr (.Call (.Attribute (.Call (.Name "super" p0) [] [] p1) "__init__" p2) (e :: es) [] p3) p4 :: rest) scope dV kV doc pm an (.ref cda) ct cc) (x0 :: xs) (SpExI C fs) := by
  refine fn_sup S lf hcd T rfl OC (fun vs H Q E h => ?_) (fun A outer s H vs Q E _ h => ?_) hcall hsw he hpl
  · obtain ⟨a, us, rfl, hl, _⟩ := h
    rw [List.length_cons, List.length_cons, hl, hfs]
  · obtain ⟨a, us, rfl, hl, hp, hH, q⟩ := h
    have est : L2.start (x0 :: xs) (.ref a :: us) = (V.ref a :: us).map some := by
      unfold L2.start
      rw [List.length_cons, List.length_cons, hl, hfs, Nat.sub_self, List.replicate_zero, List.append_nil]
    rw [est]
    refine ⟨a, t, trF K (ixs 1 fs), rfl, hH, ha A outer s H E, hr A outer s H E, ht _ us H _ hl hp fun y => ⟨by show (1 : Nat) ≤ 1000; decide, hH, ?_⟩⟩
    match fs, us, hl, hf0 with
    | g :: gs, u :: us, hl, _ =>
      rw [← ixv_fst 1 (g :: gs) (u :: us) hl]
      refine tr_first (f := g) (i := 1) (u := u) (l := ixv 2 gs us) rfl OC hH (Nat.le_trans (ixv_len 2 gs us) (by rw [List.length_cons] at hf9; omega)) (fun x hx => ?_) fun d H' n ne k k1 k2 => q d H' n ne k k1 ?_
      · obtain ⟨h1, j, h2, h3⟩ := ixv_mem 1 (g :: gs) (u :: us) x hx
        refine ⟨?_, na _ h1⟩
        rw [h2, List.getElem?_map, Nat.add_comm 1 j, List.getElem?_cons_succ, h3]
        rfl
      · rw [k2]
        have e := ixv_val 1 (g :: gs) (u :: us)
        rw [← e]
        rfl
end
end Pv

set_option Elab.async false
set_option linter.all false
set_option maxRecDepth 100000
namespace Pv
open PySem PySem.Spec L2
open Enc (enc)
open Encs (encs)
/-! ### exceptions whose context is known to be None -/
theorem tk0 {X : Cx} : L2N.Takes X (fun _ _ _ _ => False) := fun u s' ⟨_, _, _, _, _, _, _, _, _, _, _, _, _, _, _, _, z⟩ => z.elim
theorem okXN {P : Program} {w : World} {K : PySem.W.Frag} {mg : Str → Option Value} {base : Heap} {x qual : Str} {st : Stmt} {f : Addr} {fd : FuncData} {N ps : List Str} {k : Nat} {sp : Sp} (F : Fun K x qual st f fd) (S : FnScope N ps (defScope st)) (len : ∀ vs H Q E, sp vs H Q E → vs.length = ps.length)
    (hb : ∀ (cdv : Value) (A : Around) (outer : List Env) (s : Shared) (H : Hp) (vs : List V) (Q : VK) (E : XK), Room k (A.deeper (PyProof.Rows.envOfC qual (defScope st) s.heap.objs.size f cdv)) → sp vs H Q E →
      ∃ t, PSs (cxOf (L2N.CX P w) P w K mg base N qual (defScope st) f cdv A outer s H E) (defBody st) t ∧ t { nx := fun _ H' => Q .non H', rt := Q } (start N vs) H) : FnOk P w K mg base (L2N.CX P w) (k + 1) f fd ps sp := by
  obtain ⟨_, _, _, _, _, _, cdv, _, _, rfl, lk, hc⟩ := F.ex
  exact fn_of lk hc S len (hb cdv)
section
variable {X : Cx} {x : Str} {C fI : Addr} {k : Nat} {fd : FuncData} {ps : List Str} {sp : Sp} {e : Expr} {es : List Expr} {ta : TA} {p pos : Pos} {CX : CXT}
/-- C(e, ..), C's __init__ a def of its own -/
theorem pmk_oexN (T : OexC X.K C) (iC : PySem.W.findIn X.K (.ref C) "__init__" = some (some (.ref fI))) (tI : PySem.W.typeIn X.K (.ref fI) = some (.type "function"))
    (Fi : FnOk X.prog X.w X.K X.mg X.base CX k fI fd ps sp) (hr : Room (k + 1) X.A) (hb : Binds X.K fd ps []) (hx : Passes CX X (fun _ _ _ => False)) (hg : Gl X x) (hm : X.mg x = some (.ref C)) (ha : PA X (e :: es) ta)
    (hdb : (x == ("__debug__" : Str)) = false := by decide) (he : starEach (e :: es) X.env = (false, eval e X.env) :: starEach es X.env := by rfl) (hpl : (backTo pos (starEach es X.env)).any (·.1) = false := by rfl) :
    L2N.PMk X (.Call (.Name x p) (e :: es) [] pos) (tMkO C sp [] ta) := by
  intro pins s σ H Q I h
  refine wpAny_Call_Name_kw (ld_glob I hg hm ?_ hdb)
  refine PySem.W.callWith_K (h₀ := X.base) I.ok.mod.kin T.kC (thn (ha.run pos pins s σ H _ I h) fun us ⟨hp, g, dr, tk, os⟩ ⟨vs, H1, J, rv, hz, q⟩ => ⟨J.kIn, ?_⟩) he hpl
  obtain ⟨_, _, _, _, bm, _, _, _, _, _, _, _, _, _, _, hC, hbm⟩ := T.cls
  have below : hp.objs.size ≤ hp.objs.size + 1 := Nat.le_succ _
  have sp0 := q (hp.objs.size + 1) (J.hok.fresh below)
  rw [List.append_nil] at sp0
  have old : ∀ b o, hp.get? b = some o → ((hp.push (PySem.W.kdv_tup us)).push (PySem.HandSPX.excO C hp.objs.size)).get? b = some o := fun b o z => Heap.get?_push_of_some _ (Heap.get?_push_of_some _ z)
  have J2 := J.laid (t' := tk) (o := exo (hp.objs.size + 1) C none) (h' := (hp.push (PySem.W.kdv_tup us)).push (PySem.HandSPX.excO C hp.objs.size)) old below (exo_ok (by heap_get))
  have rv2 : Vals (V.ref (hp.objs.size + 1) :: vs) (Value.ref (hp.objs.size + 1) :: us) := .cons rfl rv
  have cnt := rv2.length.symm.trans (Fi.len _ _ _ _ sp0)
  have fits : us.length ≤ sizeLine := by rw [← Paired.length rv, sizeLine_eq]; omega
  have bs := hb _ (Value.ref (hp.objs.size + 1) :: us) J2.kIn (by rw [List.append_nil]; exact cnt)
  rw [List.append_nil] at bs
  show wpAny _ _ (call (.ref C) us) _ _ _
  refine wpAny_call (PySem.HandSPX.call_own PySem.F.excBase_ValueError (fun Y => PySem.HandSPX.refsVE_contains Y bm hbm) (J.kIn _ _ hC) (PySem.W.looks_findIn J.kIn iC) (fun self => PySem.W.bind_fn J.kIn self tI) fits
    (codeAny_mono (Fi.run _ X.stack _ _ ⟨Value.ref (hp.objs.size + 1) :: us, []⟩ (Value.ref (hp.objs.size + 1) :: us) _ _ (fun _ _ _ => False) (hr.make C us []) (J2.env0.make C us []) bs rv2 sp0) fun r s2 hq => ?_))
  match r, hq with
  | .error er, hq => exact hx pins σ _ _ er s2 J2 hq
  | .ok (.ret u), hq =>
    obtain ⟨_, H2, o2, b2, un2, ok2, ru, rfl, d, fs, ea, ed, hd1, q2⟩ := hq
    obtain ⟨h2, g2, d2, t2, os2⟩ := s2
    obtain ⟨t0, G, J3, kG, nG, hoe, na⟩ := mk_end0 (d2 := d2) (t2 := t2) J below old un2 ok2 o2 b2 ea ed hd1
    exact ⟨ru, hp.objs.size + 1, _, _, ⟨G, g2, d2, t2, os2⟩, _, .ref C, some d, rfl, J3, kG, nG, hoe, ⟨rfl, rfl, fun vs hv => by cases hv; rfl⟩, rfl, rfl, na, rfl, b2, raises_own T.exC T.tyC, q2⟩
  | .ok .next, hq => exact False.elim hq
  | .ok .brk, hq => exact False.elim hq
  | .ok .cont, hq => exact False.elim hq
end
/-! ### raise C(..) -/
def prB : PV → Bool
  | .int i => decide (i.natAbs.log2 < 1920)
  | .str y => decide (y.length ≤ 2000)
  | _ => false
def R.raise {α : Type} (c : Nat) (ps : List PV) : R α := if ps.all prB then .ex ⟨c, ps.reverse⟩ else .bad
theorem prv_of {T : CT} {H : Hp} {G : Addr → Prop} {p : PV} {v : V} (r : Rep T H G p v) (h : prB p = true) : PrV v := by
  cases p with
  | int i => exact .inr ⟨i, r, of_decide_eq_true h⟩
  | str y =>
    have r : v = .str y ∧ _ := r
    exact .inl ⟨y, r.1, of_decide_eq_true h⟩
  | non => cases h
  | bl b => cases h
  | lst xs => cases h
  | tup xs => cases h
  | obj c vs => cases h
  | scr xs => cases h
theorem prvs_of {T : CT} {H : Hp} {G : Addr → Prop} : ∀ {ps : List PV} {vs : List V}, Reps T H G ps vs → ps.all prB = true → ∀ u, u ∈ vs → PrV u
  | [], vs, r, _, u, hu => by
    have r : vs = [] := r
    rw [r] at hu
    cases hu
  | p :: ps, vs, r, h, u, hu => by
    unfold Reps at r
    obtain ⟨v, r', e, r1, r2⟩ := r
    rw [List.all_cons, Bool.and_eq_true] at h
    rw [e] at hu
    rcases List.mem_cons.mp hu with z | z
    · rw [z]
      exact prv_of r1 h.1
    · exact prvs_of r2 h.2 u z
/-- an own exception class: what the top has written of it -/
structure KdX (P : Program) (w : World) (K : PySem.W.Frag) (mg : Str → Option Value) (base : Heap) (T : CT) (c : Nat) (x : Str) (fs ps : List Str) : Prop where
  fl : T.fld c = fs.reverse
  oc : OexC K (T.addr c)
  gm : mg x = some (.ref (T.addr c))
  ini : ∃ fI fd, PySem.W.findIn K (.ref (T.addr c)) "__init__" = some (some (.ref fI)) ∧ PySem.W.typeIn K (.ref fI) = some (.type "function") ∧ Binds K fd ps [] ∧ FnOk P w K mg base CX0 3 fI fd ps (SpExI (T.addr c) fs)
theorem pmk_kdx {X : Cx} {T : CT} {c : Nat} {x : Str} {fs ps : List Str} {e : Expr} {es : List Expr} {ta : TA} {p pos : Pos} (y : KdX X.prog X.w X.K X.mg X.base T c x fs ps) (hr : Room 4 X.A) (hg : Gl X x) (ha : PA X (e :: es) ta)
    (hdb : (x == ("__debug__" : Str)) = false := by decide) (he : starEach (e :: es) X.env = (false, eval e X.env) :: starEach es X.env := by rfl) (hpl : (backTo pos (starEach es X.env)).any (·.1) = false := by rfl) :
    L2N.PMk X (.Call (.Name x p) (e :: es) [] pos) (tMkO (T.addr c) (SpExI (T.addr c) fs) [] ta) := by
  obtain ⟨fI, fd, h1, h2, h3, h4⟩ := y.ini
  exact pmk_oexN y.oc h1 h2 h4 hr h3 C8.pass0 hg y.gm ha hdb he hpl
theorem zip_rev : ∀ {fs : List Str} {us : List V}, fs.length = us.length → (fs.zip us).reverse = fs.reverse.zip us.reverse
  | [], [], _ => rfl
  | f :: fs, u :: us, h => by
    have h' : fs.length = us.length := Nat.succ.inj h
    show ((f, u) :: fs.zip us).reverse = _
    rw [List.reverse_cons, List.reverse_cons, List.reverse_cons, zip_rev h', List.zip_append (by rw [List.length_reverse, List.length_reverse, h'])]
    rfl
theorem bd_raise {C : Cn} {Γ : List Sl} {l : Lv} {β δ : Type} [Encs δ] {ta : TA} {m : R δ} {c : Nat} {fs : List Str} {u : TS} {out : β → Oc} {W : WX} (hW : C.W = some W) (fl : C.T.fld c = fs.reverse) (ha : EvA C Γ l ta m) (hl : ∀ d : δ, (encs d).length = fs.length) (h9 : fs.length ≤ 1000) :
    BD C Γ (tSeq (fun _ σ H => tMkO (C.T.addr c) (SpExI (C.T.addr c) fs) [] ta σ H fun cls d H' => W cls d σ H') u) (m.bind fun d => (R.raise c (encs d) : R β)) out := fun G hid os σ H D Kw q => by
  refine ha G hid os σ H _ Kw ?_
  cases e1 : m with
  | bad => rw [e1] at q; exact q
  | ex x => rw [e1] at q; exact pox_of Kw q
  | ok d =>
    rw [e1] at q
    have q : PoB C G hid D out (R.raise c (encs d) : R β) := q
    unfold R.raise at q
    cases e2 : (encs d).all prB with
    | false => rw [e2] at q; exact q.elim
    | true =>
      rw [e2] at q
      have q : PoXB C ⟨c, (encs d).reverse⟩ := q
      unfold PoXB at q
      rw [hW] at q
      intro vs H1 s1 r1
      have hlen : vs.length = fs.length := by rw [← r1.len, hl]
      refine ⟨by omega, fun a na => ⟨a, vs, by rw [List.append_nil], hlen, prvs_of r1 e2, upd_same, fun dx H2 nd ne k k1 k2 => ⟨rfl, dx, (fs.zip vs).reverse, k1, k2, ?_, ?_⟩⟩⟩
      · rw [upd_ne ne] at nd
        exact nd
      · rw [upd_ne ne] at nd
        have s2 : Same H1 (upd (del H2 a) dx (.xd (fs.zip vs).reverse)) := fun b o hb => by
          have n1 : b ≠ a := fun z => by rw [z, na] at hb; cases hb
          have n2 : b ≠ dx := fun z => by rw [z, nd] at hb; cases hb
          rw [upd_ne n2, del_ne n1, k b n1 n2, upd_ne n1]
          exact hb
        refine q σ _ _ _ ((Kw.ext.trans s1).trans s2) ⟨rfl, .inr ⟨dx, vs.reverse, rfl, ?_, ?_, ?_⟩⟩
        · rw [upd_same, fl, zip_rev hlen.symm]
        · rw [fl, List.length_reverse, List.length_reverse, hlen]
        · exact ((r1.same s2).weak fun _ z => z.elim).rev
/-! ### defs that may raise -/
section
variable {P : Program} {w : World} {K : PySem.W.Frag} {mg : Str → Option Value} {base : Heap} {α β : Type} [Enc α] [Encs β] {T : CT} {M : RM}
theorem fn_pmX {x qual : Str} {st : Stmt} {f : Addr} {fd : FuncData} {N ps : List Str} {k : Nat} {g : β → R α} (F : Fun K x qual st f fd) (S : FnScope N ps (defScope st)) (hlen : ∀ b : β, (encs b).length = ps.length)
    (hbody : ∀ (cdv : Value) (A : Around) (outer : List Env) (s : Shared) (H : Hp) (E : XK), Room k (A.deeper (PyProof.Rows.envOfC qual (defScope st) s.heap.objs.size f cdv)) →
      ∃ t, PSs (cxOf (L2N.CX P w) P w K mg base N qual (defScope st) f cdv A outer s H E) (defBody st) t ∧ ∀ b : β, BD ⟨T, H, some (fun cls d _ H' => E cls d H'), M⟩ (entry N (encs b)) t (g b) (fun a => .rt (enc a))) :
    FnOk P w K mg base (L2N.CX P w) (k + 1) f fd ps (PmX T M g) := by
  have hpl : ps.length ≤ N.length := by have := congrArg List.length S.pre; rw [List.length_take] at this; omega
  refine okXN F S (fun vs H Q E h => ?_) (fun cdv A outer s H vs Q E hr h => ?_)
  · obtain ⟨b, G, _, r, _⟩ := h
    rw [← r.len, hlen]
  · obtain ⟨b, G, dom, r, q⟩ := h
    obtain ⟨t, ht, hb⟩ := hbody cdv A outer s H E hr
    refine ⟨t, ht, hb b G [] _ _ H _ (okw_start dom r (by rw [hlen]; exact hpl)) ?_⟩
    cases e : g b with
    | bad => rw [e] at q; exact q
    | ex z => rw [e] at q; exact fun _ cls d H' s r => q cls d H' s r
    | ok a => rw [e] at q; exact q
/-- one that hands back nothing -/
theorem fn_pmXU {x qual : Str} {st : Stmt} {f : Addr} {fd : FuncData} {N ps : List Str} {k : Nat} {g : β → R Unit} (F : Fun K x qual st f fd) (S : FnScope N ps (defScope st)) (hlen : ∀ b : β, (encs b).length = ps.length)
    (hbody : ∀ (cdv : Value) (A : Around) (outer : List Env) (s : Shared) (H : Hp) (E : XK), Room k (A.deeper (PyProof.Rows.envOfC qual (defScope st) s.heap.objs.size f cdv)) →
      ∃ t, PSs (cxOf (L2N.CX P w) P w K mg base N qual (defScope st) f cdv A outer s H E) (defBody st) t ∧ ∀ b : β, BD ⟨T, H, some (fun cls d _ H' => E cls d H'), .val .fr⟩ (entry N (encs b)) t (g b) (fun _ => .nx (List.replicate N.length .un))) :
    FnOk P w K mg base (L2N.CX P w) (k + 1) f fd ps (PmX T (.val .fr) g) := by
  have hpl : ps.length ≤ N.length := by have := congrArg List.length S.pre; rw [List.length_take] at this; omega
  refine okXN F S (fun vs H Q E h => ?_) (fun cdv A outer s H vs Q E hr h => ?_)
  · obtain ⟨b, G, _, r, _⟩ := h
    rw [← r.len, hlen]
  · obtain ⟨b, G, dom, r, q⟩ := h
    obtain ⟨t, ht, hb⟩ := hbody cdv A outer s H E hr
    refine ⟨t, ht, hb b G [] _ _ H _ (okw_start dom r (by rw [hlen]; exact hpl)) ?_⟩
    cases e : g b with
    | bad => rw [e] at q; exact q
    | ex z => rw [e] at q; exact fun _ cls d H' s r => q cls d H' s r
    | ok a =>
      rw [e] at q
      intro os σ H2 K2
      exact q .non H2 K2.ext rfl
end
end Pv

set_option Elab.async false
set_option linter.all false
set_option maxRecDepth 100000
namespace Pv
open PySem PySem.Spec L2
open Enc (enc)
open Encs (encs)
/-! ### isinstance(e, ..) in an except suite, e an exception of an own class with fields -/
section
variable {X : Cx} {a : Addr} {cls : Value} {d : Option Addr} {oe : Obj} {pn : List (Addr × Obj)}
def rIsX (K : PySem.W.Frag) (a : Addr) (cls : Value) (d : Option Addr) : List V → Hp → VK → Prop := fun xs H Q => ∃ (D : Addr) (c : V) (cv : Value) (b : Bool) (dd : Addr) (fs : List (Str × V)), cls = .ref D ∧ ExcC K D ∧ xs = [.ref a, c] ∧ ClsV c cv ∧ PySem.W.kitOne K (.ref D) cv = some b ∧ d = some dd ∧ H dd = some (.xd fs) ∧ Q (.bl b) H
def rIsXT (K : PySem.W.Frag) (a : Addr) (cls : Value) (d : Option Addr) : List V → Hp → VK → Prop := fun xs H Q => ∃ (D tp : Addr) (cs : List V) (us : List Value) (b : Bool) (dd : Addr) (fs : List (Str × V)), cls = .ref D ∧ ExcC K D ∧ xs = [.ref a, .ref tp] ∧ H tp = some (.tup cs) ∧ Paired ClsV cs us ∧ PySem.W.kitAny K (.ref D) us = some b ∧ d = some dd ∧ H dd = some (.xd fs) ∧ Q (.bl b) H
theorem xinst {pins : List (Addr × Obj)} {σ : L2.St} {H : Hp} {s : Shared} {D dd : Addr} {fs : List (Str × V)} (I : Inv (X.suite a ((a, oe) :: pn)) pins σ H s) (hz : Zc (.ref D) (some dd) oe) (hf : ∃ vs, oe.data = .fields vs) (hd : H dd = some (.xd fs)) : ∃ od, PySem.W.InstAt s.heap a oe D (some od) := by
  obtain ⟨ha, _⟩ := I.pin (a, oe) (List.mem_append_left _ List.mem_cons_self)
  obtain ⟨vs, hv⟩ := hf
  have hx : ObjOk X.prog X.w H s.heap dd (.xd fs) := I.hok dd _ hd
  obtain ⟨mA, hns, hr⟩ := hx
  obtain ⟨od, ho, _⟩ := lookIn_ns hns
  exact ⟨od, ha, hz.1, by unfold PySem.W.notCls; rw [hv] <;> rfl, by rw [hz.2]; exact ho⟩
theorem xkit {K : PySem.W.Frag} {D x : Addr} {ox : Obj} {od : Option Obj} (C : ExcC K D) : PySem.W.KitX K (.ref x) (.ref D) (fun h => PySem.W.InstAt h x ox D od) := by
  obtain ⟨cd, hc, _⟩ := PySem.W.any_some C.hd
  exact PySem.W.kitx_exc (by rw [hc]; rfl) C.hg C.hk C.hs C.ha C.hn C.ht C.hm
theorem call_isX (hz : Zc cls d oe) (hf : ∃ vs, oe.data = .fields vs) : CallR (X.suite a ((a, oe) :: pn)) (.builtin "isinstance") (rIsX X.K a cls d) := by
  intro pins s σ H xs us Q I r h
  obtain ⟨D, c, cv, b, dd, fs, e1, C, rfl, k, e, e2, hd, q⟩ := h
  subst e1
  subst e2
  obtain ⟨u1, u2, rfl, r1, r2⟩ := vals2 r
  cases (show u1 = Value.ref a from r1)
  have e3 := k.eq r2
  subst e3
  obtain ⟨od, J⟩ := xinst I hz hf hd
  exact PySem.W.kia_one (xkit C) I.kIn J e (fun z => nomatch z) fun tk => ⟨.bl b, H, I.tok tk, rfl, q⟩
theorem call_isXT (hz : Zc cls d oe) (hf : ∃ vs, oe.data = .fields vs) : CallR (X.suite a ((a, oe) :: pn)) (.builtin "isinstance") (rIsXT X.K a cls d) := by
  intro pins s σ H xs us Q I r h
  obtain ⟨D, tp, cs, ws, b, dd, fs, e1, C, rfl, hT, k, e, e2, hd, q⟩ := h
  subst e1
  subst e2
  obtain ⟨u1, u2, rfl, r1, r2⟩ := vals2 r
  cases (show u1 = Value.ref a from r1)
  cases (show u2 = Value.ref tp from r2)
  obtain ⟨od, J⟩ := xinst I hz hf hd
  obtain ⟨_, its, rv, o, h1, h2, n, h3⟩ := (show ObjOk X.prog X.w H s.heap tp (.tup cs) from I.hok tp _ hT)
  have e3 := ClsV.all k rv
  subst e3
  obtain ⟨oc, od', dt, sl⟩ := o
  simp only at h2 h3
  subst h2 h3
  exact PySem.W.kia_tup (xkit C) I.kIn J h1 e (fun z => nomatch z) fun tk => ⟨.bl b, H, I.tok tk, rfl, q⟩
end
/-- the classes in a tuple, as they are read -/
def tCls : List V → TA
  | [] => tNil
  | c :: r => tCons (tC c) (tCls r)
theorem tcls_at {σ : L2.St} {H : Hp} : ∀ (cs : List V) (Q : List V → Hp → Prop), Q cs H → tCls cs σ H Q
  | [], _, q => q
  | c :: r, Q, q => tcls_at r (fun xs H2 => Q (c :: xs) H2) q
section
variable {C : Cn} {Γ : List Sl} {l : Lv} {i : Nat} {a : Addr} {d : Option Addr} {x : Exc} {K : PySem.W.Frag}
theorem xv_at {G : Addr → Prop} {hid : Hid} {os : List (Option Addr)} {σ : L2.St} {H : Hp} (Kw : OkW C G Γ hid os σ H) (h : Γ[i]? = some (.xv a d x)) (hne : x.vs ≠ []) : σ[i]? = some (some (.ref a)) ∧ ∃ dx us, d = some dx ∧ H dx = some (.xd ((C.T.fld x.c).zip us)) ∧ (C.T.fld x.c).length = us.length ∧ Reps C.T H (fun _ => False) x.vs us := by
  obtain ⟨_, h2, _, h3⟩ := Kw.sl i _ h
  refine ⟨h2, h3.elim (fun z => absurd z.2 hne) id⟩
/-- isinstance(e, C') -/
theorem evm_isX {c : V} {cv : Value} {b : Bool} (h : Γ[i]? = some (.xv a d x)) (hne : x.vs ≠ []) (XC : ExcC K (C.T.addr x.c)) (k : ClsV c cv) (hk : PySem.W.kitOne K (.ref (C.T.addr x.c)) cv = some b) :
    Evm C Γ .fr (tCB (rIsX K a (.ref (C.T.addr x.c)) d) (tCons (tVar i) (tCons (tC c) tNil))) (.ok b) := fun G hid os σ H Q Kw q => by
  obtain ⟨h2, dx, us, e, h3, _, _⟩ := xv_at Kw h hne
  exact ⟨.ref a, h2, C.T.addr x.c, c, cv, b, dx, _, rfl, XC, rfl, k, hk, e, h3, q _ H (Same.refl H) rfl⟩
/-- isinstance(e, (C1, C2, ..)) -/
theorem evm_isXT {cs : List V} {cvs : List Value} {b : Bool} (h : Γ[i]? = some (.xv a d x)) (hne : x.vs ≠ []) (XC : ExcC K (C.T.addr x.c)) (hl : cs.length ≤ 1000) (k : Paired ClsV cs cvs) (hk : PySem.W.kitAny K (.ref (C.T.addr x.c)) cvs = some b) :
    Evm C Γ .fr (tCB (rIsXT K a (.ref (C.T.addr x.c)) d) (tCons (tVar i) (tCons (tTup (tCls cs)) tNil))) (.ok b) := fun G hid os σ H Q Kw q => by
  obtain ⟨h2, dx, us, e, h3, _, _⟩ := xv_at Kw h hne
  refine ⟨.ref a, h2, tcls_at cs _ ⟨Nat.le_of_lt (lim_size (Nat.le_trans hl (by decide))), fun p np => ?_⟩⟩
  have h4 : upd H p (.tup cs) dx = some (.xd ((C.T.fld x.c).zip us)) := by
    rw [upd_ne (fun z => by rw [z, np] at h3; cases h3)]
    exact h3
  exact ⟨C.T.addr x.c, p, cs, cvs, b, dx, _, rfl, XC, rfl, upd_same, k, hk, e, h4, q _ _ (same_new np) rfl⟩
/-- e.f -/
theorem evm_xf {α : Type} [Enc α] {f : Str} {v : α} {j : Nat} (h : Γ[i]? = some (.xv a d x)) (hne : x.vs ≠ []) (nd : (C.T.fld x.c).Nodup) (hf : (C.T.fld x.c)[j]? = some f) (hv : x.vs[j]? = some (enc v)) (fl : flV (enc v) = true) :
    Evm C Γ .fr (tXf a (.ref (C.T.addr x.c)) d (C.T.addr x.c) f (tVar i)) (.ok v) := fun G hid os σ H Q Kw q => by
  obtain ⟨h2, dx, us, e, h3, _, rs⟩ := xv_at Kw h hne
  obtain ⟨u, hu, ru⟩ := rs.get hv
  exact ⟨.ref a, h2, rfl, rfl, dx, _, u, e, h3, zip_lookup nd hf hu, q u H (Same.refl H) (ru.flV fl)⟩
end
/-! ### try .. except C as e -/
def Cn.w (C : Cn) (W : WX) : Cn := { C with W := some W }
theorem OkW.toW {C : Cn} {W : WX} {G : Addr → Prop} {Γ : List Sl} {hid : Hid} {os : List (Option Addr)} {σ : L2.St} {H : Hp} (K : OkW C G Γ hid os σ H) : OkW (C.w W) G Γ hid os σ H :=
  ⟨K.lo, K.ls, K.ext, K.dom, K.new, K.inj, fun i s h => by
    have q := K.sl i s h
    cases s <;> exact q, K.hd⟩
/-- a try's body: what it raises it raises ahead of any change -/
def PoY {β : Type} (C : Cn) (W : WX) (G : Addr → Prop) (hid : Hid) (σ : L2.St) (H : Hp) (D : Ends) (out : β → Oc) : R (R β) → Prop
  | .ok k => PoB C G hid D out k
  | .ex x => PoX (C.w W) σ H x
  | .bad => False
def BDx {β : Type} (C : Cn) (W : WX) (Γ : List Sl) (t : TS) (m : R (R β)) (out : β → Oc) : Prop := ∀ G hid os σ H D, OkW C G Γ hid os σ H → PoY C W G hid σ H D out m → t D σ H
section
variable {C : Cn} {W : WX} {Γ : List Sl} {l : Lv} {α β : Type} [Enc α] {out : β → Oc} {te : TE} {tt : TT} {t u w : TS}
theorem bdx_end {m : R α} {k : R β} (h : Evm (C.w W) Γ l te m) (hk : BD C Γ u k out) : BDx C W Γ (tSeq (tDrop te) u) (m.bind fun _ => .ok k) out := fun G hid os σ H D Kw q => by
  refine h G hid os σ H _ Kw.toW ?_
  cases e : m with
  | bad => rw [e] at q; exact q
  | ex x => rw [e] at q; exact q
  | ok a => rw [e] at q; exact fun v H1 s1 r1 => hk G hid os σ H1 D (Kw.same s1) q
theorem bdx_ret {m : R α} {k : α → β} (hM : C.M = .val l) (h : Evm (C.w W) Γ l te m) (ho : ∀ a, out (k a) = .rt (enc a)) : BDx C W Γ (tSeq (tRet te) u) (m.bind fun a => .ok (.ok (k a))) out := fun G hid os σ H D Kw q => by
  refine h G hid os σ H _ Kw.toW ?_
  cases e : m with
  | bad => rw [e] at q; exact q
  | ex x => rw [e] at q; exact q
  | ok a =>
    rw [e] at q
    intro v H1 s1 r1
    have q : PoO C G hid D (out (k a)) := q
    rw [ho] at q
    have q : PoRet C.T C.M G C.H0 D.rt (enc a) := q
    unfold PoRet at q
    rw [hM] at q
    exact q v H1 (Kw.ext.trans s1) (r1.weak fun a z => avC_av a z)
theorem bdx_if {c : R Bool} {m1 m2 : R (R β)} (hc : EvT (C.w W) Γ tt c) (h1 : BDx C W Γ (tSeq t u) m1 out) (h2 : BDx C W Γ (tSeq w u) m2 out) : BDx C W Γ (tSeq (tIfS tt t w) u) (R.ifm c m1 m2) out := fun G hid os σ H D Kw q => by
  refine hc G hid os σ H _ Kw.toW ?_
  cases e : c with
  | bad => rw [e] at q; exact q
  | ex x => rw [e] at q; exact q
  | ok b =>
    rw [e] at q
    intro H1 s1
    have go : ∀ m : R (R β), PoY C W G hid σ H D out m → PoY C W G hid σ H1 D out m := fun m z => by
      cases m with
      | ok k => exact z
      | ex x => exact PoX.back (C := C.w W) s1 z
      | bad => exact z
    cases b with
    | true => exact iteT (h1 G hid os σ H1 D (Kw.same s1) (go m1 q))
    | false => exact iteF (h2 G hid os σ H1 D (Kw.same s1) (go m2 q))
theorem bdx_nil {m : R (R β)} (h : BDx C W Γ u m out) : BDx C W Γ (tSeq tNext u) m out := h
theorem bdx_assoc {t1 t2 : TS} {m : R (R β)} (h : BDx C W Γ (tSeq t1 (tSeq t2 u)) m out) : BDx C W Γ (tSeq (tSeq t1 t2) u) m out := h
def R.tryC (okc : Exc → Bool) (m : R (R β)) (ms : Exc → R β) : R β := match m with
  | .ok k => k
  | .ex x => if okc x then ms x else .bad
  | .bad => .bad
/-- on, or back -/
inductive Lr (S A : Type) where
  | nx (s : S) | rt (a : A)
def oLr {S A : Type} (es : S → List Sl) (er : A → PV) : Lr S A → Oc
  | .nx s => .nx (es s)
  | .rt a => .rt (er a)
def Lr.fin {S A β : Type} (k : S → R β) (ret : A → R β) : Lr S A → R β
  | .nx s => k s
  | .rt a => ret a
theorem bd_seqL {S A : Type} {m : R (Lr S A)} {k : S → R β} {ret : A → R β} {es : S → List Sl} {er : A → PV} (h : BD C Γ t m (oLr es er)) (hk : ∀ s, BD C (es s) u (k s) out) (hr : ∀ a, ∃ b, ret a = .ok b ∧ out b = .rt (er a)) : BD C Γ (tSeq t u) (m.bind (Lr.fin k ret)) out := fun G hid os σ H D Kw q => by
  refine h G hid os σ H _ Kw ?_
  cases e : m with
  | bad => rw [e] at q; exact q
  | ex x => rw [e] at q; exact q
  | ok s =>
    rw [e] at q
    cases s with
    | nx s =>
      intro os' σ' H' K'
      exact hk s G hid os' σ' H' D K' q
    | rt a =>
      obtain ⟨b, e1, e2⟩ := hr a
      have q : PoB C G hid D out (ret a) := q
      rw [e1] at q
      have q : PoO C G hid D (out b) := q
      rw [e2] at q
      exact q
/-- the name of an except clause is gone behind it -/
def tClr (i : Nat) : TS := fun D σ H => D.nx (σ.set i none) H
theorem bd_clr {i : Nat} {m : R β} (hi : i < Γ.length) (h : BD C (Γ.set i .un) u m out) : BD C Γ (tSeq (tClr i) u) m out := fun G hid os σ H D Kw q => h G hid _ _ H D (Kw.clear i hi none) q
theorem bd_try_as {i : Nat} {m : R (R β)} {ms : Exc → R β} {okc : Exc → Bool} {tb : WX → TS} {ts : Addr → Value → Option Addr → TS} {Wout : WX} {K : PySem.W.Frag} {c : Value} (hi : i < Γ.length)
    (ho : ∀ b, (∃ Γ', out b = .nx Γ') ∨ ∃ p, out b = .rt p) (hx : ∀ x, okc x = true → PySem.W.exmOne K (.ref (C.T.addr x.c)) c = some true ∧ x.vs.all flV = true)
    (hb : ∀ W, BDx C W Γ (tSeq (tb W) tNext) m out) (hs : ∀ x a d, okc x = true → BD C (Γ.set i (.xv a d x)) (tSeq (ts a (.ref (C.T.addr x.c)) d) (tSeq (tClr i) tNext)) (ms x) out) :
    BD C Γ (fun D σ H => tb (wAs K c i ts Wout D) D σ H) (R.tryC okc m ms) out := fun G hid os σ H D Kw q => by
  refine hb _ G hid os σ H D Kw ?_
  cases e : m with
  | bad => rw [e] at q; exact q
  | ok k => rw [e] at q; exact q
  | ex x =>
    rw [e] at q
    have q : PoB C G hid D out (if okc x then ms x else .bad) := q
    cases hok : okc x with
    | false => rw [hok] at q; exact q.elim
    | true =>
      rw [hok] at q
      have q : PoB C G hid D out (ms x) := q
      obtain ⟨h1, h2⟩ := hx x hok
      intro cls d H' s1 r
      obtain ⟨rfl, r⟩ := r
      refine ⟨true, h1, fun _ a na => ?_, fun z => by cases z⟩
      have K1 := Kw.same s1
      have K2 := K1.clear i hi (some (.ref a))
      have K3 : OkW C G (Γ.set i (.xv a d x)) hid (os.set i none) (σ.set i (some (.ref a))) H' := ⟨by simp [K1.lo], by simp [K1.ls], K2.ext, K2.dom, K2.new, K2.inj, fun j s h => by
        by_cases ej : i = j
        · subst ej
          rw [List.getElem?_set_self hi] at h
          cases h
          exact ⟨by rw [List.getElem?_set_self (by rw [K1.lo]; exact hi)], by rw [List.getElem?_set_self (by rw [K1.ls]; exact hi)], h2, r⟩
        · refine K2.sl j s ?_
          rw [List.getElem?_set_ne ej] at h ⊢
          exact h, K2.hd⟩
      refine hs x a d hok G hid _ _ H' { nx := D.nx, rt := D.rt, bk := fun σ' H' => D.bk (σ'.set i none) H', ct := fun σ' H' => D.ct (σ'.set i none) H' } K3 ?_
      cases em : ms x with
      | bad => rw [em] at q; exact q
      | ex z => rw [em] at q; exact q
      | ok b =>
        rw [em] at q
        have q : PoO C G hid D (out b) := q
        show PoO C G hid _ (out b)
        rcases ho b with ⟨Γ', e⟩ | ⟨p, e⟩
        · rw [e] at q ⊢
          exact q
        · rw [e] at q ⊢
          exact q
end
end Pv

set_option Elab.async false
set_option linter.all false
set_option maxRecDepth 100000
namespace Pv
open PySem PySem.Spec L2
open Enc (enc)
open Encs (encs)
/-- a def that may raise, under its name -/
structure KdR (P : Program) (w : World) (K : PySem.W.Frag) (mg : Str → Option Value) (base : Heap) (x : Str) (ps : List Str) (k : Nat) (sp : Sp) : Prop where
  ex : ∃ f fd, mg x = some (.ref f) ∧ PySem.W.keepIn K (.ref f) = true ∧ Binds K fd ps [] ∧ FnOk P w K mg base (L2N.CX P w) k f fd ps sp
theorem pe_kr {X : Cx} {W : WX} {x : Str} {ps : List Str} {k : Nat} {sp : Sp} {e : Expr} {es : List Expr} {t : TA} {p pos : Pos} (h : KdR X.prog X.w X.K X.mg X.base x ps k sp) (tk : L2N.Takes X W) (hr : Room k X.A) (hg : Gl X x) (ha : PA X (e :: es) t) (hd : (x == ("__debug__" : Str)) = false := by decide)
    (he : starEach (e :: es) X.env = (false, eval e X.env) :: starEach es X.env := by rfl) (hpl : (backTo pos (starEach es X.env)).any (·.1) = false := by rfl) :
    PE X (.Call (.Name x p) (e :: es) [] pos) (tCallS sp (WE W) t) := by
  obtain ⟨f, fd, hm, hk, hb, F⟩ := h.ex
  exact pe_callS F hr hg hm hk hb (fun σ => L2N.passAt tk σ) ha hd he hpl
/-- .. where nothing is let out -/
theorem pe_krq {X : Cx} {x : Str} {ps : List Str} {k : Nat} {sp : Sp} {e : Expr} {es : List Expr} {t : TA} {p pos : Pos} (h : KdR X.prog X.w X.K X.mg X.base x ps k sp) (hr : Room k X.A) (hg : Gl X x) (ha : PA X (e :: es) t) (hd : (x == ("__debug__" : Str)) = false := by decide)
    (he : starEach (e :: es) X.env = (false, eval e X.env) :: starEach es X.env := by rfl) (hpl : (backTo pos (starEach es X.env)).any (·.1) = false := by rfl) :
    PE X (.Call (.Name x p) (e :: es) [] pos) (tCallS sp (WE fun _ _ _ _ => False) t) := pe_kr h tk0 hr hg ha hd he hpl
section
variable {C : Cn} {Γ : List Sl} {l l1 l2 : Lv} {α : Type} [Enc α] {β : Type} [Encs β] {ta : TA} {W : WX}
theorem callx_gen {m : R β} {f : β → R α} {M : RM} {P : (Addr → Prop) → List (Option Addr) → L2.St → Hp → VK → R α → Prop} (hW : C.W = some W) (ha : EvA C Γ l ta m)
    (hb : ∀ G os σ H Q, ¬ P G os σ H Q .bad) (hx : ∀ G os σ H Q x, P G os σ H Q (.ex x) → PoX C σ H x)
    (hm : ∀ G hid os σ H Q H1 a, OkW C G Γ hid os σ H → Same H H1 → P G os σ H Q (.ok a) → ∃ G' : Addr → Prop, (∀ b, G' b → H1 b ≠ none) ∧ (∀ b, G' b → av l C.H0 G os b) ∧ PoRet C.T M G' H1 Q (enc a)) :
    ∀ G hid os σ H Q, OkW C G Γ hid os σ H → (match m with | .ok b => P G os σ H Q (f b) | .ex x => PoX C σ H x | .bad => False) → tCallS (PmX C.T M f) (WE W) ta σ H Q := fun G hid os σ H Q Kw q => by
  refine ha G hid os σ H _ Kw ?_
  cases e1 : m with
  | bad => rw [e1] at q; exact q
  | ex x => rw [e1] at q; exact q
  | ok b =>
    rw [e1] at q
    intro vs H1 s1 r1
    have q : P G os σ H Q (f b) := q
    cases e2 : f b with
    | bad => rw [e2] at q; exact absurd q (hb _ _ _ _ _)
    | ex x =>
      rw [e2] at q
      have q := hx _ _ _ _ _ _ q
      unfold PoX at q
      rw [hW] at q
      exact ⟨b, fun _ => False, fun _ z => z.elim, r1.weak (fun _ z => z.elim), by rw [e2]; exact fun cls d H' s2 r => q cls d H' (s1.trans s2) r⟩
    | ok a =>
      rw [e2] at q
      obtain ⟨G', d, w, z⟩ := hm G hid os σ H Q H1 a Kw s1 q
      exact ⟨b, G', d, r1.weak w, by rw [e2]; exact z⟩
theorem evm_callXF {m : R β} {f : β → R α} (hW : C.W = some W) (ha : EvA C Γ .raw ta m) : Evm C Γ .fr (tCallS (PmX C.T (.val .fr) f) (WE W) ta) (m.bind f) := fun G hid os σ H Q Kw q => by
  refine callx_gen (M := .val .fr) (P := fun G os σ H Q r => PoV C .fr G os σ H Q r) hW ha (fun _ _ _ _ _ z => z) (fun _ _ _ _ _ x z => z) (fun G hid os σ H Q H1 a Kw s1 q => ⟨fun _ => False, fun _ z => z.elim, fun _ z => z.elim, fun v H2 s2 r => q v H2 (s1.trans s2) (r.weak fun a z => av_fr_of Kw s1 a z)⟩) G hid os σ H Q Kw ?_
  cases m with
  | bad => exact q
  | ex x => exact q
  | ok b => exact q
theorem evm_callXP {m : R β} {f : β → R α} (hW : C.W = some W) (ha : EvA C Γ .pa ta m) : Evm C Γ .pa (tCallS (PmX C.T (.val .pa) f) (WE W) ta) (m.bind f) := fun G hid os σ H Q Kw q => by
  refine callx_gen (M := .val .pa) (P := fun G os σ H Q r => PoV C .pa G os σ H Q r) hW ha (fun _ _ _ _ _ z => z) (fun _ _ _ _ _ x z => z) (fun G hid os σ H Q H1 a Kw s1 q => ⟨av .pa C.H0 G os, fun b z => same_ne s1 (Kw.avdom .pa b z), fun _ z => z, fun v H2 s2 r => q v H2 (s1.trans s2) r⟩) G hid os σ H Q Kw ?_
  cases m with
  | bad => exact q
  | ex x => exact q
  | ok b => exact q
theorem evn_callXF {m : R β} {f : β → R (List α)} (hW : C.W = some W) (ha : EvA C Γ .raw ta m) : EvN C Γ .fr (tCallS (PmX C.T (.nw .fr) f) (WE W) ta) (m.bind f) := fun G hid os σ H Q Kw q => by
  refine callx_gen (M := .nw .fr) (P := fun G os σ H Q r => PoN C .fr G os σ H Q r) hW ha (fun _ _ _ _ _ z => z) (fun _ _ _ _ _ x z => z) (fun G hid os σ H Q H1 a Kw s1 q => ⟨fun _ => False, fun _ z => z.elim, fun _ z => z.elim, fun p vs H2 xs e s2 n hp hz r => q p vs H2 (s1.trans s2) (s1.free n) hp hz (by cases e; exact r.weak fun a z => z.imp (fun z => av_fr_of Kw s1 a z) id)⟩) G hid os σ H Q Kw ?_
  cases m with
  | bad => exact q
  | ex x => exact q
  | ok b => exact q
theorem evn_callXP {m : R β} {f : β → R (List α)} (hW : C.W = some W) (ha : EvA C Γ .pa ta m) : EvN C Γ .pa (tCallS (PmX C.T (.nw .pa) f) (WE W) ta) (m.bind f) := fun G hid os σ H Q Kw q => by
  refine callx_gen (M := .nw .pa) (P := fun G os σ H Q r => PoN C .pa G os σ H Q r) hW ha (fun _ _ _ _ _ z => z) (fun _ _ _ _ _ x z => z) (fun G hid os σ H Q H1 a Kw s1 q => ⟨av .pa C.H0 G os, fun b z => same_ne s1 (Kw.avdom .pa b z), fun _ z => z, fun p vs H2 xs e s2 n hp hz r => q p vs H2 (s1.trans s2) (s1.free n) hp hz (by cases e; exact r)⟩) G hid os σ H Q Kw ?_
  cases m with
  | bad => exact q
  | ex x => exact q
  | ok b => exact q
theorem callq_gen {m : R β} {f : β → R α} {M : RM} {P : (Addr → Prop) → List (Option Addr) → L2.St → Hp → VK → R α → Prop} (ha : EvA C Γ l ta m)
    (hb : ∀ G os σ H Q, ¬ P G os σ H Q .bad) (hx : ∀ G os σ H Q x, P G os σ H Q (.ex x) → False)
    (hm : ∀ G hid os σ H Q H1 a, OkW C G Γ hid os σ H → Same H H1 → P G os σ H Q (.ok a) → ∃ G' : Addr → Prop, (∀ b, G' b → H1 b ≠ none) ∧ (∀ b, G' b → av l C.H0 G os b) ∧ PoRet C.T M G' H1 Q (enc a)) :
    ∀ G hid os σ H Q, OkW C G Γ hid os σ H → (match m with | .ok b => P G os σ H Q (f b) | .ex x => PoX C σ H x | .bad => False) → tCallS (PmX C.T M f) (WE fun _ _ _ _ => False) ta σ H Q := fun G hid os σ H Q Kw q => by
  refine ha G hid os σ H _ Kw ?_
  cases e1 : m with
  | bad => rw [e1] at q; exact q
  | ex x => rw [e1] at q; exact q
  | ok b =>
    rw [e1] at q
    intro vs H1 s1 r1
    have q : P G os σ H Q (f b) := q
    cases e2 : f b with
    | bad => rw [e2] at q; exact absurd q (hb _ _ _ _ _)
    | ex x => rw [e2] at q; exact (hx _ _ _ _ _ _ q).elim
    | ok a =>
      rw [e2] at q
      obtain ⟨G', d, w, z⟩ := hm G hid os σ H Q H1 a Kw s1 q
      exact ⟨b, G', d, r1.weak w, by rw [e2]; exact z⟩
/-! ### calls that let nothing out, wherever -/
theorem evm_callNF {m : R β} {f : β → R (α)} {E : XK} (ha : EvA C Γ .raw ta m) : Evm C Γ .fr (tCall (Pm C.T (.val .fr) f) [] E ta) (m.bind fun b => (f b).nox) := fun G hid os σ H Q Kw q => by
  refine call_gen (M := .val .fr) (P := fun G os σ H Q r => PoV C .fr G os σ H Q r.nox) ha (fun _ _ _ _ _ z => z) (fun _ _ _ _ _ x z => z) (fun G hid os σ H Q H1 a Kw s1 q => ⟨fun _ => False, fun _ z => z.elim, fun _ z => z.elim, fun v H2 s2 r => q v H2 (s1.trans s2) (r.weak fun a z => av_fr_of Kw s1 a z)⟩) G hid os σ H Q Kw ?_
  cases m with
  | bad => exact q
  | ex x => exact q
  | ok b => exact q
theorem evm_callNP {m : R β} {f : β → R (α)} {E : XK} (ha : EvA C Γ .pa ta m) : Evm C Γ .pa (tCall (Pm C.T (.val .pa) f) [] E ta) (m.bind fun b => (f b).nox) := fun G hid os σ H Q Kw q => by
  refine call_gen (M := .val .pa) (P := fun G os σ H Q r => PoV C .pa G os σ H Q r.nox) ha (fun _ _ _ _ _ z => z) (fun _ _ _ _ _ x z => z) (fun G hid os σ H Q H1 a Kw s1 q => ⟨av .pa C.H0 G os, fun b z => same_ne s1 (Kw.avdom .pa b z), fun _ z => z, fun v H2 s2 r => q v H2 (s1.trans s2) r⟩) G hid os σ H Q Kw ?_
  cases m with
  | bad => exact q
  | ex x => exact q
  | ok b => exact q
theorem evn_callNF {m : R β} {f : β → R (List α)} {E : XK} (ha : EvA C Γ .raw ta m) : EvN C Γ .fr (tCall (Pm C.T (.nw .fr) f) [] E ta) (m.bind fun b => (f b).nox) := fun G hid os σ H Q Kw q => by
  refine call_gen (M := .nw .fr) (P := fun G os σ H Q r => PoN C .fr G os σ H Q r.nox) ha (fun _ _ _ _ _ z => z) (fun _ _ _ _ _ x z => z) (fun G hid os σ H Q H1 a Kw s1 q => ⟨fun _ => False, fun _ z => z.elim, fun _ z => z.elim, fun p vs H2 xs e s2 n hp hz r => q p vs H2 (s1.trans s2) (s1.free n) hp hz (by cases e; exact r.weak fun a z => z.imp (fun z => av_fr_of Kw s1 a z) id)⟩) G hid os σ H Q Kw ?_
  cases m with
  | bad => exact q
  | ex x => exact q
  | ok b => exact q
theorem evn_callNP {m : R β} {f : β → R (List α)} {E : XK} (ha : EvA C Γ .pa ta m) : EvN C Γ .pa (tCall (Pm C.T (.nw .pa) f) [] E ta) (m.bind fun b => (f b).nox) := fun G hid os σ H Q Kw q => by
  refine call_gen (M := .nw .pa) (P := fun G os σ H Q r => PoN C .pa G os σ H Q r.nox) ha (fun _ _ _ _ _ z => z) (fun _ _ _ _ _ x z => z) (fun G hid os σ H Q H1 a Kw s1 q => ⟨av .pa C.H0 G os, fun b z => same_ne s1 (Kw.avdom .pa b z), fun _ z => z, fun p vs H2 xs e s2 n hp hz r => q p vs H2 (s1.trans s2) (s1.free n) hp hz (by cases e; exact r)⟩) G hid os σ H Q Kw ?_
  cases m with
  | bad => exact q
  | ex x => exact q
  | ok b => exact q
theorem evm_callQF {m : R β} {f : β → R (α)} (ha : EvA C Γ .raw ta m) : Evm C Γ .fr (tCallS (PmX C.T (.val .fr) f) (WE fun _ _ _ _ => False) ta) (m.bind fun b => (f b).nox) := fun G hid os σ H Q Kw q => by
  refine callq_gen (M := .val .fr) (P := fun G os σ H Q r => PoV C .fr G os σ H Q r.nox) ha (fun _ _ _ _ _ z => z) (fun _ _ _ _ _ x z => z) (fun G hid os σ H Q H1 a Kw s1 q => ⟨fun _ => False, fun _ z => z.elim, fun _ z => z.elim, fun v H2 s2 r => q v H2 (s1.trans s2) (r.weak fun a z => av_fr_of Kw s1 a z)⟩) G hid os σ H Q Kw ?_
  cases m with
  | bad => exact q
  | ex x => exact q
  | ok b => exact q
theorem evm_callQP {m : R β} {f : β → R (α)} (ha : EvA C Γ .pa ta m) : Evm C Γ .pa (tCallS (PmX C.T (.val .pa) f) (WE fun _ _ _ _ => False) ta) (m.bind fun b => (f b).nox) := fun G hid os σ H Q Kw q => by
  refine callq_gen (M := .val .pa) (P := fun G os σ H Q r => PoV C .pa G os σ H Q r.nox) ha (fun _ _ _ _ _ z => z) (fun _ _ _ _ _ x z => z) (fun G hid os σ H Q H1 a Kw s1 q => ⟨av .pa C.H0 G os, fun b z => same_ne s1 (Kw.avdom .pa b z), fun _ z => z, fun v H2 s2 r => q v H2 (s1.trans s2) r⟩) G hid os σ H Q Kw ?_
  cases m with
  | bad => exact q
  | ex x => exact q
  | ok b => exact q
theorem evn_callQF {m : R β} {f : β → R (List α)} (ha : EvA C Γ .raw ta m) : EvN C Γ .fr (tCallS (PmX C.T (.nw .fr) f) (WE fun _ _ _ _ => False) ta) (m.bind fun b => (f b).nox) := fun G hid os σ H Q Kw q => by
  refine callq_gen (M := .nw .fr) (P := fun G os σ H Q r => PoN C .fr G os σ H Q r.nox) ha (fun _ _ _ _ _ z => z) (fun _ _ _ _ _ x z => z) (fun G hid os σ H Q H1 a Kw s1 q => ⟨fun _ => False, fun _ z => z.elim, fun _ z => z.elim, fun p vs H2 xs e s2 n hp hz r => q p vs H2 (s1.trans s2) (s1.free n) hp hz (by cases e; exact r.weak fun a z => z.imp (fun z => av_fr_of Kw s1 a z) id)⟩) G hid os σ H Q Kw ?_
  cases m with
  | bad => exact q
  | ex x => exact q
  | ok b => exact q
theorem evn_callQP {m : R β} {f : β → R (List α)} (ha : EvA C Γ .pa ta m) : EvN C Γ .pa (tCallS (PmX C.T (.nw .pa) f) (WE fun _ _ _ _ => False) ta) (m.bind fun b => (f b).nox) := fun G hid os σ H Q Kw q => by
  refine callq_gen (M := .nw .pa) (P := fun G os σ H Q r => PoN C .pa G os σ H Q r.nox) ha (fun _ _ _ _ _ z => z) (fun _ _ _ _ _ x z => z) (fun G hid os σ H Q H1 a Kw s1 q => ⟨av .pa C.H0 G os, fun b z => same_ne s1 (Kw.avdom .pa b z), fun _ z => z, fun p vs H2 xs e s2 n hp hz r => q p vs H2 (s1.trans s2) (s1.free n) hp hz (by cases e; exact r)⟩) G hid os σ H Q Kw ?_
  cases m with
  | bad => exact q
  | ex x => exact q
  | ok b => exact q
end
end Pv

set_option Elab.async false
set_option linter.all false
set_option maxRecDepth 100000
namespace Pv
open PySem PySem.Spec L2
open Enc (enc)
open Encs (encs)
/-! ### texts -/
theorem str_ok {x : Str} : PyData.canLay0 (.str x) = true ↔ ∀ c, c ∈ x.cps.toList → c < 0x110000 := by
  show (x.cps.all (· < 0x110000)) = true ↔ _
  rw [← Array.all_toList, List.all_eq_true]
  exact ⟨fun h c hc => by simpa using h c hc, fun h c hc => by simpa using h c hc⟩
theorem str_len (x : Str) : x.length = x.cps.toList.length := by
  show x.cps.size = _
  rw [Array.length_toList]
theorem str_rep' {T : CT} {H : Hp} {G : Addr → Prop} {x : Str} (h1 : x.length ≤ LIM) (h2 : ∀ c, c ∈ x.cps.toList → c < 0x110000) : Rep T H G (enc x) (.str x) := ⟨rfl, h1, str_ok.mpr h2⟩
def addS (x y : Str) : Option Str := optIf (x.length + y.length ≤ LIM) (x ++ y)
theorem cps_add (x y : Str) : (x ++ y).cps.toList = x.cps.toList ++ y.cps.toList := by
  rw [Str.cps_append, Array.toList_append]
def atS (x : Str) (i : Int) : Option Str := (atI x.cps.toList i).map fun c => ⟨#[c]⟩
def strL (x : Str) : List Str := x.cps.toList.map fun c => ⟨#[c]⟩
def joinS (a : Str) (ys : List Str) : Option Str := optIf ((ys.map (·.length)).sum + ys.length * a.length ≤ LIM) (Txt.join a ys)
section
variable {T : CT} {x y : Str} {i : Int}
theorem rv_addS : RvF T (fun x y H Q => ∃ i j, x = .str i ∧ y = .str j ∧ i.length + j.length ≤ sizeLine ∧ Q (.str (i ++ j)) H) x y (addS x y) := fun H v w Q c hx hy e q => by
  obtain ⟨e1, e2⟩ := optIf_some e
  obtain ⟨rfl, l1, k1⟩ := str_rep hx
  obtain ⟨rfl, l2, k2⟩ := str_rep hy
  refine ⟨x, y, rfl, rfl, Nat.le_of_lt (lim_size e1), q _ ?_⟩
  rw [← e2]
  refine str_rep' (by rw [Str.length_append]; exact e1) fun c hc => ?_
  rw [cps_add, List.mem_append] at hc
  exact hc.elim (str_ok.mp k1 c) (str_ok.mp k2 c)
theorem mem_atI {α : Type} {xs : List α} {i : Int} {a : α} (h : atI xs i = some a) : a ∈ xs := by
  obtain ⟨j, _, h2, _⟩ := atI_get h
  exact List.mem_of_getElem? h2
theorem rv_ixS : RvF T rIxS x i (atS x i) := fun H v w Q c hx hy e q => by
  obtain ⟨rfl, l1, k1⟩ := str_rep hx
  cases e1 : atI x.cps.toList i with
  | none => unfold atS at e; rw [e1] at e; cases e
  | some k =>
    unfold atS at e
    rw [e1] at e
    cases e
    refine ⟨x, i, k, rfl, hy, Nat.le_of_lt (lim_size l1), e1, q _ (str_rep' (by show 1 ≤ LIM; decide) fun c hc => ?_)⟩
    have hc : c ∈ [k] := hc
    rw [List.mem_singleton] at hc
    rw [hc]
    exact str_ok.mp k1 k (mem_atI e1)
theorem ra_lenStr {b : Str × Unit} : RaF T (fun xs H Q => ∃ z : Str, xs = [.str z] ∧ z.length ≤ sizeLine ∧ Q (.int z.length) H) b (some (b.1.length : Int)) := fun H xs Q c r e q => by
  obtain ⟨v, e1, e2⟩ := reps1 (a := b.1) r
  obtain ⟨rfl, l1, _⟩ := str_rep e2
  cases e
  exact ⟨b.1, e1, Nat.le_of_lt (lim_size l1), q _ rfl⟩
end
section
variable {C : Cn} {Γ : List Sl} {l l1 l2 : Lv} {ta tb : TE} {to to2 : TO} {K : PySem.W.Frag}
theorem evm_slS {m1 : R Str} {m2 m3 : R (Option Int)} (ha : Evm C Γ l ta m1) (hb : EvO C Γ to m2) (hc : EvO C Γ to2 m3) : Evm C Γ .fr (tSl rSlS ta to to2) (m1.bind fun x => m2.bind fun a => m3.bind fun b => .ok (cutS x a b)) := fun G hid os σ H Q Kw q => by
  refine ha G hid os σ H _ Kw ?_
  cases e1 : m1 with
  | bad => rw [e1] at q; exact q
  | ex x => rw [e1] at q; exact q
  | ok x =>
    rw [e1] at q
    intro v H1 s1 r1
    refine hb G hid os σ H1 _ (Kw.same s1) ?_
    cases e2 : m2 with
    | bad => rw [e2] at q; exact q
    | ex x => rw [e2] at q; exact PoX.back s1 q
    | ok lo =>
      rw [e2] at q
      intro H2 s2
      refine hc G hid os σ H2 _ (Kw.same (s1.trans s2)) ?_
      cases e3 : m3 with
      | bad => rw [e3] at q; exact q
      | ex x => rw [e3] at q; exact PoX.back (s1.trans s2) q
      | ok hi =>
        rw [e3] at q
        intro H3 s3
        obtain ⟨rfl, z1, k1⟩ := str_rep r1
        refine ⟨x, rfl, Nat.le_of_lt (lim_size z1), q _ H3 ((s1.trans s2).trans s3) (str_rep' (Nat.le_trans (cutS_length x lo hi) z1) fun c hc => str_ok.mp k1 c ?_)⟩
        exact List.mem_of_mem_drop (List.mem_of_mem_take hc)
theorem evi_str {m : R Str} (h : Evm C Γ l ta m) : EvI C Γ .fr (iStr ta) (m.bind fun x => .ok (strL x)) := fun G hid os σ H Q Kw q => by
  refine h G hid os σ H _ Kw ?_
  cases e1 : m with
  | bad => rw [e1] at q; exact q
  | ex x => rw [e1] at q; exact q
  | ok x =>
    rw [e1] at q
    intro v H1 s1 r1
    obtain ⟨rfl, z1, k1⟩ := str_rep r1
    have hlen : (strL x).length = x.cps.size := by
      unfold strL
      rw [List.length_map, Array.length_toList]
    refine ⟨x, rfl, q _ [] H1 s1 (fun q hq => by cases hq) (by rw [hlen]; exact z1) ⟨fun i a H2 A ha hd hp => ?_, fun i H2 A hi hp => ?_⟩⟩
    · have hi : i < (strL x).length := (List.getElem?_eq_some_iff.mp ha).1
      rw [hlen] at hi
      refine ⟨hi, fun w H3 hy => ?_⟩
      obtain ⟨rfl, c, hc, rfl⟩ := hy
      have ha2 : (x.cps.toList.map fun c => (⟨#[c]⟩ : Str))[i]? = some a := ha
      rw [List.getElem?_map, Array.getElem?_toList, hc] at ha2
      cases ha2
      refine ⟨Same.refl _, str_rep' (by show 1 ≤ LIM; decide) fun k hk => ?_⟩
      have hk : k ∈ [c] := hk
      rw [List.mem_singleton] at hk
      rw [hk]
      refine str_ok.mp k1 c ?_
      rw [← Array.getElem?_toList] at hc
      exact List.mem_of_getElem? hc
    · show x.cps.size ≤ i
      rw [← hlen]
      exact hi
theorem strs_of {T : CT} {H : Hp} {G : Addr → Prop} : ∀ {xs : List Str} {vs : List V}, Reps T H G (xs.map enc) vs → vs = xs.map V.str ∧ ∀ y, y ∈ xs → y.length ≤ LIM ∧ ∀ c, c ∈ y.cps.toList → c < 0x110000
  | [], vs, r => ⟨r, fun y h => by cases h⟩
  | x :: xs, vs, r => by
    rw [List.map_cons] at r
    unfold Reps at r
    obtain ⟨v, r', e, r1, r2⟩ := r
    obtain ⟨e1, e2⟩ := strs_of r2
    obtain ⟨rfl, z1, k1⟩ := str_rep r1
    refine ⟨by rw [e, e1]; rfl, fun y hy => ?_⟩
    rcases List.mem_cons.mp hy with z | z
    · rw [z]
      exact ⟨z1, str_ok.mp k1⟩
    · exact e2 y z
theorem joinL_len (S : List Nat) : ∀ ps : List (List Nat), (TL.joinL S ps).length ≤ (ps.map (·.length)).sum + ps.length * S.length
  | [] => Nat.zero_le _
  | [p] => by simp [TL.joinL]
  | p :: q :: r => by
    have ih := joinL_len S (q :: r)
    show (p ++ (S ++ TL.joinL S (q :: r))).length ≤ _
    rw [List.length_append, List.length_append, List.map_cons, List.sum_cons, List.length_cons (as := q :: r), Nat.add_mul, Nat.one_mul]
    omega
theorem joinL_mem (S : List Nat) (c : Nat) : ∀ ps : List (List Nat), c ∈ TL.joinL S ps → c ∈ S ∨ ∃ p, p ∈ ps ∧ c ∈ p
  | [], h => by cases h
  | [p], h => .inr ⟨p, List.mem_cons_self .., h⟩
  | p :: q :: r, h => by
    have h : c ∈ p ++ (S ++ TL.joinL S (q :: r)) := h
    rw [List.mem_append, List.mem_append] at h
    rcases h with h | h | h
    · exact .inr ⟨p, List.mem_cons_self .., h⟩
    · exact .inl h
    · rcases joinL_mem S c (q :: r) h with z | ⟨p', h1, h2⟩
      · exact .inl z
      · exact .inr ⟨p', List.mem_cons_of_mem _ h1, h2⟩
theorem join_tl (a : Str) (ys : List Str) : (Txt.join a ys).cps.toList = TL.joinL a.cps.toList (ys.map fun y => y.cps.toList) := by
  rw [TL.join_eq]
  exact TL.tl_join a ys
theorem evm_join {m1 : R Str} {m2 : R (List Str)} (ha : Evm C Γ l1 ta m1) (hb : Evm C Γ l2 tb m2) :
    Evm C Γ .fr (tBM K "str" (fun x xs H Q => ∃ a p, ∃ ys : List Str, x = .str a ∧ xs = [.ref p] ∧ (SqL K H p (ys.map V.str) ∨ SqT K H p (ys.map V.str)) ∧ (ys.map (·.length)).sum + ys.length * a.length ≤ 16777216 ∧ Q (.str (Txt.join a ys)) H) ta (tCons tb tNil))
      (m1.bind fun x => m2.bind fun ys => R.of (joinS x ys)) := fun G hid os σ H Q Kw q => by
  refine ha G hid os σ H _ Kw ?_
  cases e1 : m1 with
  | bad => rw [e1] at q; exact q
  | ex x => rw [e1] at q; exact q
  | ok x =>
    rw [e1] at q
    intro v H1 s1 r1
    obtain ⟨rfl, z1, k1⟩ := str_rep r1
    refine ⟨by rfl, hb G hid os σ H1 _ (Kw.same s1) ?_⟩
    cases e2 : m2 with
    | bad => rw [e2] at q; exact q
    | ex x => rw [e2] at q; exact PoX.back s1 q
    | ok ys =>
      rw [e2] at q
      intro w H2 s2 r2
      have q : PoV C .fr G os σ H Q (R.of (joinS x ys)) := q
      cases e3 : joinS x ys with
      | none => rw [e3] at q; exact q.elim
      | some z =>
        rw [e3] at q
        obtain ⟨h1, h2⟩ := optIf_some e3
        obtain ⟨p, vs, e, _, hp, _, rs⟩ := lst_rep r2
        obtain ⟨ev, hall⟩ := strs_of rs
        refine ⟨x, p, ys, rfl, by rw [e], .inl (by rw [← ev]; exact rd_seqL hp), Nat.le_trans h1 (by decide), q _ H2 (s1.trans s2) ?_⟩
        rw [← h2]
        have hl : (Txt.join x ys).length ≤ LIM := by
          rw [str_len, join_tl]
          refine Nat.le_trans (joinL_len _ _) (Nat.le_trans (Nat.le_of_eq ?_) h1)
          rw [List.map_map, List.length_map, ← str_len]
          rfl
        refine str_rep' hl fun c hc => ?_
        rw [join_tl] at hc
        rcases joinL_mem _ c _ hc with z | ⟨p', h3, h4⟩
        · exact str_ok.mp k1 c z
        · obtain ⟨y, hy, rfl⟩ := List.mem_map.mp h3
          exact (hall y hy).2 c h4
end
end Pv

set_option Elab.async false
set_option linter.all false
set_option maxRecDepth 100000
namespace Pv
open PySem PySem.Spec L2
open Enc (enc)
open Encs (encs)
section
variable {C : Cn} {Γ : List Sl} {l l1 l2 : Lv} {α β γ : Type} [Enc α] [Enc β] [Enc γ] {K : PySem.W.Frag} {wi : TI} {g : TG} {tt : TT} {te : TE} {vs : List Nat}
/-- a comprehension in a place where something may be raised: nothing in it raises -/
theorem evn_lcN {l3 : Lv} {m : R (List α)} {fg : List Sl → α → List Sl} {mt : α → R Bool} {me : α → R β} (hl : l.st) (hl1 : l3.st) (hcv : l1 = l3 ∨ ∀ (H H' : Hp) (A A' : Addr → Prop) (a : α) (v : V), Rep C.T H A (enc a) v → Rep C.T H' A' (enc a) v) (hi : EvI C Γ l1 wi m) (hvs : ∀ j ∈ vs, j < Γ.length ∧ ∀ s, Γ[j]? = some s → notOw s = true) (hg : TgB (α := α) C l3 g vs fg)
    (ht : ∀ a, EvT C (fg (forget Γ vs) a) tt (mt a)) (he : ∀ a, Evm C (fg (forget Γ vs) a) l te (me a)) : EvN C Γ l (tLc wi g tt te vs) (m.bind fun xs => (compR mt me xs).nox) := fun G hid os σ H Q Kw q => by
  refine hi G hid os σ H _ Kw ?_
  cases e1 : m with
  | bad => rw [e1] at q; exact q
  | ex x => rw [e1] at q; exact q
  | ok xs =>
    rw [e1] at q
    intro J pins H1 s1 hp hz iv D nD
    have q : PoN C l G os σ H Q (compR mt me xs).nox := q
    have hno : ∀ j ∈ vs, os[j]? = some none := fun j hj => none_of Kw (hvs j hj).1 (hvs j hj).2
    obtain ⟨os', Kv, mo, mo', mn⟩ := (Kw.same s1).wipe vs hno
    have avw : ∀ l a, av l C.H0 G os' a → av l C.H0 G os a := fun l a => av_less mo l a
    -- what is held before turn i: the list so far, and what is wanted of the rest
    refine ⟨fun i k H2 => k = xs.length - i ∧ i ≤ xs.length ∧ ∃ acc us, Same H1 H2 ∧ H2 D = some (.lst us) ∧ us.length = acc.length ∧ acc.length ≤ i ∧ Reps C.T H2 (fun b => av l C.H0 G os b ∨ b = D) (acc.map enc) us ∧
      (match compR mt me (xs.drop i) with | .ok ys => ∀ us2 H3, Same H1 H3 → H3 D = some (.lst us2) → us2.length ≤ LIM → Reps C.T H3 (fun b => av l C.H0 G os b ∨ b = D) ((acc ++ ys).map enc) us2 → Q (.ref D) H3 | _ => False),
      ⟨xs.length, by simp, Nat.zero_le _, [], [], same_new nD, upd_same, rfl, Nat.le_refl _, reps_nil, ?_⟩, fun i k H2 hk => ?_⟩
    · rw [List.drop_zero]
      cases e2 : compR mt me xs with
      | bad => rw [e2] at q; exact q
      | ex x => rw [e2] at q; exact q
      | ok ys =>
        rw [e2] at q
        exact fun us2 H3 s3 h3 hz3 r3 => q D us2 H3 (s1.trans s3) (s1.free nD) h3 hz3 r3
    · obtain ⟨ek, hi', acc, us, s2, hD, hlen, hle, rs, hq⟩ := hk
      have pinsR : ∀ z ∈ pins, Rep C.T H2 (fun b => av l1 C.H0 G os b ∨ b = D) z.1 z.2 := fun z hz => ((hp z hz).free nD).same s2
      have domA : ∀ b, (av l1 C.H0 G os b ∨ b = D) → H2 b ≠ none := fun b hb => by
        rcases hb with hb | hb
        · exact same_ne (s1.trans s2) (Kw.avdom l1 b hb)
        · rw [hb, hD]; exact fun z => nomatch z
      by_cases hlt : i < xs.length
      · right
        have hx : xs[i]? = some xs[i] := List.getElem?_eq_getElem hlt
        obtain ⟨hgo, hy⟩ := iv.go i _ H2 _ hx domA pinsR
        refine ⟨hgo, fun H3 => ∃ k', k' < k ∧ (k' = xs.length - (i + 1) ∧ i + 1 ≤ xs.length ∧ ∃ acc us, Same H1 H3 ∧ H3 D = some (.lst us) ∧ us.length = acc.length ∧ acc.length ≤ i + 1 ∧ Reps C.T H3 (fun b => av l C.H0 G os b ∨ b = D) (acc.map enc) us ∧
          (match compR mt me (xs.drop (i + 1)) with | .ok ys => ∀ us2 H3, Same H1 H3 → H3 D = some (.lst us2) → us2.length ≤ LIM → Reps C.T H3 (fun b => av l C.H0 G os b ∨ b = D) ((acc ++ ys).map enc) us2 → Q (.ref D) H3 | _ => False)), fun H3 hh => hh, fun x H3 hyx => ?_⟩
        obtain ⟨s3, rx⟩ := hy x H3 hyx
        have K3 : OkW C (fun b => G b ∨ b = D) (forget Γ vs) hid os' (L2.wipe σ vs) H3 := Kv.more (s2.trans s3) nD (same_ne s3 (by rw [hD]; exact fun z => nomatch z))
        refine hg _ hid os' _ H3 _ x xs[i] _ K3 (fun j hj => mn j (hno j hj)) (hcv.elim (fun e => by rw [← e]; exact rx.weak fun b z => (av_ext' z).imp (avw l1 b) id) fun k => k _ _ _ _ _ _ rx) (fun os2 σ2 K4 bar mo2 => ⟨?_, ?_⟩)
        · exact (wipe_ext (σ := σ2) (τ := L2.wipe σ vs) bar.1.symm fun j hj => (bar.2 j hj).symm).trans (wipe_ext (wipe_len σ vs) fun j hj => wipe_out hj)
        · -- the test, the element
          have hd : xs.drop i = xs[i] :: xs.drop (i + 1) := List.drop_eq_getElem_cons hlt
          rw [hd] at hq
          unfold compR at hq
          refine ht xs[i] _ hid os2 σ2 H3 _ K4 ?_
          cases e2 : mt xs[i] with
          | bad => rw [e2] at hq; exact hq
          | ex z => rw [e2] at hq; exact hq.elim
          | ok b =>
            rw [e2] at hq
            intro H4 s4
            have hD4 : H4 D = some (.lst us) := s4 _ _ (s3 _ _ hD)
            have s14 := (s2.trans s3).trans s4
            cases b with
            | false =>
              refine iteF ⟨xs.length - (i + 1), by omega, rfl, by omega, acc, us, s14, hD4, hlen, by omega, rs.same (s3.trans s4), ?_⟩
              exact hq
            | true =>
              refine iteT (he xs[i] _ hid os2 σ2 H4 _ (K4.same s4) ?_)
              have hq : (match (me xs[i]).bind fun y => (compR mt me (xs.drop (i + 1))).bind fun ys => R.ok (y :: ys) with | .ok ys => ∀ us2 H3, Same H1 H3 → H3 D = some (.lst us2) → us2.length ≤ LIM → Reps C.T H3 (fun b => av l C.H0 G os b ∨ b = D) ((acc ++ ys).map enc) us2 → Q (.ref D) H3 | _ => False) := hq
              cases e3 : me xs[i] with
              | bad => rw [e3] at hq; exact hq
              | ex z => rw [e3] at hq; exact hq.elim
              | ok y =>
                rw [e3] at hq
                intro v H5 s5 rv
                have hD5 : H5 D = some (.lst us) := s5 _ _ hD4
                have s15 := s14.trans s5
                refine ⟨us, hD5, lim_size (by omega), xs.length - (i + 1), by omega, rfl, by omega, acc ++ [y], us ++ [v], mut_same s15 nD, upd_same, by simp [hlen], by simp; omega, ?_, ?_⟩
                · rw [List.map_append]
                  have gD : (fun b => av l C.H0 G os b ∨ b = D) D := .inr rfl
                  exact Reps.upd gD ((rs.same ((s3.trans s4).trans s5)).app (reps_cons (rv.weak fun b z => av_ext hl (z.imp (av_less (fun a z => mo2 a (mo' a z)) l b) id)) reps_nil))
                · have hq : (match (compR mt me (xs.drop (i + 1))).bind fun ys => R.ok (y :: ys) with | .ok ys => ∀ us2 H3, Same H1 H3 → H3 D = some (.lst us2) → us2.length ≤ LIM → Reps C.T H3 (fun b => av l C.H0 G os b ∨ b = D) ((acc ++ ys).map enc) us2 → Q (.ref D) H3 | _ => False) := hq
                  cases e4 : compR mt me (xs.drop (i + 1)) with
                  | bad => rw [e4] at hq; exact hq
                  | ex z => rw [e4] at hq; exact hq
                  | ok ys =>
                    rw [e4] at hq
                    show ∀ us2 H3, _
                    rw [List.append_assoc]
                    exact hq
      · left
        refine ⟨iv.stop i H2 _ (by omega) pinsR, ?_⟩
        have hd : xs.drop i = [] := List.drop_eq_nil_of_le (by omega)
        rw [hd] at hq
        have hq : ∀ us2 H3, Same H1 H3 → H3 D = some (.lst us2) → us2.length ≤ LIM → Reps C.T H3 (fun b => av l C.H0 G os b ∨ b = D) ((acc ++ []).map enc) us2 → Q (.ref D) H3 := hq
        rw [List.append_nil] at hq
        exact hq us H2 s2 hD (by omega) rs
end
end Pv
namespace Pv
theorem bd_castB {β : Type} {C : Cn} {Γ : List Sl} {t : L2.TS} {m m' : R β} {out : β → Oc} (h : BD C Γ t m out) (e : m = m') : BD C Γ t m' out := e ▸ h
end Pv

set_option Elab.async false
set_option linter.all false
set_option maxRecDepth 100000
namespace Pv
open PySem PySem.Spec PyProof.Rows L2
/-! ### enumerate(a text) -/
def Ites (x : Str) : It := ⟨fun i _ => i < x.cps.size, fun i H v H' => ∃ T c, v = .ref T ∧ H T = none ∧ H' = upd H T (.tup [.int (i : Nat), .str ⟨#[c]⟩]) ∧ x.cps[i]? = some c, fun i _ => x.cps.size ≤ i⟩
theorem enum_endS {prog : Program} {w : World} {A : Around} {E : Value → Shared → Prop} {s : Shared} {e it : Addr} {x : Str} {t : Tok} {ty : String} {i : Nat} {old : Value} {Q : Option Value → Shared → Prop} (hh : A.handled = none) (he : IsEnum s.heap e it i old) (hit : s.heap.IsStrIter it ty x t i)
    (hty : ty = "str_ascii_iterator" ∨ ty = "str_iterator") (hg : x.cps.size ≤ i) (hQ : ∀ h', Heap.ExtBut it s.heap h' → Q none { s with heap := h' }) : wpAny (model prog w) A (pyNext (.ref e)) Q E s := by
  have hT : s.TypeIs (.ref e) "enumerate" := ⟨_, he, rfl⟩
  have hx : x.cps[i]? = none := Array.getElem?_eq_none hg
  have go : wpAny (model prog w) A.in1.in1 (Builtin.SmallTypes.nextOf (.ref it)) (fun _ _ => False) (fun v s' => ∃ h' z, v = .ref z ∧ s' = { s with heap := h' } ∧ Heap.ExtBut it s.heap h' ∧ ∃ o, h'.get? z = some o ∧ o.cls = .type "StopIteration") s := by
    rcases hty with z | z
    · subst z; exact wpAny_nextOf_ascii_end hh hit hx fun h' z hb ho => ⟨h', z, rfl, rfl, hb, ho⟩
    · subst z; exact wpAny_nextOf_wide_end hh hit hx fun h' z hb ho => ⟨h', z, rfl, rfl, hb, ho⟩
  unfold pyNext
  refine wpAny_bind (wpAny_attempt (wpAny_callSpecial?_slot (name := Str.ofString "__next__") hT F.slot_enumerate_next (wpAny_call_entry F.slot_enumerate_next hT F.entry_enumerate_next ?_ (F.args_enumerate_next_1 _))))
  show wpAny _ _ (field (.ref e) 2 >>= _) _ _ _
  refine wpAny_bind (wpAny_field he rfl (x := .ref it) rfl (wpAny_bind ?_))
  refine wpAny_mono (wpAny_of_in1 go) (fun _ _ z => z.elim) fun v s' hs => ?_
  obtain ⟨h', z, rfl, rfl, hb, o, ho, hc⟩ := hs
  refine wpAny_bind (wpAny_isInstance (T := "StopIteration") (b := true) ⟨o, ho, hc⟩ isSubtype_stop ?_)
  exact wpAny_pure (hQ _ hb)
theorem turn_enumS {P : Program} {w : World} {K : PySem.W.Frag} {elts : List Expr} {kk : Nat} {tpos : Pos} (e it : Addr) (x : Str) (t : Tok) (ty : String) (hty : ty = "str_ascii_iterator" ∨ ty = "str_iterator") :
    Turn P w K (.Tuple elts kk tpos) (Ites x) [e, it] e (fun i h => (∃ old, IsEnum h e it ((i : Nat) : Int) old) ∧ h.IsStrIter it ty x t i ∧ e ≠ it) where
  mem := by simp
  obj := fun i h st b hb => by
    obtain ⟨⟨old, he⟩, ⟨o, ho, hc, hd⟩, _⟩ := st
    rcases (show b = e ∨ b = it by simpa using hb) with z | z
    · subst z; exact ⟨_, he, fun v q => nomatch q⟩
    · subst z; exact ⟨o, ho, fun v q => by rw [hd] at q; cases q⟩
  keep := fun i h h' st k => by
    obtain ⟨⟨old, he⟩, ⟨o, ho, r⟩, hne⟩ := st
    exact ⟨⟨old, k e (by simp) _ he⟩, ⟨o, k it (by simp) o ho, r⟩, hne⟩
  item := by
    intro X hP hw hK hc i pins s σ H E I hf st hg
    subst hP hw hK
    obtain ⟨⟨old, he⟩, hit, hne⟩ := st
    have hel : e < s.heap.objs.size := Heap.lt_size he
    have hil : it < s.heap.objs.size := by obtain ⟨_, q, _⟩ := hit; exact Heap.lt_size q
    have D : Draws X.prog X.w X.A.in1 it [it] x.cps.size (SignAt x) (fun i h => h.IsStrIter it ty x t i) := by
      rcases hty with z | z
      · rw [z]; exact Draws.strAscii (A := X.A.in1) (I.ok.hd hc) it x t
      · rw [z]; exact Draws.strWide (A := X.A.in1) (I.ok.hd hc) it x t
    refine wpAny_pyNext_enum_itemD D he hit hg hne (by simpa using hne) fun v h' tk hv ho hit' hT hsz hk => ?_
    obtain ⟨c, u, hcx, rfl⟩ := hv
    refine ⟨_, rfl, wpAny_letOwnedTupleGo_enum (s := { s with heap := h', toks := tk + 1 }) ho fun h'' he' sb => ?_⟩
    have hT2 : h''.get? s.heap.objs.size = some { cls := .type "tuple", data := .seq #[.int i tk, .str ⟨#[c]⟩ u] } := (sb.2 _ (Nat.ne_of_gt hel)).trans hT
    have new : ObjOk X.prog X.w (upd H s.heap.objs.size (.tup [.int (i : Nat), .str ⟨#[c]⟩])) h'' s.heap.objs.size (.tup [.int (i : Nat), .str ⟨#[c]⟩]) :=
      ⟨by show 2 ≤ sizeLine; decide, [.int i tk, .str ⟨#[c]⟩ u], .cons ⟨_, rfl⟩ (.cons ⟨_, rfl⟩ .nil), ⟨_, hT2, rfl, _, rfl⟩⟩
    have I1 : L2.Inv X pins σ (upd H s.heap.objs.size (.tup [.int (i : Nat), .str ⟨#[c]⟩])) { s with heap := h'', toks := tk + 1 } :=
      I.turnedNew (ch := [e, it]) (fun b ob hb q => (sb.2 b (fun z => hb (by simp [z]))).trans (hk b ob (fun z => hb (by simp [z])) (fun z => hb (by simp [z])) q)) hf (Nat.le_refl _) new
    refine ⟨.ref s.heap.objs.size, _, I1, rfl, ⟨_, c, rfl, I.hok.fresh (Nat.le_refl _), rfl, hcx⟩, ⟨⟨.str ⟨#[c]⟩ u, ?_⟩, ?_, hne⟩, fun b hb => ?_⟩
    · rw [show ((i + 1 : Nat) : Int) = (i : Int) + 1 by omega]; exact he'
    · obtain ⟨o, h1, h2⟩ := hit'
      exact ⟨o, (sb.2 it (Ne.symm hne)).trans h1, h2⟩
    · have hb' : b < s.heap.objs.size := by
        rcases (show b = e ∨ b = it by simpa using hb) with z | z
        · rw [z]; exact hel
        · rw [z]; exact hil
      rw [upd_ne (Nat.ne_of_lt hb')]
      exact (hf b hb).1
  done := by
    intro X hP hw hK hc i pins s σ H E I hf st hg
    subst hP hw hK
    obtain ⟨⟨old, he⟩, hit, hne⟩ := st
    obtain ⟨f0, f1, f2, f3, f4, f5⟩ := hf it (by simp)
    exact enum_endS (I.ok.hd hc) he hit hty hg fun h' eb => ⟨rfl, I.turned (t' := s.toks) (fun b o hb q => eb b o hb q) f0 f1 f3 f4 f5⟩
  self := fun A i s Q E st h => let ⟨⟨_, he⟩, _⟩ := st; wpAny_pyIter_enum he h
def iEnumS (ta : TA) : TI := fun σ H R => ta σ H fun vs H1 => ∃ x, vs = [.str x] ∧ R (Ites x) H1
theorem pi_enumS {X : Cx} {e : Expr} {ta : TA} {p pos tpos : Pos} {elts : List Expr} {kk : Nat} (hg : Gl X "enumerate") (hm : X.mg "enumerate" = none) (ha : PA X [e] ta) (hs : starEach [e] X.env = [(false, eval e X.env)] := by rfl) :
    PI X (.Tuple elts kk tpos) (.Call (.Name "enumerate" p) [e] [] pos) (iEnumS ta) := by
  refine ⟨fun pins s σ H R I h => Call_ (ld_blt I hg hm boot_enumerate (PyProof.Rows.callWith_type1 (thn (ha.run pos pins s σ H _ I h) fun us s1 ⟨vs, H1, I1, r1, x, ex, q⟩ => ?_) hs rfl))⟩
  subst ex
  cases r1 with
  | cons r rr =>
    cases rr
    obtain ⟨t, rfl⟩ := r
    refine call_enumerate_str fun h' he hit hsz hk => wpAny_pyIter_enum he ?_
    have I2 : L2.Inv X pins σ H1 { s1 with heap := h' } := I1.kept (t' := s1.toks) hk
    refine ⟨s1.heap.objs.size + 1, [s1.heap.objs.size + 1, s1.heap.objs.size], _, _, H1, rfl, I2, turn_enumS (s1.heap.objs.size + 1) s1.heap.objs.size x t (strIterType x) ?_, ⟨⟨.none, he⟩, hit, Nat.succ_ne_self _⟩, fun b hb => ?_, q⟩
    · unfold strIterType
      cases x.cps.all (· < 128)
      · exact .inr rfl
      · exact .inl rfl
    · have hle : s1.heap.objs.size ≤ b := by
        rcases (show b = s1.heap.objs.size + 1 ∨ b = s1.heap.objs.size by simpa using hb) with z | z
        · rw [z]; exact Nat.le_add_right _ _
        · rw [z]; exact Nat.le_refl _
      exact I1.fpOk hle (I1.hok.fresh hle)
section
open Enc (enc)
open Encs (encs)
variable {C : Cn} {Γ : List Sl} {l : Lv} {ta : TE}
theorem evi_enumS {m : R Str} (h : Evm C Γ l ta m) : EvI C Γ .fr (iEnumS (tCons ta tNil)) (m.bind fun x => .ok (enumF (strL x))) := fun G hid os σ H Q Kw q => by
  refine h G hid os σ H _ Kw ?_
  cases e1 : m with
  | bad => rw [e1] at q; exact q
  | ex x => rw [e1] at q; exact q
  | ok x =>
    rw [e1] at q
    intro v H1 s1 r1
    obtain ⟨rfl, z1, k1⟩ := str_rep r1
    have hlen : (enumF (strL x)).length = x.cps.size := by
      simp [enumF, strL]
    refine ⟨x, rfl, q _ [] H1 s1 (fun q hq => by cases hq) (by rw [hlen]; exact z1) ⟨fun i a H2 A ha hd hp => ?_, fun i H2 A hi hp => by rw [hlen] at hi; exact hi⟩⟩
    have hi : i < (enumF (strL x)).length := (List.getElem?_eq_some_iff.mp ha).1
    rw [hlen] at hi
    refine ⟨hi, fun w H3 hy => ?_⟩
    obtain ⟨d, c, rfl, nd, rfl, hc⟩ := hy
    have ea : a = ⟨((i : Int), (⟨#[c]⟩ : Str), ())⟩ := by
      simp only [enumF, strL, List.getElem?_mapIdx, List.getElem?_map, Array.getElem?_toList, hc] at ha
      exact (Option.some.inj ha).symm
    have hm : c ∈ x.cps.toList := by
      rw [← Array.getElem?_toList] at hc
      exact List.mem_of_getElem? hc
    refine ⟨same_new nd, ?_⟩
    rw [ea]
    show Rep C.T (upd H2 d (.tup [.int i, .str ⟨#[c]⟩])) A (.tup [.int i, .str ⟨#[c]⟩]) (.ref d)
    unfold Rep
    refine ⟨d, _, rfl, fun z => hd d z nd, upd_same, by show 2 ≤ LIM; decide, reps_cons rfl (reps_cons (str_rep' (by show 1 ≤ LIM; decide) fun k hk => ?_) reps_nil)⟩
    have hk : k ∈ [c] := hk
    rw [List.mem_singleton] at hk
    rw [hk]
    exact str_ok.mp k1 c hm
end
theorem k_enumS {X : Cx} {e : Expr} {ta : TA} {p pos tpos : Pos} {elts : List Expr} {kk : Nat} (hg : Gl X "enumerate") (hm : X.mg "enumerate" = none) (ha : PA X [e] ta) (hs : starEach [e] X.env = [(false, eval e X.env)] := by rfl) :
    PI X (.Tuple elts kk tpos) (.Call (.Name "enumerate" p) [e] [] pos) (iEnumS ta) := pi_enumS hg hm ha hs
end Pv

set_option Elab.async false
set_option linter.all false
set_option maxRecDepth 100000
namespace Pv
open PySem PySem.Spec L2
open Enc (enc)
open Encs (encs)
/-! ### defaults and keywords -/
/-- a def, called without the parameters whose defaults are dvs -/
structure KdV (P : Program) (w : World) (K : PySem.W.Frag) (mg : Str → Option Value) (base : Heap) (CX : CXT) (x : Str) (ps : List Str) (dvs : List V) (k : Nat) (sp : Sp) : Prop where
  ex : ∃ f fd ds, mg x = some (.ref f) ∧ PySem.W.keepIn K (.ref f) = true ∧ Binds K fd ps ds ∧ Vals dvs ds ∧ FnOk P w K mg base CX k f fd ps sp
/-- a def, called with n values by position and the keywords ks behind them, in the parameters' order -/
structure KdN (P : Program) (w : World) (K : PySem.W.Frag) (mg : Str → Option Value) (base : Heap) (CX : CXT) (x : Str) (ps : List Str) (n : Nat) (ks : List Str) (k : Nat) (sp : Sp) : Prop where
  ex : ∃ f fd g, mg x = some (.ref f) ∧ PySem.W.keepIn K (.ref f) = true ∧ KBn K fd ps n ks g (fun vs zs => vs ++ zs) ∧ FnOk P w K mg base CX k f fd ps sp
section
variable {X : Cx} {W : WX} {E : XK} {x : Str} {ps ks : List Str} {dvs : List V} {n k : Nat} {sp : Sp} {e : Expr} {es : List Expr} {kws : List Keyword} {t tk : TA} {p pos : Pos}
theorem pe_kvX (h : KdV X.prog X.w X.K X.mg X.base (L2N.CX X.prog X.w) x ps dvs k sp) (hx : L2N.Takes X W) (hr : Room k X.A) (hg : Gl X x) (ha : PA X (e :: es) t) (hd : (x == ("__debug__" : Str)) = false := by decide)
    (he : starEach (e :: es) X.env = (false, eval e X.env) :: starEach es X.env := by rfl) (hpl : (backTo pos (starEach es X.env)).any (·.1) = false := by rfl) :
    PE X (.Call (.Name x p) (e :: es) [] pos) (tCallSD sp dvs (WE W) t) := by
  obtain ⟨f, fd, ds, hm, hk, hb, hv, F⟩ := h.ex
  exact pe_callSD F hr hg hm hk hb hv (fun σ => L2N.passAt hx σ) ha hd he hpl
theorem pe_kv (h : KdV X.prog X.w X.K X.mg X.base CX0 x ps dvs k sp) (hr : Room k X.A) (hg : Gl X x) (ha : PA X (e :: es) t) (hd : (x == ("__debug__" : Str)) = false := by decide)
    (he : starEach (e :: es) X.env = (false, eval e X.env) :: starEach es X.env := by rfl) (hpl : (backTo pos (starEach es X.env)).any (·.1) = false := by rfl) :
    PE X (.Call (.Name x p) (e :: es) [] pos) (tCall sp dvs E0 t) := by
  obtain ⟨f, fd, ds, hm, hk, hb, hv, F⟩ := h.ex
  exact pe_call F hr hg hm hk hb hv C8.pass0 ha hd he hpl
theorem pe_knX (h : KdN X.prog X.w X.K X.mg X.base (L2N.CX X.prog X.w) x ps n ks k sp) (hx : L2N.Takes X (fun cls d _ H => E cls d H)) (hr : Room k X.A) (hg : Gl X x) (ha : PA X (e :: es) t) (hkw : PK X kws tk)
    (hall : (backToKw pos (keywordEach kws X.env)).all (·.1.isSome) = true := by rfl) (hks : (backToKw pos (keywordEach kws X.env)).filterMap (·.1) = ks := by rfl) (hdb : (x == ("__debug__" : Str)) = false := by decide)
    (he : starEach (e :: es) X.env = (false, eval e X.env) :: starEach es X.env := by rfl) (hpl : ((backTo pos (starEach (e :: es) X.env)).any (·.1) || (backToKw pos (keywordEach kws X.env)).any (·.1.isNone)) = false := by rfl) :
    PE X (.Call (.Name x p) (e :: es) kws pos) (tCallN n ks.length sp (fun vs zs => vs ++ zs) E t tk) := by
  obtain ⟨f, fd, g, hm, hk, hb, F⟩ := h.ex
  exact pe_callN F hr hg hm hk hb (L2N.passes_call hx fun _ _ _ _ h => h) ha hkw hall hks hdb he hpl
theorem pe_kn (h : KdN X.prog X.w X.K X.mg X.base CX0 x ps n ks k sp) (hr : Room k X.A) (hg : Gl X x) (ha : PA X (e :: es) t) (hkw : PK X kws tk)
    (hall : (backToKw pos (keywordEach kws X.env)).all (·.1.isSome) = true := by rfl) (hks : (backToKw pos (keywordEach kws X.env)).filterMap (·.1) = ks := by rfl) (hdb : (x == ("__debug__" : Str)) = false := by decide)
    (he : starEach (e :: es) X.env = (false, eval e X.env) :: starEach es X.env := by rfl) (hpl : ((backTo pos (starEach (e :: es) X.env)).any (·.1) || (backToKw pos (keywordEach kws X.env)).any (·.1.isNone)) = false := by rfl) :
    PE X (.Call (.Name x p) (e :: es) kws pos) (tCallN n ks.length sp (fun vs zs => vs ++ zs) E0 t tk) := by
  obtain ⟨f, fd, g, hm, hk, hb, F⟩ := h.ex
  exact pe_callN F hr hg hm hk hb C8.pass0 ha hkw hall hks hdb he hpl
end
section
variable {C : Cn} {Γ : List Sl} {l : Lv} {α : Type} [Enc α] {β β' γ δ : Type} [Encs β] [Encs β'] [Encs γ] {ta : TA} {W : WX}
theorem eva_more {m : R β} {c : β → β'} {dps : List PV} {dvs : List V} (hc : ∀ b, encs (c b) = encs b ++ dps) (hd : ∀ H G, Reps C.T H G dps dvs) (ha : EvA C Γ l ta m) : EvA C Γ l (fun σ H Q => ta σ H fun vs H1 => Q (vs ++ dvs) H1) (m.bind fun b => .ok (c b)) := fun G hid os σ H Q Kw q => by
  refine ha G hid os σ H _ Kw ?_
  cases e : m with
  | bad => rw [e] at q; exact q
  | ex x => rw [e] at q; exact q
  | ok b =>
    rw [e] at q
    intro vs H1 s1 r1
    refine q _ H1 s1 ?_
    rw [hc]
    exact r1.app (hd _ _)
/-- arguments by position, then those by keyword -/
theorem eva_two {m : R β} {mk : R γ} {c : β → γ → β'} {tk : TA} {n k : Nat} (hn : ∀ b : β, (encs b).length = n) (hk : ∀ z : γ, (encs z).length = k) (hc : ∀ b z, encs (c b z) = encs b ++ encs z) (ha : EvA C Γ l ta m) (hz : EvA C Γ l tk mk) :
    EvA C Γ l (fun σ H Q => ta σ H fun vs H1 => tk σ H1 fun zs H2 => vs.length = n ∧ zs.length = k ∧ Q (vs ++ zs) H2) (m.bind fun b => mk.bind fun z => .ok (c b z)) := fun G hid os σ H Q Kw q => by
  refine ha G hid os σ H _ Kw ?_
  cases e : m with
  | bad => rw [e] at q; exact q
  | ex x => rw [e] at q; exact q
  | ok b =>
    rw [e] at q
    intro vs H1 s1 r1
    refine hz G hid os σ H1 _ (Kw.same s1) ?_
    cases e2 : mk with
    | bad => rw [e2] at q; exact q
    | ex x => rw [e2] at q; exact PoX.back s1 q
    | ok z =>
      rw [e2] at q
      intro zs H2 s2 r2
      refine ⟨by rw [← r1.len, hn], by rw [← r2.len, hk], q _ H2 (s1.trans s2) ?_⟩
      rw [hc]
      exact (r1.same s2).app r2
theorem evm_sdX {m : R β} {c : β → β'} {dps : List PV} {dvs : List V} {f : β' → R (α)} (hW : C.W = some W) (hc : ∀ b, encs (c b) = encs b ++ dps) (hd : ∀ H G, Reps C.T H G dps dvs) (ha : EvA C Γ .raw ta m) : Evm C Γ .fr (tCallSD (PmX C.T (.val .fr) f) dvs (WE W) ta) (m.bind fun b => f (c b)) := by
  have h := evm_callXF (f := f) hW (eva_more hc hd ha)
  have e : ((m.bind fun b => R.ok (c b)).bind f) = m.bind fun b => f (c b) := by cases m <;> rfl
  rw [← e]
  exact h
theorem evm_sdQ {m : R β} {c : β → β'} {dps : List PV} {dvs : List V} {f : β' → R (α)} (hc : ∀ b, encs (c b) = encs b ++ dps) (hd : ∀ H G, Reps C.T H G dps dvs) (ha : EvA C Γ .raw ta m) : Evm C Γ .fr (tCallSD (PmX C.T (.val .fr) f) dvs (WE fun _ _ _ _ => False) ta) (m.bind fun b => (f (c b)).nox) := by
  have h := evm_callQF (f := f) (eva_more hc hd ha)
  have e : ((m.bind fun b => R.ok (c b)).bind fun b => (f b).nox) = m.bind fun b => (f (c b)).nox := by cases m <;> rfl
  rw [← e]
  exact h
theorem evm_knX {E : XK} {tk : TA} {n k : Nat} {m : R β} {mk : R γ} {c : β → γ → β'} {f : β' → R (α)} (hW : C.W = some fun cls d _ H => E cls d H) (hn : ∀ b : β, (encs b).length = n) (hk : ∀ z : γ, (encs z).length = k) (hc : ∀ b z, encs (c b z) = encs b ++ encs z) (ha : EvA C Γ .raw ta m) (hz : EvA C Γ .raw tk mk) :
    Evm C Γ .fr (tCallN n k (PmX C.T (.val .fr) f) (fun vs zs => vs ++ zs) E ta tk) (m.bind fun b => mk.bind fun z => f (c b z)) := by
  have h := evm_callXF (f := f) hW (eva_two hn hk hc ha hz)
  have e : ((m.bind fun b => mk.bind fun z => R.ok (c b z)).bind f) = m.bind fun b => mk.bind fun z => f (c b z) := by
    rw [R.bind_assoc]
    cases m with
    | ok b => show (mk.bind fun z => R.ok (c b z)).bind f = _; cases mk <;> rfl
    | ex x => rfl
    | bad => rfl
  rw [← e]
  exact h
theorem evm_knN {E : XK} {tk : TA} {n k : Nat} {m : R β} {mk : R γ} {c : β → γ → β'} {f : β' → R (α)} (hn : ∀ b : β, (encs b).length = n) (hk : ∀ z : γ, (encs z).length = k) (hc : ∀ b z, encs (c b z) = encs b ++ encs z) (ha : EvA C Γ .raw ta m) (hz : EvA C Γ .raw tk mk) :
    Evm C Γ .fr (tCallN n k (Pm C.T (.val .fr) f) (fun vs zs => vs ++ zs) E ta tk) (m.bind fun b => mk.bind fun z => (f (c b z)).nox) := by
  have h := evm_callNF (E := E) (f := f) (eva_two hn hk hc ha hz)
  have e : ((m.bind fun b => mk.bind fun z => R.ok (c b z)).bind fun b => (f b).nox) = m.bind fun b => mk.bind fun z => (f (c b z)).nox := by
    rw [R.bind_assoc]
    cases m with
    | ok b => show (mk.bind fun z => R.ok (c b z)).bind _ = _; cases mk <;> rfl
    | ex x => rfl
    | bad => rfl
  rw [← e]
  refine fun G hid os σ H Q Kw q => ?_
  have z := h G hid os σ H Q Kw q
  unfold tCall at z
  simp only [List.append_nil] at z
  exact z
theorem evm_sdN {E : XK} {m : R β} {c : β → β'} {dps : List PV} {dvs : List V} {f : β' → R (α)} (hc : ∀ b, encs (c b) = encs b ++ dps) (hd : ∀ H G, Reps C.T H G dps dvs) (ha : EvA C Γ .raw ta m) : Evm C Γ .fr (tCall (Pm C.T (.val .fr) f) dvs E ta) (m.bind fun b => (f (c b)).nox) := by
  have h := evm_callNF (E := E) (f := f) (eva_more hc hd ha)
  have e : ((m.bind fun b => R.ok (c b)).bind fun b => (f b).nox) = m.bind fun b => (f (c b)).nox := by cases m <;> rfl
  rw [← e]
  refine fun G hid os σ H Q Kw q => ?_
  have z := h G hid os σ H Q Kw q
  unfold tCall at z ⊢
  simp only [List.append_nil] at z
  exact z
theorem evn_sdX {m : R β} {c : β → β'} {dps : List PV} {dvs : List V} {f : β' → R (List α)} (hW : C.W = some W) (hc : ∀ b, encs (c b) = encs b ++ dps) (hd : ∀ H G, Reps C.T H G dps dvs) (ha : EvA C Γ .raw ta m) : EvN C Γ .fr (tCallSD (PmX C.T (.nw .fr) f) dvs (WE W) ta) (m.bind fun b => f (c b)) := by
  have h := evn_callXF (f := f) hW (eva_more hc hd ha)
  have e : ((m.bind fun b => R.ok (c b)).bind f) = m.bind fun b => f (c b) := by cases m <;> rfl
  rw [← e]
  exact h
theorem evn_sdQ {m : R β} {c : β → β'} {dps : List PV} {dvs : List V} {f : β' → R (List α)} (hc : ∀ b, encs (c b) = encs b ++ dps) (hd : ∀ H G, Reps C.T H G dps dvs) (ha : EvA C Γ .raw ta m) : EvN C Γ .fr (tCallSD (PmX C.T (.nw .fr) f) dvs (WE fun _ _ _ _ => False) ta) (m.bind fun b => (f (c b)).nox) := by
  have h := evn_callQF (f := f) (eva_more hc hd ha)
  have e : ((m.bind fun b => R.ok (c b)).bind fun b => (f b).nox) = m.bind fun b => (f (c b)).nox := by cases m <;> rfl
  rw [← e]
  exact h
theorem evn_knX {E : XK} {tk : TA} {n k : Nat} {m : R β} {mk : R γ} {c : β → γ → β'} {f : β' → R (List α)} (hW : C.W = some fun cls d _ H => E cls d H) (hn : ∀ b : β, (encs b).length = n) (hk : ∀ z : γ, (encs z).length = k) (hc : ∀ b z, encs (c b z) = encs b ++ encs z) (ha : EvA C Γ .raw ta m) (hz : EvA C Γ .raw tk mk) :
    EvN C Γ .fr (tCallN n k (PmX C.T (.nw .fr) f) (fun vs zs => vs ++ zs) E ta tk) (m.bind fun b => mk.bind fun z => f (c b z)) := by
  have h := evn_callXF (f := f) hW (eva_two hn hk hc ha hz)
  have e : ((m.bind fun b => mk.bind fun z => R.ok (c b z)).bind f) = m.bind fun b => mk.bind fun z => f (c b z) := by
    rw [R.bind_assoc]
    cases m with
    | ok b => show (mk.bind fun z => R.ok (c b z)).bind f = _; cases mk <;> rfl
    | ex x => rfl
    | bad => rfl
  rw [← e]
  exact h
theorem evn_knN {E : XK} {tk : TA} {n k : Nat} {m : R β} {mk : R γ} {c : β → γ → β'} {f : β' → R (List α)} (hn : ∀ b : β, (encs b).length = n) (hk : ∀ z : γ, (encs z).length = k) (hc : ∀ b z, encs (c b z) = encs b ++ encs z) (ha : EvA C Γ .raw ta m) (hz : EvA C Γ .raw tk mk) :
    EvN C Γ .fr (tCallN n k (Pm C.T (.nw .fr) f) (fun vs zs => vs ++ zs) E ta tk) (m.bind fun b => mk.bind fun z => (f (c b z)).nox) := by
  have h := evn_callNF (E := E) (f := f) (eva_two hn hk hc ha hz)
  have e : ((m.bind fun b => mk.bind fun z => R.ok (c b z)).bind fun b => (f b).nox) = m.bind fun b => mk.bind fun z => (f (c b z)).nox := by
    rw [R.bind_assoc]
    cases m with
    | ok b => show (mk.bind fun z => R.ok (c b z)).bind _ = _; cases mk <;> rfl
    | ex x => rfl
    | bad => rfl
  rw [← e]
  refine fun G hid os σ H Q Kw q => ?_
  have z := h G hid os σ H Q Kw q
  unfold tCall at z
  simp only [List.append_nil] at z
  exact z
theorem evn_sdN {E : XK} {m : R β} {c : β → β'} {dps : List PV} {dvs : List V} {f : β' → R (List α)} (hc : ∀ b, encs (c b) = encs b ++ dps) (hd : ∀ H G, Reps C.T H G dps dvs) (ha : EvA C Γ .raw ta m) : EvN C Γ .fr (tCall (Pm C.T (.nw .fr) f) dvs E ta) (m.bind fun b => (f (c b)).nox) := by
  have h := evn_callNF (E := E) (f := f) (eva_more hc hd ha)
  have e : ((m.bind fun b => R.ok (c b)).bind fun b => (f b).nox) = m.bind fun b => (f (c b)).nox := by cases m <;> rfl
  rw [← e]
  refine fun G hid os σ H Q Kw q => ?_
  have z := h G hid os σ H Q Kw q
  unfold tCall at z ⊢
  simp only [List.append_nil] at z
  exact z
end
end Pv

set_option Elab.async false
set_option linter.all false
set_option maxRecDepth 100000
set_option maxHeartbeats 2000000
namespace Pv
open PySem PySem.Spec PyProof.Rows L2 PySem.W PySem.Calls
open Enc (enc)
open Encs (encs)
/-! ### quiet defs without inner names, called wherever (within an except suite too) -/
def cxQ (P : Program) (w : World) (K : PySem.W.Frag) (mg : Str → Option Value) (base : Heap) (N : List Str) (qual : Str) (scope : Scope) (f : Addr) (cd : Value) (A : Around) (outer : List Env) (s : Shared) (H : Hp) : Cx :=
  { cxOf CX0 P w K mg base N qual scope f cd A outer s H E0 with
    A := A.deeper (envX qual scope s.heap.objs.size f cd [])
    env := envX qual scope s.heap.objs.size f cd []
    stack := envX qual scope s.heap.objs.size f cd [] :: outer
    calm := false
    xe := fun _ _ => False }
structure PlainScope (ps : List Str) (sc : Scope) : Prop where
  kind : sc.kind = .function
  co : sc.isCoroutine = false
  gen : sc.isGenerator = false
  nd : ps.Nodup
  par : ∀ x ∈ ps, sc.names.lookup x = some .local
  nocell : ∀ y ∈ sc.names, y.2 ≠ .cell
  nofree : ∀ y ∈ sc.names, y.2 ≠ .free
structure FnQ (P : Program) (w : World) (K : PySem.W.Frag) (mg : Str → Option Value) (base : Heap) (k : Nat) (f : Addr) (fd : FuncData) (ps : List Str) (sp : Sp) : Prop where
  len : ∀ vs H Q E, sp vs H Q E → vs.length = ps.length
  run : ∀ (A : Around) (outer : List Env) (s : Shared) (H : Hp) (args : Args) (us : List Value) (vs : List V) (Q : VK), L2H.RoomH k A → Env0 P w K mg base A outer s H → BindsTo s fd args (ps.zip us) → Vals vs us → sp vs H Q E0 →
    codeAny (model P w) A (.call (.ref f) args) (CR CX0 outer P w H s Q E0) s
theorem inv_q {P : Program} {w : World} {K : PySem.W.Frag} {mg : Str → Option Value} {base : Heap} {ps : List Str} {qual : Str} {scope : Scope} {f : Addr} {cd : Value} {A : Around} {outer : List Env} {s : Shared} {h1 : Heap} {tk : Nat} {H : Hp} {us : List Value} {vs : List V}
    (S : PlainScope ps scope) (e0 : Env0 P w K mg base A outer s H) (hl : vs.length = ps.length) (r : Vals vs us) (hn : h1.Ns s.heap.objs.size (fun x => (ps.zip us).reverse.lookup x)) (hk : ∀ b o, s.heap.get? b = some o → h1.get? b = some o) :
    L2.Inv (cxQ P w K mg base ps qual scope f cd A outer s H) [] (L2.start ps vs) H { s with heap := h1, toks := tk } := by
  have noC : ∀ x c, (cxQ P w K mg base ps qual scope f cd A outer s H).env.cells.lookup x = some c → False := fun x c h => by
    have h : List.lookup x ([] : List (Str × Addr)) = some c := h
    cases h
  have noA : ∀ b : Addr, b ∉ (cxQ P w K mg base ps qual scope f cd A outer s H).ex := fun b z => absurd (show b ∈ ([] : List Addr) from z) (by simp)
  refine ⟨⟨e0.mod, S.kind, rfl, rfl, Nat.le_refl _, fun y z c h1 _ => (noC _ _ h1).elim, fun y hy => ?_, fun y c _ h => (noC _ _ h).elim, fun z => Bool.noConfusion (show false = true from z), Around.frames_deeper e0.frames, .inr ⟨rfl, rfl⟩, fun b z => absurd z (noA b), e0.bs, e0.bsz, fun b _ _ => noA b, fun b z => absurd z (noA b), e0.funs, e0.frf⟩,
    rfl, e0.bare, Un.kept hk, ⟨_, hn, fun i y v h1 h2 h3 => ?_⟩, fun y c h => (noC _ _ h).elim, e0.hok.fresh (Nat.le_refl _), fun y c h => (noC _ _ h).elim, fun p hp => absurd (show p ∈ ([] : List (Addr × Obj)) from hp) (by simp), e0.hok.kept hk, ?_⟩
  · have hy : scope.names.lookup y = some .cell ∨ scope.names.lookup y = some .free := hy
    rcases hy with hy | hy
    · exact absurd rfl (S.nocell _ (PySem.mem_of_lookup hy))
    · exact absurd rfl (S.nofree _ (PySem.mem_of_lookup hy))
  · have hi : i < vs.length := by
      have h1' : ps[i]? = some y := h1
      rw [hl]
      exact (List.getElem?_eq_some_iff.mp h1').1
    have ha : vs[i]? = some v := by
      unfold L2.start at h2
      rw [List.getElem?_append_left (by simpa using hi), List.getElem?_map] at h2
      cases e : vs[i]? with
      | none => rw [e] at h2; cases h2
      | some a => rw [e] at h2; cases h2; rfl
    obtain ⟨u, hu, rv⟩ := r.get ha
    exact ⟨u, rv, .inl ⟨S.par y (List.mem_of_getElem? h1), lookup_rev S.nd h1 hu⟩⟩
  · unfold L2.start
    show _ = ps.length
    rw [List.length_append, List.length_map, List.length_replicate]
    omega
theorem fn_q {P : Program} {w : World} {K : PySem.W.Frag} {mg : Str → Option Value} {base : Heap} {k : Nat} {f : Addr} {name qual : Str} {params : Arguments} {body : List Stmt} {scope : Scope} {dV kV doc pm cdv ct oc : Value} {an od : Option Addr} {osl : Array (Option Value)} {ps : List Str} {sp : Sp}
    (lk : K.lookup f = some ⟨oc, od, .func (PySem.W.fnOf name qual params body scope dV kV doc pm an cdv ct), osl⟩) (hcd : codeIn K cdv qual = true) (S : PlainScope ps scope) (len : ∀ vs H Q E, sp vs H Q E → vs.length = ps.length)
    (hbody : ∀ (A : Around) (outer : List Env) (s : Shared) (H : Hp) (vs : List V) (Q : VK), L2H.RoomH k (A.deeper (envX qual scope s.heap.objs.size f cdv [])) → sp vs H Q E0 →
      ∃ t, PSs (cxQ P w K mg base ps qual scope f cdv A outer s H) body t ∧ t { nx := fun _ H' => Q .non H', rt := Q } (L2.start ps vs) H) : FnQ P w K mg base (k + 1) f (PySem.W.fnOf name qual params body scope dV kV doc pm an cdv ct) ps sp := by
  refine ⟨len, fun A outer s H args us vs Q hr e0 hb r hsp => ?_⟩
  have hl := len _ _ _ _ hsp
  have KX : K.In s.heap := e0.mod.kin.keeps fun b o e => (e0.bs b o e).1
  have lim : s.heap.NoLimit := e0.mod.nolimit.keeps fun b o e => (e0.bs b o e).1
  obtain ⟨t, ht, hq⟩ := hbody A outer s H vs Q (hr.deeper _) hsp
  refine ks_codeAny_call_defAt hr.depth (KX _ _ lk) rfl lim (codeRec_of KX hcd) rfl hb S.nocell (fun y hy => S.par y.1 (List.of_mem_zip hy).1) (fun g1 hns hk => ?_) S.co S.gen S.kind
  have I := inv_q (qual := qual) (f := f) (cd := cdv) (tk := s.toks + (ps.zip us).length) S e0 hl r hns hk
  refine wpAt_of_wpAny (wpAny_mono (ht.run [] _ _ H _ I hq) (fun fl s' hs => ?_) fun e s' hs => hs.elim)
  have fin : ∀ {σ' : L2.St} {H' : Hp} {v : V} {u : Value}, L2.Inv (cxQ P w K mg base ps qual scope f cdv A outer s H) [] σ' H' s' → RelV v u → Q v H' → CE outer P w H s Q u s' :=
    fun {σ' H' v u} J rv q => ⟨v, H', J.os, J.bare, J.base, J.hok, rv, q⟩
  cases fl with
  | ret u =>
    obtain ⟨v, σ', H', J, rv, q⟩ := hs
    exact fin J rv q
  | next =>
    obtain ⟨σ', H', J, q⟩ := hs
    exact fin (v := V.non) (u := Value.none) J rfl q
  | brk =>
    obtain ⟨_, _, _, q⟩ := hs
    exact False.elim q
  | cont =>
    obtain ⟨_, _, _, q⟩ := hs
    exact False.elim q
/-- such a def under its name -/
structure KdQ (P : Program) (w : World) (K : PySem.W.Frag) (mg : Str → Option Value) (base : Heap) (x : Str) (ps : List Str) (k : Nat) (sp : Sp) : Prop where
  ex : ∃ f fd, mg x = some (.ref f) ∧ PySem.W.keepIn K (.ref f) = true ∧ Binds K fd ps [] ∧ FnQ P w K mg base k f fd ps sp
section
variable {X : Cx} {x : Str} {ps : List Str} {k : Nat} {sp : Sp} {e : Expr} {es : List Expr} {t : TA} {p pos : Pos}
theorem pe_kdq (h : KdQ X.prog X.w X.K X.mg X.base x ps k sp) (hr : L2H.RoomH k X.A) (hg : Gl X x) (ha : PA X (e :: es) t) (hd : (x == ("__debug__" : Str)) = false := by decide)
    (he : starEach (e :: es) X.env = (false, eval e X.env) :: starEach es X.env := by rfl) (hpl : (backTo pos (starEach es X.env)).any (·.1) = false := by rfl) :
    PE X (.Call (.Name x p) (e :: es) [] pos) (tCall sp [] E0 t) := by
  obtain ⟨f, fd, hm, hk, hb, F⟩ := h.ex
  refine ⟨fun pins s σ H Q I h => ?_⟩
  refine wpAny_Call_Name_kw (ld_glob I hg hm ?_ hd)
  refine PySem.W.callWith_K (h₀ := X.base) I.ok.mod.kin hk (thn (ha.run pos pins s σ H _ I h) fun us s1 ⟨vs, H1, I1, r, q⟩ => ⟨I1.kIn, ?_⟩) he hpl
  have q : sp (vs ++ []) H1 Q E0 := q
  rw [List.append_nil] at q
  have hl : us.length = ps.length := by rw [← r.length]; exact F.len _ _ _ _ q
  have b := hb s1 us I1.kIn (by rw [List.append_nil]; exact hl)
  rw [List.append_nil] at b
  refine wpAny_call (codeAny_mono (F.run X.A X.stack s1 H1 ⟨us, []⟩ us vs Q hr I1.env0 b r q) fun rr s' hq => ?_)
  cases rr with
  | error e => exact hq.elim
  | ok fl =>
    cases fl with
    | ret u => exact I1.after hq
    | next => exact False.elim hq
    | brk => exact False.elim hq
    | cont => exact False.elim hq
end

theorem fn_pmQ {P : Program} {w : World} {K : PySem.W.Frag} {mg : Str → Option Value} {base : Heap} {α β : Type} [Enc α] [Encs β] {T : CT} {M : RM} {x qual : Str} {st : Stmt} {f : Addr} {fd : FuncData} {ps : List Str} {k : Nat} {g : β → R α} (F : Fun K x qual st f fd) (S : PlainScope ps (defScope st)) (hlen : ∀ b : β, (encs b).length = ps.length)
    (hbody : ∀ (cdv : Value) (A : Around) (outer : List Env) (s : Shared) (H : Hp), L2H.RoomH k (A.deeper (envX qual (defScope st) s.heap.objs.size f cdv [])) →
      ∃ t, PSs (cxQ P w K mg base ps qual (defScope st) f cdv A outer s H) (defBody st) t ∧ ∀ b : β, BD ⟨T, H, none, M⟩ (entry ps (encs b)) t (g b) (fun a => .rt (enc a))) : FnQ P w K mg base (k + 1) f fd ps (Pm T M g) := by
  obtain ⟨oc, od, kV, doc, pm, an, cdv, ct, osl, rfl, lk, hcd⟩ := F.ex
  refine fn_q lk hcd S (fun vs H Q E h => ?_) (fun A outer s H vs Q hr h => ?_)
  · obtain ⟨b, G, _, r, _⟩ := h
    rw [← r.len, hlen]
  · obtain ⟨b, G, dom, r, q⟩ := h
    obtain ⟨t, ht, hb⟩ := hbody cdv A outer s H hr
    refine ⟨t, ht, hb b G [] _ _ H _ (okw_start dom r (by rw [hlen]; exact Nat.le_refl _)) ?_⟩
    cases e : g b with
    | bad => rw [e] at q; exact q
    | ex z => rw [e] at q; exact q
    | ok a => rw [e] at q; exact q
theorem roomH_mark {k : Nat} {A : Around} {h : Option Value} (r : Room k A) : L2H.RoomH k (A.mark h) := ⟨r.dp, r.un⟩
/-! ### the fields of a caught exception, typed -/
class FromPV (α : Type) [Enc α] where
  get : PV → Option α
  ok : ∀ p a, get p = some a → p = enc a ∧ flV p = true
instance : FromPV Int := ⟨fun p => match p with | .int i => some i | _ => none, fun p a h => by
  cases p <;> simp at h
  subst h
  exact ⟨rfl, rfl⟩⟩
instance : FromPV Str := ⟨fun p => match p with | .str i => some i | _ => none, fun p a h => by
  cases p <;> simp at h
  subst h
  exact ⟨rfl, rfl⟩⟩
section
variable {C : Cn} {Γ : List Sl} {t : TS} {β : Type} {out : β → Oc} {a1 a2 a3 : Type} [Enc a1] [FromPV a1] [Enc a2] [FromPV a2] [Enc a3] [FromPV a3]
def R.f1 (vs : List PV) (k : a1 → R β) : R β := match vs with
  | [p] => (R.of (FromPV.get p)).bind k
  | _ => .bad
def R.f2 (vs : List PV) (k : a1 → a2 → R β) : R β := match vs with
  | [p, q] => (R.of (FromPV.get p)).bind fun a => (R.of (FromPV.get q)).bind (k a)
  | _ => .bad
def R.f3 (vs : List PV) (k : a1 → a2 → a3 → R β) : R β := match vs with
  | [p, q, r] => (R.of (FromPV.get p)).bind fun a => (R.of (FromPV.get q)).bind fun b => (R.of (FromPV.get r)).bind (k a b)
  | _ => .bad
theorem bd_bad : BD C Γ t (R.bad : R β) out := fun G hid os σ H D Kw q => q.elim
theorem bd_f1 {vs : List PV} {k : a1 → R β} (h : ∀ a, vs = [enc a] → BD C Γ t (k a) out) : BD C Γ t (R.f1 vs k) out := by
  match vs with
  | [p] =>
    show BD C Γ t ((R.of (FromPV.get p)).bind k) out
    cases e : (FromPV.get p : Option a1) with
    | none => exact bd_bad
    | some a =>
      obtain ⟨rfl, _⟩ := FromPV.ok p a e
      exact h a rfl
  | [] => exact bd_bad
  | _ :: _ :: _ => exact bd_bad
theorem bd_f2 {vs : List PV} {k : a1 → a2 → R β} (h : ∀ a b, vs = [enc a, enc b] → BD C Γ t (k a b) out) : BD C Γ t (R.f2 vs k) out := by
  match vs with
  | [p, q] =>
    show BD C Γ t ((R.of (FromPV.get p)).bind fun a => (R.of (FromPV.get q)).bind (k a)) out
    cases e : (FromPV.get p : Option a1) with
    | none => exact bd_bad
    | some a =>
      obtain ⟨rfl, _⟩ := FromPV.ok p a e
      show BD C Γ t ((R.of (FromPV.get q)).bind (k a)) out
      cases e2 : (FromPV.get q : Option a2) with
      | none => exact bd_bad
      | some b =>
        obtain ⟨rfl, _⟩ := FromPV.ok q b e2
        exact h a b rfl
  | [] => exact bd_bad
  | [_] => exact bd_bad
  | _ :: _ :: _ :: _ => exact bd_bad
theorem bd_f3 {vs : List PV} {k : a1 → a2 → a3 → R β} (h : ∀ a b c, vs = [enc a, enc b, enc c] → BD C Γ t (k a b c) out) : BD C Γ t (R.f3 vs k) out := by
  match vs with
  | [p, q, r] =>
    show BD C Γ t ((R.of (FromPV.get p)).bind fun a => (R.of (FromPV.get q)).bind fun b => (R.of (FromPV.get r)).bind (k a b)) out
    cases e : (FromPV.get p : Option a1) with
    | none => exact bd_bad
    | some a =>
      obtain ⟨rfl, _⟩ := FromPV.ok p a e
      show BD C Γ t ((R.of (FromPV.get q)).bind fun b => (R.of (FromPV.get r)).bind (k a b)) out
      cases e2 : (FromPV.get q : Option a2) with
      | none => exact bd_bad
      | some b =>
        obtain ⟨rfl, _⟩ := FromPV.ok q b e2
        show BD C Γ t ((R.of (FromPV.get r)).bind (k a b)) out
        cases e3 : (FromPV.get r : Option a3) with
        | none => exact bd_bad
        | some c =>
          obtain ⟨rfl, _⟩ := FromPV.ok r c e3
          exact h a b c rfl
  | [] => exact bd_bad
  | [_] => exact bd_bad
  | [_, _] => exact bd_bad
  | _ :: _ :: _ :: _ :: _ => exact bd_bad
end
/-- a derivation whose reading is found first -/
theorem ex_t {X : Cx} {body : List Stmt} {tb : TS} (h : ∃ t, PSs X body t ∧ t = tb) : PSs X body tb := by
  obtain ⟨t, h1, h2⟩ := h
  exact h2 ▸ h1
end Pv
namespace Pv
open PySem PySem.Spec L2
theorem bd_iteB {β : Type} {C : Cn} {Γ : List Sl} {t : TS} {b : Bool} {m1 m2 : R β} {out : β → Oc} (h1 : b = true → BD C Γ t m1 out) (h2 : b = false → BD C Γ t m2 out) : BD C Γ t (R.ite b m1 m2) out := by
  cases b with
  | true => exact h1 rfl
  | false => exact h2 rfl
theorem evm_bad {α : Type} [Enc α] {C : Cn} {Γ : List Sl} {l : Lv} {t : TE} : Evm C Γ l t (R.bad : R α) := fun G hid os σ H Q Kw q => q.elim
end Pv
namespace Pv
open PySem PySem.Spec L2
def tTry (tb : WX → TS) (K : PySem.W.Frag) (c : Value) (i : Nat) (ts : Addr → Value → Option Addr → TS) (Wout : WX) : TS := fun D σ H => tb (wAs K c i ts Wout D) D σ H
theorem bd_tryA {β : Type} {C : Cn} {Γ : List Sl} {out : β → Oc} {i : Nat} {m : R (R β)} {ms : Exc → R β} {okc : Exc → Bool} {tb : WX → TS} {ts : Addr → Value → Option Addr → TS} {Wout : WX} {K : PySem.W.Frag} {c : Value} (hi : i < Γ.length)
    (ho : ∀ b, (∃ Γ', out b = .nx Γ') ∨ ∃ p, out b = .rt p) (hx : ∀ x, okc x = true → PySem.W.exmOne K (.ref (C.T.addr x.c)) c = some true ∧ x.vs.all flV = true)
    (hb : ∀ W, BDx C W Γ (tSeq (tb W) tNext) m out) (hs : ∀ x a d, okc x = true → BD C (Γ.set i (.xv a d x)) (tSeq (ts a (.ref (C.T.addr x.c)) d) (tSeq (tClr i) tNext)) (ms x) out) :
    BD C Γ (tTry tb K c i ts Wout) (R.tryC okc m ms) out := bd_try_as hi ho hx hb hs
end Pv

set_option Elab.async false
set_option linter.all false
set_option maxRecDepth 100000
namespace Pv
open PySem PySem.Spec L2
open Enc (enc)
open Encs (encs)
/-! ### what the end needs: defs with keyword-only defaults -/
theorem funD_mk {K : PySem.W.Frag} {x qual : Str} {st : Stmt} {f D : Addr} {oc doc pm cd ct : Value} {od an : Option Addr} {sl : Array (Option Value)} {kws : List (Str × V)}
    (l : K.lookup f = some ⟨oc, od, .func (PySem.W.fnOf x qual (defArgs st) (defBody st) (defScope st) .none (.ref D) doc pm an cd ct), sl⟩) (c : PySem.W.codeIn K cd qual = true) (k : PySem.W.keepIn K (.ref f) = true)
    (hk : ∀ q ∈ kws, ∃ u, PySem.W.nsIn K D q.1 = some (some u) ∧ RelV q.2 u) : FunD K x qual (defArgs st) (defBody st) (defScope st) [] kws f (PySem.W.fnOf x qual (defArgs st) (defBody st) (defScope st) .none (.ref D) doc pm an cd ct) :=
  ⟨⟨_, _, _, _, _, _, _, _, _, _, rfl, l, c, .inl ⟨rfl, rfl⟩, .inr ⟨_, rfl, hk⟩⟩, k⟩
section
variable {P : Program} {w : World} {K : PySem.W.Frag} {mg : Str → Option Value} {base : Heap} {CX : CXT} {x qual : Str} {params : Arguments} {body : List Stmt} {scope : Scope} {kws : List (Str × V)} {f : Addr} {fd : FuncData} {ps ks : List Str} {k : Nat} {sp : Sp}
theorem kdv0 (hm : mg x = some (.ref f)) (hkp : PySem.W.keepIn K (.ref f) = true) (FD : FunD K x qual params body scope [] kws f fd) (F : FnOk P w K mg base CX k f fd ps sp) (n : Nat) (hk : kws ≠ []) (hn : n + kws.length = ps.length)
    (h : ∀ (D : Addr) (doc pm : Value) (an : Option Addr) (cdv ct : Value) (us ks : List Value), us.length = n → ks.length = kws.length →
      KwChain D ((kws.map (·.1)).zip ks) (bindArgs (PySem.W.fnOf x qual params body scope .none (.ref D) doc pm an cdv ct) ⟨us, []⟩) (ps.zip (us ++ ks))) : KdV P w K mg base CX x ps (kws.map (·.2)) k sp := by
  obtain ⟨ds, hv, hb⟩ := FD.binds0 n hk hn h
  exact ⟨_, _, ds, hm, hkp, hb, hv, F⟩
theorem kdn0 (hm : mg x = some (.ref f)) (hkp : PySem.W.keepIn K (.ref f) = true) (FD : FunD K x qual params body scope [] kws f fd) (F : FnOk P w K mg base CX k f fd ps sp) (n : Nat) (hk : kws ≠ [])
    (h : ∀ (D : Addr) (doc pm : Value) (an : Option Addr) (cdv ct : Value) (us mv ws : List Value), us.length = n → mv.length = ([] : List (Str × V)).length → ws.length = ks.length →
      KwChain D ((([] : List (Str × V)).map (·.1)).zip mv) (bindArgs (PySem.W.fnOf x qual params body scope .none (.ref D) doc pm an cdv ct) ⟨us, ks.zip ws⟩) (ps.zip (us ++ ws))) : KdN P w K mg base CX x ps n ks k sp := by
  obtain ⟨mv, hb⟩ := FD.kbinds0 n ks [] (fun {α} (us mv ws : List α) => us ++ ws) hk (fun q hq => by cases hq) (fun r1 _ r3 => r1.append r3) h
  exact ⟨_, _, _, hm, hkp, hb, F⟩
end
/-! ### the text that an own exception hands up -/
theorem sup_text {v : V} {us : List V} {H : Hp} {Q : List V → Hp → Prop} {ts : List TE} (hl : ts.length ≤ 40) (hp : ∀ t, t ∈ ts → Prt ((v :: us).map some) t) (q : ∀ y : Str, Q [.str y] H) :
    tCons (fun σ H Q => tJs ts Str.empty σ H fun out H1 => Q (.str out) H1) tNil ((v :: us).map some) H Q := by
  refine prt_js ts Str.empty H _ hp ?_ fun y => ?_
  · show 0 + _ ≤ _
    omega
  · exact q y
theorem prt_at {v : V} {us : List V} {i : Nat} (hp : ∀ u, u ∈ us → PrV u) (hi : i < us.length) : Prt ((v :: us).map some) (tFmt (tVar (i + 1))) := by
  refine prt_f (v := us[i]) ?_ (hp _ (List.getElem_mem hi))
  rw [List.map_cons, List.getElem?_cons_succ, List.getElem?_map, List.getElem?_eq_getElem hi]
  rfl
end Pv

set_option Elab.async false
set_option linter.all false
set_option maxRecDepth 100000
namespace Pv
open PySem PySem.Spec L2
open Enc (enc)
open Encs (encs)
/-! ### words: texts by their codes -/
abbrev ch (c : Nat) : Str := ⟨#[c]⟩
abbrev cps (x : Str) : List Nat := x.cps.toList
theorem ch_inj {a b : Nat} : ch a = ch b ↔ a = b := ⟨fun h => by
  have := congrArg (fun x : Str => x.cps.toList) h
  simpa using this, fun h => by rw [h]⟩
theorem ch_dec (a b : Nat) : decide (ch a = ch b) = (a == b) := by
  rw [Bool.eq_iff_iff, decide_eq_true_iff, ch_inj, beq_iff_eq]
theorem str_ext {x y : Str} (h : cps x = cps y) : x = y := by
  obtain ⟨⟨a⟩⟩ := x
  obtain ⟨⟨b⟩⟩ := y
  have h : a = b := h
  rw [h]
theorem strL_ch (x : Str) : strL x = (cps x).map ch := rfl
theorem ofM : PySem.Str.ofString "M" = ch 77 := by decide +kernel
theorem ofT : PySem.Str.ofString "T" = ch 84 := by decide +kernel
theorem cps_len (x : Str) : (x.length : Int) = ((cps x).length : Int) := by rw [str_len]
theorem len_cps (x : Str) : x.length = (cps x).length := str_len x
theorem cps_cut (x : Str) (lo hi : Option Int) : cps (cutS x lo hi) = cutL (cps x) lo hi := by
  unfold cutL
  show (x.cps.toList.drop (HT.sIx x.length 0 lo)).take _ = _
  rw [str_len]
instance : EqD Str := ⟨fun a b => by
  show (a == b) = true ↔ a = b
  rw [beq_iff_eq]⟩
/-- a letter -/
def okL (c : Nat) : Bool := c == 77 || c == 84
/-! ### the first wrong letter -/
theorem raise_small {α : Type} {c : Nat} {i : Int} (h0 : 0 ≤ i) (h1 : i < 1000000) : (R.raise c [enc i] : R α) = .ex ⟨c, [enc i]⟩ := by
  unfold R.raise
  rw [if_pos]
  · rfl
  · show (decide (i.natAbs.log2 < 1920) && true) = true
    rw [Bool.and_true, decide_eq_true_iff]
    by_cases z : i.natAbs = 0
    · rw [z]; decide
    · rw [Nat.log2_lt z]
      exact Nat.lt_of_lt_of_le (show i.natAbs < 1000000 by omega) (by decide +kernel)
/-- the number of the letters ahead of the first wrong one -/
def firstBad : List Nat → Option Nat
  | [] => none
  | c :: cs => if okL c then (firstBad cs).map (· + 1) else some 0
def raiseAt (c k : Nat) : Option Nat → R Unit
  | none => .ok ()
  | some i => R.raise c [enc (((k + i : Nat) : Int))]
theorem raise_bind {α β : Type} {c : Nat} {ps : List PV} {k : α → R β} : (R.raise c ps : R α).bind k = R.raise c ps := by
  unfold R.raise
  split <;> rfl
theorem fold_first {c : Nat} {f : Tp (Int × Str × Unit) → Unit → R Unit} (hf : ∀ (i : Int) (a : Nat), f ⟨(i, ch a, ())⟩ () = if okL a then .ok () else R.raise c [enc i]) :
    ∀ (cs : List Nat) (k : Nat), foldR f ((cs.map ch).mapIdx fun i a => ⟨(((k + i : Nat) : Int), a, ())⟩) () = raiseAt c k (firstBad cs)
  | [], k => rfl
  | a :: cs, k => by
    rw [List.map_cons, List.mapIdx_cons]
    show (f ⟨(((k + 0 : Nat) : Int), ch a, ())⟩ ()).bind _ = _
    rw [hf]
    unfold firstBad
    by_cases h : okL a = true
    · rw [if_pos h, if_pos h]
      show foldR f _ () = _
      have ih := fold_first hf cs (k + 1)
      have e : (fun (i : Nat) (a : Str) => (⟨(((k + (i + 1) : Nat) : Int), a, ())⟩ : Tp (Int × Str × Unit))) = fun i a => ⟨(((k + 1 + i : Nat) : Int), a, ())⟩ := by
        funext i a
        rw [show k + (i + 1) = k + 1 + i by omega]
      rw [e, ih]
      cases firstBad cs with
      | none => rfl
      | some j =>
        show R.raise c [enc (((k + 1 + j : Nat) : Int))] = R.raise c [enc (((k + (j + 1) : Nat) : Int))]
        rw [show k + 1 + j = k + (j + 1) by omega]
    · rw [if_neg h, if_neg h, raise_bind]
      rfl
theorem enum_first {c : Nat} {f : Tp (Int × Str × Unit) → Unit → R Unit} (hf : ∀ (i : Int) (a : Nat), f ⟨(i, ch a, ())⟩ () = if okL a then .ok () else R.raise c [enc i]) (w : Str) :
    foldR f (enumF (strL w)) () = raiseAt c 0 (firstBad (cps w)) := by
  have h := fold_first hf (cps w) 0
  have e : (fun (i : Nat) (a : Str) => (⟨(((0 + i : Nat) : Int), a, ())⟩ : Tp (Int × Str × Unit))) = fun i a => ⟨((i : Int), a, ())⟩ := by
    funext i a
    rw [Nat.zero_add]
  rw [e] at h
  rw [strL_ch]
  unfold enumF
  exact h
theorem firstBad_none {cs : List Nat} : firstBad cs = none ↔ ∀ c, c ∈ cs → okL c = true := by
  induction cs with
  | nil => simp [firstBad]
  | cons a cs ih =>
    unfold firstBad
    by_cases h : okL a = true
    · rw [if_pos h, Option.map_eq_none_iff, ih]
      simp [h]
    · rw [if_neg h]
      simp [h]
theorem firstBad_lt {cs : List Nat} {i : Nat} (h : firstBad cs = some i) : i < cs.length := by
  induction cs generalizing i with
  | nil => cases h
  | cons a cs ih =>
    unfold firstBad at h
    by_cases c : okL a = true
    · rw [if_pos c] at h
      obtain ⟨j, e, rfl⟩ := Option.map_eq_some_iff.mp h
      have := ih e
      rw [List.length_cons]
      omega
    · rw [if_neg c] at h
      cases h
      rw [List.length_cons]
      omega
theorem firstBad_at {xs ys : List Nat} {c : Nat} (h : ∀ a, a ∈ xs → okL a = true) (hc : okL c = false) : firstBad (xs ++ c :: ys) = some xs.length := by
  induction xs with
  | nil =>
    show (if okL c then _ else _) = _
    rw [hc]
    rfl
  | cons a xs ih =>
    show firstBad (a :: (xs ++ c :: ys)) = _
    unfold firstBad
    rw [if_pos (h a (List.mem_cons_self ..)), ih fun b hb => h b (List.mem_cons_of_mem _ hb)]
    rfl
end Pv

set_option Elab.async false
set_option linter.all false
set_option maxRecDepth 100000
namespace Pv
open PySem PySem.Spec L2
open Enc (enc)
open Encs (encs)
/-! ### values of unknown sort: PV itself, and tuples of unknown places -/
structure TpD where
  t : List PV
instance : Enc TpD := ⟨fun x => .tup x.t⟩
/-- what a plain value may be read as -/
class Dec (α : Type) [Enc α] where
  dec : PV → Option α
  ok : ∀ p a, dec p = some a → p = enc a
def decL {α : Type} [Enc α] [Dec α] : List PV → Option (List α)
  | [] => some []
  | p :: ps => (Dec.dec p).bind fun a => (decL ps).map fun as => a :: as
theorem decL_ok {α : Type} [Enc α] [Dec α] : ∀ (ps : List PV) (xs : List α), decL ps = some xs → ps = xs.map enc
  | [], xs, h => by cases h; rfl
  | p :: ps, xs, h => by
    unfold decL at h
    obtain ⟨a, h1, h2⟩ := Option.bind_eq_some_iff.mp h
    obtain ⟨as, h3, rfl⟩ := Option.map_eq_some_iff.mp h2
    rw [Dec.ok p a h1, decL_ok ps as h3, List.map_cons]
instance : Dec PV := ⟨some, fun p a h => by cases h; rfl⟩
instance : Dec Int := ⟨fun p => match p with | .int i => some i | _ => none, fun p a h => by cases p <;> simp at h; subst h; rfl⟩
instance : Dec Bool := ⟨fun p => match p with | .bl i => some i | _ => none, fun p a h => by cases p <;> simp at h; subst h; rfl⟩
instance : Dec Str := ⟨fun p => match p with | .str i => some i | _ => none, fun p a h => by cases p <;> simp at h; subst h; rfl⟩
instance : Dec Unit := ⟨fun p => match p with | .non => some () | _ => none, fun p a h => by cases p <;> simp at h; rfl⟩
instance {α : Type} [Enc α] [Dec α] : Dec (List α) := ⟨fun p => match p with | .lst xs => decL xs | _ => none, fun p a h => by
  cases p <;> simp at h
  rw [decL_ok _ _ h]
  rfl⟩
instance : Dec TpD := ⟨fun p => match p with | .tup xs => some ⟨xs⟩ | _ => none, fun p a h => by cases p <;> simp at h; subst h; rfl⟩
class Decs (α : Type) [Encs α] where
  decs : List PV → Option α
  ok : ∀ p a, decs p = some a → p = encs a
instance : Decs Unit := ⟨fun p => match p with | [] => some () | _ => none, fun p a h => by cases p <;> simp at h; rfl⟩
instance {α β : Type} [Enc α] [Dec α] [Encs β] [Decs β] : Decs (α × β) := ⟨fun p => match p with | x :: xs => (Dec.dec x).bind fun a => (Decs.decs xs).map fun b => (a, b) | [] => none, fun p a h => by
  cases p with
  | nil => simp at h
  | cons x xs =>
    obtain ⟨u, h1, h2⟩ := Option.bind_eq_some_iff.mp h
    obtain ⟨b, h3, rfl⟩ := Option.map_eq_some_iff.mp h2
    rw [Dec.ok x u h1, Decs.ok xs b h3]
    rfl⟩
instance {α : Type} [Encs α] [Decs α] : Dec (Tp α) := ⟨fun p => match p with | .tup xs => (Decs.decs xs).map Tp.mk | _ => none, fun p a h => by
  cases p <;> simp at h
  obtain ⟨b, h3, rfl⟩ := h
  rw [Decs.ok _ b h3]
  rfl⟩
section
variable {C : Cn} {Γ : List Sl} {l l1 l2 : Lv} {α β γ : Type} [Enc α] [Enc β] [Enc γ] {ta tb tc te t : TE} {K : PySem.W.Frag} {T : CT}
/-- read in another sort that shows it alike -/
theorem evm_co {m : R α} {f : α → β} (ha : Evm C Γ l t m) (h : ∀ a, enc (f a) = enc a) : Evm C Γ l t (m.bind fun a => .ok (f a)) := fun G hid os σ H Q Kw q => by
  refine ha G hid os σ H _ Kw ?_
  cases e1 : m with
  | bad => rw [e1] at q; exact q
  | ex x => rw [e1] at q; exact q
  | ok a =>
    rw [e1] at q
    intro v H1 s1 r1
    refine q v H1 s1 ?_
    rw [h a]
    exact r1
/-- read as a sort, where it is of that sort -/
theorem evm_dec [Dec α] {m : R PV} (ha : Evm C Γ l t m) : Evm C Γ l t (m.bind fun p => (R.of (Dec.dec p) : R α)) := fun G hid os σ H Q Kw q => by
  refine ha G hid os σ H _ Kw ?_
  cases e1 : m with
  | bad => rw [e1] at q; exact q
  | ex x => rw [e1] at q; exact q
  | ok p =>
    rw [e1] at q
    have q : PoV C l G os σ H Q (R.of (Dec.dec p) : R α) := q
    cases e2 : (Dec.dec p : Option α) with
    | none => rw [e2] at q; exact q.elim
    | some a =>
      rw [e2] at q
      have e3 := Dec.ok p a e2
      intro v H1 s1 r1
      refine q v H1 s1 ?_
      rw [← e3]
      exact r1
theorem evn_co {m : R (List α)} {f : α → β} (ha : EvN C Γ l t m) (h : ∀ a, enc (f a) = enc a) : EvN C Γ l t (m.bind fun xs => .ok (xs.map f)) := fun G hid os σ H Q Kw q => by
  refine ha G hid os σ H _ Kw ?_
  cases e1 : m with
  | bad => rw [e1] at q; exact q
  | ex x => rw [e1] at q; exact q
  | ok xs =>
    rw [e1] at q
    have e : (xs.map f).map enc = xs.map enc := by
      rw [List.map_map]
      exact List.map_congr_left fun a _ => h a
    intro p vs H1 s1 hp h1 hz rs
    refine q p vs H1 s1 hp h1 hz ?_
    rw [e]
    exact rs
theorem compR_idF {α : Type} (p : α → Bool) (xs : List α) : compR (fun a => R.ok (p a)) (fun a => R.ok a) xs = R.ok ((xs.filter p).map fun a => a) := compR_filter p (fun a => a) xs
theorem compR_id {α : Type} (xs : List α) : compR (fun _ => R.ok true) (fun a => R.ok a) xs = R.ok (xs.map fun a => a) := compR_map (fun a => a) xs
theorem co_list {f : α → β} (h : ∀ a, enc (f a) = enc a) (xs : List α) : enc (xs.map f) = enc xs := by
  show PV.lst _ = PV.lst _
  rw [List.map_map]
  congr 1
  exact List.map_congr_left fun a _ => h a
/-! ### == of values of unknown sort -/
def eqQ (p q : PV) : Option Bool := optIf (okD p = true ∧ okD q = true ∧ dep p ≤ 64 ∧ dep q ≤ 64) (eqP p q)
theorem rv_eqQ {a : α} {b : β} : RvF T (rEqD K) a b (eqQ (enc a) (enc b)) := fun H x y Q c hx hy e q => by
  unfold eqQ optIf at e
  split at e
  · rename_i h
    cases e
    exact ⟨_, _, dp_of _ _ h.1 hx, dp_of _ _ h.2.1 hy, shaped_of h.1 h.2.2.1 hx, shaped_of h.2.1 h.2.2.2 hy, q _ rfl⟩
  · cases e
theorem rv_neQ {a : α} {b : β} : RvF T (rNeD K) a b ((eqQ (enc a) (enc b)).map (!·)) := fun H x y Q c hx hy e q => by
  unfold eqQ optIf at e
  split at e
  · rename_i h
    cases e
    exact ⟨_, _, dp_of _ _ h.1 hx, dp_of _ _ h.2.1 hy, shaped_of h.1 h.2.2.1 hx, shaped_of h.2.1 h.2.2.2 hy, q _ rfl⟩
  · cases e
theorem okD_lst {xs : List PV} : okD (.lst xs) = okDs xs := rfl
def inQ (p : PV) (zs : List PV) : Option Bool := optIf (okD p = true ∧ okDs zs = true ∧ dep p ≤ 64 ∧ deps zs + 1 ≤ 64) (zs.any fun z => eqP z p)
theorem any_toDs (p : PV) : ∀ zs : List PV, ((toDs zs).any fun z => PyData.eqv z (toD p)) = zs.any fun z => eqP z p
  | [] => rfl
  | z :: zs => by simp only [toDs, List.any_cons, any_toDs p zs, eqP]
theorem rv_inQ {a : α} {b : List β} : RvF T (rInD K) a b (inQ (enc a) (b.map enc)) := fun H x y Q c hx hy e q => by
  unfold inQ optIf at e
  split at e
  · rename_i h
    cases e
    refine ⟨_, _, dp_of _ _ h.1 hx, dp_of (.lst (b.map enc)) _ h.2.1 hy, shaped_of h.1 h.2.2.1 hx, shaped_of (p := .lst (b.map enc)) h.2.1 h.2.2.2 hy, ?_⟩
    rw [any_toDs]
    exact q _ rfl
  · cases e
theorem rv_notInQ {a : α} {b : List β} : RvF T (rNotInD K) a b ((inQ (enc a) (b.map enc)).map (!·)) := fun H x y Q c hx hy e q => by
  unfold inQ optIf at e
  split at e
  · rename_i h
    cases e
    refine ⟨_, _, dp_of _ _ h.1 hx, dp_of (.lst (b.map enc)) _ h.2.1 hy, shaped_of h.1 h.2.2.1 hx, shaped_of (p := .lst (b.map enc)) h.2.1 h.2.2.2 hy, ?_⟩
    rw [any_toDs]
    exact q _ rfl
  · cases e
/-! ### is None -/
def rIsNo : R2 := fun x y H Q => y = .non ∧ Q (.bl (decide (x = .non))) H
def rNotNo : R2 := fun x y H Q => y = .non ∧ Q (.bl (!decide (x = .non))) H
theorem k_isN {X : Cx} : OpR X (compareOp .Is) rIsNo := op_isN
theorem k_notN {X : Cx} : OpR X (compareOp .IsNot) rNotNo := op_notN
def nonP : PV → Bool
  | .non => true
  | _ => false
theorem nonP_rep {G : Addr → Prop} {p : PV} {H : Hp} {x : V} (r : Rep T H G p x) : decide (x = .non) = nonP p := by
  cases p with
  | non => have r : x = .non := r; rw [r]; rfl
  | bl b => have r : x = .bl b := r; rw [r]; rfl
  | int i => have r : x = .int i := r; rw [r]; rfl
  | str y => have r := r.1; rw [r]; rfl
  | lst xs => unfold Rep at r; obtain ⟨a, vs, e, _⟩ := r; rw [e]; rfl
  | tup xs => unfold Rep at r; obtain ⟨a, vs, e, _⟩ := r; rw [e]; rfl
  | obj c xs => unfold Rep at r; obtain ⟨a, dx, vs, e, _⟩ := r; rw [e]; rfl
  | scr xs => unfold Rep at r; obtain ⟨a, e, _⟩ := r; rw [e]; rfl
theorem rv_isN {a : α} {b : Unit} : RvF T rIsNo a b (some (nonP (enc a))) := fun H x y Q c hx hy e q => by
  cases e
  have hy : y = .non := hy
  show y = .non ∧ Q (.bl (decide (x = .non))) H
  rw [nonP_rep hx]
  exact ⟨hy, q _ rfl⟩
theorem rv_notN {a : α} {b : Unit} : RvF T rNotNo a b (some (!nonP (enc a))) := fun H x y Q c hx hy e q => by
  cases e
  have hy : y = .non := hy
  show y = .non ∧ Q (.bl (!decide (x = .non))) H
  rw [nonP_rep hx]
  exact ⟨hy, q _ rfl⟩
/-! ### isinstance of a value of unknown sort -/
def tyP : PV → Option String
  | .non => some "NoneType"
  | .bl _ => some "bool"
  | .int _ => some "int"
  | .str _ => some "str"
  | .lst _ => some "list"
  | .tup _ => some "tuple"
  | _ => none
theorem tyP_ok {G : Addr → Prop} {p : PV} {H : Hp} {x : V} {s : String} (h : tyP p = some s) (r : Rep T H G p x) : TyX K H x (.type s) := by
  cases p with
  | non => have r : x = .non := r; cases h; rw [r]; exact .base .non
  | bl b => have r : x = .bl b := r; cases h; rw [r]; exact .base (.bl b)
  | int i => have r : x = .int i := r; cases h; rw [r]; exact .base (.int i)
  | str y => have r := r.1; cases h; rw [r]; exact .base (.str y)
  | lst xs => unfold Rep at r; obtain ⟨a, vs, e, _, hp, _⟩ := r; cases h; rw [e]; exact .base (.lst hp)
  | tup xs => unfold Rep at r; obtain ⟨a, vs, e, _, hp, _⟩ := r; cases h; rw [e]; exact .base (.tup hp)
  | obj c xs => cases h
  | scr xs => cases h
def isD (p : PV) (c : String) : Option Bool := (tyP p).bind fun s => kitB s c
theorem evm_isD {c : String} {m : R α} (ha : Evm C Γ l ta m) : Evm C Γ .fr (tCB (rIsi K) (tCons ta (tCons (tC (.ty c)) tNil))) (m.bind fun a => R.of (isD (enc a) c)) := fun G hid os σ H Q Kw q => by
  refine ha G hid os σ H _ Kw ?_
  cases e1 : m with
  | bad => rw [e1] at q; exact q
  | ex x => rw [e1] at q; exact q
  | ok a =>
    rw [e1] at q
    have q : PoV C .fr G os σ H Q (R.of (isD (enc a) c)) := q
    intro v H1 s1 r1
    cases e2 : isD (enc a) c with
    | none => rw [e2] at q; exact q.elim
    | some b =>
      rw [e2] at q
      unfold isD at e2
      obtain ⟨s, h1, h2⟩ := Option.bind_eq_some_iff.mp e2
      exact ⟨v, .ty c, .type s, .type c, b, rfl, .ty c, tyP_ok h1 r1, kit_ty h2, q _ H1 s1 rfl⟩
/-! ### tuples of unknown places -/
theorem evm_ixD {m1 : R TpD} {m2 : R Int} (ha : Evm C Γ l ta m1) (hb : Evm C Γ l2 tb m2) : Evm C Γ l (tOp (rIxT K) ta tb) (m1.bind fun xs => m2.bind fun i => R.of (atI xs.t i)) :=
  evm_op2 ha hb fun xs i G hid os σ H Q x y Kw rx ry q => by
    have rx : Rep C.T H _ (.tup xs.t) x := rx
    unfold Rep at rx
    obtain ⟨p, vs, e, _, hp, _, rs⟩ := rx
    cases e1 : atI xs.t i with
    | none => rw [e1] at q; exact q.elim
    | some a =>
      rw [e1] at q
      obtain ⟨v, h1, h2⟩ := rs.atI e1
      exact ⟨p, vs, i, v, e, ry, rd_seqT hp, h1, q v H (Same.refl H) h2⟩
theorem ra_lenD {b : TpD × Unit} : RaF T (fun xs H Q => ∃ p ys, xs = [.ref p] ∧ (SqL K H p ys ∨ SqT K H p ys) ∧ Q (.int ys.length) H) b (some (b.1.t.length : Int)) := fun H xs Q c r e q => by
  obtain ⟨v, e1, e2⟩ := reps1 (a := b.1) r
  have e2 : Rep T H _ (.tup b.1.t) v := e2
  unfold Rep at e2
  obtain ⟨p, vs, e3, _, hp, _, rs⟩ := e2
  cases e
  refine ⟨p, vs, by rw [e1, e3], .inr (rd_seqT hp), q _ ?_⟩
  rw [← rs.len]
  rfl
end
end Pv

set_option Elab.async false
set_option linter.all false
set_option maxRecDepth 100000
set_option maxHeartbeats 2000000
namespace Pv
open PySem PySem.Spec PyProof.Rows L2
/-! ### several except clauses, some with a name -/
abbrev Cls1 := Value × Option Nat × (Addr → Value → Option Addr → TS)
def endsAs (D : Ends) : Option Nat → Ends
  | none => D
  | some i => { nx := fun τ G => D.nx (τ.set i none) G, rt := D.rt, bk := fun τ G => D.bk (τ.set i none) G, ct := fun τ G => D.ct (τ.set i none) G }
def slotAs (σ : L2.St) (a : Addr) : Option Nat → L2.St
  | none => σ
  | some i => σ.set i (some (.ref a))
/-- what the clauses wish of an exception, the first one first -/
def wMix (K : PySem.W.Frag) (Wout : WX) (D : Ends) : List Cls1 → WX
  | [] => Wout
  | (c, o, ts) :: r => fun cls d σ H => ∃ b, PySem.W.exmOne K cls c = some b ∧ (b = true → ∀ a, H a = none → ts a cls d (endsAs D o) (slotAs σ a o) H) ∧ (b = false → wMix K Wout D r cls d σ H)
inductive MixOk (X : Cx) : List ExceptHandler → List Cls1 → Prop
  | nil : MixOk X [] []
  | bare {x : Str} {c : Value} {ts : Addr → Value → Option Addr → TS} {b₀ : Stmt} {su : List Stmt} {np p2 : Pos} {hds : List ExceptHandler} {l : List Cls1} (hc : Names X x c)
      (hsu : ∀ (a : Addr) (oe : Obj) (cls : Value) (d : Option Addr) (pn : List (Addr × Obj)), L2N.Zn cls d oe → (∃ fs, oe.data = .fields fs) → PSs (X.suite a ((a, oe) :: pn)) (b₀ :: su) (ts a cls d)) (r : MixOk X hds l) : MixOk X (.ExceptHandler (some (.Name x np)) none (b₀ :: su) p2 :: hds) ((c, none, ts) :: l)
  | named {x n : Str} {c : Value} {i : Nat} {ts : Addr → Value → Option Addr → TS} {b₀ : Stmt} {su : List Stmt} {np p2 : Pos} {hds : List ExceptHandler} {l : List Cls1} (hi : X.N[i]? = some n) (hln : X.env.kindOf n = some .local) (hc : Names X x c)
      (hsu : ∀ (a : Addr) (oe : Obj) (cls : Value) (d : Option Addr) (pn : List (Addr × Obj)), L2N.Zn cls d oe → (∃ fs, oe.data = .fields fs) → PSs (X.suite a ((a, oe) :: pn)) (b₀ :: su) (ts a cls d)) (r : MixOk X hds l) : MixOk X (.ExceptHandler (some (.Name x np)) (some n) (b₀ :: su) p2 :: hds) ((c, some i, ts) :: l)
def tTryM (tb : WX → TS) (K : PySem.W.Frag) (l : List Cls1) (Wout : WX) : TS := fun D σ H => tb (wMix K Wout D l) D σ H
theorem ps_tryM {X : Cx} {body : List Stmt} {h1 : ExceptHandler} {hds : List ExceptHandler} {l : List Cls1} {pos : Pos} {tb : WX → TS} {Wout : WX} (hN : X.N.Nodup) (hs : X.stack = X.env :: X.outer) (hf : X.env.frame = some X.env.locals) (tk : L2N.Takes X Wout) (hh : MixOk X (h1 :: hds) l)
    (hb : ∀ (W : WX) (pn : List (Addr × Obj)) (xe : Value → Shared → Prop), L2N.Takes (X.tr pn xe) W → PassesOwn (model X.prog X.w) X.A X.env xe → PSs (X.tr pn xe) body (tb W)) : PS X (.Try body (h1 :: hds) [] [] pos) (tTryM tb X.K l Wout) := by
  refine ⟨fun pins s σ H D I h => ?_⟩
  have okX := I.ok
  have hfr := okX.frames.trans (congrArg some hs)
  refine wpAny_Try_except (wpAny_mono ((hb (wMix X.K Wout D l) (X.pn ++ pins) (fun e s₁ => wpAny (model X.prog X.w) X.A (noteFrame e X.env) (fun _ s₂ => wpAny (model X.prog X.w) X.A (setFlight e none) (fun _ s₃ => wpAny (model X.prog X.w) X.A (handleBy e X.env (h1 :: hds)) (SP X pins D) X.xe s₃) X.xe s₂) X.xe s₁)
    (fun u z xx => ?_) PassesOwn.looking).run [] s σ H D (I.toTry _) h) (fun f s1 hsp => ?_) fun e s1 he => he)
  · obtain ⟨a, B, sI, pn2, τ, G, cls, d, rfl, Jt, nb, up, sky, na, os, ag, w⟩ := xx
    have J : Inv X pins τ G sI := Jt.ofTry okX
    rw [hs] at sky
    show wpAny (model X.prog X.w) X.A (noteFrame (.ref a) X.env) _ _ _
    refine L2N.Sky.land L2N.Zn.steady hfr hf sky fun h3 fl3 up3 => ?_
    have J3 : Inv X pins τ G { z with heap := h3 } := J.landed nb fl3.1 (up.trans up3) os ag
    obtain ⟨oe3, vs3, he3, hz3, hd3⟩ := fl3.there
    have nfr : a ∉ frs (X.env :: X.outer) := fun hm => by
      obtain ⟨_, o2, e2, hnf⟩ := fl3.2.2.1.mem hm
      cases he3.symm.trans e2
      exact hnf _ hd3
    have nL : a ≠ X.env.locals := fun y => nfr (List.mem_filterMap.mpr ⟨X.env, List.mem_cons_self, hf.trans (congrArg some y.symm)⟩)
    have nF : a ∉ X.fs := fun hm => by
      obtain ⟨e, h5, h6⟩ := List.mem_filterMap.mp hm
      exact nfr (List.mem_filterMap.mpr ⟨e, List.mem_cons_of_mem _ h5, h6⟩)
    have S3 := J3.suite he3 hd3 na nL nF
    have named : ∀ {x : Str} {np : Pos} {c : Value} {Q E : Value → Shared → Prop}, Names X x c → Q c { z with heap := h3 } → wpAny (model X.prog X.w) (X.A.mark (some (.ref a))) (eval (.Name x np) X.env) Q E { z with heap := h3 } := fun hc q => by
      obtain ⟨hg, hdb, hm | ⟨hm, hv, hnn⟩⟩ := hc
      · exact ld_glob (X := X.suite a ((a, oe3) :: (X.pn ++ pins))) S3 hg hm q hdb
      · exact ld_blt (X := X.suite a ((a, oe3) :: (X.pn ++ pins))) S3 hg hm hv q hnn hdb
    have LT : PySem.W.Looks (model X.prog X.w) h3 (typeOf (.ref a)) cls := fun A2 Q E y k q => wpAny_typeOf_ref (k _ _ he3) (hz3.1.symm ▸ q)
    have go : ∀ {hds2 : List ExceptHandler} {l2 : List Cls1}, MixOk X hds2 l2 → wMix X.K Wout D l2 cls d τ G → wpAny (model X.prog X.w) X.A (handleBy (.ref a) X.env hds2) (SP X pins D) X.xe { z with heap := h3 } := fun {hds2 l2} hk => by
      induction hk with
      | nil =>
        intro w
        obtain ⟨k1, k2, k3, oe, fs, T, oT, t2, he, hz, hd, h8, hr⟩ := id fl3
        refine wpAny_handleBy_nil ?_
        unfold PySem.passOn
        refine wpAny_bind (wpAny_field he hd h8 ?_)
        rw [if_neg (show ¬ ((Value.ref T == Value.none) = true) by simp)]
        have last : wpAny (model X.prog X.w) X.A (setFlight (.ref a) X.env.frame) (fun _ s4 => wpAny (model X.prog X.w) X.A (throw (.ref a) : Sem Flow) (SP X pins D) X.xe s4) X.xe { z with heap := h3 } := by
          rw [hf]
          exact HandSPX.setFlight_upZ fl3 fun h4 hh4 up4 => wpAny_throw (tk _ _ ⟨a, B, sI, pins, τ, G, cls, d, rfl, J, nb, (up.trans up3).trans up4, .inr (.inr (hs.symm ▸ hh4)), na, os, ag, w⟩)
        first | exact wpAny_bind (wpAny_pure (wpAny_bind last)) | exact wpAny_bind last
      | @bare x c ts b₀ su np p2 hds3 l3 hc hsu r ih =>
        rintro ⟨b, hb1, hy, hn⟩
        refine wpAny_handleBy_cons (codeAny_handlers_test (named hc ((PySem.W.exm_one (M := model X.prog X.w) J3.kIn LT hb1).here ?_))) (fun q => by cases q)
        cases b with
        | false => exact ih (hn rfl)
        | true =>
          refine codeAny_handlers_suite (HandSPX.lands_againZ fl3 fun h4 fl4 up4 => ?_)
          obtain ⟨oe4, vs4, he4, hz4, hd4⟩ := fl4.there
          have J4 : Inv X pins τ G { z with heap := h4 } := J.landed nb fl4.1 ((up.trans up3).trans up4) os ag
          have S4 := J4.suite he4 hd4 na nL nF
          refine wpAny_mono ((hsu a oe4 cls d (X.pn ++ pins) hz4 ⟨_, hd4⟩).run [] _ _ G _ S4 (hy rfl a na)) (fun f s6 hsp => ?_) fun _ _ y => y.elim
          cases f with
          | ret u => obtain ⟨v, σ6, H6, S6, r6, q6⟩ := hsp; exact ⟨v, σ6, H6, S6.unsuite okX, r6, q6⟩
          | next => obtain ⟨σ6, H6, S6, q6⟩ := hsp; exact ⟨σ6, H6, S6.unsuite okX, q6⟩
          | brk => obtain ⟨σ6, H6, S6, q6⟩ := hsp; exact ⟨σ6, H6, S6.unsuite okX, q6⟩
          | cont => obtain ⟨σ6, H6, S6, q6⟩ := hsp; exact ⟨σ6, H6, S6.unsuite okX, q6⟩
      | @named x n c i ts b₀ su np p2 hds3 l3 hi hln hc hsu r ih =>
        rintro ⟨b, hb1, hy, hn⟩
        refine wpAny_handleBy_cons (codeAny_handlers_test (named hc ((PySem.W.exm_one (M := model X.prog X.w) J3.kIn LT hb1).here ?_))) (fun q => by cases q)
        cases b with
        | false => exact ih (hn rfl)
        | true =>
          refine codeAny_handlers_suite_as (HandSPX.lands_againZ fl3 fun h4 fl4 up4 => ?_)
          obtain ⟨oe4, vs4, he4, hz4, hd4⟩ := fl4.there
          have J4 : Inv X pins τ G { z with heap := h4 } := J.landed nb fl4.1 ((up.trans up3).trans up4) os ag
          have S4 := J4.suite he4 hd4 na nL nF
          refine store_ok (X := X.suite a ((a, oe4) :: (X.pn ++ pins))) (v := .ref a) S4 hN hi (.inl hln) rfl (fun s5 S5 => ?_) (.inr hln)
          refine wpAny_mono ((hsu a oe4 cls d (X.pn ++ pins) hz4 ⟨_, hd4⟩).run [] s5 _ G _ S5 (hy rfl a na)) (fun f s6 hsp => ?_) fun _ _ y => y.elim
          cases f with
          | ret u => obtain ⟨v, σ6, H6, S6, r6, q6⟩ := hsp; exact gone_ok (S6.unsuite okX) hN hi hln fun s7 J7 => ⟨_, _, _, J7, r6, q6⟩
          | next => obtain ⟨σ6, H6, S6, q6⟩ := hsp; exact gone_ok (S6.unsuite okX) hN hi hln fun s7 J7 => ⟨_, _, J7, q6⟩
          | brk => obtain ⟨σ6, H6, S6, q6⟩ := hsp; exact gone_ok (S6.unsuite okX) hN hi hln fun s7 J7 => ⟨_, _, J7, q6⟩
          | cont => obtain ⟨σ6, H6, S6, q6⟩ := hsp; exact gone_ok (S6.unsuite okX) hN hi hln fun s7 J7 => ⟨_, _, J7, q6⟩
    exact go hh w
  · cases f with
    | ret u => obtain ⟨v, τ, G, J, r, q⟩ := hsp; exact ⟨v, τ, G, J.ofTry okX, r, q⟩
    | next => obtain ⟨τ, G, J, q⟩ := hsp; exact wpAny_execs_nil ⟨τ, G, J.ofTry okX, q⟩
    | brk => obtain ⟨τ, G, J, q⟩ := hsp; exact ⟨τ, G, J.ofTry okX, q⟩
    | cont => obtain ⟨τ, G, J, q⟩ := hsp; exact ⟨τ, G, J.ofTry okX, q⟩
/-! ### the mirror -/
/-- how the clauses l answer the exception x: by mx -/
inductive MixB {β : Type} (C : Cn) (Γ : List Sl) (out : β → Oc) (K : PySem.W.Frag) (x : Exc) (mx : R β) : List Cls1 → Prop
  | named {c : Value} {i : Nat} {ts : Addr → Value → Option Addr → TS} {r : List Cls1} (e : PySem.W.exmOne K (.ref (C.T.addr x.c)) c = some true) (hi : i < Γ.length)
      (h : ∀ a d, BD C (Γ.set i (.xv a d x)) (tSeq (ts a (.ref (C.T.addr x.c)) d) (tSeq (tClr i) tNext)) mx out) : MixB C Γ out K x mx ((c, some i, ts) :: r)
  | bare {c : Value} {ts : Addr → Value → Option Addr → TS} {r : List Cls1} (e : PySem.W.exmOne K (.ref (C.T.addr x.c)) c = some true) (h : ∀ a d, BD C Γ (tSeq (ts a (.ref (C.T.addr x.c)) d) tNext) mx out) : MixB C Γ out K x mx ((c, none, ts) :: r)
  | no {c : Value} {o : Option Nat} {ts : Addr → Value → Option Addr → TS} {r : List Cls1} (e : PySem.W.exmOne K (.ref (C.T.addr x.c)) c = some false) (h : MixB C Γ out K x mx r) : MixB C Γ out K x mx ((c, o, ts) :: r)
theorem bd_tryM {β : Type} {C : Cn} {Γ : List Sl} {out : β → Oc} {m : R (R β)} {ms : Exc → R β} {okc : Exc → Bool} {tb : WX → TS} {l : List Cls1} {Wout : WX} {K : PySem.W.Frag}
    (ho : ∀ b, (∃ Γ', out b = .nx Γ') ∨ ∃ p, out b = .rt p) (hv : ∀ x, okc x = true → x.vs.all flV = true) (hx : ∀ x, okc x = true → MixB C Γ out K x (ms x) l) (hb : ∀ W, BDx C W Γ (tSeq (tb W) tNext) m out) :
    BD C Γ (tTryM tb K l Wout) (R.tryC okc m ms) out := fun G hid os σ H D Kw q => by
  refine hb _ G hid os σ H D Kw ?_
  cases e : m with
  | bad => rw [e] at q; exact q
  | ok k => rw [e] at q; exact q
  | ex x =>
    rw [e] at q
    have q : PoB C G hid D out (if okc x then ms x else .bad) := q
    cases hok : okc x with
    | false => rw [hok] at q; exact q.elim
    | true =>
      rw [hok] at q
      have q : PoB C G hid D out (ms x) := q
      intro cls d H2 s1 r
      obtain ⟨rfl, r0⟩ := r
      have K1 := Kw.same s1
      have hv := hv x hok
      have h0 := hx x hok
      clear hx hb
      have r : (d = none ∧ x.vs = []) ∨ ∃ dx us, d = some dx ∧ H2 dx = some (.xd ((C.T.fld x.c).zip us)) ∧ (C.T.fld x.c).length = us.length ∧ Reps C.T H2 (fun _ => False) x.vs us := r0
      clear r0
      show wMix K Wout D l (.ref (C.T.addr x.c)) d σ H2
      generalize ms x = mx at q h0
      clear e hok
      induction h0 with
      | no e3 h ih => exact ⟨false, e3, (fun y => nomatch y), fun _ => ih⟩
      | bare e3 h => exact ⟨true, e3, fun _ a na => h a d G hid _ _ H2 D K1 q, fun y => nomatch y⟩
      | @named c i ts r2 e3 hi h =>
        refine ⟨true, e3, fun _ a na => ?_, fun y => nomatch y⟩
        have K2 := K1.clear i hi (some (.ref a))
        have K3 : OkW C G (Γ.set i (.xv a d x)) hid (os.set i none) (σ.set i (some (.ref a))) H2 := ⟨by simp [K1.lo], by simp [K1.ls], K2.ext, K2.dom, K2.new, K2.inj, fun j s h4 => by
          by_cases ej : i = j
          · subst ej
            rw [List.getElem?_set_self hi] at h4
            cases h4
            exact ⟨by rw [List.getElem?_set_self (by rw [K1.lo]; exact hi)], by rw [List.getElem?_set_self (by rw [K1.ls]; exact hi)], hv, r⟩
          · refine K2.sl j s ?_
            rw [List.getElem?_set_ne ej] at h4 ⊢
            exact h4, K2.hd⟩
        refine h a d G hid _ _ H2 { nx := D.nx, rt := D.rt, bk := fun τ G => D.bk (τ.set i none) G, ct := fun τ G => D.ct (τ.set i none) G } K3 ?_
        cases em : mx with
        | bad => rw [em] at q; exact q
        | ex z => rw [em] at q; exact q
        | ok b =>
          rw [em] at q
          have q : PoO C G hid D (out b) := q
          show PoO C G hid _ (out b)
          rcases ho b with ⟨Γ', e⟩ | ⟨p, e⟩
          · rw [e] at q ⊢
            exact q
          · rw [e] at q ⊢
            exact q
end Pv

set_option Elab.async false
set_option linter.all false
set_option maxRecDepth 100000
set_option maxHeartbeats 2000000
namespace Pv
open PySem PySem.Spec PyProof.Rows L2 PySem.W PySem.Calls
/-! ### super().__init__(..) where the class above has its own __init__ -/
/-- as SupFacts, the method above being the def at fb -/
structure SupFactsF (P : Program) (K : PySem.W.Frag) (mg : Str → Option Value) (scope : Scope) (params : Arguments) (cda cc C D fb : Addr) (x0 : Str) : Prop where
  hp : ∃ ar, (params.posonlyargs ++ params.args).head? = some ar ∧ ar.arg = x0
  code : ∃ ccl cdd ccs vs file tf, K.lookup cda = some ⟨ccl, cdd, .fields vs, ccs⟩ ∧ vs[2]? = some (.str file tf) ∧ ((P.main.file : Str) == file) = true
  cell : ∃ cl cld csl, K.lookup cc = some ⟨cl, cld, .cell (some (.ref D)), csl⟩
  clsD : ∃ cdD, clsIn K D = some cdD
  sub : mroIn K C (.ref D) = some true
  noSuper : mg "super" = none
  hks : scope.names.lookup ("super" : Str) = some .globalImplicit
  hkc : scope.names.lookup ("__class__" : Str) = some .free
  top : (P.main.scope.names.lookup ("super" : Str)).isSome = false
  opq : nsIn K cStatics "thirdparty.any" = some none
  up : ks_superIn K C D "__init__" = some (some (.ref fb))
  ty : typeIn K (.ref fb) = some (.type "function")
  fn : fnIn K fb = true
section
variable {CX : CXT} {P : Program} {w : World} {K : PySem.W.Frag} {mg : Str → Option Value} {base : Heap} {ps psb : List Str} {name qual : Str} {scope : Scope} {params : Arguments} {fbody body : List Stmt} {dV kV doc pm ct oc : Value} {an od : Option Addr} {osl : Array (Option Value)} {f fb cda cc C D : Addr} {fdb : FuncData} {kb : Nat} {spb : Sp} {A : Around} {outer : List Env} {s0 : Shared} {H0 : Hp} {E : XK}
theorem at_superF {X : Cx} (hX : X = cxS CX P w K mg base ps qual scope f (.ref cda) cc A outer s0 H0 E) {σ : L2.St} {H : Hp} {s : Shared} {a : Addr} {x0 : Str} {e : Expr} {es : List Expr} {t : TA} {p0 p1 p2 p3 p4 : Pos} {rest : List Stmt} {Q : Flow → Shared → Prop} {Qn : L2.St → Hp → Prop}
    (S : SupScope ps scope) (lf : K.lookup f = some ⟨oc, od, .func (ksFn name qual params (fbody) scope dV kV doc pm an (.ref cda) ct cc), osl⟩) (T : SupFactsF P K mg scope params cda cc C D fb x0) (h0 : ps[0]? = some x0) (hCD : ∃ oC, K.lookup C = some oC ∧ (∃ c, oC.data = .cls c))
    (Fb : FnOk P w K mg base CX0 kb fb fdb psb spb) (hbind : Binds K fdb psb []) (hroom : Room kb X.A)
    (I : Inv X [] σ H s) (hσ : σ[0]? = some (some (.ref a))) (ha : H a = some (exo a C none)) (hargs : PA X (e :: es) t) (ht : t σ H fun vs H1 => spb (.ref a :: vs) H1 (fun v H2 => Qn σ H2) E0)
    (hrest : ∀ s' H1, Inv X [] σ H1 s' → Qn σ H1 → wpAny (model X.prog X.w) X.A (execs rest X.env) Q X.xe s')
    {pl : Sem Bool} (hcall : eval (.Call (.Attribute (.Call (.Name "super" p0) [] [] p1) "__init__" p2) (e :: es) [] p3) X.env = (do
      let ov ← attributeBase (.Call (.Name "super" p0) [] [] p1) "__init__" X.env (eval (.Call (.Name "super" p0) [] [] p1) X.env)
      standAt p2.atName
      let (f, first) ← holding [ov] (getMethod ov "__init__" pl)
      callWith p3 f first (backTo p3 (starEach (e :: es) X.env)) []) := by rfl)
    (hsw : swapsWith (.Call (.Attribute (.Call (.Name "super" p0) [] [] p1) "__init__" p2) (e :: es) [] p3) none p4.line X.env = pure false := by rfl)
    (he : starEach (e :: es) X.env = (false, eval e X.env) :: starEach es X.env := by rfl) (hpl : (backTo p3 (starEach es X.env)).any (·.1) = false := by rfl) :
    _root_.PySem.wpAt (model X.prog X.w) X.A (.func body X.env) (execs (.Expr (.Call (.Attribute (.Call (.Name "super" p0) [] [] p1) "__init__" p2) (e :: es) [] p3) p4 :: rest) X.env) Q X.xe s := by
  subst hX
  obtain ⟨ar, har, rfl⟩ := T.hp
  obtain ⟨ccl, cdd, ccs, vs, file, tf, lcode, hvs, hfile⟩ := T.code
  obtain ⟨cl, cld, csl, lcell⟩ := T.cell
  obtain ⟨cdD, hD⟩ := T.clsD
  obtain ⟨m, hn, hl⟩ := id I.loc
  obtain ⟨u0, r0, look0⟩ := hl 0 ar.arg (.ref a) h0 hσ (.inl (S.par _ (List.mem_of_getElem? h0)))
  have hka : scope.names.lookup ar.arg = some .local := S.par _ (List.mem_of_getElem? h0)
  obtain rfl : u0 = Value.ref a := r0
  have hv : m ar.arg = some (.ref a) := by
    rcases look0 with ⟨_, z⟩ | ⟨z, _⟩
    · exact z
    · have z : scope.names.lookup ar.arg = some .cell ∨ scope.names.lookup ar.arg = some .free := z
      rw [hka] at z
      rcases z with z | z <;> cases z
  obtain ⟨mb, hb1, hb2⟩ := I.mod.blt
  have hargs' := hargs.run p3
  have KX : K.In s.heap := I.kIn
  obtain ⟨t1, ho⟩ := exo_at I.hok ha
  obtain ⟨oD, hD1, hD2⟩ : ∃ oD, s.heap.get? D = some oD ∧ oD.data = .cls cdD := by
    have hD := hD
    unfold clsIn at hD
    split at hD
    · rename_i c d cd' sl ho
      cases hD
      exact ⟨_, KX _ _ ho, rfl⟩
    · cases hD
  obtain ⟨oF, hoF, hcF⟩ : ∃ oF, K.lookup fb = some oF ∧ oF.cls = .type "function" := by
    have h2 : (K.lookup fb).map (·.cls) = some (.type "function") := T.ty
    cases z : K.lookup fb with
    | none => rw [z] at h2; cases h2
    | some oF => rw [z] at h2; exact ⟨oF, rfl, Option.some.inj h2⟩
  have hi : interactive (cxS CX P w K mg base ps qual scope f (Value.ref cda) cc A outer s0 H0 E).env = false := by
    show (scope.kind == _ && _) = false
    rw [S.kind]
    rfl
  refine ks_wpAt_execs_cons (ks_wpAt_Expr_any (ks_wpAt_MethodCall ?_ hcall) hi hsw)
  refine ks_wpAt_super_base T.hks T.hkc (by decide) rfl (KX _ _ lf) rfl har rfl (KX _ _ lcode) rfl hvs hfile T.top ?_
  refine ks_loadName_global S.kind T.hks (loadGlobal_builtin (I.mod.glob.keeps I.bk) T.noSuper (hb1.keeps I.bk) ((hb2 _ (by decide +kernel)).trans (by decide +kernel)) ⟨rfl, ?_⟩)
  refine wpAny_loadName_free S.kind T.hkc (show List.lookup ("__class__" : Str) [(("__class__" : Str), cc)] = some cc from List.lookup_cons_self) ⟨_, KX _ _ lcell, rfl⟩ ?_
  refine wpAny_loadName_local S.kind hka hn hv ?_
  obtain ⟨hh, g, d, tk, os⟩ := s
  refine ks_wpAny_isType_cls hD1 hD2 ⟨rfl, ?_⟩
  refine ks_wpAny_call_super hD1 hD2 ho rfl (fun c => by intro z; cases z) (looks_mroIn KX T.sub) (fun h' eso k => ?_)
  have I1 := I.kept (h' := h') (t' := tk) k
  have hxC : a ≠ C := fun z => by
    obtain ⟨oC, q1, c, q2⟩ := hCD
    have y := KX _ _ q1
    rw [← z, ho] at y
    cases y
    cases q2
  cases hc : clsIn K C with
  | none => have := T.up; unfold ks_superIn at this; rw [hc] at this; cases this
  | some cd =>
    have hup := T.up
    unfold ks_superIn at hup
    rw [hc] at hup
    refine ks_wpAny_getMethod_super eso (looks_opaque I1.kIn T.opq) (l₀ := cd.mro) (fun A Q E s k q => wpAny_bind ((looks_clsIn I1.kIn hc) A _ E s k (wpAny_pure q))) rfl I1.kIn hup (I1.kIn _ _ hoF) hcF hxC (by decide) ?_
    have I2 := I1.kept (h' := h'.push (methodObj (.ref fb) (.ref a))) (t' := tk + 1) (fun b o z => Heap.get?_push_of_some _ z)
    have hu : (h'.push (methodObj (.ref fb) (.ref a))).get? h'.objs.size = some (methodObj (.ref fb) (.ref a)) := Heap.get?_push_at rfl rfl
    have I3 := I2.pins_of (pins' := [(h'.objs.size, methodObj (.ref fb) (.ref a))]) fun p hp => by
      rw [List.mem_singleton] at hp
      subst hp
      exact ⟨hu, I1.hok.fresh (Nat.le_refl _), Nat.ne_of_gt I1.lt, I1.nofs (Nat.le_refl _), fun v z => by cases z⟩
    rw [he] at hargs' ⊢
    refine callWith_of (P := MethP K h'.objs.size fb (.ref a)) (by show ((false || (backTo p3 (starEach es _)).any (·.1)) || false) = false; rw [hpl]; rfl) (keeps_M T.fn) (evalArgs_plain (thn (hargs' _ _ _ _ _ I3 ht) fun us s3 hs3 => ?_))
    obtain ⟨vs3, H3, I4, r4, q3⟩ := hs3
    have hpin := (I4.pin _ (List.mem_append_right _ (List.mem_singleton.mpr rfl))).1
    refine ⟨⟨hpin, I4.kIn⟩, ?_⟩
    have I5 := I4.pins_of (pins' := []) fun p hp => by cases hp
    have r5 : Vals (V.ref a :: vs3) (Value.ref a :: us) := .cons rfl r4
    have hl5 : (Value.ref a :: us).length = psb.length := by rw [← r5.length]; exact Fb.len _ _ _ _ q3
    have hb5 := hbind s3 (Value.ref a :: us) I5.kIn (by rw [List.append_nil]; exact hl5)
    rw [List.append_nil] at hb5
    refine wpAny_call (ks_codeAny_call_bound hpin (codeAny_mono (Fb.run _ (cxS CX P w K mg base ps qual scope f (.ref cda) cc A outer s0 H0 E).stack s3 H3 ⟨Value.ref a :: us, []⟩ _ _ _ E0 hroom I5.env0 hb5 r5 q3) fun rr s' hq => ?_))
    cases rr with
    | error e => exact hq.elim
    | ok fl =>
      cases fl with
      | ret u =>
        obtain ⟨v, H6, I6, rv, q6⟩ := I5.after hq
        exact wpAt_of_wpAny (hrest _ H6 I6 q6)
      | next => exact False.elim hq
      | brk => exact False.elim hq
      | cont => exact False.elim hq
/-- such an __init__, whose one statement hands its arguments up -/
theorem fn_supF {x0 : Str} {xs : List Str} {fs : List Str} {e : Expr} {es : List Expr} {p0 p1 p2 p3 p4 : Pos} {t : TA} (S : SupScope (x0 :: xs) scope)
    (lf : K.lookup f = some ⟨oc, od, .func (ksFn name qual params [.Expr (.Call (.Attribute (.Call (.Name "super" p0) [] [] p1) "__init__" p2) (e :: es) [] p3) p4] scope dV kV doc pm an (.ref cda) ct cc), osl⟩)
    (hcd : codeIn K (.ref cda) qual = true) (T : SupFactsF P K mg scope params cda cc C D fb x0) (OC : OexC K C) (hfs : fs.length = xs.length)
    (Fb : FnOk P w K mg base CX0 kb fb fdb psb (SpExI C fs)) (hbind : Binds K fdb psb [])
    (ha : ∀ (A : Around) (outer : List Env) (s : Shared) (H : Hp) (E : XK), PA (cxS CX P w K mg base (x0 :: xs) qual scope f (.ref cda) cc A outer s H E) (e :: es) t)
    (ht : ∀ (v : V) (us : List V) (H : Hp) (Q : List V → Hp → Prop), us.length = fs.length → Q us H → t ((v :: us).map some) H Q)
    {pl : Sem Bool} (hcall : ∀ X : Env, eval (.Call (.Attribute (.Call (.Name "super" p0) [] [] p1) "__init__" p2) (e :: es) [] p3) X = (do
      let ov ← attributeBase (.Call (.Name "super" p0) [] [] p1) "__init__" X (eval (.Call (.Name "super" p0) [] [] p1) X)
      standAt p2.atName
      let (f, first) ← holding [ov] (getMethod ov "__init__" pl)
      callWith p3 f first (backTo p3 (starEach (e :: es) X)) []))
    (hsw : ∀ X : Env, swapsWith (.Call (.Attribute (.Call (.Name "super" p0) [] [] p1) "__init__" p2) (e :: es) [] p3) none p4.line X = pure false)
    (he : ∀ X : Env, starEach (e :: es) X = (false, eval e X) :: starEach es X) (hpl : ∀ X : Env, (backTo p3 (starEach es X)).any (·.1) = false) :
    FnOk P w K mg base CX (kb + 1) f (ksFn name qual params [.Expr (.Call (.Attribute (.Call (.Name "super" p0) [] [] p1) "__init__" p2) (e :: es) [] p3) p4] scope dV kV doc pm an (.ref cda) ct cc) (x0 :: xs) (SpExI C fs) := by
  have len : ∀ vs H Q E, SpExI C fs vs H Q E → vs.length = (x0 :: xs).length := fun vs H Q E h => by
    obtain ⟨a, us, rfl, hl, _⟩ := h
    rw [List.length_cons, List.length_cons, hl, hfs]
  refine ⟨len, fun A outer s H args us vs Q E hr e0 hb r hsp => ?_⟩
  have hl := len _ _ _ _ hsp
  have KX : K.In s.heap := e0.mod.kin.keeps fun b o e => (e0.bs b o e).1
  have lim : s.heap.NoLimit := e0.mod.nolimit.keeps fun b o e => (e0.bs b o e).1
  obtain ⟨cl, cld, csl, lcell⟩ := T.cell
  obtain ⟨a, ws, rfl, hlw, hp, hH, q⟩ := hsp
  obtain ⟨nm, qn, N, bs, bm, sn, sub, ab, col, dd, k0, k1, k2, k3, k5, hC, hbm⟩ := OC.cls
  refine ks_codeAny_call_defAt hr.depth (KX _ _ lf) rfl lim (codeRec_of KX hcd) rfl hb S.nocell (fun y hy => S.par y.1 (List.of_mem_zip hy).1) (fun g1 hns hk => ?_) S.co S.gen S.kind
  have I := inv_sup (CX := CX) (E := E) (qual := qual) (f := f) (cd := .ref cda) (tk := s.toks + ((x0 :: xs).zip us).length) S hr.hd e0 hl r lcell hns hk
  have est : L2.start (x0 :: xs) (.ref a :: ws) = (V.ref a :: ws).map some := by
    unfold L2.start
    rw [List.length_cons, List.length_cons, hlw, hfs, Nat.sub_self, List.replicate_zero, List.append_nil]
  have fin : ∀ {σ' : L2.St} {H' : Hp} {v : V} {u : Value} {s' : Shared}, L2.Inv (cxS CX P w K mg base (x0 :: xs) qual scope f (.ref cda) cc A outer s H E) [] σ' H' s' → RelV v u → Q v H' → CE outer P w H s Q u s' :=
    fun {σ' H' v u s'} J rv q => ⟨v, H', J.os, J.bare, J.base, J.hok, rv, q⟩
  refine ks_wpAt_mono (at_superF (X := cxS CX P w K mg base (x0 :: xs) qual scope f (.ref cda) cc A outer s H E) rfl (rest := []) (Qn := fun _ H' => Q .non H') S lf T rfl ⟨_, hC, _, rfl⟩ Fb hbind (hr.deeper _) I (by rw [est]; rfl) hH (ha A outer s H E) (by
    rw [est]
    refine ht _ ws H _ hlw ?_
    exact ⟨a, ws, rfl, hlw, hp, hH, q⟩) (Q := fun fl s' => match fl with | .next => CE outer P w H s Q .none s' | _ => False) (fun s' H1 J q => wpAny_execs_nil (fin (v := V.non) J rfl q)) (hcall _) (hsw _) (he _) (hpl _)) (fun fl s' hs => ?_) fun e s' hs => hs
  cases fl with
  | next => exact hs
  | ret u => exact False.elim hs
  | brk => exact False.elim hs
  | cont => exact False.elim hs
end
end Pv
namespace Pv
open PySem PySem.Spec L2
open Enc (enc)
open Encs (encs)
/-! ### a target of several names; a range walked from its end -/
section
variable {C : Cn} {Γ : List Sl} {l l2 : Lv} {α β : Type} [Enc α] {te t : TE} {u : TS} {out : β → Oc} {g : TG} {vs : List Nat} {fg : List Sl → α → List Sl}
theorem bd_tgt {m : R α} {k : α → R β} (h : Evm C Γ l te m) (hg : TgB (α := α) C l g vs fg) (hvs : ∀ j ∈ vs, Γ[j]? = some .un) (hk : ∀ a, BD C (fg Γ a) u (k a) out) : BD C Γ (tSeq (tAsg te g) u) (m.bind k) out := fun G hid os σ H D Kw q => by
  refine h G hid os σ H _ Kw ?_
  rcases ex_cases q with ⟨a, e, q⟩ | ⟨x, e, q⟩ <;> rw [e]
  · intro v H1 s1 r1
    exact hg G hid os σ H1 _ v a Γ (Kw.same s1) (fun j hj => Kw.sl j _ (hvs j hj)) r1 fun os' σ' K' _ _ => hk a G hid os' σ' H1 D K' q
  · exact pox_of Kw q
theorem int_rrng (lo hi : Int) (T : CT) : ItOv T (Itc (lo + (((hi - lo).toNat : Nat) : Int) - 1) (-1) (hi - lo).toNat) l [] (rng lo hi).reverse := by
  have hl : (rng lo hi).reverse.length = (hi - lo).toNat := by simp [rng]
  refine ⟨fun i a H A ha hd _ => ?_, fun i H A h9 _ => by rw [hl] at h9; exact h9⟩
  have hi2 : i < (hi - lo).toNat := by
    by_cases h : i < (hi - lo).toNat
    · exact h
    · rw [List.getElem?_eq_none (by rw [hl]; omega)] at ha
      cases ha
  refine ⟨hi2, fun x H3 hy => ?_⟩
  obtain ⟨e1, e2⟩ := hy
  rw [e1, e2]
  refine ⟨Same.refl _, ?_⟩
  have e : a = lo + ((((hi - lo).toNat - 1 - i : Nat)) : Int) := by
    rw [List.getElem?_reverse (by simp [rng]; omega)] at ha
    unfold rng at ha
    rw [List.getElem?_map, List.length_map, List.length_range, List.getElem?_range (by omega)] at ha
    cases ha
    rfl
  rw [e]
  show V.int _ = V.int _
  congr 1
  omega
theorem evi_rrng {tr : L2.St → Hp → (Int → Int → Hp → Prop) → Prop} {lo hi : R Int} (h : ∀ G hid os σ H (Q : Int → Int → Hp → Prop), OkW C G Γ hid os σ H → (match lo.bind fun a => hi.bind fun b => .ok (a, b) with | .ok z => ∀ H', Same H H' → Q z.1 z.2 H' | .ex x => PoX C σ H x | .bad => False) → tr σ H Q) :
    EvI C Γ l (iRevR tr) (lo.bind fun a => hi.bind fun b => (R.of (rngO a b)).bind fun xs => .ok xs.reverse) := fun G hid os σ H Q Kw q => by
  refine h G hid os σ H _ Kw ?_
  cases e1 : lo with
  | bad => rw [e1] at q; exact q
  | ex x => rw [e1] at q; exact q
  | ok n =>
    rw [e1] at q
    cases e2 : hi with
    | bad => rw [e2] at q; exact q
    | ex x => rw [e2] at q; exact q
    | ok m =>
      rw [e2] at q
      have q : PoI C l G os σ H Q ((R.of (rngO n m)).bind fun xs => .ok xs.reverse) := q
      intro H2 s2
      cases e3 : rngO n m with
      | none => rw [e3] at q; exact q.elim
      | some xs =>
        rw [e3] at q
        obtain ⟨c, e4⟩ := optIf_some e3
        refine ⟨by omega, by omega, by omega, by omega, q _ [] H2 s2 (fun z hz => by cases hz) ?_ ?_⟩
        · rw [← e4]
          simp only [rng, List.length_reverse, List.length_map, List.length_range]
          show _ ≤ 1000000
          omega
        · rw [← e4]
          exact int_rrng n m C.T
theorem evi_rr1 {m : R Int} (h : Evm C Γ l2 te m) : EvI C Γ l (iRevR (tRg1 te)) (m.bind fun n => (R.of (rngO 0 n)).bind fun xs => .ok xs.reverse) := fun G hid os σ H Q Kw q => by
  refine evi_rrng (lo := .ok 0) (hi := m) (fun G hid os σ H Q Kw q => ?_) G hid os σ H Q Kw q
  refine h G hid os σ H _ Kw ?_
  cases e : m with
  | bad => rw [e] at q; exact q
  | ex x => rw [e] at q; exact q
  | ok n =>
    rw [e] at q
    exact fun v H1 s1 r1 => ⟨n, int_rep r1, q H1 s1⟩
end
end Pv
namespace Pv
open PySem PySem.Spec L2
open Enc (enc)
open Encs (encs)
/-! ### e.f in an except suite, whatever the class of e -/
def tXfU (K : PySem.W.Frag) (a : Addr) (cls : Value) (d : Option Addr) (f : Str) (te : TE) : TE := fun σ H Q => te σ H fun x H1 => x = .ref a ∧ ∃ (C dd : Addr) (fs : List (Str × V)) (v : V), cls = .ref C ∧ XfC K C ∧ PySem.W.findIn K (.ref C) f = some none ∧ d = some dd ∧ H1 dd = some (.xd fs) ∧ fs.lookup f = some v ∧ Q v H1
theorem pe_mono {X : Cx} {e : Expr} {t t' : TE} (h : PE X e t) (m : ∀ σ H Q, t' σ H Q → t σ H Q) : PE X e t' := ⟨fun pins s σ H Q I q => h.run pins s σ H Q I (m σ H Q q)⟩
theorem pe_xfU {X : Cx} {a : Addr} {i : Nat} {oe : Obj} {cls : Value} {d : Option Addr} {pn : List (Addr × Obj)} {e : Expr} {pos : Pos} {n : Str}
    (hz : Zc cls d oe) (hf : ∃ vs, oe.data = .fields vs) (he : PE (X.suite a ((a, oe) :: pn)) e (tVar i)) (hb : attributeBase e n X.env (eval e X.env) = eval e X.env := by rfl) :
    PE (X.suite a ((a, oe) :: pn)) (.Attribute e n pos) (tXfU X.K a cls d n (tVar i)) := by
  by_cases hC : ∃ C, cls = .ref C ∧ XfC X.K C ∧ PySem.W.findIn X.K (.ref C) n = some none
  · obtain ⟨C, rfl, T, hno⟩ := hC
    refine pe_mono (pe_xf T hno hz hf he hb) fun σ H Q q => ?_
    obtain ⟨x, h1, e1, C', dd, fs, v, e2, _, _, e3, e4, e5, q⟩ := q
    cases e2
    exact ⟨x, h1, e1, rfl, dd, fs, v, e3, e4, e5, q⟩
  · refine ⟨fun pins s σ H Q I h => ?_⟩
    obtain ⟨x, h1, e1, C', dd, fs, v, e2, e3, e4, _⟩ := h
    exact absurd ⟨C', e2, e3, e4⟩ hC
section
variable {C : Cn} {Γ : List Sl} {i : Nat} {a : Addr} {d : Option Addr} {x : Exc} {K : PySem.W.Frag}
theorem evm_xfU {α : Type} [Enc α] {f : Str} {v : α} {j : Nat} (h : Γ[i]? = some (.xv a d x)) (hne : x.vs ≠ []) (nd : (C.T.fld x.c).Nodup) (hf : (C.T.fld x.c)[j]? = some f) (hv : x.vs[j]? = some (enc v)) (fl : flV (enc v) = true) (T : XfC K (C.T.addr x.c)) (hno : PySem.W.findIn K (.ref (C.T.addr x.c)) f = some none) :
    Evm C Γ .fr (tXfU K a (.ref (C.T.addr x.c)) d f (tVar i)) (.ok v) := fun G hid os σ H Q Kw q => by
  obtain ⟨h2, dx, us, e, h3, _, rs⟩ := xv_at Kw h hne
  obtain ⟨u, hu, ru⟩ := rs.get hv
  exact ⟨.ref a, h2, rfl, _, dx, _, u, rfl, T, hno, e, h3, zip_lookup nd hf hu, q u H (Same.refl H) (ru.flV fl)⟩
end
end Pv

set_option Elab.async false
set_option linter.all false
set_option maxRecDepth 100000
namespace Pv
open PySem PySem.Spec L2
open Enc (enc)
open Encs (encs)
/-! ### what the laws have in common, apart from their mirrors -/
def Drawn (sizes out : List Int) : Prop := out.length = sizes.length ∧ ∀ (i : Nat) (a z : Int), out[i]? = some a → sizes[i]? = some z → 0 ≤ a ∧ a < z
theorem Drawn.snoc {sizes out : List Int} {n : Nat} {a z : Int} (h : Drawn (sizes.take n) out) (hz : sizes[n]? = some z) (h0 : 0 ≤ a) (h1 : a < z) : Drawn (sizes.take (n + 1)) (out ++ [a]) := by
  have hn : n < sizes.length := (List.getElem?_eq_some_iff.mp hz).1
  have hl := h.1
  rw [List.length_take, Nat.min_eq_left (by omega)] at hl
  refine ⟨by rw [List.length_append, List.length_take, hl, Nat.min_eq_left (by omega)]; rfl, fun i b y hb hy => ?_⟩
  by_cases c : i < n
  · rw [List.getElem?_append_left (by omega)] at hb
    refine h.2 i b y hb ?_
    rw [List.getElem?_take_of_lt (by omega)] at hy
    rw [List.getElem?_take_of_lt (by omega)]
    exact hy
  · have hi : i < (sizes.take (n + 1)).length := (List.getElem?_eq_some_iff.mp hy).1
    rw [List.length_take] at hi
    have : i = n := by omega
    subst this
    rw [List.getElem?_append_right (by omega), hl, Nat.sub_self] at hb
    rw [List.getElem?_take_of_lt (by omega), hz] at hy
    cases hb
    cases hy
    exact ⟨h0, h1⟩
theorem drawn_at {sizes out : List Int} (h : Drawn sizes out) (i : Nat) (z : Int) (hz : sizes[i]? = some z) {j : Int} (hj : j = (i : Int)) {Q : Int → Prop} (q : ∀ a, out[i]? = some a → 0 ≤ a → a < z → Q a) : Ok (R.of (atI out j)) Q := by
  have hi : i < sizes.length := (List.getElem?_eq_some_iff.mp hz).1
  subst hj
  refine Ok.at (by omega) (by rw [h.1]; omega) fun a ha => ?_
  rw [Int.toNat_natCast] at ha
  obtain ⟨h0, h1⟩ := h.2 i a z ha hz
  exact q a ha h0 h1
theorem drawn_get {sizes out : List Int} (h : Drawn sizes out) (i : Nat) (z : Int) (hz : sizes[i]? = some z) : ∃ a, atI out (i : Int) = some a ∧ 0 ≤ a ∧ a < z := by
  have hi : i < sizes.length := (List.getElem?_eq_some_iff.mp hz).1
  have hi2 : i < out.length := by rw [h.1]; exact hi
  obtain ⟨h0, h1⟩ := h.2 i out[i] z (List.getElem?_eq_getElem hi2) hz
  exact ⟨out[i], atI_nat (List.getElem?_eq_getElem hi2), h0, h1⟩
/-- all sizes alike -/
theorem drawn_all {n : Int} {z : Int} {out : List Int} (h : Drawn ((rng 0 n).map fun _ : Int => z) out) : (out.length : Int) = (n.toNat : Int) ∧ ∀ x, x ∈ out → 0 ≤ x ∧ x < z := by
  refine ⟨by rw [h.1, List.length_map, rng_len]; omega, fun x hx => ?_⟩
  obtain ⟨i, hi, ei⟩ := List.getElem_of_mem hx
  have hi2 : i < ((rng 0 n).map fun _ : Int => z).length := by rw [← h.1]; exact hi
  refine h.2 i x z (by rw [List.getElem?_eq_getElem hi, ei]) ?_
  rw [List.getElem?_eq_getElem hi2, List.getElem_map]
theorem beq_comm' (a b : Nat) : (a == b) = (b == a) := by
  rw [Bool.eq_iff_iff, beq_iff_eq, beq_iff_eq]
  exact eq_comm
/-! #### strikes -/
def st1 (b : Bool) (row : List Int) : List Int := if b then row.drop 1 else (row.take (row.length - 1)).map (· + 1)
def strikes (many : Nat) (row : List Int) : List Nat → List Int
  | [] => row
  | c :: cs => strikes many (st1 (c == many) row) cs
theorem cut_last {α : Type} (xs : List α) : cutL xs none (some (-(1 : Int))) = xs.take (xs.length - 1) := by
  unfold cutL
  show (xs.drop 0).take ((if (-(1 : Int)) < 0 then ((-(1 : Int)) + (xs.length : Int)).toNat else min (-(1 : Int)).toNat xs.length) - 0) = _
  rw [if_pos (by decide), List.drop_zero]
  congr 1
  omega
theorem cut_last' {α : Type} (xs : List α) : cutL xs none (some ((xs.length : Int) - (1 : Int))) = xs.take (xs.length - 1) := by
  by_cases c : xs = []
  · subst c; rfl
  · have : 0 < xs.length := List.length_pos_iff.mpr c
    rw [cutL_to (by omega)]
    congr 1
    omega
def manyS (m : Nat) : Str := if m = 77 then PySem.Str.ofString "mine" else PySem.Str.ofString "theirs"
theorem mt_ne : (PySem.Str.ofString "theirs" = PySem.Str.ofString "mine") = False ∧ (PySem.Str.ofString "mine" = PySem.Str.ofString "theirs") = False := by
  constructor <;> exact eq_false (by decide +kernel)
theorem fold_strikes {f : Str → List Int → R (List Int)} {m : Nat} : ∀ (cs : List Nat) (row : List Int), (∀ c, c ∈ cs → ∀ r, f (ch c) r = .ok (st1 (c == m) r)) → foldR f (cs.map ch) row = .ok (strikes m row cs)
  | [], row, _ => rfl
  | c :: cs, row, h => by
    show (f (ch c) row).bind _ = _
    rw [h c (List.mem_cons_self ..)]
    exact fold_strikes cs _ fun d hd => h d (List.mem_cons_of_mem _ hd)
theorem st1_len (b : Bool) (row : List Int) : (st1 b row).length = row.length - 1 := by
  unfold st1
  split
  · rw [List.length_drop]
  · rw [List.length_map, List.length_take]; omega
theorem strikes_len (m : Nat) : ∀ (cs : List Nat) (row : List Int), (strikes m row cs).length = row.length - cs.length
  | [], _ => rfl
  | c :: cs, row => by
    show (strikes m (st1 _ _) cs).length = _
    rw [strikes_len m cs, st1_len, List.length_cons]
    omega
theorem st1_map (b : Bool) (row : List Int) (k : Int) : st1 b (row.map (· + k)) = (st1 b row).map (· + k) := by
  cases b with
  | true => exact List.map_drop.symm
  | false =>
    unfold st1
    rw [if_neg (by decide), if_neg (by decide), List.length_map, ← List.map_take, List.map_map, List.map_map]
    congr 1
    funext x
    show x + k + 1 = x + 1 + k
    omega
theorem strikes_map (m : Nat) (k : Int) : ∀ (cs : List Nat) (row : List Int), strikes m (row.map (· + k)) cs = (strikes m row cs).map (· + k)
  | [], _ => rfl
  | c :: cs, row => by
    show strikes m (st1 _ _) cs = (strikes m (st1 _ _) cs).map _
    rw [st1_map, strikes_map m k cs]
/-! #### texts -/
theorem cut_len_le (x : Str) (lo hi : Option Int) : (cutS x lo hi).length ≤ x.length := by
  rw [len_cps, len_cps, cps_cut]
  exact cutL_sub.length_le
theorem letters_ok (xs : List Int) (h : ∀ x, x ∈ xs → 0 ≤ x ∧ x < 2) : ∃ ys : List Nat, compR (fun _ : Int => (R.ok true)) (fun x4 : Int => (R.of (atS (PySem.Str.ofString "MT") x4))) xs = .ok (ys.map ch) ∧ ys.length = xs.length ∧ ∀ c, c ∈ ys → okL c = true := by
  have e0 : atS (PySem.Str.ofString "MT") 0 = some (ch 77) := by decide +kernel
  have e1 : atS (PySem.Str.ofString "MT") 1 = some (ch 84) := by decide +kernel
  refine ⟨xs.map fun x => if x = 0 then 77 else 84, ?_, List.length_map .., fun c hc => ?_⟩
  · rw [compR_ok (p := fun _ => true) (g := fun x : Int => ch (if x = 0 then 77 else 84)) (fun _ _ => rfl) (fun x hx => ?_), filter_yes, List.map_map]
    · rfl
    · have hx := h x hx
      have : x = 0 ∨ x = 1 := by omega
      rcases this with rfl | rfl
      · rw [e0]; rfl
      · rw [e1]; rfl
  · obtain ⟨x, _, rfl⟩ := List.mem_map.mp hc
    split <;> rfl
theorem joinL_ones : ∀ ys : List Nat, TL.joinL [] (ys.map fun c => [c]) = ys
  | [] => rfl
  | [a] => rfl
  | a :: b :: ys => by
    show [a] ++ ([] ++ TL.joinL [] ((b :: ys).map fun c => [c])) = _
    rw [joinL_ones (b :: ys)]
    rfl
theorem join_empty (ys : List Nat) : cps (Txt.join (PySem.Str.ofString "") (ys.map ch)) = ys := by
  show (Txt.join _ _).cps.toList = _
  rw [join_tl]
  show TL.joinL [] _ = _
  rw [List.map_map]
  exact joinL_ones ys
theorem ones_sum : ∀ ys : List Nat, ((ys.map ch).map (·.length)).sum = ys.length
  | [] => rfl
  | y :: ys => by
    rw [List.map_cons, List.map_cons, List.sum_cons, ones_sum ys, List.length_cons]
    show 1 + _ = _
    omega
theorem Ok.joinW {ys : List Nat} {Q : Str → Prop} (hl : ys.length ≤ 1000) (q : ∀ w : Str, cps w = ys → Q w) : Ok (R.of (joinS (PySem.Str.ofString "") (ys.map ch))) Q := by
  refine Ok.opt ?_ (q _ (join_empty ys))
  rw [ones_sum]
  show _ + _ * 0 ≤ LIM
  have : (LIM : Nat) = 1000000 := rfl
  omega
theorem Ok.addS {x y : Str} {Q : Str → Prop} (hl : x.length + y.length ≤ 100000) (q : Q (x ++ y)) : Ok (R.of (Pv.addS x y)) Q :=
  Ok.opt (Nat.le_trans hl (by decide)) q
theorem len_add (x y : Str) : (x ++ y).length = x.length + y.length := Str.length_append x y
theorem Ok.atS {x : Str} {i : Int} {Q : Str → Prop} (h0 : 0 ≤ i) (h1 : i < ((cps x).length : Int)) (q : ∀ c, (cps x)[i.toNat]? = some c → Q (ch c)) : Ok (R.of (Pv.atS x i)) Q := by
  obtain ⟨a, e1, e2⟩ := atI_of (xs := cps x) (i := i) h0 h1
  refine Ok.of (a := ch a) ?_ (q a e2)
  unfold Pv.atS
  rw [e1]
  rfl
theorem atS_is {x : Str} {i : Nat} {c : Nat} (h : (cps x)[i]? = some c) : Pv.atS x (i : Int) = some (ch c) := by
  unfold Pv.atS
  rw [atI_nat h]
  rfl
/-! #### == over sorts that show themselves -/
class EqDs (α : Type) [Encs α] : Prop where
  eq : ∀ a b : α, PyData.eqvAll (toDs (encs a)) (toDs (encs b)) = true ↔ a = b
instance : EqD Bool := ⟨fun a b => by
  show (a == b) = true ↔ a = b
  rw [beq_iff_eq]⟩
instance : EqDs Unit := ⟨fun _ _ => by simp [encs, Encs.encs, toDs, PyData.eqvAll]⟩
instance {α β : Type} [Enc α] [EqD α] [Encs β] [EqDs β] : EqDs (α × β) := ⟨fun x y => by
  show (eqP (enc x.1) (enc y.1) && PyData.eqvAll (toDs (encs x.2)) (toDs (encs y.2))) = true ↔ _
  rw [Bool.and_eq_true, EqD.eq, EqDs.eq]
  exact (Prod.ext_iff).symm⟩
instance {α : Type} [Encs α] [EqDs α] : EqD (Tp α) := ⟨fun x y => by
  show PyData.eqvAll (toDs (encs x.t)) (toDs (encs y.t)) = true ↔ _
  rw [EqDs.eq]
  cases x
  cases y
  simp⟩
theorem eqQ_enc {α : Type} [Enc α] [Dta α] [EqD α] (a b : α) (h : Dta.n α ≤ 64 := by decide) : eqQ (enc a) (enc b) = some (eqP (enc a) (enc b)) :=
  if_pos ⟨Dta.ok a, Dta.ok b, Nat.le_trans (Dta.dp a) h, Nat.le_trans (Dta.dp b) h⟩
theorem eqQ_self {α : Type} [Enc α] [Dta α] [EqD α] (a : α) (h : Dta.n α ≤ 64 := by decide) : eqQ (enc a) (enc a) = some true := by rw [eqQ_enc a a h, eqP_self]
/-! #### walks -/
/-- a walk down from k, left at the first number where D is above 0 -/
theorem loop_down {A : Type} {f : Int → Int → R (Stp Int A)} {r : Nat → A} (D : Nat → Int) : ∀ k : Nat, (∀ i, i < k → f (i : Int) (D (i + 1)) = .ok (if 0 < D i then .rt (r i) else .nx (D i))) →
    loopR f (((List.range k).map fun i : Nat => (i : Int)).reverse) (D k) = .ok (match ((List.range k).reverse.find? fun i => decide (0 < D i)) with | some i => Stp.rt (r i) | none => Stp.nx (D 0))
  | 0, _ => rfl
  | k + 1, h => by
    rw [List.range_succ, List.map_append, List.reverse_append, List.reverse_append]
    show (f (k : Int) (D (k + 1))).bind _ = .ok (match (k :: (List.range k).reverse).find? (fun i => decide (0 < D i)) with | some i => Stp.rt (r i) | none => Stp.nx (D 0))
    rw [h k (Nat.lt_succ_self k), List.find?_cons]
    by_cases c : 0 < D k
    · rw [if_pos c, decide_eq_true c]
      rfl
    · rw [if_neg c, decide_eq_false c]
      exact loop_down D k fun i hi => h i (Nat.lt_succ_of_lt hi)
theorem rng_nat (n : Nat) : rng 0 (n : Int) = (List.range n).map fun i : Nat => (i : Int) := by
  unfold rng
  rw [Int.sub_zero, Int.toNat_natCast]
  exact List.map_congr_left fun a _ => by omega
/-- a walk that picks what passes -/
theorem fold_filter {α : Type} {f : α → List α → R (List α)} {p : α → Bool} : ∀ (xs acc : List α), (∀ x, x ∈ xs → ∀ s, s.length < acc.length + xs.length → f x s = .ok (if p x then s ++ [x] else s)) → foldR f xs acc = .ok (acc ++ xs.filter p)
  | [], acc, _ => by show R.ok acc = _; rw [List.filter_nil, List.append_nil]
  | x :: xs, acc, h => by
    show (f x acc).bind _ = _
    rw [h x (List.mem_cons_self ..) acc (by rw [List.length_cons]; omega)]
    show foldR f xs _ = _
    by_cases c : p x = true
    · rw [if_pos c, List.filter_cons_of_pos c, fold_filter xs (acc ++ [x]) fun y hy s hs => h y (List.mem_cons_of_mem _ hy) s (by rw [List.length_append, List.length_singleton] at hs; rw [List.length_cons]; omega), List.append_assoc]
      rfl
    · rw [if_neg c, List.filter_cons_of_neg c]
      exact fold_filter xs acc fun y hy s hs => h y (List.mem_cons_of_mem _ hy) s (by rw [List.length_cons]; omega)
theorem find_first : ∀ cs : List Nat, (List.range cs.length).find? ((fun x : Int => !okL (cs.getD x.toNat 77)) ∘ fun i : Nat => (i : Int)) = firstBad cs := fun cs => by
  have key : ∀ (cs : List Nat) (k : Nat) (ds : List Nat), (∀ i, i < cs.length → ds.getD (k + i) 77 = cs.getD i 77) → ((List.range cs.length).map (k + ·)).find? (fun i => !okL (ds.getD i 77)) = (firstBad cs).map (k + ·) := fun cs => by
    induction cs with
    | nil => intro k ds _; rfl
    | cons c cs ih =>
      intro k ds h
      have e : ((List.range (c :: cs).length).map (k + ·)) = k :: ((List.range cs.length).map (k + 1 + ·)) := by
        rw [List.length_cons, List.range_succ_eq_map, List.map_cons, List.map_map]
        congr 1
        exact List.map_congr_left fun a _ => by show k + (a + 1) = k + 1 + a; omega
      rw [e, List.find?_cons]
      have h0 : ds.getD k 77 = c := h 0 (by rw [List.length_cons]; omega)
      rw [h0]
      unfold firstBad
      by_cases hc : okL c = true
      · rw [hc, if_pos rfl]
        show List.find? _ _ = _
        rw [ih (k + 1) ds fun i hi => by
          have := h (i + 1) (by rw [List.length_cons]; omega)
          rw [show k + (i + 1) = k + 1 + i by omega] at this
          exact this, Option.map_map]
        congr 1
        funext a
        show k + 1 + a = k + (a + 1)
        omega
      · rw [Bool.not_eq_true] at hc
        rw [hc, if_neg (by decide)]
        rfl
  have h := key cs 0 cs fun i _ => by rw [Nat.zero_add]
  have e1 : ((List.range cs.length).map (0 + ·)) = List.range cs.length := by
    rw [show (fun x => 0 + x) = (id : Nat → Nat) from funext fun x => Nat.zero_add x, List.map_id]
  rw [e1] at h
  refine Eq.trans ?_ (h.trans ?_)
  · congr 1
  · rw [show (fun x => 0 + x) = (id : Nat → Nat) from funext fun x => Nat.zero_add x, Option.map_id]
    rfl
theorem atI_hd {α : Type} (x : α) (xs : List α) : atI (x :: xs) (0 : Int) = some x := atI_nat (j := 0) rfl
theorem atI_last {α : Type} (xs : List α) : atI xs (-(1 : Int)) = xs.getLast? := by
  by_cases c : xs = []
  · subst c; rfl
  · have h : 0 < xs.length := List.length_pos_iff.mpr c
    rw [atI_neg (by decide) (by omega), List.getLast?_eq_getElem?]
    congr 1
    omega
end Pv

set_option Elab.async false
set_option linter.all false
set_option maxRecDepth 100000
namespace Pv
open PySem PySem.Spec L2
open Enc (enc)
open Encs (encs)
/-! ### xs[::-1] -/
def tRsl (K : PySem.W.Frag) (te : TE) (to : TO) : TE := fun σ H Q => te σ H fun x H1 => to σ H1 fun o H2 => o = some (-1) ∧ ∃ (a : Addr) (xs : List V), x = .ref a ∧ SqL K H2 a xs ∧ ∀ p, H2 p = none → Q (.ref p) (upd H2 p (.lst xs.reverse))
theorem pe_rsl {X : Cx} {K : PySem.W.Frag} {e : Expr} {te : TE} {st : Option Expr} {ts : TO} {p2 pos : Pos} (hK : X.K = K) (he : PE X e te) (hs : PO X st ts) (hsub : ∀ a b, subscripted (.Slice none none st p2) false (.ref a) (.ref b) = operate (if st.isSome then [.ref a, .ref b] else [.ref b, .ref a]) (getItem (.ref a) (.ref b)) := by intro _ _; with_unfolding_all rfl) : PE X (.Subscript e (.Slice none none st p2) pos) (tRsl K te ts) := by
  subst hK
  refine ⟨fun pins s σ H Q I h => PyProof.Rows.Subscript_ (thn (he.run pins s σ H _ I h) fun v s1 ⟨x, H1, I1, r1, q1⟩ => ?_)⟩
  refine wpAny_Slice ?_
  rw [evalPart_none]
  refine wpAny_pure (wpAny_pure (thn (hs.run pins s1 σ H1 _ I1 q1) fun vk s3 ⟨o, H3, I3, pk, q3⟩ => ?_))
  obtain ⟨rfl, a, xs, rfl, hx, q⟩ := q3
  cases r1
  have I4 : Inv X pins σ H3 { s3 with heap := s3.heap.push { cls := .type "slice", data := .fields #[.none, .none, vk] } } := I3.kept (t' := s3.toks) fun b ob z => Heap.get?_push_of_some _ z
  obtain ⟨its, r, ht, hz⟩ := I4.list hx
  refine PyProof.Rows.tail_any (ops := if st.isSome then [.ref a, .ref s3.heap.objs.size] else [.ref s3.heap.objs.size, .ref a]) ht.isList.typeIs slot_list_getitem.lookup (wpAny_getItem_list_slice ht.isList (Heap.IsSliceOf.new ..) .none .none pk (by decide) ?_ (by have hl := r.length; rw [List.size_toArray]; omega)) (hsub _ _)
  rw [PySem.W.krv_pick]
  refine ⟨.ref (s3.heap.push _).objs.size, _, I4.laid (t' := s3.toks) (o := .lst xs.reverse) (fun b ob z => Heap.get?_push_of_some _ z) (Nat.le_refl _) ?_, rfl, q _ (I4.hok.fresh (Nat.le_refl _))⟩
  exact ⟨by rw [List.length_reverse]; exact hz, _, 0, r.reverse, Heap.get?_push_size _ rfl⟩
section
variable {C : Cn} {Γ : List Sl} {l l1 l2 : Lv} {α β γ : Type} [Enc α] [Enc β] [Enc γ] {ta tb tc te t : TE} {K : PySem.W.Frag} {T : CT}
theorem evn_rsl {to : TO} {m : R (List α)} (ha : Evm C Γ l ta m) (hb : EvO C Γ to (.ok (some (-(1 : Int))))) : EvN C Γ l (tRsl K ta to) (m.bind fun xs => .ok xs.reverse) := fun G hid os σ H Q Kw q => by
  refine ha G hid os σ H _ Kw ?_
  cases e1 : m with
  | bad => rw [e1] at q; exact q
  | ex x => rw [e1] at q; exact q
  | ok xs =>
    rw [e1] at q
    intro x H1 s1 r1
    refine hb G hid os σ H1 _ (Kw.same s1) fun H2 s2 => ?_
    obtain ⟨p, vs, e, _, hp, hz, rs⟩ := lst_rep r1
    refine ⟨rfl, p, vs, e, rd_seqL (s2 _ _ hp), fun d nd => q d _ _ ((s1.trans s2).trans (same_new nd)) ((s1.trans s2).free nd) upd_same (by rw [List.length_reverse]; exact hz) ?_⟩
    rw [List.map_reverse]
    exact ((rs.same s2).rev.free nd).same (same_new nd)
theorem evn_rslo {i : Nat} {xs : List α} {to : TO} (h : Γ[i]? = some (.ow l (xs.map enc))) (hb : EvO C Γ to (.ok (some (-(1 : Int))))) : EvN C Γ l (tRsl K (tVar i) to) (.ok xs.reverse) := fun G hid os σ H Q Kw q => by
  obtain ⟨_, p, vs, _, e, hp, hz, rs⟩ := Kw.sl i _ h
  refine ⟨_, e, hb G hid os σ H _ Kw fun H2 s2 => ?_⟩
  refine ⟨rfl, p, vs, rfl, rd_seqL (s2 _ _ hp), fun d nd => q d _ _ (s2.trans (same_new nd)) (s2.free nd) upd_same (by rw [List.length_reverse]; exact hz) ?_⟩
  rw [List.map_reverse]
  exact ((rs.same s2).rev.free nd).same (same_new nd)
theorem EvA.cast {β : Type} [Encs β] {t : TA} {m m' : R β} (h : EvA C Γ l t m) (e : m = m') : EvA C Γ l t m' := e ▸ h
theorem EvO.cast {to : TO} {m m' : R (Option Int)} (h : EvO C Γ to m) (e : m = m') : EvO C Γ to m' := e ▸ h
/-! ### a text, several times -/
def repS (x : Str) (n : Int) : Option Str := optIf (-1000000 ≤ n ∧ n ≤ 1000000 ∧ x.length * n.toNat ≤ LIM) (Txt.mul x n)
def rMulS : R2 := fun x y H Q => ∃ (z : Str) (n : Int), x = .str z ∧ y = .int n ∧ MulOk z n ∧ Q (.str (Txt.mul z n)) H
theorem op_mulS {X : Cx} : OpR X (binaryOp .Mult) rMulS := by
  intro pins s σ H x y v u Q I rx ry h
  obtain ⟨z, n, rfl, rfl, hok, q⟩ := h
  obtain ⟨t, rfl⟩ := rx
  obtain ⟨t2, rfl⟩ := ry
  exact SB.mul hok fun t' k => ⟨.str (Txt.mul z n), H, I.tok _, ⟨_, rfl⟩, q⟩
theorem cps_flat : ∀ (n : Nat) (c a : Array Nat), ((List.replicate n c).foldl (· ++ ·) a).toList = a.toList ++ (List.replicate n c.toList).flatten
  | 0, c, a => by simp
  | n + 1, c, a => by
    rw [List.replicate_succ, List.foldl_cons, cps_flat n c (a ++ c), List.replicate_succ, List.flatten_cons, Array.toList_append, List.append_assoc]
theorem cps_mul (x : Str) (n : Int) : cps (Txt.mul x n) = (List.replicate n.toNat (cps x)).flatten := by
  unfold Txt.mul
  split
  · have : n.toNat = 0 := by omega
    rw [this]
    rfl
  · split
    · rename_i h1 h2
      rw [Bool.or_eq_true, beq_iff_eq, beq_iff_eq] at h2
      rcases h2 with h2 | h2
      · rw [h2]
        show _ = (List.replicate 1 (cps x)).flatten
        simp
      · have : cps x = [] := List.length_eq_zero_iff.mp (by rw [← len_cps]; exact h2)
        rw [this]
        simp
    · show ((List.replicate n.toNat x.cps).foldl (· ++ ·) #[]).toList = _
      rw [cps_flat]
      rfl
theorem rv_mulS {a : Str} {b : Int} : RvF T rMulS a b (repS a b) := fun H x y Q c hx hy e q => by
  obtain ⟨h, e2⟩ := optIf_some e
  obtain ⟨rx, lx, kx⟩ := str_rep hx
  rw [rx, int_rep hy]
  have hL : (LIM : Nat) = 1000000 := rfl
  refine ⟨a, b, rfl, rfl, ⟨?_, fun h1 h2 => ?_, fun h1 h2 => ?_⟩, ?_⟩
  · rw [Bool.or_eq_false_iff]
    exact ⟨decide_eq_false (by omega), decide_eq_false (by omega)⟩
  · have h3 : ((a.length : Int)) ≤ (2 ^ 63 - 1) / b := by
      rw [Int.le_ediv_iff_mul_le (by omega)]
      have h4 : (b.toNat : Int) = b := Int.toNat_of_nonneg (by omega)
      have h5 : ((a.length * b.toNat : Nat) : Int) ≤ 1000000 := by omega
      rw [Int.natCast_mul, h4] at h5
      omega
    omega
  · show decide (_ > sizeLine) = false
    rw [decide_eq_false_iff_not]
    exact Nat.not_lt.mpr (Nat.le_trans h.2.2 (by decide))
  · rw [e2]
    refine q _ (str_rep' ?_ fun d hd => ?_)
    · rw [← e2, len_cps, cps_mul, List.length_flatten, List.map_replicate, List.sum_replicate_nat, ← len_cps]
      rw [Nat.mul_comm]
      exact h.2.2
    · rw [← e2] at hd
      have hd : d ∈ cps (Txt.mul a b) := hd
      rw [cps_mul] at hd
      obtain ⟨l, hl, hd⟩ := List.mem_flatten.mp hd
      rw [List.eq_of_mem_replicate hl] at hd
      exact str_ok.mp kx d hd
/-! ### xs.index(y) -/
def idxQ (zs : List PV) (p : PV) : Option Int := (optIf (okDs zs = true ∧ okD p = true ∧ deps zs + 1 ≤ 64 ∧ dep p ≤ 64) (zs.findIdx? fun z => eqP z p)).bind fun o => o.map fun j : Nat => (j : Int)
theorem k_idxD {X : Cx} {K : PySem.W.Frag} (h : X.K = K) (hu : X.A.units + 65 < cLine) : MtR X "list.index" (rIndexD K) := by subst h; exact mt_indexD hu
theorem toDs_get : ∀ (zs : List PV) (j : Nat), (toDs zs)[j]? = zs[j]?.map toD
  | [], j => by simp [toDs]
  | z :: zs, 0 => rfl
  | z :: zs, j + 1 => by
    show (toDs zs)[j]? = _
    rw [toDs_get zs j, List.getElem?_cons_succ]
theorem evm_idx {m1 : R (List α)} {m2 : R β} (ha : Evm C Γ l1 ta m1) (hb : Evm C Γ l2 tb m2) : Evm C Γ .fr (tBM K "list" (rIndexD K) ta (tCons tb tNil)) (m1.bind fun xs => m2.bind fun k => R.of (idxQ (xs.map enc) (enc k))) := fun G hid os σ H Q Kw q => by
  refine ha G hid os σ H _ Kw ?_
  cases e1 : m1 with
  | bad => rw [e1] at q; exact q
  | ex x => rw [e1] at q; exact q
  | ok xs =>
    rw [e1] at q
    intro v H1 s1 r1
    obtain ⟨p, vs, e, _, hp, _, rs⟩ := lst_rep r1
    rw [e]
    refine ⟨.inl ⟨rfl, vs, rd_seqL hp⟩, hb G hid os σ H1 _ (Kw.same s1) ?_⟩
    cases e2 : m2 with
    | bad => rw [e2] at q; exact q
    | ex x => rw [e2] at q; exact PoX.back s1 q
    | ok k =>
      rw [e2] at q
      intro y H2 s2 r2
      have q : PoV C .fr G os σ H Q (R.of (idxQ (xs.map enc) (enc k))) := q
      cases e3 : idxQ (xs.map enc) (enc k) with
      | none => rw [e3] at q; exact q.elim
      | some n =>
        rw [e3] at q
        unfold idxQ at e3
        obtain ⟨o, e4, e5⟩ := Option.bind_eq_some_iff.mp e3
        obtain ⟨hc, e6⟩ := optIf_some e4
        obtain ⟨j, rfl, rfl⟩ := Option.map_eq_some_iff.mp e5
        rw [List.findIdx?_eq_some_iff_getElem] at e6
        obtain ⟨hj, hz, hno⟩ := e6
        have r1' : Rep C.T H2 (fun _ => False) (.lst (xs.map enc)) (.ref p) := by
          have := (r1.same s2).weak (G' := fun _ => False) fun _ z => z.elim
          rw [e] at this
          exact this
        have r2' : Rep C.T H2 (fun _ => False) (enc k) y := r2.weak fun _ z => z.elim
        refine ⟨p, y, toD (enc k), toDs (xs.map enc), j, toD ((xs.map enc)[j]), rfl, rfl, dp_of (.lst (xs.map enc)) _ hc.1 r1', dp_of _ _ hc.2.1 r2', shaped_of (p := .lst (xs.map enc)) hc.1 hc.2.2.1 r1', shaped_of hc.2.1 hc.2.2.2 r2', ?_, hz, fun m z' hm hz' => ?_, q _ H2 (s1.trans s2) rfl⟩
        · rw [toDs_get, List.getElem?_eq_getElem hj]
          rfl
        · have hm2 : m < (xs.map enc).length := by omega
          rw [toDs_get, List.getElem?_eq_getElem hm2] at hz'
          cases hz'
          have := hno m hm
          rw [Bool.not_eq_true] at this
          exact this
end
/-! ### keywords, what is raised being wished for at the caller's slots -/
section
variable {X : Cx} {CX : CXT} {k n : Nat} {f : Addr} {fd : FuncData} {ps ks : List Str} {sp : Sp} {W : WX} {x : Str} {p pos : Pos} {e : Expr} {es : List Expr} {kws : List Keyword} {t tk : TA} {g : List Value → List Value → List Value} {gV : List V → List V → List V}
def tCallNS (n m : Nat) (sp : Sp) (gV : List V → List V → List V) (E : L2.St → XK) (t tk : TA) : TE := fun σ H Q => t σ H fun vs H1 => tk σ H1 fun zs H2 => vs.length = n ∧ zs.length = m ∧ sp (gV vs zs) H2 Q (E σ)
theorem pe_knS (h : KdN X.prog X.w X.K X.mg X.base (L2N.CX X.prog X.w) x ps n ks k sp) (hx : L2N.Takes X W) (hr : Room k X.A) (hg : Gl X x) (ha : PA X (e :: es) t) (hkw : PK X kws tk)
    (hall : (backToKw pos (keywordEach kws X.env)).all (·.1.isSome) = true := by rfl) (hks : (backToKw pos (keywordEach kws X.env)).filterMap (·.1) = ks := by rfl) (hdb : (x == ("__debug__" : Str)) = false := by decide)
    (he : starEach (e :: es) X.env = (false, eval e X.env) :: starEach es X.env := by rfl) (hpl : ((backTo pos (starEach (e :: es) X.env)).any (·.1) || (backToKw pos (keywordEach kws X.env)).any (·.1.isNone)) = false := by rfl) :
    PE X (.Call (.Name x p) (e :: es) kws pos) (tCallNS n ks.length sp (fun vs zs => vs ++ zs) (WE W) t tk) := by
  obtain ⟨f, fd, g, hm, hk, hb, F⟩ := h.ex
  refine ⟨fun pins s σ H Q I h => wpAny_Call_Name_kw (ld_glob I hg hm ?_ hdb)⟩
  refine PySem.W.callWith_KW (h₀ := X.base) I.ok.mod.kin hk hall (thn (ha.run pos pins s σ H _ I h) fun us s1 ⟨vs, H1, I1, r, q⟩ => thn (hkw.run pos pins s1 σ H1 _ I1 q) fun ws s2 ⟨zs, H2, I2, rz, l1, l2, q2⟩ => ⟨I2.kIn, ?_⟩) hpl he
  rw [hks]
  have r2 := hb.rel r rz
  refine wpAny_call (codeAny_mono (F.run X.A X.stack s2 H2 ⟨us, ks.zip ws⟩ _ _ Q (WE W σ) hr I2.env0 (hb.to s2 us ws I2.kIn (r.length.symm.trans l1) (rz.length.symm.trans l2)) r2 q2) fun rr s' hq => ?_)
  cases rr with
  | error e => exact L2N.passAt hx σ pins H2 s2 e s' I2 hq
  | ok fl => cases fl with
    | ret u => exact I2.after hq
    | next => exact False.elim hq
    | brk => exact False.elim hq
    | cont => exact False.elim hq
end
section
variable {C : Cn} {Γ : List Sl} {l : Lv} {α : Type} [Enc α] {β β' γ : Type} [Encs β] [Encs β'] [Encs γ] {ta tk : TA} {W : WX} {n k : Nat} {m : R β} {mk : R γ} {c : β → γ → β'}
theorem bind_two {δ : Type} (f : β' → R δ) : ((m.bind fun b => mk.bind fun z => R.ok (c b z)).bind f) = m.bind fun b => mk.bind fun z => f (c b z) := by
  rw [R.bind_assoc]
  cases m with
  | ok b => show (mk.bind fun z => R.ok (c b z)).bind f = _; cases mk <;> rfl
  | ex x => rfl
  | bad => rfl
theorem evm_knS {f : β' → R α} (hW : C.W = some W) (hn : ∀ b : β, (encs b).length = n) (hk : ∀ z : γ, (encs z).length = k) (hc : ∀ b z, encs (c b z) = encs b ++ encs z) (ha : EvA C Γ .raw ta m) (hz : EvA C Γ .raw tk mk) :
    Evm C Γ .fr (tCallNS n k (PmX C.T (.val .fr) f) (fun vs zs => vs ++ zs) (WE W) ta tk) (m.bind fun b => mk.bind fun z => f (c b z)) := by
  have h := evm_callXF (f := f) hW (eva_two hn hk hc ha hz)
  rw [← bind_two]
  exact h
theorem evn_knS {f : β' → R (List α)} (hW : C.W = some W) (hn : ∀ b : β, (encs b).length = n) (hk : ∀ z : γ, (encs z).length = k) (hc : ∀ b z, encs (c b z) = encs b ++ encs z) (ha : EvA C Γ .raw ta m) (hz : EvA C Γ .raw tk mk) :
    EvN C Γ .fr (tCallNS n k (PmX C.T (.nw .fr) f) (fun vs zs => vs ++ zs) (WE W) ta tk) (m.bind fun b => mk.bind fun z => f (c b z)) := by
  have h := evn_callXF (f := f) hW (eva_two hn hk hc ha hz)
  rw [← bind_two]
  exact h
theorem evm_knQ {f : β' → R α} (hn : ∀ b : β, (encs b).length = n) (hk : ∀ z : γ, (encs z).length = k) (hc : ∀ b z, encs (c b z) = encs b ++ encs z) (ha : EvA C Γ .raw ta m) (hz : EvA C Γ .raw tk mk) :
    Evm C Γ .fr (tCallNS n k (PmX C.T (.val .fr) f) (fun vs zs => vs ++ zs) (WE fun _ _ _ _ => False) ta tk) (m.bind fun b => mk.bind fun z => (f (c b z)).nox) := by
  have h := evm_callQF (f := f) (eva_two hn hk hc ha hz)
  rw [← bind_two (fun b => (f b).nox)]
  exact h
theorem evn_knQ {f : β' → R (List α)} (hn : ∀ b : β, (encs b).length = n) (hk : ∀ z : γ, (encs z).length = k) (hc : ∀ b z, encs (c b z) = encs b ++ encs z) (ha : EvA C Γ .raw ta m) (hz : EvA C Γ .raw tk mk) :
    EvN C Γ .fr (tCallNS n k (PmX C.T (.nw .fr) f) (fun vs zs => vs ++ zs) (WE fun _ _ _ _ => False) ta tk) (m.bind fun b => mk.bind fun z => (f (c b z)).nox) := by
  have h := evn_callQF (f := f) (eva_two hn hk hc ha hz)
  rw [← bind_two (fun b => (f b).nox)]
  exact h
end
/-! ### a, b = x, y -/
section
variable {C : Cn} {Γ : List Sl} {l : Lv} {α β δ : Type} [Enc α] [Enc β] {ta : TA} {u : TS} {out : δ → Oc}
theorem bd_par {i j : Nat} {m : R (α × β × Unit)} {k : α × β × Unit → R δ} (h : EvA C Γ l ta m) (hl : l.st) (hi : i < Γ.length) (hj : j < Γ.length) (hk : ∀ d, BD C ((Γ.set i (.sh l (enc d.1))).set j (.sh l (enc d.2.1))) u (k d) out) :
    BD C Γ (tSeq (tPar i j ta) u) (m.bind k) out := fun G hid os σ H D Kw q => by
  refine h G hid os σ H _ Kw ?_
  rcases ex_cases q with ⟨d, e, q⟩ | ⟨x, e, q⟩ <;> rw [e]
  · intro vs H1 s1 rs
    obtain ⟨v1, v2, e2, r1, r2⟩ := reps2 (a := d.1) (b := d.2.1) rs
    have K1 := (Kw.same s1).put hi hl r1
    have r2' : Rep C.T H1 (av l C.H0 G (os.set i none)) (enc d.2.1) v2 := r2.weak (av_less (fun a z => mem_set_none z) l)
    have K2 := K1.put (i := j) (by rw [List.length_set]; exact hj) hl r2'
    exact ⟨v1, v2, e2, hk d G hid _ _ H1 D K2 q⟩
  · exact pox_of Kw q
end
end Pv

set_option Elab.async false
set_option linter.all false
set_option maxRecDepth 100000
set_option maxHeartbeats 2000000
namespace Pv
open PySem PySem.Spec PyProof.Rows L2 PySem.W PySem.Calls
open Enc (enc)
open Encs (encs)
/-! ### quiet defs, called within an except suite -/
structure KdH (P : Program) (w : World) (K : PySem.W.Frag) (mg : Str → Option Value) (base : Heap) (x : Str) (ps : List Str) (k : Nat) (sp : Sp) : Prop where
  ex : ∃ f fd, mg x = some (.ref f) ∧ PySem.W.keepIn K (.ref f) = true ∧ Binds K fd ps [] ∧ L2H.FnH P w K mg base CX0 k f fd ps sp
theorem hot_suite {X : Cx} {a : Addr} {oe : Obj} {cls : Value} {d : Option Addr} {pn : List (Addr × Obj)} (hz : L2N.Zn cls d oe) (hf : ∃ fs, oe.data = .fields fs) : L2H.HotC (X.suite a ((a, oe) :: pn)) := by
  obtain ⟨fs, e⟩ := hf
  exact ⟨(a, oe), ⟨rfl, fs, e, hz.2.2 fs e⟩, List.mem_cons_self⟩
section
variable {X : Cx} {x : Str} {ps : List Str} {k : Nat} {sp : Sp} {e : Expr} {es : List Expr} {t : TA} {p pos : Pos}
theorem pe_kdh (h : KdH X.prog X.w X.K X.mg X.base x ps k sp) (hr : L2H.RoomH k X.A) (hc : L2H.HotC X) (hg : Gl X x) (ha : PA X (e :: es) t) (hd : (x == ("__debug__" : Str)) = false := by decide)
    (he : starEach (e :: es) X.env = (false, eval e X.env) :: starEach es X.env := by rfl) (hpl : (backTo pos (starEach es X.env)).any (·.1) = false := by rfl) :
    PE X (.Call (.Name x p) (e :: es) [] pos) (tCall sp [] E0 t) := by
  obtain ⟨f, fd, hm, hk, hb, F⟩ := h.ex
  refine ⟨fun pins s σ H Q I h => ?_⟩
  refine wpAny_Call_Name_kw (ld_glob I hg hm ?_ hd)
  refine PySem.W.callWith_K (h₀ := X.base) I.ok.mod.kin hk (thn (ha.run pos pins s σ H _ I h) fun us s1 ⟨vs, H1, I1, r, q⟩ => ⟨I1.kIn, ?_⟩) he hpl
  have q : sp (vs ++ []) H1 Q E0 := q
  rw [List.append_nil] at q
  exact L2H.run_fnH (E := fun _ => E0) F hr hc hb (fun _ _ _ _ _ _ h => h.elim) I1 r q
end
theorem fn_pmH {P : Program} {w : World} {K : PySem.W.Frag} {mg : Str → Option Value} {base : Heap} {α β : Type} [Enc α] [Encs β] {T : CT} {M : RM} {x qual : Str} {st : Stmt} {f : Addr} {fd : FuncData} {N ps : List Str} {k : Nat} {g : β → R α} (F : Fun K x qual st f fd) (S : FnScope N ps (defScope st)) (hlen : ∀ b : β, (encs b).length = ps.length)
    (hbody : ∀ (cdv : Value) (A : Around) (outer : List Env) (s : Shared) (H : Hp) (E : XK) (p : Addr × Obj), L2H.HotC (L2H.cxH CX0 P w K mg base N qual (defScope st) f cdv A outer s H E p) → L2H.RoomH k (A.deeper (PyProof.Rows.envOfC qual (defScope st) s.heap.objs.size f cdv)) →
      ∃ t, PSs (L2H.cxH CX0 P w K mg base N qual (defScope st) f cdv A outer s H E p) (defBody st) t ∧ ∀ b : β, BD ⟨T, H, none, M⟩ (entry N (encs b)) t (g b) (fun a => .rt (enc a))) : L2H.FnH P w K mg base CX0 (k + 1) f fd ps (Pm T M g) := by
  obtain ⟨oc, od, kV, doc, pm, an, cdv, ct, osl, rfl, lk, hcd⟩ := F.ex
  have hpl : ps.length ≤ N.length := by have := congrArg List.length S.pre; rw [List.length_take] at this; omega
  refine L2H.fn_ofH lk hcd S (fun vs H Q E h => ?_) (fun A outer s H vs Q E p hot hr h => ?_)
  · obtain ⟨b, G, _, r, _⟩ := h
    rw [← r.len, hlen]
  · obtain ⟨b, G, dom, r, q⟩ := h
    obtain ⟨t, ht, hb⟩ := hbody cdv A outer s H E p ⟨p, hot, List.mem_singleton.mpr rfl⟩ hr
    refine ⟨t, ht, hb b G [] _ _ H _ (okw_start dom r (by rw [hlen]; exact hpl)) ?_⟩
    cases e : g b with
    | bad => rw [e] at q; exact q
    | ex z => rw [e] at q; exact q
    | ok a => rw [e] at q; exact q
end Pv

set_option Elab.async false
set_option linter.all false
set_option maxRecDepth 100000
set_option maxHeartbeats 2000000
/-! ### walks over a list while an exception is handled -/
namespace Pv
open PySem PySem.Spec PyProof.Rows L2 PySem.W PySem.Calls HotX
open Enc (enc)
open Encs (encs)
section
variable {prog : Program} {w : World} {A : Around} {E : Value → Shared → Prop} {s : Shared}
theorem next_end_hot {it l x1 : Addr} {i : Nat} {items : Array Value} {Q : Option Value → Shared → Prop} (hot : HotAt A x1 s.heap) (hne : x1 ≠ it) (hit : s.heap.IsListIter it l i) (hl : s.heap.IsList l items) (hx : items[i]? = none)
    (q : ∀ h', (∀ b o, b ≠ it → s.heap.get? b = some o → h'.get? b = some o) → Q none { s with heap := h' }) : wpAny (model prog w) A (pyNext (.ref it)) Q E s := by
  obtain ⟨o, ho, hc, hd⟩ := id hit
  obtain ⟨ol, hol, _, nl, hdl⟩ := hl
  obtain ⟨hh, o1, vs1, h1, d1, c1⟩ := hot
  unfold pyNext
  refine wpAny_bind (wpAny_attempt (wpAny_callSpecial?_slot (name := Str.ofString "__next__") hit.typeIs slot_listiter_next
    (wpAny_call_entry slot_listiter_next hit.typeIs entry_listiter_next ?_ (args_listiter_next _))))
  show wpAny _ _ (field (.ref it) 0 >>= _) _ _ s
  refine wpAny_bind (wpAny_field ho hd (x := .ref l) rfl ?_)
  show wpAny _ _ (if (Value.ref l == Value.none) = true then _ else _) _ _ s
  rw [if_neg (show ¬ ((Value.ref l == Value.none) = true) from Bool.false_ne_true)]
  show wpAny _ _ (field (.ref it) 1 >>= _) _ _ s
  refine wpAny_bind (wpAny_field ho hd (x := .int i 0) rfl ?_)
  show wpAny _ _ (seqItems? (.ref l) >>= _) _ _ s
  refine wpAny_bind (wpAny_seqItems hol hdl ?_)
  simp only [Int.toNat_natCast, hx]
  refine wpAny_bind (wpAny_rule (wpAny_bind (wpAny_setField ho hd (by simp) ?_)))
  show wpAny _ _ (newExc (.type "StopIteration") [] >>= _) _ _ _
  refine wpAny_bind ?_
  simp only [newExc, newTuple]
  refine wpAny_bind (wpAny_newObj_type ?_ (by size_fits))
  refine wpAny_bind (m := firstArgMember _ _) (wpAny_of_eq (a := Value.none) (by first | rfl | (simp only [firstArgMember]; rfl)) ?_)
  refine wpAny_newObj_type ?_ (by size_fits)
  have keep : ∀ b o, b ≠ it → s.heap.get? b = some o → (s.heap.update it (Obj.mapFields (·.setIfInBounds 0 .none))).get? b = some o := fun b o hb e => (Heap.get?_update_ne _ _ _ _ hb).trans e
  refine raiseNew_hot ⟨hh, o1, vs1, Heap.get?_push_of_some _ (Heap.get?_push_of_some _ (keep _ _ hne h1)), d1, c1⟩ (Nat.ne_of_lt (Heap.lt_size (Heap.get?_push_of_some _ (keep _ _ hne h1)))) (Heap.get?_push_size _ rfl) rfl (by first | (simp; done) | (simp; omega) | (simp only [Array.size_append]; simp; omega)) ?_
  refine wpAny_bind (wpAny_isInstance (T := "StopIteration") (b := true) ⟨_, Heap.get?_update_self _ (Heap.get?_push_size _ rfl) rfl, rfl⟩ isSubtype_stop ?_)
  refine wpAny_pure (q _ fun b o hb e => ?_)
  rw [Heap.get?_update_other _ _ (Nat.ne_of_gt (Heap.lt_size (Heap.get?_push_of_some _ (keep b o hb e))))]
  exact Heap.get?_push_of_some _ (Heap.get?_push_of_some _ (keep b o hb e))
theorem walks_hot {I ax x1 : Addr} (hh : A.handled = some (.ref x1)) (n1 : ax ≠ I) (n2 : x1 ≠ I) (items : Array Value) :
    Walks prog w A I [I, ax, x1] [I] items.size (fun i v => items[i]? = some v) (fun i h => (h.IsListIter I ax i ∧ h.IsList ax items) ∧ ∃ (o : Obj) (vs : Array Value), h.get? x1 = some o ∧ o.data = .fields vs ∧ vs[2]? = some .none) where
  sub := fun b hb => by simp at hb; simp [hb]
  frame := fun _ _ _ st hk => ⟨⟨st.1.1.at fun o e => hk I (by simp) o e, st.1.2.at fun o e => hk ax (by simp) o e⟩, by
    obtain ⟨o, vs, h1, d1, c1⟩ := st.2
    exact ⟨o, vs, hk x1 (by simp) o h1, d1, c1⟩⟩
  item := fun i s Q E hi st hQ => by
    refine wpAny_pyNext_list_item st.1.1 st.1.2 (x := items[i]) (by simp [hi]) fun h' hit' hs' => ?_
    obtain ⟨o, vs, h1, d1, c1⟩ := st.2
    exact hQ _ h' s.toks (by simp [hi]) ⟨⟨hit', st.1.2.extBut hs'.extBut n1⟩, o, vs, hs'.extBut x1 o n2 h1, d1, c1⟩ fun b o hb e => hs'.extBut b o (fun h => hb (by simp [h])) e
  done := fun s Q E st hQ => next_end_hot ⟨hh, st.2⟩ n2 st.1.1 st.1.2 (by simp) fun h' he' => hQ h' s.toks fun b o hb e => he' b o (fun h => hb (by simp [h])) e
  self := fun _ _ _ _ st hQ => wpAny_pyIter_listiter st.1.1 hQ
end
section
variable {X : Cx}
theorem k_allH {K : PySem.W.Frag} (hK : X.K = K) (hc : L2H.HotC X) : CallR X (.builtin "all") (rAll K) := by
  subst hK
  intro pins s σ H vs us Q I r h
  obtain ⟨a, bs, rfl, hs, q⟩ := h
  obtain ⟨its, rv, hl, _⟩ := I.list hs
  obtain ⟨x1, hh, hx⟩ := hc.at I
  rw [Vals.ref1 r]
  have hb := rv.bls
  have lx : x1 < s.heap.objs.size := by
    obtain ⟨o, _, h1, _⟩ := hx
    exact Heap.lt_size h1
  refine call_all_walk (iter_any hl.isList fun s₂ e2 st hne => ?_)
  subst e2
  refine ⟨_, _, _, _, _, _, _, rfl, walks_hot (A := X.A.in1) hh hne (Nat.ne_of_lt lx) its.toArray, ⟨st, ?_⟩, truth_bools hb, fun h' tk hk => ?_⟩
  · obtain ⟨o, vs, h1, d1, c1⟩ := hx
    exact ⟨o, vs, Heap.get?_push_of_some _ h1, d1, c1⟩
  refine ⟨.bl _, H, I.kept fun b o eo => hk b o (fun hmem => ?_) (Heap.get?_push_of_some _ eo), ?_, q⟩
  · rcases List.mem_cons.mp hmem with e1 | hmem
    · exact absurd (e1 ▸ Heap.lt_size eo) (Nat.lt_irrefl _)
    · cases hmem
  · show Value.bool _ = Value.bool _
    rw [← L2.all_range, hb, List.size_toArray, List.length_map]
/-- the next item of a list that stands -/
theorem list_item {tg : Expr} {a it : Addr} {i : Nat} {xs : List V} {x : V} {pins : List (Addr × Obj)} {s : Shared} {σ : L2.St} {H : Hp} {E : Value → Shared → Prop} (I : Inv X pins σ H s) (f : FpOk X pins H it) (st : s.heap.IsListIter it a i) (hq : SqL X.K H a xs) (hx : xs[i]? = some x) :
    wpAny (model X.prog X.w) X.A (pyNext (.ref it)) (fun r s1 => ∃ u, r = some u ∧ wpAny (model X.prog X.w) X.A (letOwnedTupleGo tg (.ref it) u) (fun _ s2 => Inv X pins σ H s2 ∧ RelV x u ∧ s2.heap.IsListIter it a (i + 1)) E s1) E s := by
  obtain ⟨its, rv, p, _⟩ := I.list hq
  obtain ⟨u, hu, ru⟩ := rv.get hx
  obtain ⟨f0, f1, f2, f3, f4, f5⟩ := f
  refine wpAny_pyNext_list_item st p.isList (x := u) (by simpa using hu) fun h' st' sb => ?_
  obtain ⟨o, e, c, d⟩ := id st'
  exact ⟨u, rfl, go_of (s := { s with heap := h' }) e c d (by decide) ⟨I.turned (t' := s.toks) (fun b o hb e => (sb.2 b hb).trans e) f0 f1 f3 f4 f5, ru, st'⟩⟩
/-- behind its last one -/
theorem list_end {a it x1 : Addr} {i : Nat} {xs : List V} {pins : List (Addr × Obj)} {s : Shared} {σ : L2.St} {H : Hp} {E : Value → Shared → Prop} (I : Inv X pins σ H s) (f : FpOk X pins H it) (st : s.heap.IsListIter it a i) (hq : SqL X.K H a xs) (hx : xs.length ≤ i) (hot : HotAt X.A x1 s.heap) (hne : x1 ≠ it) :
    wpAny (model X.prog X.w) X.A (pyNext (.ref it)) (fun r s1 => r = none ∧ Inv X pins σ H s1) E s := by
  obtain ⟨its, rv, p, _⟩ := I.list hq
  obtain ⟨f0, f1, f2, f3, f4, f5⟩ := f
  have hl := rv.length
  exact next_end_hot hot hne st p.isList (by simp; omega) fun h' eb => ⟨rfl, I.turned (t' := s.toks) (fun b o hb e => eb b o hb e) f0 f1 f3 f4 f5⟩
/-- [e for x in xs if ..] there, xs a list -/
theorem pe_lcH {elt tg iter : Expr} {ifs : List Expr} {scope : Scope} {own : List (Str × Nat)} {pos : Pos} {ti : TE} {g : TG} {tt : TT} {te : TE} (hot : L2H.HotC X) (hN : X.N.Nodup) (hi : PE X iter ti) (ok : BlkOk X.N X.env.scope scope own)
    (hg : ∀ (s : Shared) (H : Hp) (C : Addr) (cl : List (Str × Addr)) (fp : List Addr), PG (X.blk s H scope (compEnvC scope cl C X.env) fp) tg g) (ht : ∀ (s : Shared) (H : Hp) (C : Addr) (cl : List (Str × Addr)) (fp : List Addr), PTs (X.blk s H scope (compEnvC scope cl C X.env) fp) ifs tt)
    (he : ∀ (s : Shared) (H : Hp) (C : Addr) (cl : List (Str × Addr)) (fp : List Addr), PE (X.blk s H scope (compEnvC scope cl C X.env) fp) elt te) (hs : ∀ x, foldedSetIterable iter X.env x = pure x := by intro _; rfl) :
    PE X (.ListComp elt [⟨tg, iter, ifs, 0⟩] scope pos) (tLc (iList X.K ti) g tt te (own.map (·.2))) := by
  refine ⟨fun pins s σ H Q I h => ?_⟩
  rw [eval_ListComp]
  have free : ∀ y ∈ scope.names, y.2 = .free → ∃ c, X.env.cells.lookup y.1 = some c := fun y hy e => (ok.free y hy e).elim (fun k => I.ok.has _ (.inl k)) fun k => I.ok.has _ (.inr k)
  refine wpAny_comprehension_free (use := none) rfl hs (closure_ok free) ok.kind (fun y hy e => by rw [ok.uniq y hy, e]) (thn (hi.run pins s σ H _ I h) fun v s1 ⟨x, H1, I1, r1, q1⟩ => ?_)
  obtain ⟨a, rfl, ⟨xs, hq⟩, q⟩ := q1
  cases r1
  obtain ⟨its, rv, pl, hz⟩ := I1.list hq
  refine wpAny_pyIter_list pl.isList ?_
  have I2 := I1.kept (t' := s1.toks) (h' := s1.heap.push { cls := .type "list_iterator", data := .fields #[.ref a, .int 0 0] }) fun b o e => Heap.get?_push_of_some _ e
  have f2 : FpOk X pins H1 s1.heap.objs.size := I1.fpOk (Nat.le_refl _) (I1.hok.fresh (Nat.le_refl _))
  have st2 : (s1.heap.push { cls := .type "list_iterator", data := .fields #[.ref a, .int 0 0] }).IsListIter s1.heap.objs.size a 0 := ⟨_, Heap.get?_push_size _ rfl, rfl, rfl⟩
  obtain ⟨p, ⟨hh, pv, pd, pc⟩, pm⟩ := hot
  have P1 := I1.pin p (List.mem_append_left _ pm)
  have pit : p.1 ≠ s1.heap.objs.size := Nat.ne_of_lt (Heap.lt_size P1.1)
  have lit : s1.heap.objs.size < (s1.heap.push { cls := .type "list_iterator", data := .fields #[.ref a, .int 0 0] }).objs.size := by rw [Heap.size_push]; exact Nat.lt_succ_self _
  generalize hs2 : ({ s1 with heap := s1.heap.push { cls := .type "list_iterator", data := .fields #[.ref a, .int 0 0] } } : Shared) = s2
  have e2 : s1.heap.push { cls := .type "list_iterator", data := .fields #[.ref a, .int 0 0] } = s2.heap := by rw [← hs2]
  have I2 : Inv X pins σ H1 s2 := by rw [← hs2]; exact I2
  rw [e2] at st2 lit
  generalize s1.heap.objs.size = it at f2 st2 pit lit ⊢
  have P2 := I2.pin p (List.mem_append_left _ pm)
  clear hs2 e2 rv pl hz its P1 I1
  refine wpAny_newObj_type (newEnv_comp ?_) (by show 0 ≤ sizeLine; decide)
  have freshD : H1 s2.heap.objs.size = none := I2.hok.fresh (Nat.le_refl _)
  obtain ⟨W, ⟨m0, w0⟩, turn⟩ := q s2.heap.objs.size freshD
  have I3 := I2.laid (t' := s2.toks) (a := s2.heap.objs.size) (o := .lst []) (h' := s2.heap.push { cls := .type "list", data := .seq ([] : List Value).toArray }) (fun b o e => Heap.get?_push_of_some _ e) (Nat.le_refl _) ⟨Nat.zero_le _, [], 0, .nil, Heap.get?_push_size _ rfl⟩
  have get3 : ∀ b o, s2.heap.get? b = some o → (s2.heap.push { cls := .type "list", data := .seq ([] : List Value).toArray }).get? b = some o := fun b o e => Heap.get?_push_of_some _ e
  have lit3 : it < (s2.heap.push { cls := .type "list", data := .seq ([] : List Value).toArray }).objs.size := by rw [Heap.size_push]; exact Nat.lt_succ_of_lt lit
  have f3 : FpOk X pins (upd H1 s2.heap.objs.size (.lst [])) it := ⟨by rw [upd_ne (Nat.ne_of_lt lit)]; exact f2.1, f2.2⟩
  have P3 := I3.pin p (List.mem_append_left _ pm)
  have st3 := st2.at fun o e => get3 it o e
  show codeAny _ _ (.compStart (.ListComp elt [⟨tg, iter, ifs, 0⟩] scope pos) 0 (.ref it) (.ref s2.heap.objs.size) _) _ _
  generalize s2.heap.objs.size = D at q turn w0 I3 f3 P3 ⊢
  generalize hs3 : ({ s2 with heap := s2.heap.push { cls := .type "list", data := .seq ([] : List Value).toArray } } : Shared) = s3
  have e3 : s2.heap.push { cls := .type "list", data := .seq ([] : List Value).toArray } = s3.heap := by rw [← hs3]
  rw [e3] at st3 lit3
  have I3 : Inv X pins σ (upd H1 D (.lst [])) s3 := by rw [← hs3]; exact I3
  have P3 := I3.pin p (List.mem_append_left _ pm)
  clear e3
  have I4 := block_start (own := own) I3 ok hN (fp := [it]) fun b hb => by
    rw [List.mem_singleton.mp hb]
    exact ⟨f3, lit3⟩
  have st4 : (pushCells (s3.heap.push { cls := .type "dict", data := .dict #[] }) scope.names).IsListIter it a 0 := st3.at fun o e => pushCells_keeps _ _ _ _ (Heap.get?_push_of_some _ e)
  have pg := hg s3 (upd H1 D (.lst [])) s3.heap.objs.size (cellsFrom (s3.heap.objs.size + 1) scope.names (cloFrom X.env.cells scope.names [])) [it]
  have pt := ht s3 (upd H1 D (.lst [])) s3.heap.objs.size (cellsFrom (s3.heap.objs.size + 1) scope.names (cloFrom X.env.cells scope.names [])) [it]
  have pe := he s3 (upd H1 D (.lst [])) s3.heap.objs.size (cellsFrom (s3.heap.objs.size + 1) scope.names (cloFrom X.env.cells scope.names [])) [it]
  show codeAny _ _ (.compStart (.ListComp elt [⟨tg, iter, ifs, 0⟩] scope pos) 0 (.ref it) (.ref D) (compEnvC scope (cellsFrom (s3.heap.objs.size + 1) scope.names (cloFrom X.env.cells scope.names [])) s3.heap.objs.size X.env)) (compPost (model X.prog X.w) X.A X.xe none _ (.ref D) s3.heap.objs.size) { s3 with heap := pushCells (s3.heap.push { cls := .type "dict", data := .dict #[] }) scope.names }
  generalize hce : compEnvC scope (cellsFrom (s3.heap.objs.size + 1) scope.names (cloFrom X.env.cells scope.names [])) s3.heap.objs.size X.env = ce at I4 pg pt pe ⊢
  have cL : ce.locals = s3.heap.objs.size := by subst hce; rfl
  generalize upd H1 D (.lst []) = H3 at I3 I4 P3 f3 w0 pg pt pe
  generalize hs4 : ({ s3 with heap := pushCells (s3.heap.push { cls := .type "dict", data := .dict #[] }) scope.names } : Shared) = s4 at I4 ⊢
  have st4 : s4.heap.IsListIter it a 0 := by rw [← hs4]; exact st4
  have hb : it ∈ [it] := List.mem_cons_self
  have out : p.1 ∉ frs X.stack := fun hm => (List.mem_cons.mp (I3.stkSub p.1 hm)).elim P3.2.2.1 P3.2.2.2.1
  have here : ∀ {pins' : List (Addr × Obj)} {σ' : L2.St} {H' : Hp} {s' : Shared}, Inv (X.blk s3 H3 scope ce [it]) pins' σ' H' s' → HotAt X.A p.1 s'.heap := fun I' =>
    ⟨hh, p.2, pv, I'.base.keep p.1 p.2 P3.1 P3.2.1 out (fun z => pit (List.mem_singleton.mp z)), pd, pc⟩
  have fit : ∀ {σ' : L2.St} {H' : Hp} {s' : Shared}, Inv (X.blk s3 H3 scope ce [it]) [] σ' H' s' → H' it = none → FpOk (X.blk s3 H3 scope ce [it]) [] H' it := fun I' n =>
    ⟨n, (I'.ok.exf it hb).1, I'.ok.exfs it hb, .inl hb, (I'.ok.exf it hb).2, fun q hq => absurd (show q ∈ ([] : List (Addr × Obj)) from hq) (by simp)⟩
  have loop : codeAny (model X.prog X.w) X.A (.compLoop (.ListComp elt [⟨tg, iter, ifs, 0⟩] scope pos) 0 (.ref it) (.ref D) ce) (compPost (model X.prog X.w) X.A X.xe none (EP X pins σ Q) (.ref D) s3.heap.objs.size) s4 := by
    refine compLoop_any (fun n s' => ∃ i H', Inv (X.blk s3 H3 scope ce [it]) [] (wipe σ (own.map (·.2))) H' s' ∧ s'.heap.IsListIter it a i ∧ H' it = none ∧ W i n H') ?_ m0 ⟨0, H3, I4, st4, f3.1, w0⟩
    rintro n s5 ⟨i, H5, I5, st5, n5, w5⟩
    rcases turn i n H5 w5 with ⟨⟨ys, hy, hz⟩, qq⟩ | ⟨⟨ys, y, hy, hyi⟩, Nx, hNx, step⟩
    · refine thnF (list_end (X := X.blk s3 H3 scope ce [it]) (E := fun _ _ => False) I5 (fit I5 n5) st5 hy hz (here I5) pit) fun r s6 ⟨hr, I6⟩ => ?_
      subst hr
      have I7 : Inv X pins σ H5 s6 := I3.call' (ch := [it]) I6.os I6.base I6.hok I6.bare fun b hb => by
        rw [List.mem_singleton.mp hb]
        exact ⟨f3.2.2.2.1, f3.2.1, f3.2.2.2.2.1, f3.2.2.2.2.2⟩
      have nC : H5 s3.heap.objs.size = none := by
        have z : H5 ce.locals = none := I6.free
        rw [cL] at z
        exact z
      obtain ⟨m, hn, _⟩ := I6.loc
      have hn : s6.heap.Ns ce.locals m := hn
      rw [cL] at hn
      obtain ⟨k0, k1, k2, k3, k4, k5⟩ := I3.fpOk (Nat.le_refl _) nC
      exact ⟨m, hn, fun h2 sb => ⟨.ref D, H5, I7.turned (t' := s6.toks) (fun b o hb e => (sb.2 b hb).trans e) k0 k1 k3 k4 k5, rfl, qq⟩⟩
    · refine thnF (list_item (tg := tg) (X := X.blk s3 H3 scope ce [it]) (E := fun _ _ => False) I5 (fit I5 n5) st5 hy hyi) fun r s6 ⟨u, hr, h6⟩ => ?_
      subst hr
      refine thnF h6 fun _ s7 ⟨I7, r7, st7⟩ => ?_
      obtain ⟨o7, g7, c7, d7⟩ := id st7
      have I7' := I7.pinned (fp := [it]) (fun b hb => by rw [List.mem_singleton.mp hb]; exact fit I7 n5) (fun b hb => by rw [List.mem_singleton.mp hb]; exact ⟨o7, g7, fun v z => by rw [d7] at z; cases z⟩)
      have same : ∀ zs, SqL X.K H5 a zs → zs[i]? = some y := fun zs hzs => by rw [I5.list_inj hzs hy]; exact hyi
      refine thnF (pg.run _ s7 _ H5 y u _ I7' r7 (step y H5 ⟨rfl, same⟩)) fun _ s8 ⟨σ8, H8, I8, hw8, q8⟩ => ?_
      refine thnF (pt.run _ s8 σ8 H8 _ I8 q8) fun b s9 ⟨H9, I9, q9⟩ => ?_
      have fin : ∀ {s' : Shared} {H' : Hp}, Inv (X.blk s3 H3 scope ce [it]) ([] ++ pinsAt [it] s7.heap) σ8 H' s' → Nx H' → ∃ m, m < n ∧ ∃ i H', Inv (X.blk s3 H3 scope ce [it]) [] (wipe σ (own.map (·.2))) H' s' ∧ s'.heap.IsListIter it a i ∧ H' it = none ∧ W i m H' := fun {s' H'} I' nx => by
        obtain ⟨m2, hm, w2⟩ := hNx H' nx
        have pn := I'.pin (it, o7) (List.mem_append_right _ (List.mem_append_right _ (mem_pinsAt hb g7)))
        have hl : (wipe σ (own.map (·.2))).length = σ8.length := by rw [← hw8, wipe_length]
        exact ⟨m2, hm, i + 1, H', (I'.unpinned (pins := [])).weak hl (fun j v e => by rw [← hw8] at e; exact (wipe_some e).1), st7.at fun o e => by rw [g7] at e; cases e; exact pn.1, pn.2.1, w2⟩
      cases b with
      | false =>
        simp only [Bool.false_eq_true, if_false] at q9 ⊢
        exact fin I9 q9
      | true =>
        simp only [if_true] at q9 ⊢
        refine thnF (pe.run _ s9 σ8 H9 _ I9 q9) fun z s10 ⟨yv, H10, I10, r10, acc, hD10, hz10, nx⟩ => ?_
        exact app_ok (X := X.blk s3 H3 scope ce [it]) I10 hD10 hz10 r10 fun s11 I11 => fin I11 nx
  exact codeAny_compStart_list loop (wpAny_pyIter_listiter st4 loop)
end
end Pv

set_option Elab.async false
set_option linter.all false
set_option maxRecDepth 100000
set_option maxHeartbeats 2000000
/-! ### sorted, of tuples of ints of one length -/
namespace Srt3
open PySem PySem.Spec PyProof.Rows SrtO Srt
/-- in the order of the words -/
def lexL : List Int → List Int → Bool
  | [], [] => false
  | [], _ :: _ => true
  | _ :: _, [] => false
  | a :: r, b :: q => if a = b then lexL r q else decide (a < b)
theorem lexL_asym : ∀ p q : List Int, lexL p q = true → lexL q p = false
  | [], [], _ => rfl
  | [], _ :: _, _ => rfl
  | _ :: _, [], h => by cases h
  | a :: r, b :: q, h => by
    unfold lexL at h ⊢
    by_cases e : a = b
    · rw [if_pos e] at h
      rw [if_pos e.symm]
      exact lexL_asym r q h
    · rw [if_neg e, decide_eq_true_iff] at h
      rw [if_neg (fun z => e z.symm), decide_eq_false_iff_not]
      omega
theorem lexL_tot : ∀ p q : List Int, lexL p q = false → lexL q p = false → p = q
  | [], [], _, _ => rfl
  | [], _ :: _, h, _ => by cases h
  | _ :: _, [], _, h => by cases h
  | a :: r, b :: q, h1, h2 => by
    unfold lexL at h1 h2
    by_cases e : a = b
    · rw [if_pos e] at h1
      rw [if_pos e.symm] at h2
      rw [e, lexL_tot r q h1 h2]
    · rw [if_neg e, decide_eq_false_iff_not] at h1
      rw [if_neg (fun z => e z.symm), decide_eq_false_iff_not] at h2
      omega
theorem lexL_tr : ∀ x y z : List Int, lexL y x = false → lexL z y = false → lexL z x = false
  | [], y, [], _, _ => rfl
  | _ :: _, [], _, h, _ => by cases h
  | [], [], _ :: _, _, _ => rfl
  | _ :: _, _ :: _, [], _, h => by cases h
  | [], _ :: _, _ :: _, _, _ => rfl
  | a :: r, b :: q, c :: t, h1, h2 => by
    unfold lexL at h1 h2 ⊢
    by_cases e1 : b = a
    · rw [if_pos e1] at h1
      by_cases e2 : c = b
      · rw [if_pos e2] at h2
        rw [if_pos (e2.trans e1)]
        exact lexL_tr r q t h1 h2
      · rw [if_neg e2, decide_eq_false_iff_not] at h2
        rw [if_neg (fun z => e2 (z.trans e1.symm)), decide_eq_false_iff_not]
        omega
    · rw [if_neg e1, decide_eq_false_iff_not] at h1
      by_cases e2 : c = b
      · rw [if_neg (fun z => e1 (e2.symm.trans z)), decide_eq_false_iff_not]
        omega
      · rw [if_neg e2, decide_eq_false_iff_not] at h2
        rw [if_neg (by omega), decide_eq_false_iff_not]
        omega
theorem swo_lexL {α : Type} (k : α → List Int) : Swo fun v u => lexL (k v) (k u) := ⟨fun _ _ h => lexL_asym _ _ h, fun _ _ _ h1 h2 => lexL_tr _ _ _ h1 h2⟩
section
variable {prog : Program} {w : World} {A : Around} {E : Value → Shared → Prop} {s : Shared}
theorem kat_rows {xs : List Value} {ns : List Int} (hx : IntsAre xs ns) : ∀ {ys : List Value} {ms : List Int} (i : Nat), IntsAre ys ms → ns.length = ms.length →
    PySem.W.KatLex prog w A true false (fun r s' => s' = s ∧ r = lexL ns ms) (xs.zip ys) i s := by
  induction hx with
  | nil =>
    intro ys ms i hy hl
    cases hy with
    | nil => exact PySem.W.kat_nil ⟨rfl, rfl⟩
    | cons m u hy => cases hl
  | @cons n t xs ns hx ih =>
    intro ys ms i hy hl
    cases hy with
    | nil => cases hl
    | @cons m u ys ms hy =>
      rw [List.zip_cons_cons]
      refine PySem.W.kat_cons (SeqAt.EqAt.int_int n t m u prog w _ _ ?_)
      refine PySem.W.kat_go (fun e1 => ?_) (fun e1 => ?_)
      · have ex : n = m := by simpa using e1
        have e2 : lexL (n :: ns) (m :: ms) = lexL ns ms := by rw [lexL, if_pos ex]
        rw [e2]
        exact PySem.W.kat_yes (ih (i + 1) hy (Nat.succ.inj hl))
      · have ex : ¬ n = m := by simpa using e1
        have e2 : lexL (n :: ns) (m :: ms) = decide (n < m) := by rw [lexL, if_neg ex]
        rw [e2]
        exact PySem.W.kat_no (TS.oneLt_ints _ ⟨rfl, rfl⟩)
theorem rows_cmp {vs : List Value} {k : Value → List Int} {d : Nat} (hp : ∀ v ∈ vs, TS.TupInts s.heap v (k v) ∧ (k v).length = d) : SrtO.Cmp prog w A s (tuples' true) (fun p => p.1 ∈ vs) (lt2 fun v u => lexL (k v) (k u)) := by
  intro p q hm hm'
  obtain ⟨h1, l1⟩ := hp _ hm
  obtain ⟨h2, l2⟩ := hp _ hm'
  show wpAny (model prog w) A (keyLt' (tuples' true) p.1 q.1) (fun r s' => s' = s ∧ r = lexL (k p.1) (k q.1)) (fun _ _ => False) s
  generalize k p.1 = ns at h1 l1 ⊢
  generalize k q.1 = ms at h2 l2 ⊢
  obtain ⟨a, xs, e, ⟨o, ho, hc, n, hd⟩, i1⟩ := h1
  obtain ⟨b, ys, e', ⟨o', ho', hc', n', hd'⟩, i2⟩ := h2
  rw [e, e']
  refine PySem.W.kat_lt ho hd ho' hd' ?_
  have e3 : decide (xs.size < ys.size) = false := by
    have z1 := i1.length
    have z2 := i2.length
    rw [Array.length_toList] at z1 z2
    rw [decide_eq_false_iff_not]
    omega
  rw [e3]
  exact kat_rows i1 0 i2 (l1.trans l2.symm)
theorem heads_of {h : Heap} {d : Nat} {k : Value → List Int} : ∀ vs : List Value, (∀ v ∈ vs, TS.TupInts h v (k v) ∧ (k v).length = d + 1) → ∃ fs, PySem.W.KatTups h vs fs ∧ fs.length = vs.length ∧ ∀ f ∈ fs, ∃ n t, f = Value.int n t
  | [], _ => ⟨[], PySem.W.KatTups.nil, rfl, fun f hf => by simp at hf⟩
  | v :: vs, x => by
    obtain ⟨fs, kt, hl, hi⟩ := heads_of vs fun u hu => x u (List.mem_cons_of_mem _ hu)
    obtain ⟨⟨a, xs, rfl, ⟨o, ho, hc, n, hdt⟩, i⟩, hn⟩ := x v (List.mem_cons_self ..)
    have hz := i.length
    rw [Array.length_toList, hn] at hz
    have h0 : 0 < xs.size := by omega
    have e0 : xs[0]? = some xs[0] := Array.getElem?_eq_getElem h0
    obtain ⟨m, t, hy⟩ := i.all xs[0] (by rw [Array.mem_toList_iff]; exact Array.getElem_mem h0)
    refine ⟨xs[0] :: fs, PySem.W.KatTups.cons ho hc hdt e0 kt, by rw [List.length_cons, List.length_cons, hl], fun f hf => ?_⟩
    rcases List.mem_cons.mp hf with rfl | hf
    · exact ⟨m, t, hy⟩
    · exact hi f hf
theorem rows_sortable {a : Addr} {vs : List Value} {k : Value → List Int} {d : Nat} (h0 : 0 < vs.length) (hp : ∀ v ∈ vs, TS.TupInts s.heap v (k v) ∧ (k v).length = d + 1) (ha : ∀ o, s.heap.get? a = some o → o.cls ≠ .type "tuple") : SortableO prog w A s a vs fun v u => lexL (k v) (k u) := by
  intro h' keep
  have hp' : ∀ v ∈ vs, TS.TupInts h' v (k v) ∧ (k v).length = d + 1 := fun v hm => ⟨(hp v hm).1.keeps fun b o e c => keep b o (fun z => by subst z; exact ha o e c) e, (hp v hm).2⟩
  obtain ⟨fs, h1, h2, h3⟩ := heads_of vs hp'
  refine ⟨tuples' true, fun Q E hq => ?_, rows_cmp hp'⟩
  refine PySem.W.kat_kind (T := .type "int") h1 (by omega) (fun f hm => ?_) (by rfl) ?_
  · obtain ⟨x, t, rfl⟩ := h3 f hm
    exact PySem.W.Looks.now
  · have e : (Value.type "int" != Value.type "tuple") = true := by first | decide +kernel | rfl | decide
    rw [e]
    exact hq
end
end Srt3
namespace L2
open PySem PySem.Spec PyProof.Rows Srt3
/-- sorted(xs), xs a list of tuples of ints of one length -/
def rSortedR (K : PySem.W.Frag) : List V → Hp → VK → Prop := fun vs H Q => ∃ (a : Addr) (xs : List V) (k : V → List Int) (d : Nat), vs = [V.ref a] ∧ SqL K H a xs ∧ (∀ x ∈ xs, (k x).length = d + 1 ∧ ∃ t, x = V.ref t ∧ H t = some (.tup ((k x).map V.int))) ∧
  ∀ ys p, ys.Perm xs → ys.Pairwise (fun x y => lexL (k y) (k x) = false) → H p = none → Q (.ref p) (upd H p (.lst ys))
section
variable {X : Cx}
theorem cr_sortedR : CallR X (.builtin "sorted") (rSortedR X.K) := by
  intro pins s σ H vs us Q I r h
  obtain ⟨a, xs, k, d, rfl, hs, hx, q⟩ := h
  obtain ⟨its, rv, hl, hz⟩ := I.list hs
  obtain ⟨u, rfl, ru⟩ := vals1 r
  obtain rfl : u = Value.ref a := ru
  obtain ⟨e1, e2⟩ := refs_back rv fun x m => by
    obtain ⟨_, t, e, _⟩ := hx x m
    exact ⟨t, e⟩
  have tup : ∀ v ∈ its, TS.TupInts s.heap v (k (backV v)) ∧ (k (backV v)).length = d + 1 := fun v hv => by
    obtain ⟨t, rfl⟩ := e2 v hv
    have hm : V.ref t ∈ xs := by rw [e1]; exact List.mem_map.mpr ⟨_, hv, rfl⟩
    obtain ⟨hd, t', e, ht⟩ := hx _ hm
    cases e
    obtain ⟨_, its2, r2, o, ho, hc, n, hdt⟩ := I.hok _ _ ht
    exact ⟨⟨t, its2.toArray, rfl, ⟨o, ho, hc, n, hdt⟩, by rw [List.toList_toArray]; exact r2.ints⟩, hd⟩
  refine SrtO.sorted_ord (swo_lexL fun u => k (backV u)) hl.isList (by rw [← rv.length]; exact hz) (fun h2 h₁ a' ha kk => ?_) fun out h1 h2 => ?_
  · refine rows_sortable (s := { s with heap := h₁ }) (d := d) (by omega) (fun v hm => ⟨(tup v hm).1.keeps fun b o e _ => (kk b o e).2, (tup v hm).2⟩) fun o e => ?_
    have e' : some o = some (seqObj "list" its.toArray 0) := e.symm.trans ha
    cases e'
    intro c
    exact absurd (Value.type.inj c) (by decide)
  · have h3 : ∀ u ∈ out, ∃ a, u = Value.ref a := fun u hu => e2 u (h2.perm.mem_iff.mp hu)
    have pm : (out.map backV).Perm xs := by rw [e1]; exact h2.perm.map backV
    obtain ⟨ep, he'⟩ := PyProof.Rows.sortedAll_at s.heap its out.toArray
    refine ⟨.ref _, upd H (s.heap.objs.size + 1) (.lst (out.map backV)), I.laid (t' := s.toks) (fun _ _ => PyProof.Rows.sortedAll_old) (Nat.le_succ _) ⟨by rw [pm.length_eq]; exact hz, out, ep, vals_back h3, he'⟩, rfl, q _ _ pm (List.pairwise_map.mpr h1) (I.hok.fresh (Nat.le_succ _))⟩
end
end L2
namespace Pv
open PySem PySem.Spec L2 Srt3
open Enc (enc)
open Encs (encs)
/-- tuples of ints alone -/
class IntsT (β : Type) [Encs β] where
  nums : β → List Int
  d : Nat
  len : ∀ b, (nums b).length = d
  enc : ∀ b, encs b = (nums b).map (Enc.enc : Int → PV)
  inj : ∀ a b, nums a = nums b → a = b
instance : IntsT (Int × Unit) := ⟨fun b => [b.1], 1, fun _ => rfl, fun _ => rfl, fun a b h => by
  obtain ⟨x, ⟨⟩⟩ := a
  obtain ⟨y, ⟨⟩⟩ := b
  cases h
  rfl⟩
instance {β : Type} [Encs β] [i : IntsT β] : IntsT (Int × β) := ⟨fun b => b.1 :: i.nums b.2, i.d + 1, fun b => by rw [List.length_cons, i.len], fun b => by
  show Enc.enc b.1 :: encs b.2 = _
  rw [i.enc]
  rfl, fun a b h => by
  obtain ⟨x, u⟩ := a
  obtain ⟨y, v⟩ := b
  have h : x :: i.nums u = y :: i.nums v := h
  obtain ⟨rfl, h2⟩ := List.cons.inj h
  rw [i.inj _ _ h2]⟩
def leT {β : Type} [Encs β] [IntsT β] (a b : Tp β) : Bool := !lexL (IntsT.nums b.t) (IntsT.nums a.t)
def sortT {β : Type} [Encs β] [IntsT β] (xs : List (Tp β)) : List (Tp β) := xs.mergeSort leT
section
variable {β : Type} [Encs β] [i : IntsT β]
theorem leT_tr (a b c : Tp β) (h1 : leT a b = true) (h2 : leT b c = true) : leT a c = true := by
  unfold leT at *
  rw [Bool.not_eq_true'] at *
  exact lexL_tr _ _ _ h1 h2
theorem leT_tot (a b : Tp β) : (leT a b || leT b a) = true := by
  unfold leT
  cases e : lexL (IntsT.nums b.t) (IntsT.nums a.t) with
  | false => rfl
  | true => rw [lexL_asym _ _ e]; rfl
theorem sortT_perm (xs : List (Tp β)) : (sortT xs).Perm xs := List.mergeSort_perm _ _
theorem sortT_le (xs : List (Tp β)) : (sortT xs).Pairwise fun a b => leT a b = true := List.pairwise_mergeSort leT_tr leT_tot xs
theorem sortT_one {xs ys : List (Tp β)} (h : xs.Perm ys) (h1 : xs.Pairwise fun a b => leT a b = true) (h2 : ys.Pairwise fun a b => leT a b = true) : xs = ys :=
  h.eq_of_pairwise (fun a b _ _ h1 h2 => by
    obtain ⟨u⟩ := a
    obtain ⟨v⟩ := b
    unfold leT at h1 h2
    rw [Bool.not_eq_true'] at h1 h2
    exact congrArg Tp.mk (i.inj _ _ (lexL_tot _ _ h2 h1))) h1 h2
end
section
variable {T : CT} {H : Hp} {G : Addr → Prop}
/-- the ints of a tuple, read off a heap -/
def numV : V → Int
  | .int i => i
  | _ => 0
def kOf (H : Hp) (v : V) : List Int := match v with
  | .ref t => match H t with
    | some (.tup us) => us.map numV
    | _ => []
  | _ => []
theorem num_ints : ∀ ns : List Int, (ns.map V.int).map numV = ns
  | [] => rfl
  | n :: ns => by
    rw [List.map_cons, List.map_cons, num_ints ns]
    rfl
theorem tup_nums {β : Type} [Encs β] [i : IntsT β] {z : Tp β} {v : V} (r : Rep T H G (enc z) v) : kOf H v = i.nums z.t ∧ ∃ t, v = .ref t ∧ H t = some (.tup ((kOf H v).map V.int)) := by
  have r : Rep T H G (.tup (encs z.t)) v := r
  unfold Rep at r
  obtain ⟨a, vs, rfl, _, ha, _, rs⟩ := r
  rw [i.enc] at rs
  have e := ints_of rs
  subst e
  have e2 : kOf H (.ref a) = i.nums z.t := by
    show (match H a with
      | some (.tup us) => us.map numV
      | _ => []) = _
    rw [ha]
    exact num_ints _
  rw [e2]
  exact ⟨rfl, a, rfl, ha⟩
theorem reps_perm {α : Type} [Enc α] {vs ys : List V} (h : vs.Perm ys) : ∀ xs : List α, Reps T H G (xs.map enc) vs → ∃ zs : List α, zs.Perm xs ∧ Reps T H G (zs.map enc) ys := by
  induction h with
  | nil => intro xs r; exact ⟨xs, .refl _, r⟩
  | cons v h ih =>
    intro xs r
    cases xs with
    | nil => have r : (_ :: _ : List V) = [] := r; cases r
    | cons x xs =>
      rw [List.map_cons] at r
      unfold Reps at r
      obtain ⟨v', r', e, r1, r2⟩ := r
      obtain ⟨rfl, rfl⟩ := List.cons.inj e
      obtain ⟨zs, pz, rz⟩ := ih xs r2
      exact ⟨x :: zs, pz.cons x, reps_cons r1 rz⟩
  | swap v u l =>
    intro xs r
    match xs with
    | [] => have r : (_ :: _ : List V) = [] := r; cases r
    | [x] =>
      rw [List.map_cons] at r
      unfold Reps at r
      obtain ⟨v', r', e, r1, r2⟩ := r
      obtain ⟨rfl, rfl⟩ := List.cons.inj e
      have r2 : (_ :: _ : List V) = [] := r2
      cases r2
    | x :: y :: xs =>
      rw [List.map_cons, List.map_cons] at r
      unfold Reps at r
      obtain ⟨v', r', e, r1, r2⟩ := r
      obtain ⟨rfl, rfl⟩ := List.cons.inj e
      unfold Reps at r2
      obtain ⟨v2, r'2, e2, r3, r4⟩ := r2
      obtain ⟨rfl, rfl⟩ := List.cons.inj e2
      exact ⟨y :: x :: xs, .swap x y xs, reps_cons r3 (reps_cons r1 r4)⟩
  | trans h1 h2 ih1 ih2 =>
    intro xs r
    obtain ⟨zs, pz, rz⟩ := ih1 xs r
    obtain ⟨us, pu, ru⟩ := ih2 zs rz
    exact ⟨us, pu.trans pz, ru⟩
theorem reps_mem {α : Type} [Enc α] : ∀ {xs : List α} {vs : List V}, Reps T H G (xs.map enc) vs → (∀ v, v ∈ vs → ∃ x, x ∈ xs ∧ Rep T H G (enc x) v) ∧ ∀ x, x ∈ xs → ∃ v, v ∈ vs ∧ Rep T H G (enc x) v
  | [], vs, r => by
    have r : vs = [] := r
    subst r
    exact ⟨fun v h => absurd h (by simp), fun x h => absurd h (by simp)⟩
  | x :: xs, vs, r => by
    rw [List.map_cons] at r
    unfold Reps at r
    obtain ⟨v, r', rfl, r1, r2⟩ := r
    obtain ⟨h1, h2⟩ := reps_mem r2
    refine ⟨fun u h => ?_, fun y h => ?_⟩
    · rcases List.mem_cons.mp h with rfl | h
      · exact ⟨x, List.mem_cons_self .., r1⟩
      · obtain ⟨y, hy, r⟩ := h1 u h
        exact ⟨y, List.mem_cons_of_mem _ hy, r⟩
    · rcases List.mem_cons.mp h with rfl | h
      · exact ⟨v, List.mem_cons_self .., r1⟩
      · obtain ⟨u, hu, r⟩ := h2 y h
        exact ⟨u, List.mem_cons_of_mem _ hu, r⟩
theorem reps_sorted {β : Type} [Encs β] [i : IntsT β] : ∀ {zs : List (Tp β)} {ys : List V}, Reps T H G (zs.map enc) ys → ys.Pairwise (fun x y => lexL (kOf H y) (kOf H x) = false) → zs.Pairwise fun a b => leT a b = true
  | [], _, _, _ => .nil
  | z :: zs, ys, r, h => by
    rw [List.map_cons] at r
    unfold Reps at r
    obtain ⟨v, r', rfl, r1, r2⟩ := r
    rw [List.pairwise_cons] at h
    refine List.pairwise_cons.mpr ⟨fun b hb => ?_, reps_sorted r2 h.2⟩
    obtain ⟨u, hu, ru⟩ := (reps_mem r2).2 b hb
    have := h.1 u hu
    rw [(tup_nums r1).1, (tup_nums ru).1] at this
    unfold leT
    rw [this]
    rfl
end
section
variable {C : Cn} {Γ : List Sl} {l : Lv} {ta : TE} {K : PySem.W.Frag} {β : Type} [Encs β] [i : IntsT β]
theorem evn_sortT {m : R (List (Tp β))} (ha : Evm C Γ l ta m) (hd : i.d - 1 + 1 = i.d := by rfl) : EvN C Γ l (tCB (rSortedR K) (tCons ta tNil)) (m.bind fun xs => .ok (sortT xs)) := fun G hid os σ H Q Kw q => by
  refine ha G hid os σ H _ Kw ?_
  cases e1 : m with
  | bad => rw [e1] at q; exact q
  | ex x => rw [e1] at q; exact q
  | ok xs =>
    rw [e1] at q
    intro x H1 s1 r1
    obtain ⟨p, vs, e, _, hp, hz, rs⟩ := lst_rep r1
    refine ⟨p, vs, kOf H1, i.d - 1, by rw [e], rd_seqL hp, fun v hv => ?_, fun ys d pm pw nd => ?_⟩
    · obtain ⟨z, _, r⟩ := (reps_mem rs).1 v hv
      obtain ⟨e2, t, e3, h3⟩ := tup_nums r
      exact ⟨by rw [e2, i.len, hd], t, e3, h3⟩
    · obtain ⟨zs, pz, rz⟩ := reps_perm pm.symm xs rs
      have e2 : zs = sortT xs := sortT_one (pz.trans (sortT_perm xs).symm) (reps_sorted rz pw) (sortT_le xs)
      subst e2
      exact q d ys _ (s1.trans (same_new nd)) (s1.free nd) upd_same (by rw [pm.length_eq]; exact hz) ((rz.free nd).same (same_new nd))
/-- the same of an own list -/
theorem evn_sortTo {j : Nat} {xs : List (Tp β)} (h : Γ[j]? = some (.ow l (xs.map enc))) (hd : i.d - 1 + 1 = i.d := by rfl) : EvN C Γ l (tCB (rSortedR K) (tCons (tVar j) tNil)) (.ok (sortT xs)) := fun G hid os σ H Q Kw q => by
  obtain ⟨_, a, vs, _, e, hp, hz, rs⟩ := Kw.sl j _ h
  refine ⟨_, e, a, vs, kOf H, i.d - 1, rfl, rd_seqL hp, fun v hv => ?_, fun ys d pm pw nd => ?_⟩
  · obtain ⟨z, _, r⟩ := (reps_mem rs).1 v hv
    obtain ⟨e2, t, e3, h3⟩ := tup_nums r
    exact ⟨by rw [e2, i.len, hd], t, e3, h3⟩
  · obtain ⟨zs, pz, rz⟩ := reps_perm pm.symm xs rs
    have e2 : zs = sortT xs := sortT_one (pz.trans (sortT_perm xs).symm) (reps_sorted rz pw) (sortT_le xs)
    subst e2
    exact q d ys _ (same_new nd) nd upd_same (by rw [pm.length_eq]; exact hz) ((rz.free nd).same (same_new nd))
theorem k_sortedR {X : Cx} (h : X.K = K) : CallR X (.builtin "sorted") (rSortedR K) := by subst h; exact cr_sortedR
end
end Pv

set_option Elab.async false
set_option linter.all false
set_option maxRecDepth 100000
set_option maxHeartbeats 2000000
/-! ### a tuple that came out of a call, with a list in it that is changed then -/
namespace Pv
open PySem PySem.Spec L2
open Enc (enc)
open Encs (encs)
def flatL : PV → Bool
  | .lst xs => xs.all flV
  | _ => false
/-- at most one list, of flat items; all others are flat -/
def twL : List PV → Bool
  | [] => true
  | p :: ps => if flV p then twL ps else flatL p && ps.all flV
def twB : PV → Bool
  | .tup ps => twL ps
  | _ => false
section
variable {C : Cn} {G : Addr → Prop} {Γ : List Sl} {hid : Hid} {os : List (Option Addr)} {σ : L2.St} {H H' : Hp} {i j : Nat} {T : CT}
theorem tw_flat {o : Option Addr} {G : Addr → Prop} : ∀ {ps : List PV} {vs : List V}, Reps T H G ps vs → ps.all flV = true → TwOk T H o ps vs
  | [], _, r, _ => r
  | p :: ps, vs, r, h => by
    unfold Reps at r
    obtain ⟨v, r', e, r1, r2⟩ := r
    rw [List.all_cons, Bool.and_eq_true] at h
    exact ⟨v, r', e, .inl ⟨h.1, r1.flV h.1⟩, tw_flat r2 h.2⟩
theorem tw_one : ∀ {ps : List PV} {vs : List V}, Reps T H' (fun b => H b ≠ none) ps vs → twL ps = true → ∃ o, TwOk T H' o ps vs ∧ ∀ a, o = some a → H a = none ∧ ∃ ws xs, H' a = some (.lst ws) ∧ ws.length ≤ LIM ∧ Reps T H' (fun _ => False) xs ws ∧ xs.all flV = true
  | [], vs, r, _ => ⟨none, r, fun a e => by cases e⟩
  | p :: ps, vs, r, h => by
    unfold Reps at r
    obtain ⟨v, r', e, r1, r2⟩ := r
    unfold twL at h
    cases f : flV p with
    | true =>
      rw [if_pos f] at h
      obtain ⟨o, h1, h2⟩ := tw_one r2 h
      exact ⟨o, ⟨v, r', e, .inl ⟨f, r1.flV f⟩, h1⟩, h2⟩
    | false =>
      rw [if_neg (by rw [f]; decide), Bool.and_eq_true] at h
      obtain ⟨h1, h2⟩ := h
      cases p with
      | lst xs =>
        unfold Rep at r1
        obtain ⟨a, ws, ev, ng, ha, hz, rs⟩ := r1
        have na : H a = none := Classical.byContradiction fun z => ng z
        exact ⟨some a, ⟨v, r', e, .inr ⟨xs, a, ws, rfl, h1, rfl, ev, ha, hz, rs.flV h1⟩, tw_flat r2 h2⟩, fun b eb => by
          cases eb
          exact ⟨na, ws, xs, ha, hz, rs.flV h1, h1⟩⟩
      | int _ => cases h1
      | str _ => cases h1
      | bl _ => cases h1
      | non => cases h1
      | tup _ => cases h1
      | obj _ _ => cases h1
      | scr _ => cases h1
theorem SlOk.at {s : Sl} {σ' : L2.St} (h : SlOk C G os H i σ s) (e : σ'[i]? = σ[i]?) : SlOk C G os H i σ' s := by
  cases s with
  | un => exact h
  | sh l p => obtain ⟨q1, q2, v, q3, q4⟩ := h; exact ⟨q1, q2, v, e.trans q3, q4⟩
  | ow l xs => obtain ⟨q1, a, vs, q2, q3, q4, q5, q6⟩ := h; exact ⟨q1, a, vs, q2, e.trans q3, q4, q5, q6⟩
  | xv a d x => obtain ⟨q1, q2, q3⟩ := h; exact ⟨q1, e.trans q2, q3⟩
  | tw ps => obtain ⟨o, t, vs, q1, q2, q3⟩ := h; exact ⟨o, t, vs, q1, e.trans q2, q3⟩
theorem OkW.swap {x : Option V} {s : Sl} (K : OkW C G Γ hid os σ H) (hi : i < Γ.length) (h : SlOk C G os H i (σ.set i x) s) : OkW C G (Γ.set i s) hid os (σ.set i x) H := by
  refine ⟨by simp [K.lo], by simp [K.ls], K.ext, K.dom, K.new, K.inj, fun j u hj => ?_, K.hd⟩
  by_cases e : i = j
  · subst e
    rw [List.getElem?_set_self hi] at hj
    cases hj
    exact h
  · rw [List.getElem?_set_ne e] at hj
    exact (K.sl j u hj).at (by rw [List.getElem?_set_ne e])
/-- a slot takes such a tuple -/
theorem OkW.tw {ps : List PV} {v : V} (K : OkW C G Γ hid os σ H) (hi : i < Γ.length) (e : Same H H') (r : Rep C.T H' (fun b => H b ≠ none) (.tup ps) v) (h : twL ps = true) : ∃ os', OkW C G (Γ.set i (.tw ps)) hid os' (σ.set i (some v)) H' := by
  unfold Rep at r
  obtain ⟨t, vs, rfl, _, ht, hz, rs⟩ := r
  obtain ⟨o, h1, h2⟩ := tw_one rs h
  have hos : i < os.length := by rw [K.lo]; exact hi
  have hs : i < σ.length := by rw [K.ls]; exact hi
  cases o with
  | none =>
    have K1 := (K.same e).clear i hi none
    have K2 := K1.swap (i := i) (x := some (.ref t)) (s := .tw ps) (by simpa using hi) ⟨none, t, vs, by rw [List.getElem?_set_self hos], by rw [List.getElem?_set_self (by simpa using hs)], ht, hz, h1⟩
    rw [set_set', set_set'] at K2
    exact ⟨_, K2⟩
  | some a =>
    obtain ⟨na, ws, xs, ha, hw, rw', fx⟩ := h2 a rfl
    have K1 := K.own hi (l := .fr) trivial e na ha hw (rw'.flV fx)
    have K2 := K1.swap (i := i) (x := some (.ref t)) (s := .tw ps) (by simpa using hi) ⟨some a, t, vs, by rw [List.getElem?_set_self hos], by rw [List.getElem?_set_self (by simpa using hs)], ht, hz, h1⟩
    rw [set_set', set_set'] at K2
    exact ⟨_, K2⟩
theorem TwOk.rep {o : Option Addr} : ∀ {ps : List PV} {vs : List V}, TwOk T H o ps vs → Reps T H (fun _ => False) ps vs
  | [], _, h => h
  | p :: ps, _, h => by
    obtain ⟨v, r, rfl, h1, h2⟩ := h
    refine reps_cons ?_ h2.rep
    rcases h1 with ⟨f, r1⟩ | ⟨xs, a, ws, rfl, f, e2, rfl, e4, e5, e6⟩
    · exact r1
    · unfold Rep
      exact ⟨a, ws, rfl, id, e4, e5, e6⟩
theorem TwOk.get {o : Option Addr} : ∀ {ps : List PV} {vs : List V} {k : Nat} {xs : List PV}, TwOk T H o ps vs → ps[k]? = some (.lst xs) → xs.all flV = true ∧ ∃ a ws, o = some a ∧ vs[k]? = some (.ref a) ∧ H a = some (.lst ws) ∧ ws.length ≤ LIM ∧ Reps T H (fun _ => False) xs ws
  | [], _, k, xs, h, e => by cases e
  | p :: ps, _, 0, xs, h, e => by
    obtain ⟨v, r, rfl, h1, h2⟩ := h
    obtain rfl : p = .lst xs := Option.some.inj e
    rcases h1 with ⟨f, r1⟩ | ⟨ys, a, ws, e1, f, e2, rfl, e4, e5, e6⟩
    · cases f
    · cases e1
      exact ⟨f, a, ws, e2, rfl, e4, e5, e6⟩
  | p :: ps, _, k + 1, xs, h, e => by
    obtain ⟨v, r, rfl, h1, h2⟩ := h
    exact h2.get (k := k) e
/-- its list goes to a slot of its own -/
theorem OkW.move {ps xs : List PV} {k : Nat} (K : OkW C G Γ hid os σ H) (h : Γ[i]? = some (.tw ps)) (hk : ps[k]? = some (.lst xs)) (hij : i ≠ j) (hj : j < Γ.length) :
    ∃ (t a : Addr) (vs : List V) (os' : List (Option Addr)), σ[i]? = some (some (.ref t)) ∧ H t = some (.tup vs) ∧ vs[k]? = some (.ref a) ∧ OkW C G ((Γ.set i .un).set j (.ow .fr xs)) hid os' (σ.set j (some (.ref a))) H := by
  have hi : i < Γ.length := (List.getElem?_eq_some_iff.mp h).1
  obtain ⟨o, t, vs, q1, q2, q3, q4, q5⟩ := K.sl i _ h
  obtain ⟨fx, a, ws, rfl, hv, ha, hw, rs⟩ := q5.get hk
  have ma : some a ∈ os := List.mem_of_getElem? q1
  have sub : ∀ b : Addr, some b ∈ (os.set i none).set j (some a) → some b ∈ os := fun b hb => by
    rcases mem_set_some hb with hb | rfl
    · exact mem_set_none hb
    · exact ma
  have lj : j < (os.set i none).length := by rw [List.length_set, K.lo]; exact hj
  have at_j : ((os.set i none).set j (some a))[j]? = some (some a) := List.getElem?_set_self lj
  have off : ∀ m, m ≠ j → ((os.set i none).set j (some a))[m]? = (os.set i none)[m]? := fun m hm => List.getElem?_set_ne (fun z => hm z.symm)
  refine ⟨t, a, vs, _, q2, q3, hv, ⟨by simp [K.lo], by simp [K.ls], K.ext, K.dom, fun b hb => K.new b (sub b hb), fun m n b h1 h2 => ?_, fun m s hm => ?_, fun q hq => ⟨(K.hd q hq).1, (K.hd q hq).2.weak (av_less sub q.1)⟩⟩⟩
  · have other : ∀ m, m ≠ j → ((os.set i none).set j (some a))[m]? = some (some b) → os[m]? = some (some b) ∧ m ≠ i := fun m hm e => by
      rw [off m hm] at e
      exact get_set_none e
    by_cases em : m = j
    · by_cases en : n = j
      · rw [em, en]
      · subst em
        rw [at_j] at h1
        cases h1
        obtain ⟨e1, e2⟩ := other n en h2
        exact absurd (K.inj n i _ e1 q1) e2
    · by_cases en : n = j
      · subst en
        rw [at_j] at h2
        cases h2
        obtain ⟨e1, e2⟩ := other m em h1
        exact absurd (K.inj m i _ e1 q1) e2
      · exact K.inj m n b (other m em h1).1 (other n en h2).1
  · by_cases em : m = j
    · subst em
      rw [List.getElem?_set_self (by simpa using hj)] at hm
      cases hm
      exact ⟨trivial, a, ws, at_j, by rw [List.getElem?_set_self (by rw [K.ls]; exact hj)], ha, hw, rs.flV fx⟩
    · rw [List.getElem?_set_ne (fun z => em z.symm)] at hm
      by_cases ei : m = i
      · subst ei
        rw [List.getElem?_set_self hi] at hm
        cases hm
        show ((os.set m none).set j (some a))[m]? = some none
        rw [off m em, List.getElem?_set_self (by rw [K.lo]; exact hi)]
      · rw [List.getElem?_set_ne (fun z => ei z.symm)] at hm
        have eo : ((os.set i none).set j (some a))[m]? = os[m]? := by rw [off m em, List.getElem?_set_ne (fun z => ei z.symm)]
        have es : (σ.set j (some (.ref a)))[m]? = σ[m]? := List.getElem?_set_ne (fun z => em z.symm)
        refine SlOk.at ?_ es
        have q := K.sl m s hm
        cases s with
        | un => exact eo.trans q
        | sh l p => obtain ⟨p1, p2, v, p3, p4⟩ := q; exact ⟨p1, eo.trans p2, v, p3, p4.weak (av_less sub l)⟩
        | ow l ys => obtain ⟨p1, b, us, p2, p3, p4, p5, p6⟩ := q; exact ⟨p1, b, us, eo.trans p2, p3, p4, p5, p6.weak (av_less sub l)⟩
        | xv b d x => obtain ⟨p1, p2, p3⟩ := q; exact ⟨eo.trans p1, p2, p3⟩
        | tw qs => obtain ⟨o, u, us, p1, p2⟩ := q; exact ⟨o, u, us, eo.trans p1, p2⟩
end
/-! ### its rules -/
/-- what a call hands back is new -/
def PoF {α : Type} [Enc α] (C : Cn) (σ : L2.St) (H : Hp) (Q : VK) : R α → Prop
  | .ok a => ∀ v H', Same H H' → Rep C.T H' (fun b => H b ≠ none) (enc a) v → Q v H'
  | .ex x => PoX C σ H x
  | .bad => False
def EvF {α : Type} [Enc α] (C : Cn) (Γ : List Sl) (t : TE) (m : R α) : Prop := ∀ G hid os σ H Q, OkW C G Γ hid os σ H → PoF C σ H Q m → t σ H Q
section
variable {C : Cn} {Γ : List Sl} {l : Lv} {α β : Type} [Enc α] [Encs β] {ta : TA} {E : XK} {i j : Nat} {te : TE} {γ : Type} {u : TS} {out : γ → Oc} {K : PySem.W.Frag}
theorem evf_callF {m : R β} {f : β → R α} (hW : C.W = none) (ha : EvA C Γ .raw ta m) : EvF C Γ (tCall (Pm C.T (.val .fr) f) [] E ta) (m.bind f) := fun G hid os σ H Q Kw q => by
  refine call_gen (M := .val .fr) (P := fun G os σ H Q r => PoF C σ H Q r) ha (fun _ _ _ _ _ z => z) (fun _ _ _ _ _ x z => by have z : PoX C _ _ x := z; unfold PoX at z; rw [hW] at z; exact z) (fun G hid os σ H Q H1 a Kw s1 q => ⟨fun _ => False, fun _ z => z.elim, fun _ z => z.elim, fun v H2 s2 r => q v H2 (s1.trans s2) (r.weak fun b z => .inl (same_ne s1 z))⟩) G hid os σ H Q Kw ?_
  cases m with
  | bad => exact q
  | ex x => exact q
  | ok b => exact q
theorem evf_callQF {m : R β} {f : β → R α} (ha : EvA C Γ .raw ta m) : EvF C Γ (tCallS (PmX C.T (.val .fr) f) (WE fun _ _ _ _ => False) ta) (m.bind fun b => (f b).nox) := fun G hid os σ H Q Kw q => by
  refine callq_gen (M := .val .fr) (P := fun G os σ H Q r => PoF C σ H Q r.nox) ha (fun _ _ _ _ _ z => z) (fun _ _ _ _ _ x z => z) (fun G hid os σ H Q H1 a Kw s1 q => ⟨fun _ => False, fun _ z => z.elim, fun _ z => z.elim, fun v H2 s2 r => q v H2 (s1.trans s2) (r.weak fun b z => .inl (same_ne s1 z))⟩) G hid os σ H Q Kw ?_
  cases m with
  | bad => exact q
  | ex x => exact q
  | ok b => exact q
theorem EvF.cast {t : TE} {m m' : R α} (h : EvF C Γ t m) (e : m = m') : EvF C Γ t m' := e ▸ h
/-- at most one list in it -/
def R.tw (a : α) (k : R γ) : R γ := R.ite (twB (enc a)) k R.bad
theorem bd_setTw {ps : α → List PV} {m : R α} {k : α → R γ} (h : EvF C Γ te m) (hp : ∀ a, enc a = .tup (ps a)) (hi : i < Γ.length) (hk : ∀ a, BD C (Γ.set i (.tw (ps a))) u (k a) out) : BD C Γ (tSeq (tAsg te (gName i)) u) (m.bind fun a => R.tw a (k a)) out := fun G hid os σ H D Kw q => by
  refine h G hid os σ H _ Kw ?_
  rcases ex_cases q with ⟨a, e, q⟩ | ⟨x, e, q⟩ <;> rw [e]
  · intro v H1 s1 r1
    rw [hp a] at r1
    unfold R.tw at q
    rw [hp a] at q
    cases ht : twB (.tup (ps a)) with
    | false => rw [ht] at q; exact q.elim
    | true =>
      rw [ht] at q
      obtain ⟨os', K1⟩ := Kw.tw hi s1 r1 ht
      exact hk a G hid _ _ H1 D K1 q
  · exact pox_of Kw q
/-- it is read -/
theorem evm_varTw {a : α} {ps : List PV} (h : Γ[i]? = some (.tw ps)) (hp : enc a = .tup ps) : Evm C Γ .raw (tVar i) (.ok a) := fun G hid os σ H Q K q => by
  obtain ⟨o, t, vs, _, e, ht, hz, r⟩ := K.sl i _ h
  refine ⟨_, e, q _ H (Same.refl H) ?_⟩
  rw [hp]
  unfold Rep
  exact ⟨t, vs, rfl, id, ht, hz, r.rep⟩
/-- x = t[k], x is changed then -/
theorem bd_moveTw {ps : List PV} {k : Nat} {xs : List Int} {m : R γ} (h : Γ[i]? = some (.tw ps)) (hij : i ≠ j) (hj : j < Γ.length) (hx : ps[k]? = some (enc xs)) (hk : BD C ((Γ.set i .un).set j (.ow .fr (xs.map enc))) u m out) :
    BD C Γ (tSeq (tAsg (tOp (rIxT K) (tVar i) (tC (.int (k : Int)))) (gName j)) u) m out := fun G hid os σ H D Kw q => by
  obtain ⟨t, a, vs, os', e1, e2, e3, K1⟩ := Kw.move h hx hij hj
  exact ⟨_, e1, t, vs, (k : Int), .ref a, rfl, rfl, rd_seqT e2, atI_nat e3, hk G hid os' _ H D K1 q⟩
/-- the mirror: the list at k, if there is one -/
def lstAt (ps : List PV) (k : Nat) : Option (List Int) := (ps[k]?).bind fun p => (Dec.dec p : Option (List Int))
theorem bd_moveT {ps : List PV} {k : Nat} {m : List Int → R γ} (h : Γ[i]? = some (.tw ps)) (hij : i ≠ j) (hj : j < Γ.length) (hk : ∀ xs : List Int, BD C ((Γ.set i .un).set j (.ow .fr (xs.map enc))) u (m xs) out) :
    BD C Γ (tSeq (tAsg (tOp (rIxT K) (tVar i) (tC (.int (k : Int)))) (gName j)) u) ((R.of (lstAt ps k)).bind m) out := fun G hid os σ H D Kw q => by
  cases e : lstAt ps k with
  | none => rw [e] at q; exact q.elim
  | some xs =>
    rw [e] at q
    unfold lstAt at e
    cases e1 : ps[k]? with
    | none => rw [e1] at e; cases e
    | some p =>
      rw [e1] at e
      have e2 := Dec.ok p xs e
      subst e2
      exact bd_moveTw h hij hj e1 (hk xs) G hid os σ H D Kw q
end
/-! ### tuples of ints by < -/
section
variable {T : CT} {K : PySem.W.Frag} {β : Type} [Encs β] [i : IntsT β]
theorem k_ltT {X : Cx} (h : X.K = K) (hu : X.A.units + 65 < cLine) : OpR X (compareOp .Lt) (rLtT K) := by subst h; exact op_ltT (by omega)
def ltT (a b : Tp β) : Bool := HT.lexLt (i.nums a.t) (i.nums b.t)
theorem rv_ltT {a b : Tp β} : RvF T (rLtT K) a b (some (ltT a b)) := fun H x y Q c hx hy e q => by
  cases e
  have hx : Rep T H (fun _ => False) (.tup (encs a.t)) x := hx
  have hy : Rep T H (fun _ => False) (.tup (encs b.t)) y := hy
  unfold Rep at hx hy
  obtain ⟨p, vs, rfl, _, hp, _, rs⟩ := hx
  obtain ⟨p2, vs2, rfl, _, hp2, _, rs2⟩ := hy
  rw [i.enc] at rs rs2
  have e1 := ints_of rs
  have e2 := ints_of rs2
  subst e1 e2
  exact ⟨p, p2, _, _, rfl, rfl, rd_seqT hp, rd_seqT hp2, q _ (by rfl)⟩
end
/-! ### xs.reverse() -/
section
variable {C : Cn} {Γ : List Sl} {l : Lv} {α β : Type} [Enc α] {u : TS} {out : β → Oc} {K : PySem.W.Frag}
theorem bd_rev {i : Nat} {xs : List α} {k : List α → R β} (h : Γ[i]? = some (.ow l (xs.map enc))) (hk : ∀ ys, BD C (Γ.set i (.ow l (ys.map enc))) u (k ys) out) :
    BD C Γ (tSeq (tDrop (tBM0 K "list" rReverse (tVar i))) u) (R.lt xs.reverse k) out := fun G hid os σ H D Kw q => by
  obtain ⟨hl, p, vs, e2, e3, hp, hz, rs⟩ := Kw.sl i _ h
  refine ⟨_, e3, .inl ⟨rfl, vs, rd_seqL hp⟩, p, vs, rfl, rfl, hp, ?_⟩
  refine hk xs.reverse G hid os σ _ D ?_ q
  refine Kw.chg h e2 hl (by rw [List.length_reverse]; exact hz) ?_
  rw [List.map_reverse]
  exact rs.rev
end
/-! ### a, (b, c) as a target -/
section
variable {C : Cn} {l : Lv} {α β γ : Type} [Enc α] [Enc β] [Enc γ] {K : PySem.W.Frag}
theorem tg_nest {j k m : Nat} (hl : l.st) : TgB C l (gTup K 2 (gCons (gName j) (gCons (gTup K 2 (gCons (gName k) (gCons (gName m) gNil))) gNil))) [j, k, m]
    (fun Γ (a : Tp (α × Tp (β × γ × Unit) × Unit)) => ((Γ.set j (.sh l (enc a.t.1))).set k (.sh l (enc a.t.2.1.t.1))).set m (.sh l (enc a.t.2.1.t.2.1))) := fun G hid os σ H Q v a Γ Kw hj r q => by
  have r : Rep C.T H _ (.tup (encs a.t)) v := r
  unfold Rep at r
  obtain ⟨p, vs, e, _, hp, _, rs⟩ := r
  obtain ⟨v1, v2, e2, r1, r2⟩ := reps2 (a := a.t.1) (b := a.t.2.1) rs
  have K1 := Kw.put (by rw [← Kw.lo]; exact lt_of_some (hj j (by simp))) hl r1
  have r2' : Rep C.T H (av l C.H0 G (os.set j none)) (enc a.t.2.1) v2 := r2.weak (av_less (fun a z => mem_set_none z) l)
  refine ⟨p, vs, e, rd_seqT hp, by rw [e2]; rfl, ?_⟩
  rw [e2]
  refine ⟨v1, [v2], rfl, v2, [], rfl, ?_⟩
  refine tg_two hl G hid _ _ H _ v2 a.t.2.1 _ K1 (fun i hi => none_set (hj i (List.mem_cons_of_mem _ hi))) r2' fun os' σ' K2 B mn => ?_
  exact ⟨rfl, q os' σ' K2 ((Bar.set (by simp)).trans ⟨B.1, fun i hi => B.2 i fun z => hi (List.mem_cons_of_mem _ z)⟩) fun b hb => mn b (keep_none (hj j (by simp)) b hb)⟩
end
/-! ### a list that comes out of a call as a value of unknown sort, and is changed then -/
section
variable {C : Cn} {Γ : List Sl} {te : TE} {γ : Type} {u : TS} {out : γ → Oc} {i : Nat}
theorem bd_setOwn {m : R PV} {k : List Int → R γ} (h : EvF C Γ te m) (hi : i < Γ.length) (hk : ∀ xs : List Int, BD C (Γ.set i (.ow .fr (xs.map enc))) u (k xs) out) :
    BD C Γ (tSeq (tAsg te (gName i)) u) (m.bind fun a => (R.of (Dec.dec a : Option (List Int))).bind k) out := fun G hid os σ H D Kw q => by
  refine h G hid os σ H _ Kw ?_
  rcases ex_cases q with ⟨a, e, q⟩ | ⟨x, e, q⟩ <;> rw [e]
  · intro v H1 s1 r1
    cases ed : (Dec.dec a : Option (List Int)) with
    | none => rw [ed] at q; exact q.elim
    | some xs =>
      rw [ed] at q
      have ea := Dec.ok a xs ed
      subst ea
      have r1 : Rep C.T H1 (fun b => H b ≠ none) (.lst (xs.map enc)) v := r1
      unfold Rep at r1
      obtain ⟨p, vs, rfl, ng, hp, hz, rs⟩ := r1
      have n : H p = none := Classical.byContradiction fun z => ng z
      have fl : (xs.map (enc : Int → PV)).all flV = true := by
        rw [List.all_map]
        exact List.all_eq_true.mpr fun _ _ => rfl
      exact hk xs G hid _ _ H1 D (Kw.own hi (l := .fr) trivial s1 n hp hz (rs.flV fl)) q
  · exact pox_of Kw q
end
end Pv

set_option Elab.async false
set_option linter.all false
set_option maxRecDepth 100000
set_option maxHeartbeats 2000000
/-! ### operators of own classes: x in o, o + o -/
namespace L2
open PySem PySem.Spec PyProof.Rows
section
variable {prog : Program} {w : World} {A : Around} {E : Value → Shared → Prop} {s : Shared} {K : PySem.W.Frag} {x C f : Addr} {ox : Obj} {od : Option Obj} {b : Value}
def BoolB (Q : Bool → Shared → Prop) (v : Value) (s' : Shared) : Prop := ∃ r, v = .bool r ∧ Q r s'
theorem contains_own {M : Model} {Q : Bool → Shared → Prop} (X : K.In s.heap) (I : PySem.W.InstAt s.heap x ox C od) (hs : PySem.W.findIn K (.ref C) "__contains__" = some (some (.ref f))) (hf : PySem.W.isFn K (.ref f) = true)
    (h : wpAny M A (call (.ref f) [.ref x, b]) (BoolB Q) E s) : wpAny M A (contains (.ref x) b) Q E s := by
  unfold contains
  refine wpAny_holding ?_
  have e0 : stdlibNamesSay? (.ref x) b = none := rfl
  rw [e0]
  refine wpAny_bind (wpAny_bind (I.type.here ((PySem.W.looks_findIn X hs).here ?_)))
  have e1 : ((some (Value.ref f)) == some Value.none) = false := rfl
  rw [e1]
  simp only [Bool.false_eq_true, if_false]
  unfold callSpecialUnlessNone?
  refine wpAny_bind (wpAny_bind (wpAny_bind (I.type.here ((PySem.W.looks_findIn X hs).here ?_))))
  refine wpAny_holding (wpAny_bind ((PySem.W.bind_fn X _ (beq_iff_eq.mp hf)).here ?_))
  have e2 : ((Value.ref f) == Value.none) = false := rfl
  simp only [e2, Bool.false_eq_true, if_false]
  refine wpAny_bind (wpAny_mono h (fun v s' z => ?_) fun _ _ z => z)
  obtain ⟨r, rfl, q⟩ := z
  exact wpAny_pure (wpAny_pure q)
end
end L2
namespace L2
open PySem PySem.Spec PyProof.Rows
section
variable {X : Cx} {CX : CXT} {k : Nat} {C : Addr} {ps : List Str} {sp : Sp}
/-- a method of an own class, by its name -/
def KdM (P : Program) (w : World) (K : PySem.W.Frag) (mg : Str → Option Value) (base : Heap) (C : Addr) (x : Str) (ps : List Str) (k : Nat) (sp : Sp) : Prop :=
  ∃ f fd, PySem.W.findIn K (.ref C) x = some (some (.ref f)) ∧ PySem.W.isFn K (.ref f) = true ∧ PySem.W.selfFirst K C = true ∧ Binds K fd ps [] ∧ FnOk P w K mg base CX0 k f fd ps sp
def rInC (C : Addr) (sp : Sp) (g : Bool → Bool) : R2 := fun x y H Q => ∃ a dx fs, y = .ref a ∧ H a = some (.ins C dx fs) ∧ sp [.ref a, x] H (fun v H' => ∃ b, v = .bl b ∧ Q (.bl (g b)) H') E0
theorem inC_gen {g : Bool → Bool} (h : KdM X.prog X.w X.K X.mg X.base C "__contains__" ps k sp) (hr : Room (k + 1) X.A) {pins : List (Addr × Obj)} {σ : St} {H : Hp} {s : Shared} {x : V} {v : Value} {Q : VK} {a dx : Addr} {fs : List (Str × V)} (I : Inv X pins σ H s) (rx : RelV x v)
    (ea : H a = some (.ins C dx fs)) (q : sp [.ref a, x] H (fun v H' => ∃ b, v = .bl b ∧ Q (.bl (g b)) H') E0) : wpAny (model X.prog X.w) X.A (contains (.ref a) v) (fun b s' => EP X pins σ Q (.bool (g b)) s') X.xe s := by
  obtain ⟨f, fd, hs, hf, _, hb, F⟩ := h
  obtain ⟨mA, O, _⟩ := ins_get I.hok ea
  obtain ⟨od, J, _⟩ := O.look
  refine contains_own I.kIn J hs hf ?_
  have hl := F.len _ _ _ _ q
  refine wpAny_call (codeAny_mono (F.run X.A X.stack s H ⟨[.ref a, v], []⟩ [.ref a, v] [.ref a, x] _ E0 (hr.mono (Nat.le_succ k)) I.env0 (by
    have := hb s [.ref a, v] I.kIn (by simpa using hl)
    simpa using this) (.cons rfl (.cons rx .nil)) q) fun r s' hq => ?_)
  cases r with
  | error e => exact (C8.pass0 (X := X) (E := E0) pins σ H s e s' I hq)
  | ok fl =>
    cases fl with
    | ret u =>
      obtain ⟨z, H', I', rz, b, ez, q'⟩ := I.after hq
      subst ez
      cases rz
      exact ⟨b, rfl, .bl (g b), H', I', rfl, q'⟩
    | next => exact False.elim hq
    | brk => exact False.elim hq
    | cont => exact False.elim hq
theorem op_inC (h : KdM X.prog X.w X.K X.mg X.base C "__contains__" ps k sp) (hr : Room (k + 1) X.A) : OpR X (compareOp .In) (rInC C sp id) := by
  intro pins s σ H x y v u Q I rx ry q
  obtain ⟨a, dx, fs, rfl, ea, q⟩ := q
  obtain rfl : u = Value.ref a := ry
  show wpAny _ _ (contains (.ref a) v >>= fun b => pure (Value.bool b)) _ _ _
  exact wpAny_bind (wpAny_mono (inC_gen (g := id) h hr I rx ea q) (fun b s' z => wpAny_pure z) fun _ _ z => z)
theorem op_niC (h : KdM X.prog X.w X.K X.mg X.base C "__contains__" ps k sp) (hr : Room (k + 1) X.A) : OpR X (compareOp .NotIn) (rInC C sp not) := by
  intro pins s σ H x y v u Q I rx ry q
  obtain ⟨a, dx, fs, rfl, ea, q⟩ := q
  obtain rfl : u = Value.ref a := ry
  show wpAny _ _ (contains (.ref a) v >>= fun b => pure (Value.bool (!b))) _ _ _
  exact wpAny_bind (wpAny_mono (inC_gen (g := not) h hr I rx ea q) (fun b s' z => wpAny_pure z) fun _ _ z => z)
/-- o + o, both of the class -/
def rAddC (C : Addr) (sp : Sp) : R2 := fun x y H Q => ∃ a b dx dy fs gs, x = .ref a ∧ y = .ref b ∧ H a = some (.ins C dx fs) ∧ H b = some (.ins C dy gs) ∧ sp [.ref a, .ref b] H (fun v H' => (∃ r, v = .ref r) ∧ Q v H') E0
theorem op_addC (h : KdM X.prog X.w X.K X.mg X.base C "__add__" ps k sp) (hr : Room (k + 1) X.A) : OpR X (binaryOp .Add) (rAddC C sp) := by
  intro pins s σ H x y v u Q I rx ry q
  obtain ⟨a, b, dx, dy, fs, gs, rfl, rfl, ea, eb, q⟩ := q
  obtain rfl : v = Value.ref a := rx
  obtain rfl : u = Value.ref b := ry
  obtain ⟨f, fd, hs, hf, hc, hb, F⟩ := h
  obtain ⟨mA, O, _⟩ := ins_get I.hok ea
  obtain ⟨od, J, _⟩ := O.look
  obtain ⟨mB, O', _⟩ := ins_get I.hok eb
  obtain ⟨od', J', _⟩ := O'.look
  obtain ⟨m, hF⟩ := I.fr
  refine PySem.W.binop_K (op := .Add) hF I.ok.mod.kin J J'.type hc hs hf ?_
  have hl := F.len _ _ _ _ q
  refine wpAny_call (codeAny_mono (F.run X.A X.stack s H ⟨[.ref a, .ref b], []⟩ [.ref a, .ref b] [.ref a, .ref b] _ E0 (hr.mono (Nat.le_succ k)) I.env0 (by
    have := hb s [.ref a, .ref b] I.kIn (by simpa using hl)
    simpa using this) (.cons rfl (.cons rfl .nil)) q) fun r s' hq => ?_)
  cases r with
  | error e => exact (C8.pass0 (X := X) (E := E0) pins σ H s e s' I hq)
  | ok fl =>
    cases fl with
    | ret u =>
      obtain ⟨z, H', I', rz, ⟨r, ez⟩, q'⟩ := I.after hq
      subst ez
      cases rz
      exact ⟨.ref r, H', I', rfl, q'⟩
    | next => exact False.elim hq
    | brk => exact False.elim hq
    | cont => exact False.elim hq
end
end L2
namespace Pv
open PySem PySem.Spec L2
open Enc (enc)
open Encs (encs)
section
variable {C : Cn} {Γ : List Sl} {l l1 l2 : Lv} {α β γ : Type} [Enc α] [Enc β] [Enc γ] {ta tb : TE}
theorem evm_inG {g : Bool → Bool} {c : Nat} {m1 : R α} {m2 : R β} {f : β × α × Unit → R Bool} {ks : β → List PV} (ha : Evm C Γ l1 ta m1) (hb : Evm C Γ l2 tb m2) (he : ∀ o, enc o = .obj c (ks o)) :
    Evm C Γ .fr (tOp (rInC (C.T.addr c) (Pm C.T (.val .fr) f) g) ta tb) (m1.bind fun a => m2.bind fun o => (f (o, a, ())).nox.bind fun b => .ok (g b)) := fun G hid os σ H Q Kw q => by
  refine ha G hid os σ H _ Kw ?_
  cases e1 : m1 with
  | bad => rw [e1] at q; exact q
  | ex x => rw [e1] at q; exact q
  | ok a =>
    rw [e1] at q
    intro x H1 s1 r1
    refine hb G hid os σ H1 _ (Kw.same s1) ?_
    cases e2 : m2 with
    | bad => rw [e2] at q; exact q
    | ex x => rw [e2] at q; exact PoX.back s1 q
    | ok o =>
      rw [e2] at q
      intro y H2 s2 r2
      have r3 := r2
      rw [he] at r3
      unfold Rep at r3
      obtain ⟨d, dx, vs, e, _, hd, _, _⟩ := r3
      refine ⟨d, dx, _, e, hd, (o, a, ()), fun _ => False, fun _ z => z.elim, reps_cons (by rw [← e]; exact raw_rep r2) (reps_cons (raw_rep (r1.same s2)) reps_nil), ?_⟩
      have q : PoV C .fr G os σ H Q ((f (o, a, ())).nox.bind fun b => .ok (g b)) := q
      cases e3 : f (o, a, ()) with
      | bad => rw [e3] at q; exact q
      | ex x => rw [e3] at q; exact q
      | ok b =>
        rw [e3] at q
        exact fun v H3 s3 r => ⟨b, bl_rep r, q _ H3 ((s1.trans s2).trans s3) rfl⟩
theorem evm_inC {c : Nat} {m1 : R α} {m2 : R β} {f : β × α × Unit → R Bool} {ks : β → List PV} (ha : Evm C Γ l1 ta m1) (hb : Evm C Γ l2 tb m2) (he : ∀ o, enc o = .obj c (ks o)) :
    Evm C Γ .fr (tOp (rInC (C.T.addr c) (Pm C.T (.val .fr) f) id) ta tb) (m1.bind fun a => m2.bind fun o => (f (o, a, ())).nox) := by
  have := evm_inG (g := id) ha hb he (f := f)
  have e : ∀ m : R Bool, (m.bind fun b => .ok (id b)) = m := fun m => by cases m <;> rfl
  simp only [e] at this
  exact this
theorem evm_niC {c : Nat} {m1 : R α} {m2 : R β} {f : β × α × Unit → R Bool} {ks : β → List PV} (ha : Evm C Γ l1 ta m1) (hb : Evm C Γ l2 tb m2) (he : ∀ o, enc o = .obj c (ks o)) :
    Evm C Γ .fr (tOp (rInC (C.T.addr c) (Pm C.T (.val .fr) f) not) ta tb) (m1.bind fun a => m2.bind fun o => (f (o, a, ())).nox.bind fun b => .ok (!b)) := evm_inG (g := not) ha hb he
theorem evm_addC {c c2 : Nat} {m1 : R α} {m2 : R α} {f : α × α × Unit → R γ} {ks : α → List PV} {kc : γ → List PV} (ha : Evm C Γ l1 ta m1) (hb : Evm C Γ l2 tb m2) (he : ∀ o, enc o = .obj c (ks o)) (hc : ∀ o, enc o = .obj c2 (kc o)) :
    Evm C Γ .fr (tOp (rAddC (C.T.addr c) (Pm C.T (.val .fr) f)) ta tb) (m1.bind fun a => m2.bind fun o => (f (a, o, ())).nox) := fun G hid os σ H Q Kw q => by
  refine ha G hid os σ H _ Kw ?_
  cases e1 : m1 with
  | bad => rw [e1] at q; exact q
  | ex x => rw [e1] at q; exact q
  | ok a =>
    rw [e1] at q
    intro x H1 s1 r1
    refine hb G hid os σ H1 _ (Kw.same s1) ?_
    cases e2 : m2 with
    | bad => rw [e2] at q; exact q
    | ex x => rw [e2] at q; exact PoX.back s1 q
    | ok o =>
      rw [e2] at q
      intro y H2 s2 r2
      have r3 := r2
      rw [he] at r3
      unfold Rep at r3
      obtain ⟨d, dx, vs, e, _, hd, _, _⟩ := r3
      have r4 := r1.same s2
      have r5 := r4
      rw [he] at r5
      unfold Rep at r5
      obtain ⟨d', dx', vs', e', _, hd', _, _⟩ := r5
      refine ⟨d', d, dx', dx, _, _, e', e, hd', hd, (a, o, ()), fun _ => False, fun _ z => z.elim, reps_cons (by rw [← e']; exact raw_rep r4) (reps_cons (by rw [← e]; exact raw_rep r2) reps_nil), ?_⟩
      have q : PoV C .fr G os σ H Q (f (a, o, ())).nox := q
      cases e3 : f (a, o, ()) with
      | bad => rw [e3] at q; exact q
      | ex x => rw [e3] at q; exact q
      | ok b =>
        rw [e3] at q
        intro v H3 s3 r
        have r6 := r
        rw [hc] at r6
        unfold Rep at r6
        obtain ⟨d3, _, _, e6, _⟩ := r6
        exact ⟨⟨d3, e6⟩, q v H3 ((s1.trans s2).trans s3) (r.weak fun a z => av_fr_of Kw (s1.trans s2) a z)⟩
end
end Pv

set_option Elab.async false
set_option linter.all false
namespace Rot
section
variable {α : Type} {lt : α → α → Bool}
theorem pre_of {p : α → Bool} : ∀ {T : List α}, T.Pairwise (fun a b => p b = true → p a = true) → ∀ (j : Nat) (hj : j < T.length), (p T[j] = true ↔ j < (T.filter p).length)
  | [], _, j, hj => absurd hj (by simp)
  | t :: T, h, j, hj => by
    obtain ⟨h1, h2⟩ := List.pairwise_cons.mp h
    by_cases e : p t = true
    · rw [List.filter_cons_of_pos e, List.length_cons]
      cases j with
      | zero => exact ⟨fun _ => Nat.succ_pos _, fun _ => e⟩
      | succ j =>
        rw [List.getElem_cons_succ, pre_of h2 j (by simpa using hj)]
        omega
    · have none : ∀ x, x ∈ T → ¬ p x = true := fun x hx z => e (h1 x hx z)
      have z : T.filter p = [] := List.filter_eq_nil_iff.mpr none
      rw [List.filter_cons_of_neg e, z]
      constructor
      · intro q
        cases j with
        | zero => exact absurd q e
        | succ j => exact absurd q (none _ (List.getElem_mem _))
      · intro q
        exact absurd q (by simp)
def b (lt : α → α → Bool) (M T : List α) (i : Nat) : Nat := match M[i]? with
  | some c => (T.filter fun x => lt x c).length
  | none => 0
theorem b_at {M T : List α} {i : Nat} (h : i < M.length) : b lt M T i = (T.filter fun x => lt x M[i]).length := by
  unfold b
  rw [List.getElem?_eq_getElem h]
theorem b_le {M T : List α} {i : Nat} : b lt M T i ≤ T.length := by
  unfold b
  split
  · exact List.length_filter_le ..
  · exact Nat.zero_le _
theorem filter_mono {p q : α → Bool} (h : ∀ x, p x = true → q x = true) : ∀ T : List α, (T.filter p).length ≤ (T.filter q).length
  | [] => Nat.le_refl _
  | t :: T => by
    have ih := filter_mono h T
    rw [List.filter_cons, List.filter_cons]
    cases e : p t with
    | true => rw [h t e]; simp; exact ih
    | false =>
      cases q t with
      | true => simp; omega
      | false => simpa using ih
theorem b_mono (tr : ∀ a b c, lt a b = true → lt b c = true → lt a c = true) {M T : List α} (h : M.Pairwise (fun a b => lt a b = true)) {i j : Nat} (ij : i ≤ j) (hj : j < M.length) : b lt M T i ≤ b lt M T j := by
  rw [b_at (by omega), b_at hj]
  by_cases e : i = j
  · subst e; exact Nat.le_refl _
  · have := List.pairwise_iff_getElem.mp h i j (by omega) hj (by omega)
    exact filter_mono (fun x hx => tr _ _ _ hx this) T
end
/-! the wins of a rotation -/
def wins (n : Nat) (b : Nat → Nat) (r : Nat) : Nat := ((List.range n).filter fun i => decide ((i + r) % n < b i)).length
theorem count_all {p : Nat → Bool} {n : Nat} (h : ∀ i, i < n → p i = true) : ((List.range n).filter p).length = n := by
  rw [List.filter_eq_self.mpr fun i hi => h i (List.mem_range.mp hi), List.length_range]
theorem count_none {p : Nat → Bool} {n : Nat} (h : ∀ i, i < n → p i = false) : ((List.range n).filter p).length = 0 := by
  rw [List.filter_eq_nil_iff.mpr fun i hi => by rw [h i (List.mem_range.mp hi)]; decide]
  rfl
theorem count_lt {p : Nat → Bool} {n i : Nat} (hi : i < n) (h : p i = false) : ((List.range n).filter p).length < n := by
  have h1 := List.length_filter_le p (List.range n)
  rw [List.length_range] at h1
  rcases Nat.lt_or_ge ((List.range n).filter p).length n with z | z
  · exact z
  · have e : ((List.range n).filter p).length = (List.range n).length := by rw [List.length_range]; omega
    have := (List.filter_eq_self.mp (List.filter_sublist.eq_of_length e)) i (List.mem_range.mpr hi)
    rw [h] at this
    cases this
theorem count_pos {p : Nat → Bool} {n i : Nat} (hi : i < n) (h : p i = true) : 0 < ((List.range n).filter p).length :=
  List.length_pos_of_mem (List.mem_filter.mpr ⟨List.mem_range.mpr hi, h⟩)
theorem wins_split {n r : Nat} {b : Nat → Nat} (hr : r ≤ n) : wins n b r = ((List.range (n - r)).filter fun i => decide (i + r < b i)).length + ((List.range r).filter fun j => decide (j < b (n - r + j))).length := by
  unfold wins
  have e : List.range n = List.range (n - r) ++ (List.range r).map (n - r + ·) := by
    have := List.range_add (n := n - r) (m := r)
    rw [show n - r + r = n by omega] at this
    exact this
  rw [e, List.filter_append, List.length_append, List.filter_map, List.length_map]
  congr 2
  · refine List.filter_congr fun i hi => ?_
    have := List.mem_range.mp hi
    rw [Nat.mod_eq_of_lt (by omega)]
  · refine List.filter_congr fun j hj => ?_
    have := List.mem_range.mp hj
    show decide ((n - r + j + r) % n < b (n - r + j)) = _
    rw [show n - r + j + r = n + j by omega]
    by_cases z : j < n
    · rw [Nat.add_mod_left, Nat.mod_eq_of_lt z]
    · omega
def Lo (n : Nat) (b : Nat → Nat) (r : Nat) : Prop := ∀ i, i < n → b i ≤ i + r
def Hi (n : Nat) (b : Nat → Nat) (r : Nat) : Prop := ∀ i, i < n → r + i + 1 ≤ b i + n
theorem lo_hi {n r : Nat} {b : Nat → Nat} (hb : ∀ i, i < n → b i ≤ n) (mono : ∀ i j, i ≤ j → j < n → b i ≤ b j) (h : ¬ Lo n b r) (hr : r ≤ n) : Hi n b r := by
  intro j hj
  unfold Lo at h
  rw [Classical.not_forall] at h
  obtain ⟨i, h⟩ := h
  rw [Classical.not_imp] at h
  obtain ⟨hi, h⟩ := h
  have h1 := hb i hi
  by_cases c : i ≤ j
  · have := mono i j c hj
    omega
  · omega
theorem wins_is {n r : Nat} {b : Nat → Nat} (hr : r ≤ n) (h1 : Lo n b r) (h2 : Hi n b r) : wins n b r = r := by
  rw [wins_split hr, count_none (fun i hi => decide_eq_false (by have := h1 i (by omega); omega)), count_all (fun j hj => decide_eq_true (by have := h2 (n - r + j) (by omega); omega)), Nat.zero_add]
theorem wins_not {n r : Nat} {b : Nat → Nat} (hb : ∀ i, i < n → b i ≤ n) (mono : ∀ i j, i ≤ j → j < n → b i ≤ b j) (hr : r ≤ n) (h : wins n b r = r) : Lo n b r ∧ Hi n b r := by
  rw [wins_split hr] at h
  by_cases h1 : Lo n b r
  · refine ⟨h1, fun i hi => ?_⟩
    rcases Nat.lt_or_ge (b i + n) (r + i + 1) with z | z
    · exfalso
      have a : ((List.range (n - r)).filter fun i => decide (i + r < b i)).length = 0 := count_none (fun i hi => decide_eq_false (by have := h1 i (by omega); omega))
      have c : ((List.range r).filter fun j => decide (j < b (n - r + j))).length < r := count_lt (i := i + r - n) (by omega) (decide_eq_false (by rw [show n - r + (i + r - n) = i by omega]; omega))
      omega
    · exact z
  · exfalso
    have h2 := lo_hi hb mono h1 hr
    unfold Lo at h1
    rw [Classical.not_forall] at h1
    obtain ⟨i, h1⟩ := h1
    rw [Classical.not_imp] at h1
    obtain ⟨hi, h1⟩ := h1
    have h3 := hb i hi
    have a : 0 < ((List.range (n - r)).filter fun i => decide (i + r < b i)).length := count_pos (i := i) (by omega) (decide_eq_true (by omega))
    have c : ((List.range r).filter fun j => decide (j < b (n - r + j))).length = r := count_all (fun j hj => decide_eq_true (by have := h2 (n - r + j) (by omega); omega))
    omega
end Rot
namespace Rot
/-! ### two sorted hands -/
abbrev le' (a b : Int) : Bool := decide (a ≤ b)
theorem le_tr (a b c : Int) (h1 : le' a b = true) (h2 : le' b c = true) : le' a c = true := by
  rw [decide_eq_true_iff] at *
  omega
def cnt (p : Int → Bool) (xs : List Int) : Nat := (xs.filter p).length
theorem cnt_perm {p : Int → Bool} {xs ys : List Int} (h : xs.Perm ys) : cnt p xs = cnt p ys := (h.filter p).length_eq
theorem cnt_mono {p q : Int → Bool} (h : ∀ x, p x = true → q x = true) (xs : List Int) : cnt p xs ≤ cnt q xs := filter_mono h xs
abbrev Up (xs : List Int) : Prop := xs.Pairwise fun a b => a ≤ b
theorem up_le {xs : List Int} (h : Up xs) (x : Int) {j : Nat} (hj : j < xs.length) : xs[j] ≤ x ↔ j < cnt (fun y => decide (y ≤ x)) xs := by
  have := pre_of (p := fun y => decide (y ≤ x)) (T := xs) (h.imp fun {a b} h z => by rw [decide_eq_true_iff] at *; omega) j hj
  rwa [decide_eq_true_iff] at this
theorem up_lt {xs : List Int} (h : Up xs) (x : Int) {j : Nat} (hj : j < xs.length) : xs[j] < x ↔ j < cnt (fun y => decide (y < x)) xs := by
  have := pre_of (p := fun y => decide (y < x)) (T := xs) (h.imp fun {a b} h z => by rw [decide_eq_true_iff] at *; omega) j hj
  rwa [decide_eq_true_iff] at this
def bv (mv tv : List Int) (i : Nat) : Nat := cnt (fun y => decide (y ≤ mv.getD i 0)) tv
theorem bv_at {mv tv : List Int} {i : Nat} (h : i < mv.length) : bv mv tv i = cnt (fun y => decide (y ≤ mv[i])) tv := by
  unfold bv
  rw [List.getD_eq_getElem?_getD, List.getElem?_eq_getElem h]
  rfl
theorem bv_le {mv tv : List Int} {i : Nat} : bv mv tv i ≤ tv.length := List.length_filter_le ..
theorem bv_mono {mv tv : List Int} (h : Up mv) {i j : Nat} (ij : i ≤ j) (hj : j < mv.length) : bv mv tv i ≤ bv mv tv j := by
  rw [bv_at (by omega), bv_at hj]
  have e : mv[i] ≤ mv[j] := by
    by_cases e : i = j
    · subst e; exact Int.le_refl _
    · exact List.pairwise_iff_getElem.mp h i j (by omega) hj (by omega)
  exact cnt_mono (fun x hx => by rw [decide_eq_true_iff] at *; omega) tv
section
variable {mv tv : List Int}
/-- Lo by values -/
theorem lo_iff (hm : Up mv) (ht : Up tv) (hl : tv.length ≤ mv.length) (r : Nat) :
    Lo mv.length (bv mv tv) r ↔ ∀ x, x ∈ tv → cnt (fun y => decide (y ≤ x)) tv ≤ cnt (fun y => decide (y < x)) mv + r := by
  constructor
  · intro h x hx
    by_cases c : cnt (fun y => decide (y < x)) mv < mv.length
    · have h1 := h _ c
      rw [bv_at c] at h1
      have h2 : ¬ mv[cnt (fun y => decide (y < x)) mv] < x := fun z => by
        have := (up_lt hm x c).mp z
        omega
      have h3 : cnt (fun y => decide (y ≤ x)) tv ≤ cnt (fun y => decide (y ≤ mv[cnt (fun y => decide (y < x)) mv])) tv := cnt_mono (fun y hy => by rw [decide_eq_true_iff] at *; omega) tv
      omega
    · have h1 : cnt (fun y => decide (y ≤ x)) tv ≤ tv.length := List.length_filter_le ..
      omega
  · intro h i hi
    by_cases z : bv mv tv i = 0
    · omega
    · have hb : bv mv tv i ≤ tv.length := bv_le
      have hj : bv mv tv i - 1 < tv.length := by omega
      have h1 := h _ (List.getElem_mem hj)
      have h2 : tv[bv mv tv i - 1] ≤ mv[i] := (up_le ht mv[i] hj).mpr (by rw [← bv_at hi]; omega)
      have h3 : bv mv tv i - 1 < cnt (fun y => decide (y ≤ tv[bv mv tv i - 1])) tv := (up_le ht _ hj).mp (Int.le_refl _)
      have h4 : ¬ i < cnt (fun y => decide (y < tv[bv mv tv i - 1])) mv := fun z => by
        have := (up_lt hm _ hi).mpr z
        omega
      omega
theorem hi_iff (hm : Up mv) (hn : mv.length = tv.length) (r : Nat) (hr : r ≤ mv.length) :
    Hi mv.length (bv mv tv) r ↔ ∀ x, x ∈ mv → cnt (fun y => decide (y ≤ x)) mv + r ≤ cnt (fun y => decide (y ≤ x)) tv + mv.length := by
  constructor
  · intro h x hx
    have hj : cnt (fun y => decide (y ≤ x)) mv - 1 < mv.length := by
      have h1 : cnt (fun y => decide (y ≤ x)) mv ≤ mv.length := List.length_filter_le ..
      have := List.length_pos_of_mem hx
      omega
    have pos : 0 < cnt (fun y => decide (y ≤ x)) mv := List.length_pos_of_mem (List.mem_filter.mpr ⟨hx, decide_eq_true (Int.le_refl x)⟩)
    have h1 := h _ hj
    have h2 : mv[cnt (fun y => decide (y ≤ x)) mv - 1] ≤ x := (up_le hm x hj).mpr (by omega)
    have h3 : bv mv tv (cnt (fun y => decide (y ≤ x)) mv - 1) ≤ cnt (fun y => decide (y ≤ x)) tv := by
      rw [bv_at hj]
      exact cnt_mono (fun y hy => by rw [decide_eq_true_iff] at *; omega) tv
    omega
  · intro h i hi
    have h1 := h _ (List.getElem_mem hi)
    rw [bv_at hi]
    have h2 : i < cnt (fun y => decide (y ≤ mv[i])) mv := (up_le hm _ hi).mp (Int.le_refl _)
    omega
end
end Rot


set_option Elab.async false
set_option linter.all false
set_option maxRecDepth 100000
set_option maxHeartbeats 4000000
/-! ### what many laws share: the program's cards and the law's draws -/
namespace Cm
open PySem PySem.Spec L2 Pv
open Enc (enc)
open Encs (encs)
def m_check_hands (v_mine : (List Int)) (v_theirs : (List Int)) : R Unit :=
  (R.ifm (R.ok (!decide ((v_mine.length : Int) = (v_theirs.length : Int)))) (R.raise 1 [enc ((v_mine.length : Int) : Int), enc ((v_theirs.length : Int) : Int)]) (R.ok ()))
def m_deck (v_mine : (List Int)) (v_theirs : (List Int)) : R (List (Tp (Str × Int × Unit))) :=
  (R.lt ((enumF v_theirs).map fun x1 : (Tp (Int × Int × Unit)) => (Tp.mk (x1.t.2.1, (0 : Int), x1.t.1, ()) : (Tp (Int × Int × Int × Unit)))) fun v_keys_2 => (R.bind (R.of (catL v_keys_2 ((enumF v_mine).map fun x4 : (Tp (Int × Int × Unit)) => (Tp.mk (x4.t.2.1, (1 : Int), x4.t.1, ()) : (Tp (Int × Int × Int × Unit)))))) fun v_keys_5 => (R.ok ((sortT v_keys_5).map fun x6 : (Tp (Int × Int × Int × Unit)) => (Tp.mk ((if (decide (x6.t.2.1 = (1 : Int))) then (PySem.Str.ofString "mine") else (PySem.Str.ofString "theirs")), x6.t.2.2.1, ()) : (Tp (Str × Int × Unit)))))))
def m_heights_b1 (x2 : (Tp (Str × Int × Unit))) (s3 : (List Int)) : R ((List Int)) :=
  (R.bind (R.bind (R.of (atI s3 (-(1 : Int)))) fun t4 => (R.ok (t4 + (if (decide (x2.t.1 = (PySem.Str.ofString "theirs"))) then (1 : Int) else (-(1 : Int)))))) fun a6 => R.bind (R.of (appL s3 a6)) fun v_found_5 => (R.ok (v_found_5)))
def m_heights (v_mine : (List Int)) (v_theirs : (List Int)) : R (List Int) :=
  (R.bind (m_check_hands v_mine v_theirs) fun _ => (R.lt ([(0 : Int)] : (List Int)) fun v_found_1 => (R.bind ((m_deck v_mine v_theirs)).nox fun l7 => R.bind (foldR m_heights_b1 l7 (v_found_1)) fun s3 => (R.ok s3))))
def m_peak (v_mine : (List Int)) (v_theirs : (List Int)) : R Int :=
  (R.bind (m_heights v_mine v_theirs) fun t2 => (R.of (t2.max?)))
def m_valley (v_mine : (List Int)) (v_theirs : (List Int)) : R Int :=
  (R.bind (m_heights v_mine v_theirs) fun t2 => (R.of (t2.min?)))
def m__law_cell (v_script : Scr) (v_k : Int) : R Int :=
  (R.ifm (R.ok (decide (v_k < (v_script.xs.length : Int)))) (R.bind (R.of (atI v_script.xs v_k)) fun t1 => (R.ok t1)) (R.ifm (R.ok (decide ((0 : Int) < (v_script.xs.length : Int)))) (R.bind (R.bind (R.of (atI v_script.xs (0 : Int))) fun t2 => (R.ok t2)) fun t3 => R.bind (R.of (mulO (104729 : Int) (v_k + (1 : Int)))) fun t4 => (R.ok (t3 + t4))) (R.of (mulO (104729 : Int) (v_k + (1 : Int))))))
def m__law_draws_b1 (v_sizes : (List Int)) (v_great_3 : Bool) (v_first_4 : Int) (x6 : Int) (s7 : (List Int) × Int) : R ((List Int) × Int) :=
  (R.bind (R.ifm (R.ok (v_great_3 && (decide ((0 : Int) < s7.2)))) (R.bind (R.bind (R.of (atI v_sizes x6)) fun t40 => (R.of (modO s7.2 t40))) fun a45 => R.bind (R.of (appL s7.1 a45)) fun v_out_41 => (R.bind (R.bind (R.of (atI v_sizes x6)) fun t43 => (R.of (divO s7.2 t43))) fun v_digits_44 => (R.ok (v_out_41, v_digits_44)))) (R.bind (R.bind (R.bind (R.bind (R.bind (R.of (mulO (7919 : Int) x6)) fun t46 => (R.ok (v_first_4 + t46))) fun t47 => (R.ok (t47 + (13 : Int)))) fun t48 => (R.ok t48)) fun t50 => (R.of (modO t50 (2147483647 : Int)))) fun v_mixed_51 => (R.bind (R.bind (R.bind (R.of (mulO v_mixed_51 (v_mixed_51 + (48271 : Int)))) fun t52 => (R.ok t52)) fun t54 => (R.of (modO t54 (2147483629 : Int)))) fun v_mixed_55 => (R.bind (R.bind (R.bind (R.bind (R.of (mulO v_mixed_55 (v_mixed_55 + (69621 : Int)))) fun t56 => R.bind (R.of (mulO (31 : Int) x6)) fun t57 => (R.ok (t56 + t57))) fun t58 => (R.ok t58)) fun t60 => (R.of (modO t60 (2147483647 : Int)))) fun v_mixed_61 => (R.bind (R.bind (R.bind (R.of (divO v_mixed_61 (9 : Int))) fun t62 => (R.ok t62)) fun t65 => R.bind (R.of (atI v_sizes x6)) fun t66 => (R.of (modO t65 t66))) fun a68 => R.bind (R.of (appL s7.1 a68)) fun v_out_67 => (R.ok (v_out_67, s7.2))))))) fun s38 => (R.ok (s38.1, s38.2)))
def m__law_draws (v_cell : Int) (v_sizes : (List Int)) : R (List Int) :=
  (R.lt (if v_cell < 0 then -v_cell else v_cell) fun v_digits_1 => (R.bind (R.bind (R.of (powO (10 : Int) (18 : Int))) fun t2 => (R.ok (decide (t2 ≤ v_digits_1)))) fun v_great_3 => (R.lt v_digits_1 fun v_first_4 => (R.lt ([] : (List Int)) fun v_out_5 => (R.bind (R.of (rngO 0 (v_sizes.length : Int))) fun l69 => R.bind (foldR (m__law_draws_b1 v_sizes v_great_3 v_first_4) l69 (v_out_5, v_digits_1)) fun s7 => (R.ok s7.1))))))
def m__law_hand (v_cell : Int) (v_count : Int) (v_kind : Int) : R (List Int) :=
  (R.ifm (R.ok (decide (v_kind = (0 : Int)))) (R.bind (R.bind (R.bind (R.of (rngO 0 v_count)) fun l2 => R.ok (l2.map fun x1 : Int => (3 : Int))) fun t3 => (m__law_draws v_cell t3)) fun l5 => R.ok (l5.map fun x4 : Int => (x4 - (1 : Int)))) (R.ifm (R.ok (decide (v_kind = (1 : Int)))) (R.bind (R.bind (R.bind (R.of (rngO 0 v_count)) fun l8 => compR (fun x6 : Int => (R.ok true)) (fun x6 : Int => (R.bind (R.of (mulO (2 : Int) v_count)) fun t7 => (R.ok (t7 + (1 : Int))))) l8) fun t9 => (m__law_draws v_cell t9)) fun l11 => R.ok (l11.map fun x10 : Int => (x10 - v_count))) (R.ifm (R.ok (decide (v_kind = (2 : Int)))) (R.bind (R.bind (R.bind (R.of (rngO 0 v_count)) fun l16 => compR (fun x12 : Int => (R.ok true)) (fun x12 : Int => (R.bind (R.bind (R.of (powO (10 : Int) (15 : Int))) fun t14 => (R.of (mulO (2 : Int) t14))) fun t15 => (R.ok (t15 + (1 : Int))))) l16) fun t17 => (m__law_draws v_cell t17)) fun l20 => compR (fun x18 : Int => (R.ok true)) (fun x18 : Int => (R.bind (R.of (powO (10 : Int) (15 : Int))) fun t19 => (R.ok (x18 - t19)))) l20) (R.bind (R.bind (R.bind (R.of (rngO 0 v_count)) fun l22 => R.ok (l22.map fun x21 : Int => (v_count + (2 : Int)))) fun t23 => (m__law_draws v_cell t23)) fun l25 => R.ok (l25.map fun x24 : Int => x24)))))
def m__law_hands (v_script : Scr) (v_at : Int) (v_count : Int) : R (Tp ((List Int) × (List Int) × Unit)) :=
  (R.bind (R.bind (m__law_cell v_script v_at) fun t1 => (m__law_draws t1 ([(6 : Int), (4 : Int), (3 : Int), (40 : Int)] : (List Int)))) fun v_shape_2 => (R.bind (R.bind (m__law_cell v_script (v_at + (1 : Int))) fun t5 => R.bind (R.bind (R.of (atI v_shape_2 (0 : Int))) fun t4 => (R.of (modO t4 (4 : Int)))) fun t6 => (m__law_hand t5 v_count t6)) fun v_mine_7 => (R.bind (R.bind (m__law_cell v_script (v_at + (2 : Int))) fun t10 => R.bind (R.bind (R.of (atI v_shape_2 (0 : Int))) fun t9 => (R.of (modO t9 (4 : Int)))) fun t11 => (m__law_hand t10 v_count t11)) fun v_theirs_12 => (R.bind (R.ifm (R.bind (R.of (atI v_shape_2 (0 : Int))) fun t13 => (R.ok (decide (t13 = (4 : Int))))) (R.lt v_mine_7 fun v_theirs_40 => (R.bind (R.ifm (R.ite (decide ((0 : Int) < v_count)) (R.bind (R.of (atI v_shape_2 (1 : Int))) fun t41 => (R.ok (decide ((0 : Int) < t41)))) (R.ok false)) (R.bind (R.bind (R.bind (R.bind (R.bind (R.of (atI v_shape_2 (3 : Int))) fun t55 => (R.of (modO t55 v_count))) fun t56 => (R.of (atI v_theirs_40 t56))) fun t57 => R.bind (R.of (atI v_shape_2 (1 : Int))) fun t58 => (R.ok (t57 + t58))) fun t59 => (R.ok (t59 - (2 : Int)))) fun a63 => R.bind (R.bind (R.of (atI v_shape_2 (3 : Int))) fun t61 => (R.of (modO t61 v_count))) fun j64 => R.bind (R.of (setL v_theirs_40 j64 a63)) fun v_theirs_62 => (R.ok (v_theirs_62))) (R.ok (v_theirs_40))) fun s53 => (R.ok (s53)))) (R.ok (v_theirs_12))) fun s39 => (R.bind (R.ifm (R.bind (R.bind (R.of (atI v_shape_2 (0 : Int))) fun t65 => (R.ok (decide (t65 = (5 : Int))))) fun t67 => (R.ite t67 (R.bind (R.of (atI v_shape_2 (2 : Int))) fun t66 => (R.ok (decide ((0 : Int) < t66)))) (R.ok false))) (R.bind (R.bind (R.ok v_mine_7) fun l79 => compR (fun x75 : Int => (R.ok true)) (fun x75 : Int => (R.bind (R.bind (R.of (atI v_shape_2 (1 : Int))) fun t77 => (R.of (mulO (2 : Int) t77))) fun t78 => (R.ok ((x75 + (3 : Int)) - t78)))) l79) fun v_theirs_80 => (R.ok (v_theirs_80))) (R.ok (s39))) fun s74 => (R.ok (Tp.mk (v_mine_7, s74, ()) : (Tp ((List Int) × (List Int) × Unit)))))))))
def m_side_order (v_mine : (List Int)) (v_theirs : (List Int)) (v_side : Str) : R (List Int) :=
  (R.bind (m_deck v_mine v_theirs) fun l2 => R.ok ((l2.filter fun x1 : (Tp (Str × Int × Unit)) => (decide (x1.t.1 = v_side))).map fun x1 : (Tp (Str × Int × Unit)) => x1.t.2.1))
def m_side_levels_b1 (v_side : Str) (v_walk_1 : (List Int)) (v_step_2 : Int) (x5 : (Tp (Int × (Tp (Str × Int × Unit)) × Unit))) (s6 : (List Int)) : R ((List Int)) :=
  (R.bind (R.ifm (R.ok (decide (x5.t.2.1.t.1 = v_side))) (R.bind (R.of (atI v_walk_1 (x5.t.1 + v_step_2))) fun a12 => R.bind (R.ok x5.t.2.1.t.2.1) fun j13 => R.bind (R.of (setL s6 j13 a12)) fun v_found_11 => (R.ok (v_found_11))) (R.ok (s6))) fun s10 => (R.ok (s10)))
def m_side_levels (v_mine : (List Int)) (v_theirs : (List Int)) (v_side : Str) : R (List Int) :=
  (R.bind (m_heights v_mine v_theirs) fun v_walk_1 => (R.lt (if (decide (v_side = (PySem.Str.ofString "mine"))) then (1 : Int) else (0 : Int)) fun v_step_2 => (R.bind (R.of (repL ([(0 : Int)] : (List Int)) (v_mine.length : Int))) fun v_found_3 => (R.bind (R.bind ((m_deck v_mine v_theirs)).nox fun t4 => (R.ok (enumF t4))) fun l14 => R.bind (foldR (m_side_levels_b1 v_side v_walk_1 v_step_2) l14 (v_found_3)) fun s6 => (R.ok s6)))))
def m__law_order (v_mine : (List Int)) (v_theirs : (List Int)) : R (List (Tp (Int × Int × Int × Unit))) :=
  (R.bind (R.bind (R.of (rngO 0 (v_theirs.length : Int))) fun l3 => compR (fun x1 : Int => (R.ok true)) (fun x1 : Int => (R.bind (R.of (atI v_theirs x1)) fun t2 => (R.ok (Tp.mk (t2, (0 : Int), x1, ()) : (Tp (Int × Int × Int × Unit)))))) l3) fun v_cards_4 => (R.bind (R.bind (R.bind (R.of (rngO 0 (v_mine.length : Int))) fun l11 => compR (fun x9 : Int => (R.ok true)) (fun x9 : Int => (R.bind (R.of (atI v_mine x9)) fun t10 => (R.ok (Tp.mk (t10, (1 : Int), x9, ()) : (Tp (Int × Int × Int × Unit)))))) l11) fun t12 => (R.of (catL v_cards_4 t12))) fun t13 => (R.ok (sortT t13))))
def m__law_least_b1 (v_mine : (List Int)) (v_theirs : (List Int)) (x2 : Int) (s3 : Int) : R (Int) :=
  (R.lt (if ((((v_theirs.filter fun x4 : Int => (decide (x4 ≤ x2))).map fun x4 : Int => x4).length : Int) - (((v_mine.filter fun x5 : Int => (decide (x5 < x2))).map fun x5 : Int => x5).length : Int)) > s3 then ((((v_theirs.filter fun x4 : Int => (decide (x4 ≤ x2))).map fun x4 : Int => x4).length : Int) - (((v_mine.filter fun x5 : Int => (decide (x5 < x2))).map fun x5 : Int => x5).length : Int)) else s3) fun v_best_6 => (R.ok (v_best_6)))
def m__law_least (v_mine : (List Int)) (v_theirs : (List Int)) : R Int :=
  (R.lt (0 : Int) fun v_best_1 => (R.bind (R.ok v_theirs) fun l7 => R.bind (foldR (m__law_least_b1 v_mine v_theirs) l7 (v_best_1)) fun s3 => (R.ok s3)))
def m__law_most_b1 (v_mine : (List Int)) (v_theirs : (List Int)) (x2 : Int) (s3 : Int) : R (Int) :=
  (R.lt (if ((((v_theirs.filter fun x4 : Int => (decide (x4 ≤ x2))).map fun x4 : Int => x4).length : Int) - (((v_mine.filter fun x5 : Int => (decide (x5 ≤ x2))).map fun x5 : Int => x5).length : Int)) < s3 then ((((v_theirs.filter fun x4 : Int => (decide (x4 ≤ x2))).map fun x4 : Int => x4).length : Int) - (((v_mine.filter fun x5 : Int => (decide (x5 ≤ x2))).map fun x5 : Int => x5).length : Int)) else s3) fun v_worst_6 => (R.ok (v_worst_6)))
def m__law_most (v_mine : (List Int)) (v_theirs : (List Int)) : R Int :=
  (R.lt (0 : Int) fun v_worst_1 => (R.bind (R.ok v_mine) fun l7 => R.bind (foldR (m__law_most_b1 v_mine v_theirs) l7 (v_worst_1)) fun s3 => (R.ok ((v_mine.length : Int) + s3))))
def m__law_game (v_script : Scr) (v_at : Int) (v_count : Int) (v_edge : Int) : R (Tp ((List Int) × (List Int) × Unit)) :=
  (R.bind (m__law_hands v_script v_at v_count) fun v_hands_1 => (R.ifm (R.ok (decide (v_edge = (0 : Int)))) (R.bind (R.bind (R.ok v_hands_1.t.1) fun l3 => compR (fun x2 : Int => (R.ok true)) (fun x2 : Int => (R.of (atI v_hands_1.t.1 (0 : Int)))) l3) fun t6 => R.bind (R.bind (R.ok v_hands_1.t.2.1) fun l5 => compR (fun x4 : Int => (R.ok true)) (fun x4 : Int => (R.of (atI v_hands_1.t.1 (0 : Int)))) l5) fun t7 => (R.ok (Tp.mk (t6, t7, ()) : (Tp ((List Int) × (List Int) × Unit))))) (R.ifm (R.ok (decide (v_edge = (1 : Int)))) (R.bind (R.bind (R.ok v_hands_1.t.1) fun l10 => compR (fun x8 : Int => (R.ok true)) (fun x8 : Int => (R.bind (R.of (modO x8 (7 : Int))) fun t9 => (R.ok (t9 + (6 : Int))))) l10) fun t13 => R.bind (R.bind (R.ok v_hands_1.t.2.1) fun l12 => compR (fun x11 : Int => (R.ok true)) (fun x11 : Int => (R.of (modO x11 (7 : Int)))) l12) fun t14 => (R.ok (Tp.mk (t13, t14, ()) : (Tp ((List Int) × (List Int) × Unit))))) (R.ifm (R.ok (decide (v_edge = (2 : Int)))) (R.bind (R.bind (R.ok v_hands_1.t.1) fun l16 => compR (fun x15 : Int => (R.ok true)) (fun x15 : Int => (R.of (modO x15 (7 : Int)))) l16) fun t20 => R.bind (R.bind (R.ok v_hands_1.t.2.1) fun l19 => compR (fun x17 : Int => (R.ok true)) (fun x17 : Int => (R.bind (R.of (modO x17 (7 : Int))) fun t18 => (R.ok (t18 + (7 : Int))))) l19) fun t21 => (R.ok (Tp.mk (t20, t21, ()) : (Tp ((List Int) × (List Int) × Unit))))) (R.ok v_hands_1)))))
def m__law_pairing_b1 (x8 : Int) (s9 : (List Int) × (List Int)) : R ((List Int) × (List Int)) :=
  (R.bind (R.of (atI s9.2 x8)) fun a12 => R.bind (R.of (appL s9.1 a12)) fun v_out_10 => (R.bind (R.of (catL (cutL s9.2 none (some x8)) (cutL s9.2 (some (x8 + (1 : Int))) none))) fun v_free_11 => (R.ok (v_out_10, v_free_11))))
def m__law_pairing (v_cell : Int) (v_count : Int) : R (List Int) :=
  (R.bind (R.bind (R.of (rngO 0 v_count)) fun l2 => R.ok (l2.map fun x1 : Int => x1)) fun v_free_3 => (R.lt ([] : (List Int)) fun v_out_4 => (R.bind (R.bind (R.bind (R.of (rngO 0 v_count)) fun l6 => R.ok (l6.map fun x5 : Int => (v_count - x5))) fun t7 => (m__law_draws v_cell t7)) fun l13 => R.bind (foldR m__law_pairing_b1 l13 (v_out_4, v_free_3)) fun s9 => (R.ok s9.1))))
theorem cell_ok (x : Scr) (k : Int) (h : 0 ≤ k) : Ok (m__law_cell x k) fun _ => True := by
  unfold m__law_cell
  repeat (with_reducible first | refine Ok.bind ?_ | refine Ok.lt ?_ | refine Ok.ifm ?_ | refine Ok.ok ?_)
  refine Ok.ite (fun e => ?_) fun e => ?_
  · rw [decide_eq_true_iff] at e
    repeat (with_reducible first | refine Ok.bind ?_ | refine Ok.lt ?_ | refine Ok.ifm ?_ | refine Ok.ok ?_)
    refine Ok.at h e fun a _ => ?_
    repeat (with_reducible first | refine Ok.bind ?_ | refine Ok.lt ?_ | refine Ok.ifm ?_ | refine Ok.ok ?_)
    trivial
  · repeat (with_reducible first | refine Ok.bind ?_ | refine Ok.lt ?_ | refine Ok.ifm ?_ | refine Ok.ok ?_)
    refine Ok.ite (fun e => ?_) fun e => ?_
    · rw [decide_eq_true_iff] at e
      repeat (with_reducible first | refine Ok.bind ?_ | refine Ok.lt ?_ | refine Ok.ifm ?_ | refine Ok.ok ?_)
      refine Ok.at (by omega) e fun a _ => ?_
      repeat (with_reducible first | refine Ok.bind ?_ | refine Ok.lt ?_ | refine Ok.ifm ?_ | refine Ok.ok ?_)
      refine Ok.mul (.inl (by decide)) ?_
      repeat (with_reducible first | refine Ok.bind ?_ | refine Ok.lt ?_ | refine Ok.ifm ?_ | refine Ok.ok ?_)
      trivial
    · exact Ok.mul (.inl (by decide)) trivial
theorem draws_ok (c : Int) (sizes : List Int) (hl : sizes.length ≤ 1000) (hz : ∀ z, z ∈ sizes → 0 < z ∧ z < 10000000000000000) : Ok (m__law_draws c sizes) (Drawn sizes) := by
  unfold m__law_draws
  repeat (with_reducible first | refine Ok.bind ?_ | refine Ok.lt ?_ | refine Ok.ifm ?_ | refine Ok.ok ?_)
  refine Ok.opt (by decide) ?_
  repeat (with_reducible first | refine Ok.bind ?_ | refine Ok.lt ?_ | refine Ok.ifm ?_ | refine Ok.ok ?_)
  refine Ok.range (by omega) ?_
  repeat (with_reducible first | refine Ok.bind ?_ | refine Ok.lt ?_ | refine Ok.ifm ?_ | refine Ok.ok ?_)
  refine Ok.foldRng (fun i s => Drawn (sizes.take i) s.1) ⟨rfl, fun i a z h _ => by simp at h⟩ (fun i hi s hs => ?_) fun s hs => Ok.ok (by rw [Int.toNat_natCast, List.take_length] at hs; exact hs)
  have hin : i < sizes.length := by omega
  have hget : sizes[i]? = some sizes[i] := List.getElem?_eq_getElem hin
  have hzi := hz sizes[i] (List.getElem_mem hin)
  have hs1 : s.1.length < LIM := by
    rw [hs.1, List.length_take]
    exact Nat.lt_of_le_of_lt (Nat.min_le_right _ _) (Nat.lt_of_le_of_lt hl (by decide))
  have at_ : ∀ {Q : Int → Prop}, Q sizes[i] → Ok (R.of (atI sizes (i : Int))) Q := fun q => Ok.at (by omega) (by omega) fun a ha => by
    rw [Int.toNat_natCast, hget] at ha
    cases ha
    exact q
  have big : sizes[i] < 2 ^ 4000 := Int.lt_of_lt_of_le hzi.2 (by decide +kernel)
  unfold m__law_draws_b1
  repeat (with_reducible first | refine Ok.bind ?_ | refine Ok.lt ?_ | refine Ok.ifm ?_ | refine Ok.ok ?_)
  refine Ok.ite (fun _ => ?_) fun _ => ?_
  · repeat (with_reducible first | refine Ok.bind ?_ | refine Ok.lt ?_ | refine Ok.ifm ?_ | refine Ok.ok ?_)
    refine at_ (Ok.mod hzi.1 ?_)
    repeat (with_reducible first | refine Ok.bind ?_ | refine Ok.lt ?_ | refine Ok.ifm ?_ | refine Ok.ok ?_)
    refine Ok.app hs1 ?_
    repeat (with_reducible first | refine Ok.bind ?_ | refine Ok.lt ?_ | refine Ok.ifm ?_ | refine Ok.ok ?_)
    refine at_ (Ok.div hzi.1 big ?_)
    repeat (with_reducible first | refine Ok.bind ?_ | refine Ok.lt ?_ | refine Ok.ifm ?_ | refine Ok.ok ?_)
    exact hs.snoc hget (Int.emod_nonneg _ (by omega)) (Int.emod_lt_of_pos _ hzi.1)
  · repeat (with_reducible first | refine Ok.bind ?_ | refine Ok.lt ?_ | refine Ok.ifm ?_ | refine Ok.ok ?_)
    refine Ok.mul (.inl (by decide)) ?_
    repeat (with_reducible first | refine Ok.bind ?_ | refine Ok.lt ?_ | refine Ok.ifm ?_ | refine Ok.ok ?_)
    refine Ok.mod (by decide) ?_
    repeat (with_reducible first | refine Ok.bind ?_ | refine Ok.lt ?_ | refine Ok.ifm ?_ | refine Ok.ok ?_)
    refine Ok.mul (.inl (by omega)) ?_
    repeat (with_reducible first | refine Ok.bind ?_ | refine Ok.lt ?_ | refine Ok.ifm ?_ | refine Ok.ok ?_)
    refine Ok.mod (by decide) ?_
    repeat (with_reducible first | refine Ok.bind ?_ | refine Ok.lt ?_ | refine Ok.ifm ?_ | refine Ok.ok ?_)
    refine Ok.mul (.inl (by omega)) ?_
    repeat (with_reducible first | refine Ok.bind ?_ | refine Ok.lt ?_ | refine Ok.ifm ?_ | refine Ok.ok ?_)
    refine Ok.mul (.inl (by decide)) ?_
    repeat (with_reducible first | refine Ok.bind ?_ | refine Ok.lt ?_ | refine Ok.ifm ?_ | refine Ok.ok ?_)
    refine Ok.mod (by decide) ?_
    repeat (with_reducible first | refine Ok.bind ?_ | refine Ok.lt ?_ | refine Ok.ifm ?_ | refine Ok.ok ?_)
    refine Ok.div (by decide) (by decide +kernel) ?_
    repeat (with_reducible first | refine Ok.bind ?_ | refine Ok.lt ?_ | refine Ok.ifm ?_ | refine Ok.ok ?_)
    refine at_ (Ok.mod hzi.1 ?_)
    repeat (with_reducible first | refine Ok.bind ?_ | refine Ok.lt ?_ | refine Ok.ifm ?_ | refine Ok.ok ?_)
    refine Ok.app hs1 ?_
    repeat (with_reducible first | refine Ok.bind ?_ | refine Ok.lt ?_ | refine Ok.ifm ?_ | refine Ok.ok ?_)
    exact hs.snoc hget (Int.emod_nonneg _ (by omega)) (Int.emod_lt_of_pos _ hzi.1)

/-! ### the order of the cards -/
abbrev Card := Tp (Int × Int × Int × Unit)
def nm (c : Card) : List Int := IntsT.nums c.t
theorem lex_eq : ∀ p q : List Int, HT.lexLt p q = Srt3.lexL p q
  | [], [] => rfl
  | [], _ :: _ => rfl
  | _ :: _, [] => rfl
  | a :: r, b :: q => by
    rw [HT.lexLt_cons, Srt3.lexL, lex_eq r q]
theorem lt_asym (a b : Card) (h : ltT a b = true) : ltT b a = false := by
  unfold ltT at *
  rw [lex_eq] at *
  exact Srt3.lexL_asym _ _ h
theorem lt_irr (a : Card) : ltT a a = false := by
  cases e : ltT a a with
  | false => rfl
  | true => have := lt_asym a a e; rw [e] at this; cases this
theorem lt_of_le {a b : Card} (h : leT a b = true) (hne : a ≠ b) : ltT a b = true := by
  unfold leT at h
  rw [Bool.not_eq_true'] at h
  cases e : ltT a b with
  | true => rfl
  | false =>
    unfold ltT at e
    rw [lex_eq] at e
    obtain ⟨u⟩ := a
    obtain ⟨v⟩ := b
    exact absurd (congrArg Tp.mk (IntsT.inj _ _ (Srt3.lexL_tot _ _ e h))) hne
theorem below_take {S : List Card} (h : S.Pairwise fun a b => ltT a b = true) {p : Nat} {c : Card} (hp : S[p]? = some c) : S.filter (fun x => ltT x c) = S.take p := by
  have hlt := (List.getElem?_eq_some_iff.mp hp).1
  have hc : S[p] = c := (List.getElem?_eq_some_iff.mp hp).2
  have e : S = S.take p ++ c :: S.drop (p + 1) := by
    rw [← hc, List.getElem_cons_drop, List.take_append_drop]
  have h2 := h
  rw [e, List.pairwise_append, List.pairwise_cons] at h2
  obtain ⟨_, ⟨h3, _⟩, h4⟩ := h2
  have a1 : (S.take p).filter (fun x => ltT x c) = S.take p := List.filter_eq_self.mpr fun x hx => h4 x hx c (List.mem_cons_self ..)
  have a2 : (c :: S.drop (p + 1)).filter (fun x => ltT x c) = [] := by
    refine List.filter_eq_nil_iff.mpr fun x hx => ?_
    rcases List.mem_cons.mp hx with rfl | hx
    · rw [lt_irr]; decide
    · rw [lt_asym _ _ (h3 x hx)]; decide
  conv => lhs; rw [e]
  rw [List.filter_append, a1, a2, List.append_nil]
/-! ### the heights -/
def st (c : Card) : Int := if c.t.2.1 = 1 then -1 else 1
def hs (L : List Card) : Int := (L.map st).sum
def walk (S : List Card) : List Int := (List.range (S.length + 1)).map fun j => hs (S.take j)
theorem hs_app (a b : List Card) : hs (a ++ b) = hs a + hs b := by
  unfold hs
  rw [List.map_append, List.sum_append]
theorem hs_snoc {S : List Card} {i : Nat} (h : i < S.length) : hs (S.take (i + 1)) = hs (S.take i) + st S[i] := by
  rw [List.take_add_one, hs_app, List.getElem?_eq_getElem h]
  congr 1
  show (st S[i] + 0 : Int) = _
  omega
theorem sum_perm {a b : List Int} (h : a.Perm b) : a.sum = b.sum := by
  induction h with
  | nil => rfl
  | cons x _ ih => rw [List.sum_cons, List.sum_cons, ih]
  | swap x y l => rw [List.sum_cons, List.sum_cons, List.sum_cons, List.sum_cons]; omega
  | trans _ _ h1 h2 => exact h1.trans h2
theorem hs_perm {a b : List Card} (h : a.Perm b) : hs a = hs b := by
  unfold hs
  exact sum_perm (h.map st)
theorem hs_count (L : List Card) : hs L = (L.length : Int) - 2 * ((L.filter fun c => decide (c.t.2.1 = (1 : Int))).length : Int) := by
  induction L with
  | nil => rfl
  | cons c L ih =>
    have e : hs (c :: L) = st c + hs L := by
      unfold hs
      rw [List.map_cons, List.sum_cons]
    rw [e, ih, List.filter_cons, List.length_cons]
    unfold st
    by_cases h : c.t.2.1 = 1
    · rw [if_pos h, if_pos (decide_eq_true h), List.length_cons]; omega
    · rw [if_neg h, if_neg (by rw [decide_eq_false h]; decide)]; omega
theorem walk_len (S : List Card) : (walk S).length = S.length + 1 := by
  unfold walk
  rw [List.length_map, List.length_range]
theorem walk_get {S : List Card} {j : Nat} (h : j ≤ S.length) : (walk S)[j]? = some (hs (S.take j)) := by
  unfold walk
  rw [List.getElem?_map, List.getElem?_range (by omega)]
  rfl
def side (c : Card) : Tp (Str × Int × Unit) := Tp.mk ((if (decide (c.t.2.1 = (1 : Int))) then (PySem.Str.ofString "mine") else (PySem.Str.ofString "theirs")), c.t.2.2.1, ())
theorem mt_ne2 : (PySem.Str.ofString "mine" = PySem.Str.ofString "theirs") = False := mt_ne.2
theorem heights_fold (S : List Card) (hS : S.length ≤ 1000) : foldR m_heights_b1 (S.map side) [0] = .ok (walk S) := by
  refine Ok.get ?_
  refine Ok.fold (fun i s => s = (List.range (i + 1)).map fun j => hs (S.take j)) rfl (fun i hi s hs0 => ?_) fun s h => ?_
  · rw [List.length_map] at hi
    subst hs0
    rw [List.getElem_map]
    unfold m_heights_b1
    have hl : ((List.range (i + 1)).map fun j => hs (S.take j)).length = i + 1 := by rw [List.length_map, List.length_range]
    have e1 : atI ((List.range (i + 1)).map fun j => hs (S.take j)) (-(1 : Int)) = some (hs (S.take i)) := by
      rw [Pv.atI_last, List.getLast?_eq_getElem?, hl, List.getElem?_map, List.getElem?_range (by omega)]
      rfl
    have e2 : (if (decide ((side S[i]).t.1 = (PySem.Str.ofString "theirs"))) then (1 : Int) else (-(1 : Int))) = st S[i] := by
      unfold side st
      by_cases h : S[i].t.2.1 = 1
      · rw [if_pos h]
        show (if decide ((if decide (S[i].t.2.1 = 1) then PySem.Str.ofString "mine" else PySem.Str.ofString "theirs") = PySem.Str.ofString "theirs") then (1 : Int) else -1) = -1
        rw [decide_eq_true h, if_pos rfl, decide_eq_false (by rw [mt_ne2]; exact id)]
        rfl
      · rw [if_neg h]
        show (if decide ((if decide (S[i].t.2.1 = 1) then PySem.Str.ofString "mine" else PySem.Str.ofString "theirs") = PySem.Str.ofString "theirs") then (1 : Int) else -1) = 1
        rw [decide_eq_false h]
        rfl
    refine Ok.bind (Ok.bind (Ok.of e1 ?_))
    rw [e2]
    repeat (with_reducible first | refine Ok.bind ?_ | refine Ok.lt ?_ | refine Ok.ifm ?_ | refine Ok.ok ?_)
    refine Ok.app (by have : (LIM : Nat) = 1000000 := rfl; omega) ?_
    repeat (with_reducible first | refine Ok.bind ?_ | refine Ok.lt ?_ | refine Ok.ifm ?_ | refine Ok.ok ?_)
    rw [List.range_succ (n := i + 1), List.map_append]
    congr 1
    show [hs (S.take i) + st S[i]] = [hs (S.take (i + 1))]
    rw [hs_snoc hi]
  · rw [h, List.length_map]
    rfl
/-! ### the cards -/
def cards (mine theirs : List Int) : List Card := ((enumF theirs).map fun x1 : (Tp (Int × Int × Unit)) => (Tp.mk (x1.t.2.1, (0 : Int), x1.t.1, ()) : Card)) ++ ((enumF mine).map fun x4 : (Tp (Int × Int × Unit)) => (Tp.mk (x4.t.2.1, (1 : Int), x4.t.1, ()) : Card))
theorem enum_is (xs : List Int) : enumF xs = (List.range xs.length).map fun i : Nat => (Tp.mk ((i : Int), xs.getD i 0, ()) : Tp (Int × Int × Unit)) := by
  unfold enumF
  refine List.ext_getElem? fun i => ?_
  rw [List.getElem?_mapIdx, List.getElem?_map]
  by_cases h : i < xs.length
  · rw [List.getElem?_eq_getElem h, List.getElem?_range h]
    show some _ = some _
    congr 3
    rw [List.getD_eq_getElem?_getD, List.getElem?_eq_getElem h]
    rfl
  · rw [List.getElem?_eq_none (by omega), List.getElem?_eq_none (by rw [List.length_range]; omega)]
    rfl
theorem cards_is (mine theirs : List Int) : cards mine theirs = ((List.range theirs.length).map fun i : Nat => (Tp.mk (theirs.getD i 0, (0 : Int), (i : Int), ()) : Card)) ++ ((List.range mine.length).map fun i : Nat => (Tp.mk (mine.getD i 0, (1 : Int), (i : Int), ()) : Card)) := by
  unfold cards
  rw [enum_is, enum_is, List.map_map, List.map_map]
  rfl
theorem cards_len (mine theirs : List Int) : (cards mine theirs).length = theirs.length + mine.length := by
  rw [cards_is, List.length_append, List.length_map, List.length_map, List.length_range, List.length_range]
theorem cards_nodup (mine theirs : List Int) : (cards mine theirs).Nodup := by
  rw [cards_is]
  have key : ∀ (xs : List Int) (m : Int), ((List.range xs.length).map fun i : Nat => (Tp.mk (xs.getD i 0, m, (i : Int), ()) : Card)).Nodup := fun xs m => by
    refine List.pairwise_map.mpr ?_
    refine (List.pairwise_lt_range (n := xs.length)).imp fun {a b} h e => ?_
    have e := congrArg (fun c : Card => c.t.2.2.1) e
    have e : (a : Int) = (b : Int) := e
    omega
  refine List.nodup_append.mpr ⟨key _ _, key _ _, fun a ha b hb e => ?_⟩
  obtain ⟨i, _, rfl⟩ := List.mem_map.mp ha
  obtain ⟨j, _, rfl⟩ := List.mem_map.mp hb
  have e := congrArg (fun c : Card => c.t.2.1) e
  have e : (0 : Int) = 1 := e
  omega
theorem cards_hs {mine theirs : List Int} (h : mine.length = theirs.length) : hs (cards mine theirs) = 0 := by
  rw [cards_is, hs_app]
  have key : ∀ (xs : List Int) (m v : Int), (∀ a : Int × Int × Unit, st ⟨(a.1, m, a.2.1, ())⟩ = v) → hs ((List.range xs.length).map fun i : Nat => (Tp.mk (xs.getD i 0, m, (i : Int), ()) : Card)) = v * xs.length := fun xs m v hv => by
    unfold hs
    rw [List.map_map]
    have : (st ∘ fun i : Nat => (Tp.mk (xs.getD i 0, m, (i : Int), ()) : Card)) = fun _ => v := funext fun i => hv (xs.getD i 0, (i : Int), ())
    rw [this, List.map_const', List.length_range, List.sum_replicate_int]
    rw [Int.mul_comm]
  rw [key theirs 0 1 (fun a => rfl), key mine 1 (-1) (fun a => rfl), h]
  omega
def srt (mine theirs : List Int) : List Card := sortT (cards mine theirs)
theorem srt_perm (mine theirs : List Int) : (srt mine theirs).Perm (cards mine theirs) := sortT_perm _
theorem srt_lt (mine theirs : List Int) : (srt mine theirs).Pairwise fun a b => ltT a b = true := by
  have h1 := sortT_le (cards mine theirs)
  have h2 : (srt mine theirs).Nodup := (srt_perm mine theirs).nodup_iff.mpr (cards_nodup mine theirs)
  exact (h1.and h2).imp fun {a b} h => lt_of_le h.1 h.2
theorem srt_len (mine theirs : List Int) : (srt mine theirs).length = theirs.length + mine.length := by
  rw [(srt_perm mine theirs).length_eq, cards_len]
def hw (mine theirs : List Int) : List Int := walk (srt mine theirs)
theorem hw_len (mine theirs : List Int) : (hw mine theirs).length = theirs.length + mine.length + 1 := by
  unfold hw
  rw [walk_len, srt_len]
theorem heights_is {mine theirs : List Int} (h : mine.length = theirs.length) (hl : mine.length ≤ 100) : m_heights mine theirs = .ok (hw mine theirs) := by
  unfold m_heights m_check_hands m_deck
  rw [decide_eq_true (show (mine.length : Int) = (theirs.length : Int) by omega)]
  have hc : catL ((enumF theirs).map fun x1 : (Tp (Int × Int × Unit)) => (Tp.mk (x1.t.2.1, (0 : Int), x1.t.1, ()) : Card)) ((enumF mine).map fun x4 : (Tp (Int × Int × Unit)) => (Tp.mk (x4.t.2.1, (1 : Int), x4.t.1, ()) : Card)) = some (cards mine theirs) := by
    have h5 : (LIM : Nat) = 1000000 := rfl
    refine if_pos ?_
    have := cards_len mine theirs
    unfold cards at this
    rw [List.length_append] at this
    omega
  show (R.bind ((R.bind (R.of (catL _ _)) fun v_keys_5 => (R.ok ((sortT v_keys_5).map side))).nox) fun l7 => R.bind (foldR m_heights_b1 l7 [0]) fun s3 => (R.ok s3)) = _
  rw [hc]
  show (R.bind (foldR m_heights_b1 ((srt mine theirs).map side) [0]) fun s3 => (R.ok s3)) = _
  rw [heights_fold _ (by rw [srt_len]; omega)]
  rfl
theorem law_cards {mine theirs : List Int} (h1 : mine.length ≤ 100) (h2 : theirs.length ≤ 100) : (R.bind (R.bind (R.of (rngO 0 (theirs.length : Int))) fun l3 => compR (fun x1 : Int => (R.ok true)) (fun x1 : Int => (R.bind (R.of (atI theirs x1)) fun t2 => (R.ok (Tp.mk (t2, (0 : Int), x1, ()) : Card)))) l3) fun t7 => R.bind (R.bind (R.of (rngO 0 (mine.length : Int))) fun l6 => compR (fun x4 : Int => (R.ok true)) (fun x4 : Int => (R.bind (R.of (atI mine x4)) fun t5 => (R.ok (Tp.mk (t5, (1 : Int), x4, ()) : Card)))) l6) fun t8 => (R.of (catL t7 t8))) = .ok (cards mine theirs) := by
  have key : ∀ (xs : List Int) (m : Int), xs.length ≤ 100 → (R.bind (R.of (rngO 0 (xs.length : Int))) fun l3 => compR (fun x1 : Int => (R.ok true)) (fun x1 : Int => (R.bind (R.of (atI xs x1)) fun t2 => (R.ok (Tp.mk (t2, m, x1, ()) : Card)))) l3) = .ok ((List.range xs.length).map fun i : Nat => (Tp.mk (xs.getD i 0, m, (i : Int), ()) : Card)) := fun xs m hx => by
    rw [show rngO 0 (xs.length : Int) = some (rng 0 (xs.length : Int)) from if_pos (by omega)]
    refine (compR_ok (p := fun _ => true) (g := fun x => (Tp.mk (xs.getD x.toNat 0, m, x, ()) : Card)) (fun _ _ => rfl) fun x hx => ?_).trans ?_
    · rw [rng_nat] at hx
      obtain ⟨i, hi, rfl⟩ := List.mem_map.mp hx
      have hi : i < xs.length := List.mem_range.mp hi
      rw [atI_nat (List.getElem?_eq_getElem hi), Int.toNat_natCast, List.getD_eq_getElem?_getD, List.getElem?_eq_getElem hi]
      rfl
    · rw [filter_yes, rng_nat, List.map_map]
      rfl
  rw [key theirs 0 h2, key mine 1 h1, cards_is]
  show R.of (catL _ _) = _
  rw [show catL ((List.range theirs.length).map fun i : Nat => (Tp.mk (theirs.getD i 0, (0 : Int), (i : Int), ()) : Card)) ((List.range mine.length).map fun i : Nat => (Tp.mk (mine.getD i 0, (1 : Int), (i : Int), ()) : Card)) = some _ from if_pos (by
    have h5 : (LIM : Nat) = 1000000 := rfl
    rw [List.length_map, List.length_map, List.length_range, List.length_range]
    omega)]
  rfl
theorem mul2 (x : Int) : mulO (2 : Int) x = some (2 * x) := by
  unfold mulO
  exact optIf_pos (.inl ⟨by decide, by decide⟩)
theorem log_ok {i : Int} (h : -(2 ^ 60) < i ∧ i < 2 ^ 60) : decide (i.natAbs.log2 < 1920) = true := by
  rw [decide_eq_true_iff]
  by_cases z : i.natAbs = 0
  · rw [z]; decide
  · rw [Nat.log2_lt z]
    exact Nat.lt_of_lt_of_le (show i.natAbs < 2 ^ 60 by omega) (by decide +kernel)
theorem raise_two {α : Type} {c : Nat} {i j : Int} (h : -(2 ^ 60) < i ∧ i < 2 ^ 60) (h2 : -(2 ^ 60) < j ∧ j < 2 ^ 60) : (R.raise c [enc i, enc j] : R α) = .ex ⟨c, [enc j, enc i]⟩ := by
  unfold R.raise
  rw [if_pos]
  · rfl
  · show (decide (i.natAbs.log2 < 1920) && (decide (j.natAbs.log2 < 1920) && true)) = true
    rw [log_ok h, log_ok h2]
    rfl
theorem heights_ex {a b : List Int} (h : a.length ≠ b.length) (ha : a.length ≤ 100) (hb : b.length ≤ 100) : m_heights a b = .ex ⟨1, [enc (b.length : Int), enc (a.length : Int)]⟩ := by
  unfold m_heights m_check_hands
  rw [decide_eq_false (show ¬ (a.length : Int) = (b.length : Int) by omega)]
  show (R.bind (R.raise 1 [enc (a.length : Int), enc (b.length : Int)] : R Unit) _) = _
  rw [raise_two ⟨by omega, by omega⟩ ⟨by omega, by omega⟩]
  rfl
theorem hand_ok (c n k : Int) (hn : 0 ≤ n ∧ n ≤ 50) : Ok (m__law_hand c n k) fun h => (h.length : Int) = n := by
  unfold m__law_hand
  have rl : ∀ z : Int, (((Pv.rng 0 n).map fun _ : Int => z).length : Int) = n := fun z => by
    rw [List.length_map, rng_len]
    omega
  have sz : ∀ z : Int, 0 < z ∧ z < 10000000000000000 → Ok (m__law_draws c ((Pv.rng 0 n).map fun _ : Int => z)) fun o => (o.length : Int) = n := fun z hz => by
    have := rl z
    exact (draws_ok c _ (by omega) (fun y hy => by
      obtain ⟨_, _, e⟩ := List.mem_map.mp hy
      omega)).imp fun o ho => by
        rw [ho.1]
        exact rl z
  repeat (with_reducible first | refine Ok.bind ?_ | refine Ok.lt ?_ | refine Ok.ifm ?_ | refine Ok.ok ?_)
  refine Ok.ite (fun _ => ?_) fun _ => ?_
  · repeat (with_reducible first | refine Ok.bind ?_ | refine Ok.lt ?_ | refine Ok.ifm ?_ | refine Ok.ok ?_)
    refine Ok.range (by omega) ?_
    repeat (with_reducible first | refine Ok.bind ?_ | refine Ok.lt ?_ | refine Ok.ifm ?_ | refine Ok.ok ?_)
    refine (sz 3 (by decide)).imp fun o ho => ?_
    repeat (with_reducible first | refine Ok.bind ?_ | refine Ok.lt ?_ | refine Ok.ifm ?_ | refine Ok.ok ?_)
    rw [List.length_map]
    exact ho
  · repeat (with_reducible first | refine Ok.bind ?_ | refine Ok.lt ?_ | refine Ok.ifm ?_ | refine Ok.ok ?_)
    refine Ok.ite (fun _ => ?_) fun _ => ?_
    · repeat (with_reducible first | refine Ok.bind ?_ | refine Ok.lt ?_ | refine Ok.ifm ?_ | refine Ok.ok ?_)
      refine Ok.range (by omega) ?_
      refine Ok.comp (fun _ => true) (fun _ => 2 * n + 1) (fun _ _ => rfl) (fun x _ => by rw [mul2]; rfl) ?_
      rw [filter_yes]
      refine (sz (2 * n + 1) (by omega)).imp fun o ho => ?_
      repeat (with_reducible first | refine Ok.bind ?_ | refine Ok.lt ?_ | refine Ok.ifm ?_ | refine Ok.ok ?_)
      rw [List.length_map]
      exact ho
    · repeat (with_reducible first | refine Ok.bind ?_ | refine Ok.lt ?_ | refine Ok.ifm ?_ | refine Ok.ok ?_)
      have p15 : powO (10 : Int) (15 : Int) = some 1000000000000000 := by
        unfold powO
        exact (optIf_pos (by decide)).trans (congrArg some (by decide +kernel))
      refine Ok.ite (fun _ => ?_) fun _ => ?_
      · repeat (with_reducible first | refine Ok.bind ?_ | refine Ok.lt ?_ | refine Ok.ifm ?_ | refine Ok.ok ?_)
        refine Ok.range (by omega) ?_
        refine Ok.comp (fun _ => true) (fun _ => 2 * 1000000000000000 + 1) (fun _ _ => rfl) (fun x _ => by rw [p15]; show (R.bind (R.bind (R.ok (1000000000000000 : Int)) fun t14 => (R.of (mulO (2 : Int) t14))) fun t15 => (R.ok (t15 + (1 : Int)))) = _; rw [R.bind_ok, mul2]; rfl) ?_
        rw [filter_yes]
        refine (sz (2 * 1000000000000000 + 1) (by decide)).imp fun o ho => ?_
        refine Ok.comp (fun _ => true) (fun x => x - 1000000000000000) (fun _ _ => rfl) (fun x _ => by rw [p15]; rfl) ?_
        rw [filter_yes, List.length_map]
        exact ho
      · repeat (with_reducible first | refine Ok.bind ?_ | refine Ok.lt ?_ | refine Ok.ifm ?_ | refine Ok.ok ?_)
        refine Ok.range (by omega) ?_
        repeat (with_reducible first | refine Ok.bind ?_ | refine Ok.lt ?_ | refine Ok.ifm ?_ | refine Ok.ok ?_)
        refine (sz (n + 2) (by omega)).imp fun o ho => ?_
        repeat (with_reducible first | refine Ok.bind ?_ | refine Ok.lt ?_ | refine Ok.ifm ?_ | refine Ok.ok ?_)
        rw [List.length_map]
        exact ho
theorem _root_.Pv.Ok.via {α β : Type} {m : R α} {k : α → R β} {Q : β → Prop} (P : α → Prop) (h : Pv.Ok m P) (h2 : ∀ a, P a → Pv.Ok (k a) Q) : Pv.Ok (m.bind k) Q := Pv.Ok.bind (h.imp h2)
theorem hands_ok (x : Scr) (p n : Int) (hp : 0 ≤ p) (hn : 0 ≤ n ∧ n ≤ 50) : Ok (m__law_hands x p n) fun t => (t.t.1.length : Int) = n ∧ (t.t.2.1.length : Int) = n := by
  unfold m__law_hands
  refine Ok.via (fun sh => Drawn [6, 4, 3, 40] sh) (Ok.bind ((cell_ok x p hp).imp fun c1 _ => draws_ok c1 _ (by show (4 : Nat) ≤ 1000; decide) (by decide))) fun sh hsh => ?_
  obtain ⟨s0, e0, _, _⟩ := drawn_get hsh 0 6 rfl
  obtain ⟨s1, e1, _, _⟩ := drawn_get hsh 1 4 rfl
  obtain ⟨s2, e2, _, _⟩ := drawn_get hsh 2 3 rfl
  obtain ⟨s3, e3, _, _⟩ := drawn_get hsh 3 40 rfl
  have e0 : atI sh (0 : Int) = some s0 := e0
  have e1 : atI sh (1 : Int) = some s1 := e1
  have e2 : atI sh (2 : Int) = some s2 := e2
  have e3 : atI sh (3 : Int) = some s3 := e3
  refine Ok.via (fun m => (m.length : Int) = n) (Ok.bind ((cell_ok x (p + 1) (by omega)).imp fun c2 _ => Ok.bind (Ok.bind (Ok.of e0 (Ok.mod (by decide) (hand_ok c2 n _ hn)))))) fun m hm => ?_
  refine Ok.via (fun m => (m.length : Int) = n) (Ok.bind ((cell_ok x (p + 2) (by omega)).imp fun c2 _ => Ok.bind (Ok.bind (Ok.of e0 (Ok.mod (by decide) (hand_ok c2 n _ hn)))))) fun t ht => ?_
  refine Ok.via (fun m => (m.length : Int) = n) (Ok.ifm (Ok.bind (Ok.of e0 (Ok.ok (Ok.ite (fun _ => ?_) fun _ => Ok.ok ht))))) fun t' ht' => ?_
  · refine Ok.lt (Ok.via (fun m => (m.length : Int) = n) (Ok.ifm (Ok.ite (fun c => Ok.bind (Ok.of e1 (Ok.ok (Ok.ite (fun _ => ?_) fun _ => Ok.ok hm)))) fun _ => Ok.ok (Ok.ok hm))) fun u hu => Ok.ok hu)
    rw [decide_eq_true_iff] at c
    have b1 := Int.emod_nonneg s3 (show n ≠ 0 by omega)
    have b2 := Int.emod_lt_of_pos s3 c
    repeat (with_reducible first | refine Ok.bind ?_ | refine Ok.lt ?_ | refine Ok.ifm ?_ | refine Ok.ok ?_)
    refine Ok.of e3 (Ok.mod c ?_)
    refine Ok.at (xs := m) b1 (by omega) fun v _ => ?_
    repeat (with_reducible first | refine Ok.bind ?_ | refine Ok.lt ?_ | refine Ok.ifm ?_ | refine Ok.ok ?_)
    refine Ok.of e1 ?_
    repeat (with_reducible first | refine Ok.bind ?_ | refine Ok.lt ?_ | refine Ok.ifm ?_ | refine Ok.ok ?_)
    refine Ok.of e3 (Ok.mod c ?_)
    repeat (with_reducible first | refine Ok.bind ?_ | refine Ok.lt ?_ | refine Ok.ifm ?_ | refine Ok.ok ?_)
    refine Ok.set (xs := m) b1 (by omega) ?_
    repeat (with_reducible first | refine Ok.bind ?_ | refine Ok.lt ?_ | refine Ok.ifm ?_ | refine Ok.ok ?_)
    rw [List.length_set]
    exact hm
  · refine Ok.via (fun m => (m.length : Int) = n) (Ok.ifm (Ok.bind (Ok.bind (Ok.of e0 (Ok.ok (Ok.ite (fun _ => Ok.bind (Ok.of e2 (Ok.ok ?_))) fun _ => Ok.ok (Ok.ok ht'))))))) fun u hu => Ok.ok ⟨hm, hu⟩
    refine Ok.ite (fun _ => ?_) fun _ => Ok.ok ht'
    refine Ok.bind (Ok.bind (Ok.ok (Ok.comp (fun _ => true) (fun x => (x + 3) - 2 * s1) (fun _ _ => rfl) (fun x _ => by rw [e1]; show (R.bind (R.bind (R.ok s1) fun t77 => (R.of (mulO (2 : Int) t77))) fun t78 => (R.ok ((x + (3 : Int)) - t78))) = _; rw [R.bind_ok, mul2]; rfl) (Ok.ok ?_))))
    rw [filter_yes, List.length_map]
    exact hm

end Cm

set_option Elab.async false
set_option linter.all false
set_option maxRecDepth 100000
set_option maxHeartbeats 4000000
/-! ### the deck by counts -/
namespace Cm
open PySem PySem.Spec L2 Pv Rot
open Enc (enc)
open Encs (encs)
def isM (c : Card) : Bool := decide (c.t.2.1 = (1 : Int))
def num (c : Card) : Int := c.t.1
def isT (c : Card) : Bool := !isM c
theorem ltT_card (a b : Card) : ltT a b = if a.t.1 = b.t.1 then (if a.t.2.1 = b.t.2.1 then decide (a.t.2.2.1 < b.t.2.2.1) else decide (a.t.2.1 < b.t.2.1)) else decide (a.t.1 < b.t.1) := by
  unfold ltT
  rw [lex_eq]
  show Srt3.lexL [a.t.1, a.t.2.1, a.t.2.2.1] [b.t.1, b.t.2.1, b.t.2.2.1] = _
  simp only [Srt3.lexL]
  split
  · split
    · split
      · rename_i h
        rw [decide_eq_false (by omega)]
      · rfl
    · rfl
  · rfl
theorem mark_of {mine theirs : List Int} {c : Card} (h : c ∈ cards mine theirs) : c.t.2.1 = 0 ∨ c.t.2.1 = 1 := by
  rw [cards_is] at h
  rcases List.mem_append.mp h with h | h
  · obtain ⟨i, _, rfl⟩ := List.mem_map.mp h
    exact .inl rfl
  · obtain ⟨i, _, rfl⟩ := List.mem_map.mp h
    exact .inr rfl
theorem num_le {a b : Card} (h : ltT a b = true) : num a ≤ num b := by
  rw [ltT_card] at h
  unfold num
  split at h
  · omega
  · rw [decide_eq_true_iff] at h
    omega
theorem T_lt {x c : Card} (hx : x.t.2.1 = 0) (hc : c.t.2.1 = 1) : ltT x c = decide (num x ≤ num c) := by
  rw [ltT_card, hx, hc]
  unfold num
  split
  · rw [if_neg (by decide)]
    rw [decide_eq_true (show (0 : Int) < 1 by decide), decide_eq_true (by omega)]
  · by_cases z : x.t.1 < c.t.1
    · rw [decide_eq_true z, decide_eq_true (by omega)]
    · rw [decide_eq_false z, decide_eq_false (by omega)]
theorem M_lt {x c : Card} (hx : x.t.2.1 = 1) (hc : c.t.2.1 = 0) : ltT x c = decide (num x < num c) := by
  rw [ltT_card, hx, hc]
  unfold num
  split
  · rw [if_neg (by decide)]
    rw [decide_eq_false (show ¬ (1 : Int) < 0 by decide), decide_eq_false (by omega)]
  · rfl
theorem enum_num {xs : List Int} {m : Int} : (((List.range xs.length).map fun i : Nat => (Tp.mk (xs.getD i 0, m, (i : Int), ()) : Card))).map num = xs := by
  rw [List.map_map]
  refine List.ext_getElem? fun i => ?_
  rw [List.getElem?_map]
  by_cases h : i < xs.length
  · rw [List.getElem?_range h, List.getElem?_eq_getElem h]
    show some (xs.getD i 0) = _
    rw [List.getD_eq_getElem?_getD, List.getElem?_eq_getElem h]
    rfl
  · rw [List.getElem?_eq_none (by rw [List.length_range]; omega), List.getElem?_eq_none (by omega)]
    rfl
theorem enum_all {xs : List Int} {m : Int} {p : Card → Bool} (h : ∀ a i : Int, p (Tp.mk (a, m, i, ())) = true) : (((List.range xs.length).map fun i : Nat => (Tp.mk (xs.getD i 0, m, (i : Int), ()) : Card))).filter p = ((List.range xs.length).map fun i : Nat => (Tp.mk (xs.getD i 0, m, (i : Int), ()) : Card)) :=
  List.filter_eq_self.mpr fun c hc => by
    obtain ⟨i, _, rfl⟩ := List.mem_map.mp hc
    exact h _ _
theorem enum_none {xs : List Int} {m : Int} {p : Card → Bool} (h : ∀ a i : Int, p (Tp.mk (a, m, i, ())) = false) : (((List.range xs.length).map fun i : Nat => (Tp.mk (xs.getD i 0, m, (i : Int), ()) : Card))).filter p = [] :=
  List.filter_eq_nil_iff.mpr fun c hc => by
    obtain ⟨i, _, rfl⟩ := List.mem_map.mp hc
    rw [h]
    decide
theorem cards_fM (mine theirs : List Int) : (cards mine theirs).filter isM = (List.range mine.length).map fun i : Nat => (Tp.mk (mine.getD i 0, (1 : Int), (i : Int), ()) : Card) := by
  rw [cards_is, List.filter_append, enum_none (fun _ _ => rfl), enum_all (fun _ _ => rfl), List.nil_append]
theorem cards_fT (mine theirs : List Int) : (cards mine theirs).filter isT = (List.range theirs.length).map fun i : Nat => (Tp.mk (theirs.getD i 0, (0 : Int), (i : Int), ()) : Card) := by
  rw [cards_is, List.filter_append, enum_all (fun _ _ => rfl), enum_none (fun _ _ => rfl), List.append_nil]
section
variable (mine theirs : List Int)
def Ms : List Card := (srt mine theirs).filter isM
def Ts : List Card := (srt mine theirs).filter isT
def mv : List Int := (Ms mine theirs).map num
def tv : List Int := (Ts mine theirs).map num
end
section
variable {mine theirs : List Int}
theorem mv_perm : (mv mine theirs).Perm mine := by
  have h := ((srt_perm mine theirs).filter isM).map num
  rw [cards_fM, enum_num] at h
  exact h
theorem tv_perm : (tv mine theirs).Perm theirs := by
  have h := ((srt_perm mine theirs).filter isT).map num
  rw [cards_fT, enum_num] at h
  exact h
theorem mv_len : (mv mine theirs).length = mine.length := mv_perm.length_eq
theorem tv_len : (tv mine theirs).length = theirs.length := tv_perm.length_eq
theorem Ms_len : (Ms mine theirs).length = mine.length := by rw [← mv_len (mine := mine) (theirs := theirs)]; exact (List.length_map ..).symm
theorem Ts_len : (Ts mine theirs).length = theirs.length := by rw [← tv_len (mine := mine) (theirs := theirs)]; exact (List.length_map ..).symm
theorem up_of {L : List Card} (h : L.Pairwise fun a b => ltT a b = true) : Up (L.map num) := List.pairwise_map.mpr (h.imp num_le)
theorem mv_up : Up (mv mine theirs) := up_of ((srt_lt mine theirs).filter _)
theorem tv_up : Up (tv mine theirs) := up_of ((srt_lt mine theirs).filter _)
theorem part_len {p : Card → Bool} : ∀ L : List Card, (L.filter p).length + (L.filter fun c => !p c).length = L.length
  | [] => rfl
  | c :: L => by
    have := part_len (p := p) L
    rw [List.filter_cons, List.filter_cons]
    cases p c <;> simp <;> omega
theorem hs_TM (L : List Card) : hs L = ((L.filter isT).length : Int) - ((L.filter isM).length : Int) := by
  have h := hs_count L
  have h2 := part_len (p := isM) L
  have h3 : (L.filter fun c => decide (c.t.2.1 = (1 : Int))) = L.filter isM := rfl
  rw [h3] at h
  unfold isT
  omega
theorem cnt_map {p : Int → Bool} (L : List Card) : cnt p (L.map num) = (L.filter fun c => p (num c)).length := by
  unfold cnt
  rw [List.filter_map, List.length_map]
  rfl
theorem filter_at {α : Type} {q : α → Bool} : ∀ {S : List α} {p : Nat} {c : α}, S[p]? = some c → q c = true → (S.filter q)[((S.take p).filter q).length]? = some c
  | [], p, c, h, _ => by simp at h
  | s :: S, 0, c, h, hq => by
    have e : s = c := Option.some.inj h
    subst e
    rw [List.filter_cons_of_pos hq]
    rfl
  | s :: S, p + 1, c, h, hq => by
    have h : S[p]? = some c := h
    have ih := filter_at h hq
    rw [List.take_succ_cons, List.filter_cons, List.filter_cons]
    cases q s with
    | true => simpa using ih
    | false => simpa using ih
theorem srt_mem {c : Card} (h : c ∈ srt mine theirs) : c.t.2.1 = 0 ∨ c.t.2.1 = 1 := mark_of ((srt_perm mine theirs).mem_iff.mp h)
theorem isM_iff {c : Card} : isM c = true ↔ c.t.2.1 = 1 := by unfold isM; exact decide_eq_true_iff
theorem isT_of {c : Card} (h : c ∈ srt mine theirs) : isT c = true ↔ c.t.2.1 = 0 := by
  unfold isT isM
  rcases srt_mem h with e | e <;> rw [e] <;> decide
/-- below a card of mine stand the cards of theirs that are not greater -/
theorem theirs_below {p : Nat} {c : Card} (hp : (srt mine theirs)[p]? = some c) (hc : isM c = true) : (((srt mine theirs).take p).filter isT).length = cnt (fun y => decide (y ≤ num c)) (tv mine theirs) := by
  rw [← below_take (srt_lt mine theirs) hp]
  unfold tv Ts
  rw [cnt_map, List.filter_filter, List.filter_filter]
  congr 1
  refine List.filter_congr fun x hx => ?_
  cases e : isT x with
  | false => simp
  | true => simp [T_lt ((isT_of hx).mp e) (isM_iff.mp hc)]
theorem at_mine {p : Nat} {c : Card} (hp : (srt mine theirs)[p]? = some c) (hc : isM c = true) :
    (Ms mine theirs)[(((srt mine theirs).take p).filter isM).length]? = some c ∧ (((srt mine theirs).take p).filter isT).length = bv (mv mine theirs) (tv mine theirs) (((srt mine theirs).take p).filter isM).length := by
  have h := filter_at hp hc
  refine ⟨h, ?_⟩
  rw [theirs_below hp hc]
  unfold bv
  congr 2
  funext y
  rw [List.getD_eq_getElem?_getD]
  unfold mv
  rw [List.getElem?_map]
  have h : (Ms mine theirs)[(((srt mine theirs).take p).filter isM).length]? = some c := h
  rw [h]
  rfl
theorem hs_zero (h : mine.length = theirs.length) : hs ((srt mine theirs).take (srt mine theirs).length) = 0 := by
  rw [List.take_length, hs_perm (srt_perm mine theirs), cards_hs h]
theorem walk_up (h : mine.length = theirs.length) {r : Nat} (hL : Lo mine.length (bv (mv mine theirs) (tv mine theirs)) r) : ∀ k p : Nat, p + k = (srt mine theirs).length → hs ((srt mine theirs).take p) ≤ r
  | 0, p, e => by
    rw [Nat.add_zero] at e
    rw [e, hs_zero h]
    omega
  | k + 1, p, e => by
    have hp : p < (srt mine theirs).length := by omega
    have ih := walk_up h hL k (p + 1) (by omega)
    have hq := List.getElem?_eq_getElem hp
    by_cases c : isM (srt mine theirs)[p] = true
    · obtain ⟨h1, h2⟩ := at_mine hq c
      have hi := (List.getElem?_eq_some_iff.mp h1).1
      rw [Ms_len] at hi
      have := hL _ hi
      rw [hs_TM]
      omega
    · rw [hs_snoc hp] at ih
      unfold st at ih
      rw [if_neg (fun z => c (isM_iff.mpr z))] at ih
      omega
theorem walk_dn (h : mine.length = theirs.length) {r : Nat} (hr : r ≤ mine.length) (hH : Hi mine.length (bv (mv mine theirs) (tv mine theirs)) r) : ∀ p : Nat, p ≤ (srt mine theirs).length → (r : Int) - mine.length ≤ hs ((srt mine theirs).take p)
  | 0, _ => by
    rw [List.take_zero]
    show _ ≤ (0 : Int)
    omega
  | p + 1, e => by
    have hp : p < (srt mine theirs).length := by omega
    have ih := walk_dn h hr hH p (by omega)
    have hq := List.getElem?_eq_getElem hp
    rw [hs_snoc hp]
    unfold st
    by_cases c : isM (srt mine theirs)[p] = true
    · obtain ⟨h1, h2⟩ := at_mine hq c
      have hi := (List.getElem?_eq_some_iff.mp h1).1
      rw [Ms_len] at hi
      have := hH _ hi
      rw [if_pos (isM_iff.mp c), hs_TM]
      omega
    · rw [if_neg (fun z => c (isM_iff.mpr z))]
      omega
theorem mine_at {i : Nat} (hi : i < mine.length) : ∃ p c, (srt mine theirs)[p]? = some c ∧ isM c = true ∧ (((srt mine theirs).take p).filter isM).length = i := by
  have hi' : i < (Ms mine theirs).length := by rw [Ms_len]; exact hi
  have hm : (Ms mine theirs)[i] ∈ (srt mine theirs).filter isM := List.getElem_mem hi'
  obtain ⟨h1, h2⟩ := List.mem_filter.mp hm
  obtain ⟨p, hp⟩ := List.getElem?_of_mem h1
  refine ⟨p, _, hp, h2, ?_⟩
  have h3 := (at_mine hp h2).1
  have nd : (Ms mine theirs).Nodup := ((srt_perm mine theirs).nodup_iff.mpr (cards_nodup mine theirs)).filter _
  have h4 := (List.getElem?_eq_some_iff.mp h3)
  obtain ⟨h5, h6⟩ := h4
  exact (List.getElem_inj nd).mp h6
theorem peak_iff (h : mine.length = theirs.length) (r : Nat) : (∀ p, p ≤ (srt mine theirs).length → hs ((srt mine theirs).take p) ≤ r) ↔ Lo mine.length (bv (mv mine theirs) (tv mine theirs)) r := by
  constructor
  · intro hw i hi
    obtain ⟨p, c, hp, hc, e⟩ := mine_at (theirs := theirs) hi
    have hpl := (List.getElem?_eq_some_iff.mp hp).1
    have := hw p (by omega)
    obtain ⟨_, h2⟩ := at_mine hp hc
    rw [hs_TM, h2, e] at this
    omega
  · intro hL p hp
    exact walk_up h hL ((srt mine theirs).length - p) p (by omega)
theorem valley_iff (h : mine.length = theirs.length) (r : Nat) (hr : r ≤ mine.length) : (∀ p, p ≤ (srt mine theirs).length → (r : Int) - mine.length ≤ hs ((srt mine theirs).take p)) ↔ Hi mine.length (bv (mv mine theirs) (tv mine theirs)) r := by
  constructor
  · intro hw i hi
    obtain ⟨p, c, hp, hc, e⟩ := mine_at (theirs := theirs) hi
    have hpl := (List.getElem?_eq_some_iff.mp hp).1
    have := hw (p + 1) (by omega)
    rw [hs_snoc hpl] at this
    unfold st at this
    have ec : (srt mine theirs)[p] = c := (List.getElem?_eq_some_iff.mp hp).2
    rw [ec, if_pos (isM_iff.mp hc)] at this
    obtain ⟨_, h2⟩ := at_mine hp hc
    rw [hs_TM, h2, e] at this
    omega
  · intro hH p hp
    exact walk_dn h hr hH p hp
end
end Cm

set_option Elab.async false
set_option linter.all false
set_option maxRecDepth 100000
set_option maxHeartbeats 4000000
/-! ### orders, rotations, results -/
namespace Cm
open PySem PySem.Spec L2 Pv Rot
open Enc (enc)
open Encs (encs)
def idx (c : Card) : Int := c.t.2.2.1
section
variable {mine theirs : List Int}
theorem limv : (LIM : Nat) = 1000000 := rfl
theorem deck_is (h1 : mine.length ≤ 1000) (h2 : theirs.length ≤ 1000) : m_deck mine theirs = .ok ((srt mine theirs).map side) := by
  unfold m_deck
  have hc : catL ((enumF theirs).map fun x1 : (Tp (Int × Int × Unit)) => (Tp.mk (x1.t.2.1, (0 : Int), x1.t.1, ()) : Card)) ((enumF mine).map fun x4 : (Tp (Int × Int × Unit)) => (Tp.mk (x4.t.2.1, (1 : Int), x4.t.1, ()) : Card)) = some (cards mine theirs) := by
    refine if_pos ?_
    have := cards_len mine theirs
    unfold cards at this
    rw [List.length_append] at this
    have := limv
    omega
  show (R.bind (R.of (catL _ _)) fun v_keys_5 => (R.ok ((sortT v_keys_5).map side))) = _
  rw [hc]
  rfl
theorem side_mine (c : Card) : decide ((side c).t.1 = PySem.Str.ofString "mine") = isM c := by
  unfold side isM
  cases decide (c.t.2.1 = 1) with
  | true => exact decide_eq_true rfl
  | false => exact decide_eq_false (by show ¬ PySem.Str.ofString "theirs" = _; rw [mt_ne.1]; exact id)
theorem side_theirs (c : Card) : decide ((side c).t.1 = PySem.Str.ofString "theirs") = isT c := by
  unfold side isT isM
  cases decide (c.t.2.1 = 1) with
  | true => exact decide_eq_false (by show ¬ PySem.Str.ofString "mine" = _; rw [mt_ne2]; exact id)
  | false => exact decide_eq_true rfl
theorem order_mine (h1 : mine.length ≤ 1000) (h2 : theirs.length ≤ 1000) : m_side_order mine theirs (PySem.Str.ofString "mine") = .ok ((Ms mine theirs).map idx) := by
  unfold m_side_order
  rw [deck_is h1 h2, R.bind_ok, List.filter_map, List.map_map]
  unfold Ms
  congr 2
  refine List.filter_congr fun c _ => side_mine c
theorem order_theirs (h1 : mine.length ≤ 1000) (h2 : theirs.length ≤ 1000) : m_side_order mine theirs (PySem.Str.ofString "theirs") = .ok ((Ts mine theirs).map idx) := by
  unfold m_side_order
  rw [deck_is h1 h2, R.bind_ok, List.filter_map, List.map_map]
  unfold Ts
  congr 2
  refine List.filter_congr fun c _ => side_theirs c
theorem law_order (h1 : mine.length ≤ 100) (h2 : theirs.length ≤ 100) : m__law_order mine theirs = .ok (srt mine theirs) := by
  have h := law_cards h1 h2
  unfold m__law_order
  have e : ∀ (X : R (List Card)) (Y : List Card → R (List Card)) (Z : List Card → R (List Card)), (X.bind fun a => (Y a).bind fun b => Z b) = ((X.bind fun a => Y a).bind Z) := fun X Y Z => by cases X <;> rfl
  have e2 : ∀ (X : R (List Card)) (Y : R (List Card)), (X.bind fun a => ((Y.bind fun t => R.of (catL a t)).bind fun b => R.ok (sortT b))) = ((X.bind fun a => Y.bind fun t => R.of (catL a t)).bind fun b => R.ok (sortT b)) := fun X Y => by cases X <;> rfl
  refine (e2 _ _).trans ?_
  rw [h]
  rfl
/-! #### the two ends -/
abbrev bb (mine theirs : List Int) : Nat → Nat := bv (mv mine theirs) (tv mine theirs)
theorem hw_mem {x : Int} : x ∈ hw mine theirs ↔ ∃ p, p ≤ (srt mine theirs).length ∧ x = hs ((srt mine theirs).take p) := by
  unfold hw walk
  rw [List.mem_map]
  constructor
  · rintro ⟨p, hp, e⟩
    exact ⟨p, by have := List.mem_range.mp hp; omega, e.symm⟩
  · rintro ⟨p, hp, e⟩
    exact ⟨p, List.mem_range.mpr (by omega), e.symm⟩
theorem zero_mem : (0 : Int) ∈ hw mine theirs := hw_mem.mpr ⟨0, Nat.zero_le _, rfl⟩
theorem hw_ne : hw mine theirs ≠ [] := fun e => by
  have := zero_mem (mine := mine) (theirs := theirs)
  rw [e] at this
  exact absurd this (by simp)
/-- the least result: what the law counts -/
structure IsLo (mine theirs : List Int) (L : Int) : Prop where
  z : 0 ≤ L
  i : ∀ r : Nat, L ≤ r ↔ Lo mine.length (bb mine theirs) r
structure IsHi (mine theirs : List Int) (M : Int) : Prop where
  z : 0 ≤ M
  n : M ≤ mine.length
  i : ∀ r : Nat, r ≤ mine.length → ((r : Int) ≤ M ↔ Hi mine.length (bb mine theirs) r)
theorem IsLo.eq {a b : Int} (h : IsLo mine theirs a) (k : IsLo mine theirs b) : a = b := by
  have h1 := (k.i a.toNat).mpr ((h.i a.toNat).mp (by have := h.z; omega))
  have h2 := (h.i b.toNat).mpr ((k.i b.toNat).mp (by have := k.z; omega))
  have := h.z
  have := k.z
  omega
theorem IsHi.eq {a b : Int} (h : IsHi mine theirs a) (k : IsHi mine theirs b) : a = b := by
  have z1 := h.z
  have z2 := k.z
  have n1 := h.n
  have n2 := k.n
  have h1 := (k.i a.toNat (by omega)).mpr ((h.i a.toNat (by omega)).mp (by omega))
  have h2 := (h.i b.toNat (by omega)).mpr ((k.i b.toNat (by omega)).mp (by omega))
  omega
theorem peak_is (h : mine.length = theirs.length) {L : Int} (e : (hw mine theirs).max? = some L) : IsLo mine theirs L := by
  obtain ⟨hm, hx⟩ := List.max?_eq_some_iff.mp e
  refine ⟨hx 0 zero_mem, fun r => ?_⟩
  rw [← peak_iff h]
  constructor
  · intro hr p hp
    have := hx _ (hw_mem.mpr ⟨p, hp, rfl⟩)
    omega
  · intro hr
    obtain ⟨p, hp, e⟩ := hw_mem.mp hm
    have := hr p hp
    omega
theorem valley_is (h : mine.length = theirs.length) {V : Int} (e : (hw mine theirs).min? = some V) : IsHi mine theirs (mine.length + V) := by
  obtain ⟨hm, hx⟩ := List.min?_eq_some_iff.mp e
  have v0 := hx 0 zero_mem
  have key : ∀ r : Nat, r ≤ mine.length → ((r : Int) ≤ mine.length + V ↔ Hi mine.length (bb mine theirs) r) := fun r hr => by
    rw [← valley_iff h r hr]
    constructor
    · intro hr p hp
      have := hx _ (hw_mem.mpr ⟨p, hp, rfl⟩)
      omega
    · intro hr
      obtain ⟨p, hp, e⟩ := hw_mem.mp hm
      have := hr p hp
      omega
  refine ⟨(key 0 (Nat.zero_le _)).mpr fun i hi => by omega, by omega, key⟩
theorem m_peak_is (h : mine.length = theirs.length) (hl : mine.length ≤ 100) {L : Int} (hL : IsLo mine theirs L) : m_peak mine theirs = .ok L := by
  unfold m_peak
  rw [heights_is h hl, R.bind_ok]
  cases e : (hw mine theirs).max? with
  | none => exact absurd (List.max?_eq_none_iff.mp e) hw_ne
  | some P => rw [hL.eq (peak_is h e)]; rfl
theorem m_valley_is (h : mine.length = theirs.length) (hl : mine.length ≤ 100) {M : Int} (hM : IsHi mine theirs M) : m_valley mine theirs = .ok (M - mine.length) := by
  unfold m_valley
  rw [heights_is h hl, R.bind_ok]
  cases e : (hw mine theirs).min? with
  | none => exact absurd (List.min?_eq_none_iff.mp e) hw_ne
  | some P =>
    rw [hM.eq (valley_is h e)]
    show R.ok P = R.ok _
    congr 1
    omega
/-! #### what the law counts -/
theorem fold_ok {α S : Type} {f : α → S → R S} {g : S → α → S} : ∀ (xs : List α) (s : S), (∀ x, x ∈ xs → ∀ s, f x s = .ok (g s x)) → foldR f xs s = .ok (xs.foldl g s)
  | [], s, _ => rfl
  | x :: xs, s, h => by
    show (f x s).bind _ = _
    rw [h x (List.mem_cons_self ..)]
    exact fold_ok xs (g s x) fun y hy => h y (List.mem_cons_of_mem _ hy)
def maxs (g : Int → Int) (xs : List Int) (s : Int) : Int := xs.foldl (fun s x => if g x > s then g x else s) s
def mins (g : Int → Int) (xs : List Int) (s : Int) : Int := xs.foldl (fun s x => if g x < s then g x else s) s
theorem maxs_le (g : Int → Int) : ∀ (xs : List Int) (s r : Int), maxs g xs s ≤ r ↔ s ≤ r ∧ ∀ x, x ∈ xs → g x ≤ r
  | [], s, r => by
    show s ≤ r ↔ _
    simp
  | x :: xs, s, r => by
    show maxs g xs (if g x > s then g x else s) ≤ r ↔ _
    rw [maxs_le g xs]
    constructor
    · rintro ⟨h1, h2⟩
      refine ⟨by split at h1 <;> omega, fun y hy => ?_⟩
      rcases List.mem_cons.mp hy with rfl | hy
      · split at h1 <;> omega
      · exact h2 y hy
    · rintro ⟨h1, h2⟩
      exact ⟨by have := h2 x (List.mem_cons_self ..); split <;> omega, fun y hy => h2 y (List.mem_cons_of_mem _ hy)⟩
theorem mins_ge (g : Int → Int) : ∀ (xs : List Int) (s r : Int), r ≤ mins g xs s ↔ r ≤ s ∧ ∀ x, x ∈ xs → r ≤ g x
  | [], s, r => by
    show r ≤ s ↔ _
    simp
  | x :: xs, s, r => by
    show r ≤ mins g xs (if g x < s then g x else s) ↔ _
    rw [mins_ge g xs]
    constructor
    · rintro ⟨h1, h2⟩
      refine ⟨by split at h1 <;> omega, fun y hy => ?_⟩
      rcases List.mem_cons.mp hy with rfl | hy
      · split at h1 <;> omega
      · exact h2 y hy
    · rintro ⟨h1, h2⟩
      exact ⟨by have := h2 x (List.mem_cons_self ..); split <;> omega, fun y hy => h2 y (List.mem_cons_of_mem _ hy)⟩
theorem law_least_is (h : mine.length = theirs.length) : ∃ L, m__law_least mine theirs = .ok L ∧ IsLo mine theirs L := by
  refine ⟨maxs (fun x => ((cnt (fun y => decide (y ≤ x)) theirs : Nat) : Int) - ((cnt (fun y => decide (y < x)) mine : Nat) : Int)) theirs 0, ?_, ?_, fun r => ?_⟩
  · unfold m__law_least
    show (R.bind (foldR (m__law_least_b1 mine theirs) theirs 0) fun s3 => (R.ok s3)) = _
    rw [fold_ok (g := fun s x => if (((cnt (fun y => decide (y ≤ x)) theirs : Nat) : Int) - ((cnt (fun y => decide (y < x)) mine : Nat) : Int)) > s then (((cnt (fun y => decide (y ≤ x)) theirs : Nat) : Int) - ((cnt (fun y => decide (y < x)) mine : Nat) : Int)) else s) theirs 0 fun x _ s => ?_]
    · rfl
    · unfold m__law_least_b1 cnt
      simp only [List.map_id']
      rfl
  · exact ((maxs_le _ _ _ _).mp (Int.le_refl _)).1
  · rw [maxs_le]
    have e := lo_iff (mv_up (mine := mine) (theirs := theirs)) (tv_up (mine := mine) (theirs := theirs)) (by rw [mv_len, tv_len]; omega) r
    rw [mv_len] at e
    rw [e]
    constructor
    · rintro ⟨_, h2⟩ x hx
      have := h2 x (tv_perm.mem_iff.mp hx)
      rw [cnt_perm tv_perm, cnt_perm mv_perm]
      omega
    · intro h2
      refine ⟨by omega, fun x hx => ?_⟩
      have := h2 x (tv_perm.mem_iff.mpr hx)
      rw [cnt_perm tv_perm, cnt_perm mv_perm] at this
      omega
theorem law_most_is (h : mine.length = theirs.length) : ∃ M, m__law_most mine theirs = .ok M ∧ IsHi mine theirs M := by
  have key : ∀ r : Nat, r ≤ mine.length → ((r : Int) ≤ mine.length + mins (fun x => ((cnt (fun y => decide (y ≤ x)) theirs : Nat) : Int) - ((cnt (fun y => decide (y ≤ x)) mine : Nat) : Int)) mine 0 ↔ Hi mine.length (bb mine theirs) r) := fun r hr => by
    have e := hi_iff (mv_up (mine := mine) (theirs := theirs)) (tv := tv mine theirs) (by rw [mv_len, tv_len]; omega) r (by rw [mv_len]; omega)
    rw [mv_len] at e
    rw [e]
    have e2 := mins_ge (fun x => ((cnt (fun y => decide (y ≤ x)) theirs : Nat) : Int) - ((cnt (fun y => decide (y ≤ x)) mine : Nat) : Int)) mine 0 ((r : Int) - mine.length)
    constructor
    · intro h1 x hx
      have := (e2.mp (by omega)).2 x (mv_perm.mem_iff.mp hx)
      rw [cnt_perm mv_perm, cnt_perm tv_perm]
      omega
    · intro h2
      have := e2.mpr ⟨by omega, fun x hx => by
        have := h2 x (mv_perm.mem_iff.mpr hx)
        rw [cnt_perm mv_perm, cnt_perm tv_perm] at this
        omega⟩
      omega
  refine ⟨mine.length + mins (fun x => ((cnt (fun y => decide (y ≤ x)) theirs : Nat) : Int) - ((cnt (fun y => decide (y ≤ x)) mine : Nat) : Int)) mine 0, ?_, ?_, ?_, key⟩
  · unfold m__law_most
    show (R.bind (foldR (m__law_most_b1 mine theirs) mine 0) fun s3 => (R.ok ((mine.length : Int) + s3))) = _
    rw [fold_ok (g := fun s x => if (((cnt (fun y => decide (y ≤ x)) theirs : Nat) : Int) - ((cnt (fun y => decide (y ≤ x)) mine : Nat) : Int)) < s then (((cnt (fun y => decide (y ≤ x)) theirs : Nat) : Int) - ((cnt (fun y => decide (y ≤ x)) mine : Nat) : Int)) else s) mine 0 fun x _ s => ?_]
    · rfl
    · unfold m__law_most_b1 cnt
      simp only [List.map_id']
      rfl
  · exact (key 0 (Nat.zero_le _)).mpr fun i hi => by omega
  · have := (mins_ge (fun x => ((cnt (fun y => decide (y ≤ x)) theirs : Nat) : Int) - ((cnt (fun y => decide (y ≤ x)) mine : Nat) : Int)) mine 0 _).mp (Int.le_refl _)
    omega
end
end Cm

set_option Elab.async false
set_option linter.all false
set_option maxRecDepth 100000
set_option maxHeartbeats 4000000
/-! ### pairings laid by two orders; results -/
namespace Cm
open PySem PySem.Spec L2 Pv Rot
open Enc (enc)
open Encs (encs)
def m_rotation_b1 (x6 : (Tp (Int × Int × Unit))) (s7 : (List Int)) : R ((List Int)) :=
  (R.bind (R.ok x6.t.2.1) fun a9 => R.bind (R.ok x6.t.1) fun j10 => R.bind (R.of (setL s7 j10 a9)) fun v_pairing_8 => (R.ok (v_pairing_8)))
def m__law_result (v_mine : (List Int)) (v_theirs : (List Int)) (v_pairing : (List Int)) : R Int :=
  (R.bind (R.bind (R.of (rngO 0 (v_mine.length : Int))) fun l6 => compR (fun x1 : Int => (R.ok true)) (fun x1 : Int => (R.bind (R.bind (R.of (atI v_mine x1)) fun t3 => R.bind (R.bind (R.of (atI v_pairing x1)) fun t2 => (R.of (atI v_theirs t2))) fun t4 => (R.ok (decide (t4 ≤ t3)))) fun t5 => (R.ok (if t5 then (1 : Int) else 0)))) l6) fun t7 => (R.ok t7.sum))
def m__law_turned_b1 (v_r : Int) (v_my_cards_3 : (List Int)) (v_their_cards_5 : (List Int)) (x8 : Int) (s9 : (List Int)) : R ((List Int)) :=
  (R.bind (R.bind (R.of (modO (x8 + v_r) (v_my_cards_3.length : Int))) fun t10 => (R.of (atI v_their_cards_5 t10))) fun a12 => R.bind (R.of (atI v_my_cards_3 x8)) fun j13 => R.bind (R.of (setL s9 j13 a12)) fun v_out_11 => (R.ok (v_out_11)))
def m__law_turned (v_mine : (List Int)) (v_theirs : (List Int)) (v_r : Int) : R (List Int) :=
  (R.bind (m__law_order v_mine v_theirs) fun v_order_1 => (R.lt ((v_order_1.filter fun x2 : (Tp (Int × Int × Int × Unit)) => (decide (x2.t.2.1 = (1 : Int)))).map fun x2 : (Tp (Int × Int × Int × Unit)) => x2.t.2.2.1) fun v_my_cards_3 => (R.lt ((v_order_1.filter fun x4 : (Tp (Int × Int × Int × Unit)) => (decide (x4.t.2.1 = (0 : Int)))).map fun x4 : (Tp (Int × Int × Int × Unit)) => x4.t.2.2.1) fun v_their_cards_5 => (R.lt (v_my_cards_3.map fun x6 : Int => (0 : Int)) fun v_out_7 => (R.bind (R.of (rngO 0 (v_my_cards_3.length : Int))) fun l14 => R.bind (foldR (m__law_turned_b1 v_r v_my_cards_3 v_their_cards_5) l14 (v_out_7)) fun s9 => (R.ok s9))))))
/-- entry ms[k] is ts[k], for k below i -/
def setAll (n : Nat) (ms ts : List Int) (i : Nat) : List Int := (List.range i).foldl (fun s k => s.set (ms.getD k 0).toNat (ts.getD k 0)) (List.replicate n 0)
theorem setAll_succ {n : Nat} {ms ts : List Int} {i : Nat} : setAll n ms ts (i + 1) = (setAll n ms ts i).set (ms.getD i 0).toNat (ts.getD i 0) := by
  unfold setAll
  rw [List.range_succ, List.foldl_append]
  rfl
theorem setAll_len {n : Nat} {ms ts : List Int} : ∀ i, (setAll n ms ts i).length = n
  | 0 => by show (List.replicate n (0 : Int)).length = n; rw [List.length_replicate]
  | i + 1 => by rw [setAll_succ, List.length_set, setAll_len i]
theorem getD_at {α : Type} {xs : List α} {i : Nat} {d : α} (h : i < xs.length) : xs.getD i d = xs[i] := by
  rw [List.getD_eq_getElem?_getD, List.getElem?_eq_getElem h]
  rfl
/-- the numbers 0 to n - 1, each once -/
def IsP (n : Nat) (ms : List Int) : Prop := ms.length = n ∧ ms.Nodup ∧ ∀ m, m ∈ ms → 0 ≤ m ∧ m < n
theorem IsP.at {n : Nat} {ms : List Int} (h : IsP n ms) {i : Nat} (hi : i < n) : 0 ≤ ms.getD i 0 ∧ ms.getD i 0 < n := by
  have hl : i < ms.length := by rw [h.1]; exact hi
  rw [getD_at hl]
  exact h.2.2 _ (List.getElem_mem hl)
theorem IsP.inj {n : Nat} {ms : List Int} (h : IsP n ms) {i j : Nat} (hi : i < n) (hj : j < n) (e : ms.getD i 0 = ms.getD j 0) : i = j := by
  have hl : i < ms.length := by rw [h.1]; exact hi
  have hl' : j < ms.length := by rw [h.1]; exact hj
  rw [getD_at hl, getD_at hl'] at e
  exact (List.getElem_inj h.2.1).mp e
theorem setAll_get {n : Nat} {ms ts : List Int} (h : IsP n ms) : ∀ (i : Nat), i ≤ n → ∀ k, k < i → (setAll n ms ts i)[(ms.getD k 0).toNat]? = some (ts.getD k 0)
  | 0, _, k, hk => by omega
  | i + 1, hi, k, hk => by
    have h1 := h.at (i := i) (by omega)
    have h2 := h.at (i := k) (by omega)
    rw [setAll_succ]
    by_cases e : k = i
    · subst e
      rw [List.getElem?_set_self (by rw [setAll_len]; omega)]
    · have ne : ms.getD i 0 ≠ ms.getD k 0 := fun z => e (h.inj (by omega) (by omega) z).symm
      rw [List.getElem?_set_ne (by omega)]
      exact setAll_get h i (by omega) k (by omega)
theorem range_int (n : Nat) : IsP n ((List.range n).map fun i : Nat => (i : Int)) := by
  refine ⟨by rw [List.length_map, List.length_range], ?_, fun m hm => ?_⟩
  · refine List.pairwise_map.mpr ((List.pairwise_lt_range (n := n)).imp fun {a b} h e => ?_)
    have : (a : Int) = (b : Int) := e
    omega
  · obtain ⟨i, hi, rfl⟩ := List.mem_map.mp hm
    have := List.mem_range.mp hi
    omega
theorem sub_perm {α : Type} [BEq α] [LawfulBEq α] : ∀ {xs ys : List α}, xs.Nodup → (∀ x, x ∈ xs → x ∈ ys) → ys.length ≤ xs.length → xs.Perm ys
  | [], ys, _, _, h => by
    have : ys = [] := List.length_eq_zero_iff.mp (by simpa using h)
    subst this
    exact .refl _
  | x :: xs, ys, h1, h2, h => by
    obtain ⟨n1, n2⟩ := List.nodup_cons.mp h1
    have hx := h2 x (List.mem_cons_self ..)
    have hp := List.perm_cons_erase hx
    refine ((sub_perm n2 (fun y hy => ?_) ?_).cons x).trans hp.symm
    · exact (List.mem_erase_of_ne (fun e : y = x => n1 (e ▸ hy))).mpr (h2 y (List.mem_cons_of_mem _ hy))
    · have := List.length_erase_of_mem hx
      rw [List.length_cons] at h
      omega
theorem IsP.perm {n : Nat} {ms : List Int} (h : IsP n ms) : ms.Perm ((List.range n).map fun i : Nat => (i : Int)) := by
  refine sub_perm h.2.1 (fun m hm => ?_) (by rw [List.length_map, List.length_range, h.1]; exact Nat.le_refl _)
  obtain ⟨a, b⟩ := h.2.2 m hm
  exact List.mem_map.mpr ⟨m.toNat, List.mem_range.mpr (by omega), by omega⟩
section
variable {mine theirs : List Int}
theorem Ms_perm : ((Ms mine theirs).map idx).Perm ((List.range mine.length).map fun i : Nat => (i : Int)) := by
  have h := ((srt_perm mine theirs).filter isM).map idx
  rw [cards_fM, List.map_map] at h
  exact h
theorem Ts_perm : ((Ts mine theirs).map idx).Perm ((List.range theirs.length).map fun i : Nat => (i : Int)) := by
  have h := ((srt_perm mine theirs).filter isT).map idx
  rw [cards_fT, List.map_map] at h
  exact h
theorem isP_of {n : Nat} {ms : List Int} (h : ms.Perm ((List.range n).map fun i : Nat => (i : Int))) : IsP n ms := by
  obtain ⟨a, b, c⟩ := range_int n
  exact ⟨by rw [h.length_eq, a], h.nodup_iff.mpr b, fun m hm => c m (h.mem_iff.mp hm)⟩
theorem Ms_isP : IsP mine.length ((Ms mine theirs).map idx) := isP_of Ms_perm
theorem Ts_isP : IsP theirs.length ((Ts mine theirs).map idx) := isP_of Ts_perm
/-- a card's number stands at its index -/
theorem Ms_num {i : Nat} (hi : i < mine.length) : mine[(((Ms mine theirs).map idx).getD i 0).toNat]? = some ((mv mine theirs).getD i 0) := by
  have hl : i < (Ms mine theirs).length := by rw [Ms_len]; exact hi
  have hm : (Ms mine theirs)[i] ∈ (cards mine theirs).filter isM := ((srt_perm mine theirs).filter isM).mem_iff.mp (List.getElem_mem hl)
  rw [cards_fM] at hm
  obtain ⟨j, hj, e⟩ := List.mem_map.mp hm
  have hj := List.mem_range.mp hj
  unfold mv
  rw [getD_at (by rw [List.length_map]; exact hl), getD_at (by rw [List.length_map]; exact hl), List.getElem_map, List.getElem_map, ← e]
  show mine[((j : Int)).toNat]? = some (mine.getD j 0)
  rw [Int.toNat_natCast, getD_at hj, List.getElem?_eq_getElem hj]
theorem Ts_num {i : Nat} (hi : i < theirs.length) : theirs[(((Ts mine theirs).map idx).getD i 0).toNat]? = some ((tv mine theirs).getD i 0) := by
  have hl : i < (Ts mine theirs).length := by rw [Ts_len]; exact hi
  have hm : (Ts mine theirs)[i] ∈ (cards mine theirs).filter isT := ((srt_perm mine theirs).filter isT).mem_iff.mp (List.getElem_mem hl)
  rw [cards_fT] at hm
  obtain ⟨j, hj, e⟩ := List.mem_map.mp hm
  have hj := List.mem_range.mp hj
  unfold tv
  rw [getD_at (by rw [List.length_map]; exact hl), getD_at (by rw [List.length_map]; exact hl), List.getElem_map, List.getElem_map, ← e]
  show theirs[((j : Int)).toNat]? = some (theirs.getD j 0)
  rw [Int.toNat_natCast, getD_at hj, List.getElem?_eq_getElem hj]
/-! #### the rotation -/
def rot (ts : List Int) (r : Nat) : List Int := ts.drop r ++ ts.take r
theorem rot_len {ts : List Int} {r : Nat} : (rot ts r).length = ts.length := by
  unfold rot
  rw [List.length_append, List.length_drop, List.length_take]
  omega
theorem rot_get {ts : List Int} {r k : Nat} (hr : r ≤ ts.length) (hk : k < ts.length) : (rot ts r).getD k 0 = ts.getD ((k + r) % ts.length) 0 := by
  unfold rot
  rw [List.getD_eq_getElem?_getD, List.getD_eq_getElem?_getD]
  by_cases c : k + r < ts.length
  · rw [List.getElem?_append_left (by rw [List.length_drop]; omega), List.getElem?_drop, Nat.mod_eq_of_lt c, Nat.add_comm r k]
  · have e : (k + r) % ts.length = k + r - ts.length := by rw [Nat.mod_eq_sub_mod (by omega), Nat.mod_eq_of_lt (by omega)]
    rw [List.getElem?_append_right (by rw [List.length_drop]; omega), List.length_drop, List.getElem?_take_of_lt (by omega), e]
    congr 2
    omega
def rotP (mine theirs : List Int) (r : Nat) : List Int := setAll mine.length ((Ms mine theirs).map idx) (rot ((Ts mine theirs).map idx) r) mine.length
theorem rotP_len {r : Nat} : (rotP mine theirs r).length = mine.length := setAll_len _
theorem zip_fold {ms ts : List Int} {n : Nat} (h : IsP n ms) (ht : ts.length = n) : foldR m_rotation_b1 (zipF ms ts) (List.replicate n 0) = .ok (setAll n ms ts n) := by
  have zl : (zipF ms ts).length = n := by
    unfold zipF
    rw [List.length_zipWith, h.1, ht, Nat.min_self]
  refine Ok.get (Ok.fold (fun i s => s = setAll n ms ts i) rfl (fun i hi s hs => ?_) fun s hs => by rw [hs, zl])
  subst hs
  have hi' : i < n := by rw [zl] at hi; exact hi
  have hm : i < ms.length := by rw [h.1]; exact hi'
  have ht' : i < ts.length := by rw [ht]; exact hi'
  have e : (zipF ms ts)[i] = ⟨(ms[i], ts[i], ())⟩ := Option.some.inj ((List.getElem?_eq_getElem hi).symm.trans (by
    unfold zipF
    rw [List.getElem?_zipWith, List.getElem?_eq_getElem hm, List.getElem?_eq_getElem ht']))
  rw [e]
  have hb := h.at hi'
  rw [getD_at hm] at hb
  unfold m_rotation_b1
  refine Ok.bind (Ok.ok (Ok.bind (Ok.ok (Ok.bind (Ok.set hb.1 (by rw [setAll_len]; exact hb.2) (Ok.ok ?_))))))
  rw [setAll_succ, getD_at hm, getD_at ht']
theorem rep0 (n : Nat) (h : n ≤ 1000000) : repL ([(0 : Int)] : List Int) (n : Int) = some (List.replicate n 0) := by
  unfold repL
  rw [optIf_pos ⟨by omega, by omega, by show 1 * (n : Int).toNat ≤ LIM; have := limv; omega⟩, Int.toNat_natCast]
  congr 1
  induction n with
  | zero => rfl
  | succ n ih => rw [List.replicate_succ, List.flatten_cons, ih (by omega)]; rfl
theorem cut_rot {ts : List Int} {r : Int} (h0 : 0 ≤ r) (hl : ts.length ≤ 1000) : catL (cutL ts (some r) none) (cutL ts none (some r)) = some (rot ts r.toNat) := by
  rw [cutL_from h0, cutL_to h0]
  refine if_pos ?_
  have := limv
  rw [List.length_drop, List.length_take]
  omega
theorem turned_is (h : mine.length = theirs.length) (hl : mine.length ≤ 100) {r : Int} (h0 : 0 ≤ r) (hr : r ≤ mine.length) : m__law_turned mine theirs r = .ok (rotP mine theirs r.toNat) := by
  unfold m__law_turned
  rw [law_order hl (by omega), R.bind_ok]
  show (R.bind (R.of (rngO 0 (((Ms mine theirs).map idx).length : Int))) fun l14 => R.bind (foldR (m__law_turned_b1 r ((Ms mine theirs).map idx) (((srt mine theirs).filter fun c => decide (c.t.2.1 = (0 : Int))).map idx)) l14 (((Ms mine theirs).map idx).map fun _ => (0 : Int))) fun s9 => (R.ok s9)) = _
  have eT : ((srt mine theirs).filter fun c => decide (c.t.2.1 = (0 : Int))) = Ts mine theirs := by
    refine List.filter_congr fun c hc => ?_
    rw [Bool.eq_iff_iff, decide_eq_true_iff, isT_of hc]
  rw [eT]
  have ml : ((Ms mine theirs).map idx).length = mine.length := by rw [List.length_map, Ms_len]
  have tl : ((Ts mine theirs).map idx).length = mine.length := by rw [List.length_map, Ts_len, h]
  have e0 : (((Ms mine theirs).map idx).map fun _ => (0 : Int)) = List.replicate mine.length 0 := by rw [List.map_const', ml]
  rw [e0, ml]
  refine Ok.get (Ok.bind (Ok.range ⟨by omega, by omega, by omega, by omega, by omega⟩ (Ok.bind (Ok.foldRng (fun i s => s = setAll mine.length ((Ms mine theirs).map idx) (rot ((Ts mine theirs).map idx) r.toNat) i) rfl (fun i hi s hs => ?_) fun s hs => Ok.ok (by rw [hs, Int.toNat_natCast]; rfl)))))
  subst hs
  have hi' : i < mine.length := by omega
  have hp := (Ms_isP (mine := mine) (theirs := theirs)).at hi'
  unfold m__law_turned_b1
  rw [ml]
  have em : atI ((Ms mine theirs).map idx) (i : Int) = some (((Ms mine theirs).map idx).getD i 0) := by
    have hm : i < ((Ms mine theirs).map idx).length := by rw [ml]; exact hi'
    rw [atI_nat (List.getElem?_eq_getElem hm), getD_at hm]
  have ei : ((i : Int) + r) % (mine.length : Int) = (((i + r.toNat) % mine.length : Nat) : Int) := by
    have : (i : Int) + r = ((i + r.toNat : Nat) : Int) := by omega
    rw [this]
    rfl
  have et : atI ((Ts mine theirs).map idx) (((i + r.toNat) % mine.length : Nat) : Int) = some ((rot ((Ts mine theirs).map idx) r.toNat).getD i 0) := by
    have hm : (i + r.toNat) % mine.length < ((Ts mine theirs).map idx).length := by rw [tl]; exact Nat.mod_lt _ (by omega)
    rw [atI_nat (List.getElem?_eq_getElem hm), rot_get (by rw [tl]; omega) (by rw [tl]; exact hi'), tl, getD_at hm]
  refine Ok.bind (Ok.bind (Ok.mod (by omega) ?_))
  rw [ei]
  refine Ok.of et (Ok.bind (Ok.of em (Ok.bind (Ok.set hp.1 (by rw [setAll_len]; exact hp.2) (Ok.ok ?_)))))
  rw [setAll_succ]
/-! #### results -/
theorem sum_ite {α : Type} (p : α → Bool) : ∀ xs : List α, ((xs.map fun x => if p x then (1 : Int) else 0).sum) = ((xs.filter p).length : Int)
  | [] => rfl
  | x :: xs => by
    rw [List.map_cons, List.sum_cons, sum_ite p xs, List.filter_cons]
    cases p x with
    | true => simp; omega
    | false => simp
/-- the number of won pairs -/
def res (mine theirs p : List Int) : Nat := ((List.range mine.length).filter fun m => decide (theirs.getD (p.getD m 0).toNat 0 ≤ mine.getD m 0)).length
theorem result_is {p : List Int} (hp : p.length = mine.length) (hl : mine.length ≤ 1000) (hb : ∀ x, x ∈ p → 0 ≤ x ∧ x < theirs.length) : m__law_result mine theirs p = .ok (res mine theirs p : Int) := by
  unfold m__law_result
  refine Ok.get (Ok.bind (Ok.bind (Ok.range ⟨by omega, by omega, by omega, by omega, by omega⟩ ?_)))
  refine Ok.comp (fun _ => true) (fun x => if decide (theirs.getD (p.getD x.toNat 0).toNat 0 ≤ mine.getD x.toNat 0) then (1 : Int) else 0) (fun _ _ => rfl) (fun x hx => ?_) ?_
  · rw [rng_nat] at hx
    obtain ⟨i, hi, rfl⟩ := List.mem_map.mp hx
    have hi := List.mem_range.mp hi
    have hi' : i < p.length := by omega
    obtain ⟨b0, b1⟩ := hb _ (List.getElem_mem hi')
    have ht : (p[i]).toNat < theirs.length := by omega
    rw [show atI mine (i : Int) = some mine[i] from atI_nat (List.getElem?_eq_getElem hi), show atI p (i : Int) = some p[i] from atI_nat (List.getElem?_eq_getElem hi')]
    have e3 : atI theirs p[i] = some (theirs[(p[i]).toNat]) := by
      have z := atI_nat (List.getElem?_eq_getElem ht)
      rwa [show (((p[i]).toNat : Nat) : Int) = p[i] by omega] at z
    rw [Int.toNat_natCast, getD_at hi', getD_at hi, getD_at ht]
    show (R.bind (R.bind (R.ok mine[i]) fun t3 => R.bind (R.bind (R.ok p[i]) fun t2 => (R.of (atI theirs t2))) fun t4 => (R.ok (decide (t4 ≤ t3)))) fun t5 => (R.ok (if t5 then (1 : Int) else 0))) = _
    rw [R.bind_ok, R.bind_ok, e3]
    rfl
  · rw [filter_yes, rng_nat, List.map_map]
    refine Ok.ok ?_
    have e := sum_ite (fun m : Nat => decide (theirs.getD (p.getD m 0).toNat 0 ≤ mine.getD m 0)) (List.range mine.length)
    exact e
/-- counted over the cards in their order -/
theorem res_order {p : List Int} (ms : List Int) (hm : IsP mine.length ms) : res mine theirs p = ((List.range mine.length).filter fun k => decide (theirs.getD (p.getD (ms.getD k 0).toNat 0).toNat 0 ≤ mine.getD (ms.getD k 0).toNat 0)).length := by
  unfold res
  have hp : (ms.map Int.toNat).Perm (List.range mine.length) := by
    have := hm.perm.map Int.toNat
    rw [List.map_map] at this
    have e : (Int.toNat ∘ fun i : Nat => (i : Int)) = id := funext fun i => Int.toNat_natCast i
    rw [e, List.map_id] at this
    exact this
  rw [← (hp.filter _).length_eq]
  have e2 : ms.map Int.toNat = (List.range mine.length).map fun k => (ms.getD k 0).toNat := by
    refine List.ext_getElem? fun i => ?_
    rw [List.getElem?_map, List.getElem?_map]
    by_cases c : i < mine.length
    · have hl : i < ms.length := by rw [hm.1]; exact c
      rw [List.getElem?_range c, List.getElem?_eq_getElem hl]
      show some (ms[i]).toNat = some (ms.getD i 0).toNat
      rw [getD_at hl]
    · rw [List.getElem?_eq_none (by rw [hm.1]; omega), List.getElem?_eq_none (by rw [List.length_range]; omega)]
      rfl
  rw [e2, List.filter_map, List.length_map]
  rfl
theorem rotP_mem (h : mine.length = theirs.length) {r : Nat} (hr : r ≤ mine.length) : ∀ x, x ∈ rotP mine theirs r → 0 ≤ x ∧ x < theirs.length := fun x hx => by
  have hM := Ms_isP (mine := mine) (theirs := theirs)
  have hT := Ts_isP (mine := mine) (theirs := theirs)
  have tl : ((Ts mine theirs).map idx).length = mine.length := by rw [List.length_map, Ts_len, h]
  obtain ⟨j, hj, e⟩ := List.getElem_of_mem hx
  rw [rotP_len] at hj
  have hjm : (j : Int) ∈ (Ms mine theirs).map idx := hM.perm.mem_iff.mpr (List.mem_map.mpr ⟨j, List.mem_range.mpr hj, rfl⟩)
  obtain ⟨k, hk, ek⟩ := List.getElem_of_mem hjm
  have hk' : k < mine.length := by rw [hM.1] at hk; exact hk
  have z := setAll_get (ts := rot ((Ts mine theirs).map idx) r) hM mine.length (Nat.le_refl _) k hk'
  rw [getD_at hk, ek, Int.toNat_natCast] at z
  have z2 : (rotP mine theirs r)[j]? = some ((rot ((Ts mine theirs).map idx) r).getD k 0) := z
  rw [List.getElem?_eq_getElem (by rw [rotP_len]; exact hj), e] at z2
  rw [Option.some.inj z2, rot_get (by rw [tl]; exact hr) (by rw [tl]; exact hk')]
  exact hT.at (by rw [tl, ← h]; exact Nat.mod_lt _ (by omega))
theorem rotP_res (h : mine.length = theirs.length) {r : Nat} (hr : r ≤ mine.length) : res mine theirs (rotP mine theirs r) = wins mine.length (bb mine theirs) r := by
  have hM := Ms_isP (mine := mine) (theirs := theirs)
  have tl : ((Ts mine theirs).map idx).length = mine.length := by rw [List.length_map, Ts_len, h]
  rw [res_order _ hM]
  unfold wins
  congr 1
  refine List.filter_congr fun k hk => ?_
  have hk := List.mem_range.mp hk
  have z : (rotP mine theirs r)[(((Ms mine theirs).map idx).getD k 0).toNat]? = some ((rot ((Ts mine theirs).map idx) r).getD k 0) := setAll_get hM mine.length (Nat.le_refl _) k hk
  have hq : (k + r) % mine.length < theirs.length := by rw [← h]; exact Nat.mod_lt _ (by omega)
  rw [List.getD_eq_getElem?_getD (l := rotP mine theirs r), z]
  show decide (theirs.getD ((rot ((Ts mine theirs).map idx) r).getD k 0).toNat 0 ≤ mine.getD (((Ms mine theirs).map idx).getD k 0).toNat 0) = _
  rw [rot_get (by rw [tl]; exact hr) (by rw [tl]; exact hk), tl, List.getD_eq_getElem?_getD (l := theirs), Ts_num hq, List.getD_eq_getElem?_getD (l := mine), Ms_num hk]
  show decide ((tv mine theirs).getD ((k + r) % mine.length) 0 ≤ (mv mine theirs).getD k 0) = _
  have hq' : (k + r) % mine.length < (tv mine theirs).length := by rw [tv_len]; exact hq
  rw [getD_at hq', Bool.eq_iff_iff, decide_eq_true_iff, decide_eq_true_iff, up_le tv_up _ hq']
  rfl
theorem rot_iff (h : mine.length = theirs.length) {r : Nat} (hr : r ≤ mine.length) {L M : Int} (hL : IsLo mine theirs L) (hM : IsHi mine theirs M) : res mine theirs (rotP mine theirs r) = r ↔ L ≤ r ∧ (r : Int) ≤ M := by
  rw [rotP_res h hr, hL.i, hM.i r hr]
  constructor
  · intro e
    refine wins_not (fun i hi => ?_) (fun i j ij hj => ?_) hr e
    · have := bv_le (mv := mv mine theirs) (tv := tv mine theirs) (i := i)
      rw [tv_len, ← h] at this
      exact this
    · exact bv_mono mv_up ij (by rw [mv_len]; exact hj)
  · exact fun ⟨a, b⟩ => wins_is hr a b
end
end Cm

set_option Elab.async false
set_option linter.all false
set_option maxRecDepth 100000
set_option maxHeartbeats 4000000
/-! ### games drawn; errors that are small -/
namespace Cm
open PySem PySem.Spec L2 Pv Rot
open Enc (enc)
open Encs (encs)
theorem comp_len {f : Int → R Int} {xs : List Int} {Q : List Int → Prop} (h : ∀ x, x ∈ xs → ∃ y, f x = .ok y) (q : ∀ ys : List Int, ys.length = xs.length → Q ys) : Ok (compR (fun _ : Int => R.ok true) f xs) Q := by
  have key : ∀ xs : List Int, (∀ x, x ∈ xs → ∃ y, f x = .ok y) → ∃ ys : List Int, compR (fun _ : Int => R.ok true) f xs = .ok ys ∧ ys.length = xs.length := fun xs => by
    induction xs with
    | nil => intro _; exact ⟨[], rfl, rfl⟩
    | cons x xs ih =>
      intro h
      obtain ⟨y, e⟩ := h x (List.mem_cons_self ..)
      obtain ⟨ys, e2, l⟩ := ih fun z hz => h z (List.mem_cons_of_mem _ hz)
      refine ⟨y :: ys, ?_, by rw [List.length_cons, List.length_cons, l]⟩
      unfold compR
      rw [e, e2]
      rfl
  obtain ⟨ys, e, l⟩ := key xs h
  exact ⟨ys, e, q ys l⟩
theorem game_ok (x : Scr) (p n e : Int) (hp : 0 ≤ p) (hn : 0 ≤ n ∧ n ≤ 50) : Ok (m__law_game x p n e) fun t => (t.t.1.length : Int) = n ∧ (t.t.2.1.length : Int) = n := by
  unfold m__law_game
  refine Ok.bind ((hands_ok x p n hp hn).imp fun t ⟨h1, h2⟩ => ?_)
  have m7 : ∀ x : Int, ∃ y, R.of (modO x (7 : Int)) = .ok y := fun x => ⟨x % 7, congrArg R.of (optIf_pos (by decide))⟩
  have at0 : ∀ xs : List Int, (xs.length : Int) = n → ∀ x, x ∈ xs → ∃ y, R.of (atI t.t.1 (0 : Int)) = .ok y := fun xs hx x hm => by
    have := List.length_pos_of_mem hm
    obtain ⟨a, e, _⟩ := atI_of (xs := t.t.1) (i := 0) (by omega) (by omega)
    exact ⟨a, by rw [e]; rfl⟩
  refine Ok.ifm (Ok.ok (Ok.ite (fun _ => ?_) fun _ => ?_))
  · refine Ok.bind (Ok.bind (Ok.ok (comp_len (at0 _ h1) fun a ha => ?_)))
    refine Ok.bind (Ok.bind (Ok.ok (comp_len (at0 _ h2) fun b hb => ?_)))
    exact Ok.ok ⟨by show (a.length : Int) = n; omega, by show (b.length : Int) = n; omega⟩
  · refine Ok.ifm (Ok.ok (Ok.ite (fun _ => ?_) fun _ => ?_))
    · refine Ok.bind (Ok.bind (Ok.ok (comp_len (fun x _ => ?_) fun a ha => ?_)))
      · obtain ⟨y, e⟩ := m7 x
        exact ⟨y + 6, by rw [e]; rfl⟩
      · refine Ok.bind (Ok.bind (Ok.ok (comp_len (fun x _ => m7 x) fun b hb => ?_)))
        exact Ok.ok ⟨by show (a.length : Int) = n; omega, by show (b.length : Int) = n; omega⟩
    · refine Ok.ifm (Ok.ok (Ok.ite (fun _ => ?_) fun _ => ?_))
      · refine Ok.bind (Ok.bind (Ok.ok (comp_len (fun x _ => m7 x) fun a ha => ?_)))
        refine Ok.bind (Ok.bind (Ok.ok (comp_len (fun x _ => ?_) fun b hb => ?_)))
        · obtain ⟨y, e⟩ := m7 x
          exact ⟨y + 7, by rw [e]; rfl⟩
        · exact Ok.ok ⟨by show (a.length : Int) = n; omega, by show (b.length : Int) = n; omega⟩
      · exact Ok.ok ⟨h1, h2⟩
abbrev Sm (i : Int) : Prop := -(2 ^ 60) < i ∧ i < 2 ^ 60
theorem raise_one {α : Type} {c : Nat} {i : Int} (h : Sm i) : (R.raise c [enc i] : R α) = .ex ⟨c, [enc i]⟩ := by
  unfold R.raise
  rw [if_pos]
  · rfl
  · show (decide (i.natAbs.log2 < 1920) && true) = true
    rw [log_ok h]
    rfl
theorem raise_three {α : Type} {c : Nat} {i j k : Int} (h : Sm i) (h2 : Sm j) (h3 : Sm k) : (R.raise c [enc i, enc j, enc k] : R α) = .ex ⟨c, [enc k, enc j, enc i]⟩ := by
  unfold R.raise
  rw [if_pos]
  · rfl
  · show (decide (i.natAbs.log2 < 1920) && (decide (j.natAbs.log2 < 1920) && (decide (k.natAbs.log2 < 1920) && true))) = true
    rw [log_ok h, log_ok h2, log_ok h3]
    rfl
theorem neg_fold {f : Int → List Int → R (List Int)} (hf : ∀ (i : Nat) (s : List Int), i < s.length → Ok (f (i : Int) s) fun s' => s'.length = s.length) {a : List Int} {n : Int} (hn : (a.length : Int) = n) {Q : List Int → Prop} (q : ∀ s : List Int, (s.length : Int) = n → Q s) : Ok (foldR f (Pv.rng 0 n) a) Q :=
  Ok.foldRng (fun _ s => (s.length : Int) = n) hn (fun i hi s hs => (hf i s (by omega)).imp fun s' h => by omega) fun s hs => q s hs
end Cm

set_option Elab.async false
set_option linter.all false
set_option maxRecDepth 100000
set_option maxHeartbeats 4000000
/-! ### every pairing lies within the span; pairings drawn and numbered -/
namespace Cm
open PySem PySem.Spec L2 Pv Rot
open Enc (enc)
open Encs (encs)
def m__law_unrank_b1 (x5 : Int) (s6 : Int × (List Int) × (List Int)) : R (Int × (List Int) × (List Int)) :=
  (R.bind (R.of (modO s6.1 (s6.2.2.length : Int))) fun v_x_7 => (R.bind (R.of (divO s6.1 (s6.2.2.length : Int))) fun v_number_8 => (R.bind (R.of (atI s6.2.2 v_x_7)) fun a11 => R.bind (R.of (appL s6.2.1 a11)) fun v_out_9 => (R.bind (R.of (catL (cutL s6.2.2 none (some v_x_7)) (cutL s6.2.2 (some (v_x_7 + (1 : Int))) none))) fun v_free_10 => (R.ok (v_number_8, v_out_9, v_free_10))))))
def m__law_unrank (v_number : Int) (v_count : Int) : R (List Int) :=
  (R.bind (R.bind (R.of (rngO 0 v_count)) fun l2 => R.ok (l2.map fun x1 : Int => x1)) fun v_free_3 => (R.lt ([] : (List Int)) fun v_out_4 => (R.bind (R.of (rngO 0 v_count)) fun l12 => R.bind (foldR m__law_unrank_b1 l12 (v_number, v_out_4, v_free_3)) fun s6 => (R.ok s6.2.1))))
def m__law_factorial_b1 (x2 : Int) (s3 : Int) : R (Int) :=
  (R.bind (R.of (mulO s3 (x2 + (1 : Int)))) fun v_out_4 => (R.ok (v_out_4)))
def m__law_factorial (v_count : Int) : R Int :=
  (R.lt (1 : Int) fun v_out_1 => (R.bind (R.of (rngO 0 v_count)) fun l5 => R.bind (foldR m__law_factorial_b1 l5 (v_out_1)) fun s3 => (R.ok s3)))
section
variable {mine theirs : List Int}
theorem cnt_range {p : Int → Bool} {xs : List Int} {f : Nat → Int} {n : Nat} (h : ((List.range n).map f).Perm xs) : ((List.range n).filter fun m => p (f m)).length = cnt p xs := by
  unfold cnt
  rw [← (h.filter p).length_eq, List.filter_map, List.length_map]
  rfl
theorem list_range (xs : List Int) : (List.range xs.length).map (fun m => xs.getD m 0) = xs := by
  refine List.ext_getElem? fun i => ?_
  rw [List.getElem?_map]
  by_cases h : i < xs.length
  · rw [List.getElem?_range h, List.getElem?_eq_getElem h]
    show some (xs.getD i 0) = _
    rw [getD_at h]
  · rw [List.getElem?_eq_none (by rw [List.length_range]; omega), List.getElem?_eq_none (by omega)]
    rfl
theorem part_perm (h : mine.length = theirs.length) {p : List Int} (hp : IsP mine.length p) : ((List.range mine.length).map fun m => theirs.getD (p.getD m 0).toNat 0).Perm theirs := by
  have e1 : (List.range mine.length).map (fun m => theirs.getD (p.getD m 0).toNat 0) = (p.map Int.toNat).map fun j => theirs.getD j 0 := by
    rw [List.map_map, ← hp.1]
    have := congrArg (List.map ((fun j => theirs.getD j 0) ∘ Int.toNat)) (list_range p)
    rw [List.map_map] at this
    exact this
  rw [e1]
  have e2 := (hp.perm.map Int.toNat).map fun j => theirs.getD j 0
  rw [List.map_map (f := fun i : Nat => (i : Int)), show (Int.toNat ∘ fun i : Nat => (i : Int)) = id from funext fun i => Int.toNat_natCast i, List.map_id] at e2
  rw [h, list_range theirs] at e2
  exact e2
theorem or_count {p q r : Nat → Bool} (h : ∀ m, p m = true → q m = true ∨ r m = true) (L : List Nat) : (L.filter p).length ≤ (L.filter q).length + (L.filter r).length := by
  induction L with
  | nil => exact Nat.le_refl _
  | cons m L ih =>
    rw [List.filter_cons, List.filter_cons, List.filter_cons]
    cases e : p m with
    | false =>
      cases q m <;> cases r m <;> simp <;> omega
    | true =>
      rcases h m e with e2 | e2
      · rw [e2]
        cases r m <;> simp <;> omega
      · rw [e2]
        cases q m <;> simp <;> omega
theorem not_count {p : Nat → Bool} (L : List Nat) : (L.filter p).length + (L.filter fun m => !p m).length = L.length := by
  induction L with
  | nil => rfl
  | cons m L ih =>
    rw [List.filter_cons, List.filter_cons]
    cases p m <;> simp <;> omega
theorem res_lo (h : mine.length = theirs.length) {p : List Int} (hp : IsP mine.length p) : Lo mine.length (bb mine theirs) (res mine theirs p) := by
  intro i hi
  have hi' : i < (mv mine theirs).length := by rw [mv_len]; exact hi
  have e1 : bb mine theirs i = cnt (fun y => decide (y ≤ (mv mine theirs)[i])) theirs := (bv_at hi').trans (cnt_perm tv_perm)
  have e2 := cnt_range (p := fun y => decide (y ≤ (mv mine theirs)[i])) (part_perm h hp)
  have e3 := cnt_range (p := fun y => decide (y < (mv mine theirs)[i])) (f := fun m => mine.getD m 0) (n := mine.length) (by rw [list_range])
  have e4 : cnt (fun y => decide (y < (mv mine theirs)[i])) mine ≤ i := by
    rw [← cnt_perm (mv_perm (mine := mine) (theirs := theirs))]
    rcases Nat.lt_or_ge i (cnt (fun y => decide (y < (mv mine theirs)[i])) (mv mine theirs)) with z | z
    · have := (up_lt mv_up (mv mine theirs)[i] hi').mpr z
      omega
    · exact z
  rw [e1, ← e2]
  refine Nat.le_trans (or_count (q := fun m => decide (mine.getD m 0 < (mv mine theirs)[i])) (r := fun m => decide (theirs.getD (p.getD m 0).toNat 0 ≤ mine.getD m 0)) (fun m hm => ?_) _) (by unfold res; omega)
  rw [decide_eq_true_iff] at hm
  rw [decide_eq_true_iff, decide_eq_true_iff]
  omega
theorem res_hi (h : mine.length = theirs.length) {p : List Int} (hp : IsP mine.length p) : Hi mine.length (bb mine theirs) (res mine theirs p) := by
  intro i hi
  have hi' : i < (mv mine theirs).length := by rw [mv_len]; exact hi
  have e1 : bb mine theirs i = cnt (fun y => decide (y ≤ (mv mine theirs)[i])) theirs := (bv_at hi').trans (cnt_perm tv_perm)
  have e2 := cnt_range (p := fun y => decide (y ≤ (mv mine theirs)[i])) (part_perm h hp)
  have e3 := cnt_range (p := fun y => decide (y ≤ (mv mine theirs)[i])) (f := fun m => mine.getD m 0) (n := mine.length) (by rw [list_range])
  have e4 : i < cnt (fun y => decide (y ≤ (mv mine theirs)[i])) mine := by
    rw [← cnt_perm (mv_perm (mine := mine) (theirs := theirs))]
    exact (up_le mv_up (mv mine theirs)[i] hi').mp (Int.le_refl _)
  have e5 := or_count (p := fun m => decide (mine.getD m 0 ≤ (mv mine theirs)[i])) (q := fun m => decide (theirs.getD (p.getD m 0).toNat 0 ≤ (mv mine theirs)[i])) (r := fun m => !decide (theirs.getD (p.getD m 0).toNat 0 ≤ mine.getD m 0)) (fun m hm => by
    rw [decide_eq_true_iff] at hm
    rw [decide_eq_true_iff, Bool.not_eq_true', decide_eq_false_iff_not]
    omega) (List.range mine.length)
  have e6 := not_count (p := fun m => decide (theirs.getD (p.getD m 0).toNat 0 ≤ mine.getD m 0)) (List.range mine.length)
  rw [List.length_range] at e6
  rw [e1]
  unfold res
  omega
theorem res_le {p : List Int} : res mine theirs p ≤ mine.length := by
  unfold res
  have := List.length_filter_le (fun m => decide (theirs.getD (p.getD m 0).toNat 0 ≤ mine.getD m 0)) (List.range mine.length)
  rwa [List.length_range] at this
theorem res_span (h : mine.length = theirs.length) {p : List Int} (hp : IsP mine.length p) {L M : Int} (hL : IsLo mine theirs L) (hM : IsHi mine theirs M) : L ≤ res mine theirs p ∧ (res mine theirs p : Int) ≤ M :=
  ⟨(hL.i _).mpr (res_lo h hp), (hM.i _ res_le).mpr (res_hi h hp)⟩
theorem lo_le_hi (h : mine.length = theirs.length) {L M : Int} (hL : IsLo mine theirs L) (hM : IsHi mine theirs M) : L ≤ M := by
  obtain ⟨a, b⟩ := res_span h (range_int mine.length) hL hM
  omega
theorem res_ok (h : mine.length = theirs.length) (hl : mine.length ≤ 1000) {p : List Int} (hp : IsP mine.length p) : m__law_result mine theirs p = .ok (res mine theirs p : Int) :=
  result_is hp.1 hl fun x hx => by have := hp.2.2 x hx; omega
/-- the rotation is a pairing -/
theorem rotP_isP (h : mine.length = theirs.length) {r : Nat} (hr : r ≤ mine.length) : IsP mine.length (rotP mine theirs r) := by
  have hM := Ms_isP (mine := mine) (theirs := theirs)
  have hT := Ts_isP (mine := mine) (theirs := theirs)
  have tl : ((Ts mine theirs).map idx).length = mine.length := by rw [List.length_map, Ts_len, h]
  have key : ∀ k, k < mine.length → (rotP mine theirs r)[(((Ms mine theirs).map idx).getD k 0).toNat]? = some ((rot ((Ts mine theirs).map idx) r).getD k 0) := fun k hk => setAll_get hM mine.length (Nat.le_refl _) k hk
  have hR : IsP mine.length (rot ((Ts mine theirs).map idx) r) := by
    have hperm : (rot ((Ts mine theirs).map idx) r).Perm ((Ts mine theirs).map idx) := by
      unfold rot
      have := List.perm_append_comm (l₁ := ((Ts mine theirs).map idx).drop r) (l₂ := ((Ts mine theirs).map idx).take r)
      rwa [List.take_append_drop] at this
    have := hperm.trans hT.perm
    rw [← h] at this
    exact isP_of this
  have onto : ∀ j, j < mine.length → ∃ k, k < mine.length ∧ (((Ms mine theirs).map idx).getD k 0).toNat = j := fun j hj => by
    have hjm : (j : Int) ∈ (Ms mine theirs).map idx := hM.perm.mem_iff.mpr (List.mem_map.mpr ⟨j, List.mem_range.mpr hj, rfl⟩)
    obtain ⟨k, hk, ek⟩ := List.getElem_of_mem hjm
    exact ⟨k, by rw [hM.1] at hk; exact hk, by rw [getD_at hk, ek, Int.toNat_natCast]⟩
  refine ⟨rotP_len, ?_, fun x hx => by have := rotP_mem h hr x hx; omega⟩
  refine List.pairwise_iff_getElem.mpr fun i j hi hj ij e => ?_
  have hi' : i < mine.length := by rw [rotP_len] at hi; exact hi
  have hj' : j < mine.length := by rw [rotP_len] at hj; exact hj
  obtain ⟨k1, h1, e1⟩ := onto i hi'
  obtain ⟨k2, h2, e2⟩ := onto j hj'
  have z1 := key k1 h1
  have z2 := key k2 h2
  rw [e1, List.getElem?_eq_getElem hi] at z1
  rw [e2, List.getElem?_eq_getElem hj] at z2
  have z := (Option.some.inj z1).symm.trans (e.trans (Option.some.inj z2))
  have := hR.inj h1 h2 z
  subst this
  omega
end
theorem sub_len {α : Type} [BEq α] [LawfulBEq α] : ∀ {xs ys : List α}, xs.Nodup → (∀ x, x ∈ xs → x ∈ ys) → xs.length ≤ ys.length
  | [], ys, _, _ => Nat.zero_le _
  | x :: xs, ys, h1, h2 => by
    obtain ⟨n1, n2⟩ := List.nodup_cons.mp h1
    have hx := h2 x (List.mem_cons_self ..)
    have ih := sub_len (ys := ys.erase x) n2 fun y hy => (List.mem_erase_of_ne (fun e : y = x => n1 (e ▸ hy))).mpr (h2 y (List.mem_cons_of_mem _ hy))
    have := List.length_erase_of_mem hx
    have := List.length_pos_of_mem hx
    rw [List.length_cons]
    omega
/-! #### numbered -/
theorem perm_erase {α : Type} {xs : List α} {i : Nat} (h : i < xs.length) : (xs[i] :: xs.eraseIdx i).Perm xs := by
  have e : xs.take i ++ xs[i] :: xs.drop (i + 1) = xs := by rw [List.getElem_cons_drop, List.take_append_drop]
  rw [List.eraseIdx_eq_take_drop_succ]
  have := (List.perm_middle (a := xs[i]) (l₁ := xs.take i) (l₂ := xs.drop (i + 1))).symm
  rwa [e] at this
def unr : Nat → List Int → Nat → List Int
  | 0, _, _ => []
  | n + 1, free, k => free.getD (k % free.length) 0 :: unr n (free.eraseIdx (k % free.length)) (k / free.length)
theorem unr_perm : ∀ (n : Nat) (free : List Int) (k : Nat), free.length = n → (unr n free k).Perm free
  | 0, free, k, h => by
    have : free = [] := List.length_eq_zero_iff.mp h
    subst this
    exact .refl _
  | n + 1, free, k, h => by
    have hk : k % free.length < free.length := Nat.mod_lt _ (by omega)
    unfold unr
    rw [getD_at hk]
    have ih := unr_perm n (free.eraseIdx (k % free.length)) (k / free.length) (by rw [List.length_eraseIdx_of_lt hk]; omega)
    exact (ih.cons _).trans (perm_erase hk)
def fact : Nat → Nat
  | 0 => 1
  | n + 1 => fact n * (n + 1)
theorem fact_pos : ∀ n, 0 < fact n
  | 0 => Nat.one_pos
  | n + 1 => Nat.mul_pos (fact_pos n) (Nat.succ_pos n)
theorem unr_onto : ∀ (n : Nat) (free p : List Int), free.length = n → p.Perm free → ∃ k, k < fact n ∧ unr n free k = p
  | 0, free, p, h, hp => by
    have : free = [] := List.length_eq_zero_iff.mp h
    subst this
    exact ⟨0, Nat.one_pos, (List.Perm.eq_nil hp).symm⟩
  | n + 1, free, [], h, hp => by
    have := hp.length_eq
    rw [h] at this
    cases this
  | n + 1, free, a :: p, h, hp => by
    have ha : a ∈ free := hp.mem_iff.mp (List.mem_cons_self ..)
    obtain ⟨x, hx, ex⟩ := List.getElem_of_mem ha
    have h1 : p.Perm (free.eraseIdx x) := by
      have := hp.trans (perm_erase hx).symm
      rw [ex] at this
      exact List.Perm.cons_inv this
    obtain ⟨k, hk, e⟩ := unr_onto n (free.eraseIdx x) p (by rw [List.length_eraseIdx_of_lt hx]; omega) h1
    refine ⟨k * (n + 1) + x, ?_, ?_⟩
    · show _ < fact n * (n + 1)
      have : (k + 1) * (n + 1) ≤ fact n * (n + 1) := Nat.mul_le_mul_right _ hk
      rw [Nat.add_mul] at this
      omega
    · unfold unr
      have e1 : (k * (n + 1) + x) % free.length = x := by
        rw [h, Nat.add_comm, Nat.add_mul_mod_self_right, Nat.mod_eq_of_lt (by omega)]
      have e2 : (k * (n + 1) + x) / free.length = k := by
        rw [h, Nat.add_comm, Nat.add_mul_div_right _ _ (Nat.succ_pos n), Nat.div_eq_of_lt (by omega), Nat.zero_add]
      rw [e1, e2, e, getD_at hx, ex]
theorem fact_is {n : Nat} (h : n ≤ 12) : m__law_factorial (n : Int) = .ok (fact n : Int) := by
  unfold m__law_factorial
  refine Ok.get (Ok.lt (Ok.bind (Ok.range ⟨by omega, by omega, by omega, by omega, by omega⟩ (Ok.bind (Ok.foldRng (fun i s => s = (fact i : Int)) rfl (fun i hi s hs => ?_) fun s hs => Ok.ok (by rw [hs, Int.toNat_natCast]))))))
  subst hs
  unfold m__law_factorial_b1
  refine Ok.bind (Ok.mul (.inr ⟨by omega, by omega⟩) (Ok.ok ?_))
  show (fact i : Int) * ((i : Int) + 1) = ((fact i * (i + 1) : Nat) : Int)
  rw [Int.natCast_mul]
  rfl
theorem cut_erase {free : List Int} {x : Nat} (hx : x < free.length) (hl : free.length ≤ 1000) : catL (cutL free none (some (x : Int))) (cutL free (some ((x : Int) + 1)) none) = some (free.eraseIdx x) := by
  rw [cutL_to (by omega), cutL_from (by omega), List.eraseIdx_eq_take_drop_succ, Int.toNat_natCast, show ((x : Int) + 1).toNat = x + 1 by omega]
  refine if_pos ?_
  rw [List.length_take, List.length_drop]
  have := limv
  omega
theorem rngN {n : Nat} : (Pv.rng 0 (n : Int)).map (fun x : Int => x) = (List.range n).map fun i : Nat => (i : Int) := by
  rw [rng_nat, List.map_id']
theorem unrank_is {n k : Nat} (h : n ≤ 100) : m__law_unrank (k : Int) (n : Int) = .ok (unr n ((List.range n).map fun i : Nat => (i : Int)) k) := by
  unfold m__law_unrank
  have fl : ((List.range n).map fun i : Nat => (i : Int)).length = n := by rw [List.length_map, List.length_range]
  refine Ok.get (Ok.bind (Ok.bind (Ok.range ⟨by omega, by omega, by omega, by omega, by omega⟩ (Ok.ok (Ok.lt (Ok.bind (Ok.range ⟨by omega, by omega, by omega, by omega, by omega⟩ (Ok.bind ?_))))))))
  rw [rngN]
  refine Ok.foldRng (fun i s => ∃ k' : Nat, s.1 = (k' : Int) ∧ s.2.2.length = n - i ∧ s.2.1.length = i ∧ s.2.1 ++ unr (n - i) s.2.2 k' = unr n ((List.range n).map fun i : Nat => (i : Int)) k) ⟨k, rfl, by rw [fl, Nat.sub_zero], rfl, by rw [Nat.sub_zero]; rfl⟩ (fun i hi s hs => ?_) fun s hs => ?_
  · obtain ⟨k', h1, h2, h3, h4⟩ := hs
    obtain ⟨s1, s2, s3⟩ := s
    dsimp only at h1 h2 h3 h4
    have hi' : i < n := by omega
    have hm : k' % s3.length < s3.length := Nat.mod_lt _ (by omega)
    have e1 : ((k' : Int) % (s3.length : Int)) = ((k' % s3.length : Nat) : Int) := rfl
    have e2 : ((k' : Int) / (s3.length : Int)) = ((k' / s3.length : Nat) : Int) := rfl
    unfold m__law_unrank_b1
    rw [h1]
    refine Ok.bind (Ok.mod (by show (0 : Int) < s3.length; omega) ?_)
    refine Ok.bind (Ok.div (by show (0 : Int) < s3.length; omega) ?_ ?_)
    · show (s3.length : Int) < 2 ^ 4000
      exact Int.lt_of_le_of_lt (show (s3.length : Int) ≤ 100 by omega) (by decide +kernel)
    dsimp only
    rw [e1, e2]
    refine Ok.bind (Ok.of (atI_nat (List.getElem?_eq_getElem hm)) (Ok.bind (Ok.app (by have := limv; omega) ?_)))
    rw [cut_erase hm (by omega)]
    refine Ok.bind (Ok.ok (Ok.ok ⟨k' / s3.length, rfl, ?_, ?_, ?_⟩))
    · show (s3.eraseIdx _).length = _
      rw [List.length_eraseIdx_of_lt hm, h2]
      omega
    · show (s2 ++ [_]).length = _
      rw [List.length_append, List.length_singleton, h3]
    · show (s2 ++ [s3[k' % s3.length]]) ++ unr (n - (i + 1)) _ _ = _
      rw [← h4, show n - i = (n - (i + 1)) + 1 by omega]
      show _ = s2 ++ (s3.getD (k' % s3.length) 0 :: unr (n - (i + 1)) (s3.eraseIdx (k' % s3.length)) (k' / s3.length))
      rw [getD_at hm, List.append_assoc]
      rfl
  · obtain ⟨k', h1, h2, h3, h4⟩ := hs
    refine Ok.ok ?_
    rw [Int.toNat_natCast, Nat.sub_self] at h4
    rw [← h4]
    show s.2.1 = s.2.1 ++ []
    rw [List.append_nil]
theorem unr_isP {n k : Nat} : IsP n (unr n ((List.range n).map fun i : Nat => (i : Int)) k) := isP_of (unr_perm n _ k (by rw [List.length_map, List.length_range]))
/-! #### drawn -/
theorem pairing_ok (c : Int) {n : Int} (h : 0 ≤ n ∧ n ≤ 100) : Ok (m__law_pairing c n) (IsP n.toNat) := by
  unfold m__law_pairing
  refine Ok.bind (Ok.bind (Ok.range ⟨by omega, by omega, by omega, by omega, by omega⟩ (Ok.ok (Ok.lt (Ok.bind (Ok.bind (Ok.bind (Ok.range ⟨by omega, by omega, by omega, by omega, by omega⟩ (Ok.ok ?_)))))))))
  have rl : ((Pv.rng 0 n).map fun x5 : Int => n - x5).length = n.toNat := by rw [List.length_map, rng_len]; omega
  refine (draws_ok c _ (by omega) (fun z hz => ?_)).imp fun out ho => ?_
  · obtain ⟨x, hx, rfl⟩ := List.mem_map.mp hz
    unfold Pv.rng at hx
    obtain ⟨j, hj, rfl⟩ := List.mem_map.mp hx
    have := List.mem_range.mp hj
    omega
  have en : ((n.toNat : Nat) : Int) = n := by omega
  have e0 : (Pv.rng 0 n).map (fun x : Int => x) = (List.range n.toNat).map fun i : Nat => (i : Int) := by
    have := rngN (n := n.toNat)
    rwa [en] at this
  rw [e0]
  have ol : out.length = n.toNat := by rw [ho.1, rl]
  have fl : ((List.range n.toNat).map fun i : Nat => (i : Int)).length = n.toNat := by rw [List.length_map, List.length_range]
  refine Ok.bind (Ok.fold (fun i s => s.1.length = i ∧ s.2.length = n.toNat - i ∧ (s.1 ++ s.2).Perm ((List.range n.toNat).map fun i : Nat => (i : Int))) ⟨rfl, by rw [fl, Nat.sub_zero], .refl _⟩ (fun i hi s hs => ?_) fun s hs => Ok.ok ?_)
  · obtain ⟨s1, s2⟩ := s
    obtain ⟨h1, h2, h3⟩ := hs
    dsimp only at h1 h2 h3
    have hi' : i < n.toNat := by omega
    have ez : ((Pv.rng 0 n).map fun x5 : Int => n - x5)[i]? = some (n - (i : Int)) := by
      rw [List.getElem?_map]
      unfold Pv.rng
      rw [List.getElem?_map, List.getElem?_range (by omega)]
      show some (n - (0 + (i : Int))) = _
      congr 1
      omega
    obtain ⟨d0, d1⟩ := ho.2 i out[i] (n - (i : Int)) (List.getElem?_eq_getElem hi) ez
    have hx : (out[i]).toNat < s2.length := by omega
    have ex : (((out[i]).toNat : Nat) : Int) = out[i] := by omega
    unfold m__law_pairing_b1
    rw [← ex]
    refine Ok.bind (Ok.of (atI_nat (List.getElem?_eq_getElem hx)) (Ok.bind (Ok.app (by have := limv; show s1.length < LIM; omega) ?_)))
    dsimp only
    rw [cut_erase hx (by omega)]
    refine Ok.bind (Ok.ok (Ok.ok ⟨?_, ?_, ?_⟩))
    · show (s1 ++ [_]).length = _
      rw [List.length_append, List.length_singleton, h1]
    · show (s2.eraseIdx _).length = _
      rw [List.length_eraseIdx_of_lt hx, h2]
      omega
    · refine List.Perm.trans ?_ h3
      show ((s1 ++ [s2[(out[i]).toNat]]) ++ s2.eraseIdx _).Perm _
      rw [List.append_assoc]
      exact List.Perm.append_left s1 (perm_erase hx)
  · obtain ⟨h1, h2, h3⟩ := hs
    rw [ol] at h2
    have e : s.2 = [] := List.length_eq_zero_iff.mp (by omega)
    rw [e, List.append_nil] at h3
    exact isP_of h3
/-- sorted, a pairing is 0 to n - 1 -/
theorem sort_isP {n : Nat} {p : List Int} (h : IsP n p) : sortI p = (List.range n).map fun i : Nat => (i : Int) := by
  refine sorted_one ((sortI_perm p).trans h.perm) (sortI_le p) ?_
  refine List.pairwise_map.mpr ((List.pairwise_lt_range (n := n)).imp fun {a b} h => ?_)
  show (a : Int) ≤ b
  omega
end Cm

set_option Elab.async false
set_option linter.all false
set_option maxRecDepth 100000
set_option maxHeartbeats 4000000
namespace K16
open PySem PySem.Spec L2 Pv
open Enc (enc)
open Encs (encs)
def topS (i : Nat) : Stmt := PySem.Challenge.pw_climbrow_k16_whole_span_of_all_pairings.main.body.getD i (.Pass ⟨0, 0, 0, 0⟩)
structure O_Span where
  least : Int
  most : Int
instance : Enc O_Span := ⟨fun o => .obj 14 [enc o.least, enc o.most]⟩
abbrev s_Span__add__ : Stmt := inClass (topS 28) 2
abbrev N_Span__add__ : List Str := ["self", "other"]
theorem sc_Span__add__ : FnScope N_Span__add__ ["self", "other"] (defScope s_Span__add__) := ⟨rfl, rfl, rfl, by decide +kernel, rfl, by decide +kernel, by decide +kernel⟩
abbrev s_Span__contains__ : Stmt := inClass (topS 28) 3
abbrev N_Span__contains__ : List Str := ["self", "number"]
theorem sc_Span__contains__ : FnScope N_Span__contains__ ["self", "number"] (defScope s_Span__contains__) := ⟨rfl, rfl, rfl, by decide +kernel, rfl, by decide +kernel, by decide +kernel⟩
abbrev s_check_hands : Stmt := topS 16
abbrev N_check_hands : List Str := ["mine", "theirs"]
theorem sc_check_hands : FnScope N_check_hands ["mine", "theirs"] (defScope s_check_hands) := ⟨rfl, rfl, rfl, by decide +kernel, rfl, by decide +kernel, by decide +kernel⟩
abbrev s_check_place : Stmt := topS 17
abbrev N_check_place : List Str := ["place", "lowest", "highest"]
theorem sc_check_place : FnScope N_check_place ["place", "lowest", "highest"] (defScope s_check_place) := ⟨rfl, rfl, rfl, by decide +kernel, rfl, by decide +kernel, by decide +kernel⟩
abbrev s_deck : Stmt := topS 19
abbrev N_deck : List Str := ["mine", "theirs", "keys", "index", "number", "_", "mark"]
theorem sc_deck : FnScope N_deck ["mine", "theirs"] (defScope s_deck) := ⟨rfl, rfl, rfl, by decide +kernel, rfl, by decide +kernel, by decide +kernel⟩
abbrev s_side_order : Stmt := topS 20
abbrev N_side_order : List Str := ["mine", "theirs", "side", "whose", "index"]
theorem sc_side_order : FnScope N_side_order ["mine", "theirs", "side"] (defScope s_side_order) := ⟨rfl, rfl, rfl, by decide +kernel, rfl, by decide +kernel, by decide +kernel⟩
abbrev s_rotation : Stmt := topS 22
abbrev N_rotation : List Str := ["mine", "theirs", "r", "my_order", "their_order", "pairing", "m", "t"]
theorem sc_rotation : FnScope N_rotation ["mine", "theirs", "r"] (defScope s_rotation) := ⟨rfl, rfl, rfl, by decide +kernel, rfl, by decide +kernel, by decide +kernel⟩
abbrev s_heights : Stmt := topS 24
abbrev N_heights : List Str := ["mine", "theirs", "found", "side", "_"]
theorem sc_heights : FnScope N_heights ["mine", "theirs"] (defScope s_heights) := ⟨rfl, rfl, rfl, by decide +kernel, rfl, by decide +kernel, by decide +kernel⟩
abbrev s_peak : Stmt := topS 25
abbrev N_peak : List Str := ["mine", "theirs"]
theorem sc_peak : FnScope N_peak ["mine", "theirs"] (defScope s_peak) := ⟨rfl, rfl, rfl, by decide +kernel, rfl, by decide +kernel, by decide +kernel⟩
abbrev s_valley : Stmt := topS 26
abbrev N_valley : List Str := ["mine", "theirs"]
theorem sc_valley : FnScope N_valley ["mine", "theirs"] (defScope s_valley) := ⟨rfl, rfl, rfl, by decide +kernel, rfl, by decide +kernel, by decide +kernel⟩
abbrev s_least : Stmt := topS 29
abbrev N_least : List Str := ["mine", "theirs"]
theorem sc_least : FnScope N_least ["mine", "theirs"] (defScope s_least) := ⟨rfl, rfl, rfl, by decide +kernel, rfl, by decide +kernel, by decide +kernel⟩
abbrev s_most : Stmt := topS 30
abbrev N_most : List Str := ["mine", "theirs"]
theorem sc_most : FnScope N_most ["mine", "theirs"] (defScope s_most) := ⟨rfl, rfl, rfl, by decide +kernel, rfl, by decide +kernel, by decide +kernel⟩
abbrev s_span_of : Stmt := topS 31
abbrev N_span_of : List Str := ["mine", "theirs"]
theorem sc_span_of : FnScope N_span_of ["mine", "theirs"] (defScope s_span_of) := ⟨rfl, rfl, rfl, by decide +kernel, rfl, by decide +kernel, by decide +kernel⟩
abbrev s_pairing_with : Stmt := topS 32
abbrev N_pairing_with : List Str := ["mine", "theirs", "wanted", "span"]
theorem sc_pairing_with : FnScope N_pairing_with ["mine", "theirs", "wanted"] (defScope s_pairing_with) := ⟨rfl, rfl, rfl, by decide +kernel, rfl, by decide +kernel, by decide +kernel⟩
abbrev s__law_cell : Stmt := topS 34
abbrev N__law_cell : List Str := ["_law_script", "_law_k"]
theorem sc__law_cell : FnScope N__law_cell ["_law_script", "_law_k"] (defScope s__law_cell) := ⟨rfl, rfl, rfl, by decide +kernel, rfl, by decide +kernel, by decide +kernel⟩
abbrev s__law_draws : Stmt := topS 35
abbrev N__law_draws : List Str := ["_law_cell_here", "_law_sizes", "_law_digits", "_law_great", "_law_first", "_law_out", "_law_k", "_law_mixed"]
theorem sc__law_draws : FnScope N__law_draws ["_law_cell_here", "_law_sizes"] (defScope s__law_draws) := ⟨rfl, rfl, rfl, by decide +kernel, rfl, by decide +kernel, by decide +kernel⟩
abbrev s__law_hand : Stmt := topS 36
abbrev N__law_hand : List Str := ["_law_cell_here", "_law_count", "_law_kind", "_law_x", "_law_k"]
theorem sc__law_hand : FnScope N__law_hand ["_law_cell_here", "_law_count", "_law_kind"] (defScope s__law_hand) := ⟨rfl, rfl, rfl, by decide +kernel, rfl, by decide +kernel, by decide +kernel⟩
abbrev s__law_hands : Stmt := topS 37
abbrev N__law_hands : List Str := ["_law_script", "_law_at", "_law_count", "_law_shape", "_law_mine", "_law_theirs", "_law_x"]
theorem sc__law_hands : FnScope N__law_hands ["_law_script", "_law_at", "_law_count"] (defScope s__law_hands) := ⟨rfl, rfl, rfl, by decide +kernel, rfl, by decide +kernel, by decide +kernel⟩
abbrev s__law_pairing : Stmt := topS 38
abbrev N__law_pairing : List Str := ["_law_cell_here", "_law_count", "_law_free", "_law_out", "_law_x", "_law_k"]
theorem sc__law_pairing : FnScope N__law_pairing ["_law_cell_here", "_law_count"] (defScope s__law_pairing) := ⟨rfl, rfl, rfl, by decide +kernel, rfl, by decide +kernel, by decide +kernel⟩
abbrev s__law_is_int : Stmt := topS 39
abbrev N__law_is_int : List Str := ["_law_x"]
theorem sc__law_is_int : FnScope N__law_is_int ["_law_x"] (defScope s__law_is_int) := ⟨rfl, rfl, rfl, by decide +kernel, rfl, by decide +kernel, by decide +kernel⟩
abbrev s__law_is_ints : Stmt := topS 40
abbrev N__law_is_ints : List Str := ["_law_xs", "_law_x"]
theorem sc__law_is_ints : FnScope N__law_is_ints ["_law_xs"] (defScope s__law_is_ints) := ⟨rfl, rfl, rfl, by decide +kernel, rfl, by decide +kernel, by decide +kernel⟩
abbrev s__law_is_pairing : Stmt := topS 41
abbrev N__law_is_pairing : List Str := ["_law_xs", "_law_count", "_law_k"]
theorem sc__law_is_pairing : FnScope N__law_is_pairing ["_law_xs", "_law_count"] (defScope s__law_is_pairing) := ⟨rfl, rfl, rfl, by decide +kernel, rfl, by decide +kernel, by decide +kernel⟩
abbrev s__law_result : Stmt := topS 42
abbrev N__law_result : List Str := ["_law_mine", "_law_theirs", "_law_pairing_here", "_law_m"]
theorem sc__law_result : FnScope N__law_result ["_law_mine", "_law_theirs", "_law_pairing_here"] (defScope s__law_result) := ⟨rfl, rfl, rfl, by decide +kernel, rfl, by decide +kernel, by decide +kernel⟩
abbrev s__law_least : Stmt := topS 43
abbrev N__law_least : List Str := ["_law_mine", "_law_theirs", "_law_best", "_law_x", "_law_y"]
theorem sc__law_least : FnScope N__law_least ["_law_mine", "_law_theirs"] (defScope s__law_least) := ⟨rfl, rfl, rfl, by decide +kernel, rfl, by decide +kernel, by decide +kernel⟩
abbrev s__law_most : Stmt := topS 44
abbrev N__law_most : List Str := ["_law_mine", "_law_theirs", "_law_worst", "_law_x", "_law_y"]
theorem sc__law_most : FnScope N__law_most ["_law_mine", "_law_theirs"] (defScope s__law_most) := ⟨rfl, rfl, rfl, by decide +kernel, rfl, by decide +kernel, by decide +kernel⟩
abbrev s__law_unrank : Stmt := topS 45
abbrev N__law_unrank : List Str := ["_law_number", "_law_count", "_law_free", "_law_out", "_law_k", "_law_x"]
theorem sc__law_unrank : FnScope N__law_unrank ["_law_number", "_law_count"] (defScope s__law_unrank) := ⟨rfl, rfl, rfl, by decide +kernel, rfl, by decide +kernel, by decide +kernel⟩
abbrev s__law_factorial : Stmt := topS 46
abbrev N__law_factorial : List Str := ["_law_count", "_law_out", "_law_k"]
theorem sc__law_factorial : FnScope N__law_factorial ["_law_count"] (defScope s__law_factorial) := ⟨rfl, rfl, rfl, by decide +kernel, rfl, by decide +kernel, by decide +kernel⟩
abbrev s__law_game : Stmt := topS 47
abbrev N__law_game : List Str := ["_law_script", "_law_at", "_law_count", "_law_edge", "_law_hands_here", "_law_x"]
theorem sc__law_game : FnScope N__law_game ["_law_script", "_law_at", "_law_count", "_law_edge"] (defScope s__law_game) := ⟨rfl, rfl, rfl, by decide +kernel, rfl, by decide +kernel, by decide +kernel⟩
abbrev s__law_reached : Stmt := topS 48
abbrev N__law_reached : List Str := ["_law_mine", "_law_theirs", "_law_out", "_law_number", "_law_hits"]
theorem sc__law_reached : FnScope N__law_reached ["_law_mine", "_law_theirs"] (defScope s__law_reached) := ⟨rfl, rfl, rfl, by decide +kernel, rfl, by decide +kernel, by decide +kernel⟩
abbrev s_Span_width : Stmt := inClass (topS 28) 1
abbrev N_Span_width : List Str := ["self"]
theorem sc_Span_width : FnScope N_Span_width ["self"] (defScope s_Span_width) := ⟨rfl, rfl, rfl, by decide +kernel, rfl, by decide +kernel, by decide +kernel⟩
abbrev s__law_fits : Stmt := topS 49
abbrev N__law_fits : List Str := ["_law_span", "_law_lowest", "_law_highest", "_law_x"]
theorem sc__law_fits : FnScope N__law_fits ["_law_span", "_law_lowest", "_law_highest"] (defScope s__law_fits) := ⟨rfl, rfl, rfl, by decide +kernel, rfl, by decide +kernel, by decide +kernel⟩
abbrev s__law_sums : Stmt := topS 50
abbrev N__law_sums : List Str := ["_law_span", "_law_lowest", "_law_highest", "_law_picks", "_law_low", "_law_high", "_law_other"]
theorem sc__law_sums : FnScope N__law_sums ["_law_span", "_law_lowest", "_law_highest", "_law_picks"] (defScope s__law_sums) := ⟨rfl, rfl, rfl, by decide +kernel, rfl, by decide +kernel, by decide +kernel⟩
abbrev s__law_call : Stmt := topS 51
abbrev N__law_call : List Str := ["_law_way", "_law_a", "_law_b"]
theorem sc__law_call : FnScope N__law_call ["_law_way", "_law_a", "_law_b"] (defScope s__law_call) := ⟨rfl, rfl, rfl, by decide +kernel, rfl, by decide +kernel, by decide +kernel⟩
abbrev s__law_asked : Stmt := topS 52
abbrev N__law_asked : List Str := ["_law_a", "_law_b", "_law_mine", "_law_theirs", "_law_lowest", "_law_highest", "_law_way", "_law_told"]
theorem sc__law_asked : FnScope N__law_asked ["_law_a", "_law_b"] (defScope s__law_asked) := ⟨rfl, rfl, rfl, by decide +kernel, rfl, by decide +kernel, by decide +kernel⟩
abbrev s__law_unlike : Stmt := topS 53
abbrev N__law_unlike : List Str := ["_law_way", "_law_mine", "_law_theirs", "_law_a", "_law_b", "e"]
theorem sc__law_unlike : FnScope N__law_unlike ["_law_way", "_law_mine", "_law_theirs"] (defScope s__law_unlike) := ⟨rfl, rfl, rfl, by decide +kernel, rfl, by decide +kernel, by decide +kernel⟩
abbrev s__law_ends : Stmt := topS 54
abbrev N__law_ends : List Str := ["_law_mine", "_law_theirs", "_law_lowest", "_law_highest", "_law_due", "_law_told"]
theorem sc__law_ends : FnScope N__law_ends ["_law_mine", "_law_theirs", "_law_lowest", "_law_highest"] (defScope s__law_ends) := ⟨rfl, rfl, rfl, by decide +kernel, rfl, by decide +kernel, by decide +kernel⟩
abbrev s_law : Stmt := topS 55
abbrev N_law : List Str := ["_law_script", "_law_shape", "_law_count", "_law_hands_here", "_law_mine", "_law_theirs", "_law_lowest", "_law_highest", "_law_k", "_law_a", "_law_b", "_law_cut", "_law_way"]
theorem sc_law : FnScope N_law ["_law_script"] (defScope s_law) := ⟨rfl, rfl, rfl, by decide +kernel, rfl, by decide +kernel, by decide +kernel⟩
def m_Span__add__ (v_self : O_Span) (v_other : O_Span) : R O_Span :=
  (R.ok (O_Span.mk (v_self.least + v_other.least) (v_self.most + v_other.most)))
def m_Span__contains__ (v_self : O_Span) (v_number : Int) : R Bool :=
  (R.ok ((decide (v_self.least ≤ v_number)) && (decide (v_number ≤ v_self.most))))
def m_check_hands (v_mine : (List Int)) (v_theirs : (List Int)) : R Unit :=
  (R.ifm (R.ok (!decide ((v_mine.length : Int) = (v_theirs.length : Int)))) (R.raise 1 [enc ((v_mine.length : Int) : Int), enc ((v_theirs.length : Int) : Int)]) (R.ok ()))
def m_check_place (v_place : Int) (v_lowest : Int) (v_highest : Int) : R Unit :=
  (R.ifm (R.ok (!((decide (v_lowest ≤ v_place)) && (decide (v_place ≤ v_highest))))) (R.raise 5 [enc (v_place : Int)]) (R.ok ()))
def m_deck (v_mine : (List Int)) (v_theirs : (List Int)) : R (List (Tp (Str × Int × Unit))) :=
  (R.lt ((enumF v_theirs).map fun x1 : (Tp (Int × Int × Unit)) => (Tp.mk (x1.t.2.1, (0 : Int), x1.t.1, ()) : (Tp (Int × Int × Int × Unit)))) fun v_keys_2 => (R.bind (R.of (catL v_keys_2 ((enumF v_mine).map fun x4 : (Tp (Int × Int × Unit)) => (Tp.mk (x4.t.2.1, (1 : Int), x4.t.1, ()) : (Tp (Int × Int × Int × Unit)))))) fun v_keys_5 => (R.ok ((sortT v_keys_5).map fun x6 : (Tp (Int × Int × Int × Unit)) => (Tp.mk ((if (decide (x6.t.2.1 = (1 : Int))) then (PySem.Str.ofString "mine") else (PySem.Str.ofString "theirs")), x6.t.2.2.1, ()) : (Tp (Str × Int × Unit)))))))
def m_side_order (v_mine : (List Int)) (v_theirs : (List Int)) (v_side : Str) : R (List Int) :=
  (R.bind (m_deck v_mine v_theirs) fun l2 => R.ok ((l2.filter fun x1 : (Tp (Str × Int × Unit)) => (decide (x1.t.1 = v_side))).map fun x1 : (Tp (Str × Int × Unit)) => x1.t.2.1))
def m_rotation_b1 (x6 : (Tp (Int × Int × Unit))) (s7 : (List Int)) : R ((List Int)) :=
  (R.bind (R.ok x6.t.2.1) fun a9 => R.bind (R.ok x6.t.1) fun j10 => R.bind (R.of (setL s7 j10 a9)) fun v_pairing_8 => (R.ok (v_pairing_8)))
def m_rotation (v_mine : (List Int)) (v_theirs : (List Int)) (v_r : Int) : R (List Int) :=
  (R.bind (m_check_hands v_mine v_theirs) fun _ => (R.bind (m_check_place v_r (0 : Int) (v_mine.length : Int)) fun _ => (R.bind ((m_side_order v_mine v_theirs (PySem.Str.ofString "mine"))).nox fun v_my_order_1 => (R.bind ((m_side_order v_mine v_theirs (PySem.Str.ofString "theirs"))).nox fun v_their_order_2 => (R.bind (R.of (repL ([(0 : Int)] : (List Int)) (v_mine.length : Int))) fun v_pairing_3 => (R.bind (R.bind (R.of (catL (cutL v_their_order_2 (some v_r) none) (cutL v_their_order_2 none (some v_r)))) fun t5 => (R.ok (zipF v_my_order_1 t5))) fun l11 => R.bind (foldR m_rotation_b1 l11 (v_pairing_3)) fun s7 => (R.ok s7)))))))
def m_heights_b1 (x2 : (Tp (Str × Int × Unit))) (s3 : (List Int)) : R ((List Int)) :=
  (R.bind (R.bind (R.of (atI s3 (-(1 : Int)))) fun t4 => (R.ok (t4 + (if (decide (x2.t.1 = (PySem.Str.ofString "theirs"))) then (1 : Int) else (-(1 : Int)))))) fun a6 => R.bind (R.of (appL s3 a6)) fun v_found_5 => (R.ok (v_found_5)))
def m_heights (v_mine : (List Int)) (v_theirs : (List Int)) : R (List Int) :=
  (R.bind (m_check_hands v_mine v_theirs) fun _ => (R.lt ([(0 : Int)] : (List Int)) fun v_found_1 => (R.bind ((m_deck v_mine v_theirs)).nox fun l7 => R.bind (foldR m_heights_b1 l7 (v_found_1)) fun s3 => (R.ok s3))))
def m_peak (v_mine : (List Int)) (v_theirs : (List Int)) : R Int :=
  (R.bind (m_heights v_mine v_theirs) fun t2 => (R.of (t2.max?)))
def m_valley (v_mine : (List Int)) (v_theirs : (List Int)) : R Int :=
  (R.bind (m_heights v_mine v_theirs) fun t2 => (R.of (t2.min?)))
def m_least (v_mine : (List Int)) (v_theirs : (List Int)) : R Int :=
  (m_peak v_mine v_theirs)
def m_most (v_mine : (List Int)) (v_theirs : (List Int)) : R Int :=
  (R.bind (m_valley v_mine v_theirs) fun t1 => (R.ok ((v_mine.length : Int) + t1)))
def m_span_of (v_mine : (List Int)) (v_theirs : (List Int)) : R O_Span :=
  (R.bind (m_least v_mine v_theirs) fun t1 => R.bind (m_most v_mine v_theirs) fun t2 => (R.ok (O_Span.mk t1 t2)))
def m_pairing_with (v_mine : (List Int)) (v_theirs : (List Int)) (v_wanted : Int) : R (List Int) :=
  (R.bind (m_span_of v_mine v_theirs) fun v_span_1 => (R.ifm (R.bind ((m_Span__contains__ v_span_1 v_wanted).nox) fun t2 => R.ok (!t2)) (R.raise 7 [enc (v_wanted : Int), enc (v_span_1.least : Int), enc (v_span_1.most : Int)]) (m_rotation v_mine v_theirs v_wanted)))
def m__law_cell (v_script : Scr) (v_k : Int) : R Int :=
  (R.ifm (R.ok (decide (v_k < (v_script.xs.length : Int)))) (R.bind (R.of (atI v_script.xs v_k)) fun t1 => (R.ok t1)) (R.ifm (R.ok (decide ((0 : Int) < (v_script.xs.length : Int)))) (R.bind (R.bind (R.of (atI v_script.xs (0 : Int))) fun t2 => (R.ok t2)) fun t3 => R.bind (R.of (mulO (104729 : Int) (v_k + (1 : Int)))) fun t4 => (R.ok (t3 + t4))) (R.of (mulO (104729 : Int) (v_k + (1 : Int))))))
def m__law_draws_b1 (v_sizes : (List Int)) (v_great_3 : Bool) (v_first_4 : Int) (x6 : Int) (s7 : (List Int) × Int) : R ((List Int) × Int) :=
  (R.bind (R.ifm (R.ok (v_great_3 && (decide ((0 : Int) < s7.2)))) (R.bind (R.bind (R.of (atI v_sizes x6)) fun t40 => (R.of (modO s7.2 t40))) fun a45 => R.bind (R.of (appL s7.1 a45)) fun v_out_41 => (R.bind (R.bind (R.of (atI v_sizes x6)) fun t43 => (R.of (divO s7.2 t43))) fun v_digits_44 => (R.ok (v_out_41, v_digits_44)))) (R.bind (R.bind (R.bind (R.bind (R.bind (R.of (mulO (7919 : Int) x6)) fun t46 => (R.ok (v_first_4 + t46))) fun t47 => (R.ok (t47 + (13 : Int)))) fun t48 => (R.ok t48)) fun t50 => (R.of (modO t50 (2147483647 : Int)))) fun v_mixed_51 => (R.bind (R.bind (R.bind (R.of (mulO v_mixed_51 (v_mixed_51 + (48271 : Int)))) fun t52 => (R.ok t52)) fun t54 => (R.of (modO t54 (2147483629 : Int)))) fun v_mixed_55 => (R.bind (R.bind (R.bind (R.bind (R.of (mulO v_mixed_55 (v_mixed_55 + (69621 : Int)))) fun t56 => R.bind (R.of (mulO (31 : Int) x6)) fun t57 => (R.ok (t56 + t57))) fun t58 => (R.ok t58)) fun t60 => (R.of (modO t60 (2147483647 : Int)))) fun v_mixed_61 => (R.bind (R.bind (R.bind (R.of (divO v_mixed_61 (9 : Int))) fun t62 => (R.ok t62)) fun t65 => R.bind (R.of (atI v_sizes x6)) fun t66 => (R.of (modO t65 t66))) fun a68 => R.bind (R.of (appL s7.1 a68)) fun v_out_67 => (R.ok (v_out_67, s7.2))))))) fun s38 => (R.ok (s38.1, s38.2)))
def m__law_draws (v_cell : Int) (v_sizes : (List Int)) : R (List Int) :=
  (R.lt (if v_cell < 0 then -v_cell else v_cell) fun v_digits_1 => (R.bind (R.bind (R.of (powO (10 : Int) (18 : Int))) fun t2 => (R.ok (decide (t2 ≤ v_digits_1)))) fun v_great_3 => (R.lt v_digits_1 fun v_first_4 => (R.lt ([] : (List Int)) fun v_out_5 => (R.bind (R.of (rngO 0 (v_sizes.length : Int))) fun l69 => R.bind (foldR (m__law_draws_b1 v_sizes v_great_3 v_first_4) l69 (v_out_5, v_digits_1)) fun s7 => (R.ok s7.1))))))
def m__law_hand (v_cell : Int) (v_count : Int) (v_kind : Int) : R (List Int) :=
  (R.ifm (R.ok (decide (v_kind = (0 : Int)))) (R.bind (R.bind (R.bind (R.of (rngO 0 v_count)) fun l2 => R.ok (l2.map fun x1 : Int => (3 : Int))) fun t3 => (m__law_draws v_cell t3)) fun l5 => R.ok (l5.map fun x4 : Int => (x4 - (1 : Int)))) (R.ifm (R.ok (decide (v_kind = (1 : Int)))) (R.bind (R.bind (R.bind (R.of (rngO 0 v_count)) fun l8 => compR (fun x6 : Int => (R.ok true)) (fun x6 : Int => (R.bind (R.of (mulO (2 : Int) v_count)) fun t7 => (R.ok (t7 + (1 : Int))))) l8) fun t9 => (m__law_draws v_cell t9)) fun l11 => R.ok (l11.map fun x10 : Int => (x10 - v_count))) (R.ifm (R.ok (decide (v_kind = (2 : Int)))) (R.bind (R.bind (R.bind (R.of (rngO 0 v_count)) fun l16 => compR (fun x12 : Int => (R.ok true)) (fun x12 : Int => (R.bind (R.bind (R.of (powO (10 : Int) (15 : Int))) fun t14 => (R.of (mulO (2 : Int) t14))) fun t15 => (R.ok (t15 + (1 : Int))))) l16) fun t17 => (m__law_draws v_cell t17)) fun l20 => compR (fun x18 : Int => (R.ok true)) (fun x18 : Int => (R.bind (R.of (powO (10 : Int) (15 : Int))) fun t19 => (R.ok (x18 - t19)))) l20) (R.bind (R.bind (R.bind (R.of (rngO 0 v_count)) fun l22 => R.ok (l22.map fun x21 : Int => (v_count + (2 : Int)))) fun t23 => (m__law_draws v_cell t23)) fun l25 => R.ok (l25.map fun x24 : Int => x24)))))
def m__law_hands (v_script : Scr) (v_at : Int) (v_count : Int) : R (Tp ((List Int) × (List Int) × Unit)) :=
  (R.bind (R.bind (m__law_cell v_script v_at) fun t1 => (m__law_draws t1 ([(6 : Int), (4 : Int), (3 : Int), (40 : Int)] : (List Int)))) fun v_shape_2 => (R.bind (R.bind (m__law_cell v_script (v_at + (1 : Int))) fun t5 => R.bind (R.bind (R.of (atI v_shape_2 (0 : Int))) fun t4 => (R.of (modO t4 (4 : Int)))) fun t6 => (m__law_hand t5 v_count t6)) fun v_mine_7 => (R.bind (R.bind (m__law_cell v_script (v_at + (2 : Int))) fun t10 => R.bind (R.bind (R.of (atI v_shape_2 (0 : Int))) fun t9 => (R.of (modO t9 (4 : Int)))) fun t11 => (m__law_hand t10 v_count t11)) fun v_theirs_12 => (R.bind (R.ifm (R.bind (R.of (atI v_shape_2 (0 : Int))) fun t13 => (R.ok (decide (t13 = (4 : Int))))) (R.lt v_mine_7 fun v_theirs_40 => (R.bind (R.ifm (R.ite (decide ((0 : Int) < v_count)) (R.bind (R.of (atI v_shape_2 (1 : Int))) fun t41 => (R.ok (decide ((0 : Int) < t41)))) (R.ok false)) (R.bind (R.bind (R.bind (R.bind (R.bind (R.of (atI v_shape_2 (3 : Int))) fun t55 => (R.of (modO t55 v_count))) fun t56 => (R.of (atI v_theirs_40 t56))) fun t57 => R.bind (R.of (atI v_shape_2 (1 : Int))) fun t58 => (R.ok (t57 + t58))) fun t59 => (R.ok (t59 - (2 : Int)))) fun a63 => R.bind (R.bind (R.of (atI v_shape_2 (3 : Int))) fun t61 => (R.of (modO t61 v_count))) fun j64 => R.bind (R.of (setL v_theirs_40 j64 a63)) fun v_theirs_62 => (R.ok (v_theirs_62))) (R.ok (v_theirs_40))) fun s53 => (R.ok (s53)))) (R.ok (v_theirs_12))) fun s39 => (R.bind (R.ifm (R.bind (R.bind (R.of (atI v_shape_2 (0 : Int))) fun t65 => (R.ok (decide (t65 = (5 : Int))))) fun t67 => (R.ite t67 (R.bind (R.of (atI v_shape_2 (2 : Int))) fun t66 => (R.ok (decide ((0 : Int) < t66)))) (R.ok false))) (R.bind (R.bind (R.ok v_mine_7) fun l79 => compR (fun x75 : Int => (R.ok true)) (fun x75 : Int => (R.bind (R.bind (R.of (atI v_shape_2 (1 : Int))) fun t77 => (R.of (mulO (2 : Int) t77))) fun t78 => (R.ok ((x75 + (3 : Int)) - t78)))) l79) fun v_theirs_80 => (R.ok (v_theirs_80))) (R.ok (s39))) fun s74 => (R.ok (Tp.mk (v_mine_7, s74, ()) : (Tp ((List Int) × (List Int) × Unit)))))))))
def m__law_pairing_b1 (x8 : Int) (s9 : (List Int) × (List Int)) : R ((List Int) × (List Int)) :=
  (R.bind (R.of (atI s9.2 x8)) fun a12 => R.bind (R.of (appL s9.1 a12)) fun v_out_10 => (R.bind (R.of (catL (cutL s9.2 none (some x8)) (cutL s9.2 (some (x8 + (1 : Int))) none))) fun v_free_11 => (R.ok (v_out_10, v_free_11))))
def m__law_pairing (v_cell : Int) (v_count : Int) : R (List Int) :=
  (R.bind (R.bind (R.of (rngO 0 v_count)) fun l2 => R.ok (l2.map fun x1 : Int => x1)) fun v_free_3 => (R.lt ([] : (List Int)) fun v_out_4 => (R.bind (R.bind (R.bind (R.of (rngO 0 v_count)) fun l6 => R.ok (l6.map fun x5 : Int => (v_count - x5))) fun t7 => (m__law_draws v_cell t7)) fun l13 => R.bind (foldR m__law_pairing_b1 l13 (v_out_4, v_free_3)) fun s9 => (R.ok s9.1))))
def m__law_is_int (v_x : PV) : R Bool :=
  (R.bind (R.of (isD (enc v_x) "int")) fun t2 => (R.ite t2 (R.bind (R.of (isD (enc v_x) "bool")) fun t1 => (R.ok (!t1))) (R.ok false)))
def m__law_is_ints (v_xs : (List Int)) : R Bool :=
  (R.ite true (R.bind (R.bind (R.ok v_xs) fun l3 => compR (fun x1 : Int => (R.ok true)) (fun x1 : Int => (m__law_is_int (enc x1 : PV))) l3) fun t4 => (R.ok (t4.all id))) (R.ok false))
def m__law_is_pairing (v_xs : (List Int)) (v_count : Int) : R Bool :=
  (R.bind (m__law_is_ints v_xs) fun t4 => (R.ite t4 (R.bind (R.bind (R.of (rngO 0 v_count)) fun l2 => R.ok (l2.map fun x1 : Int => x1)) fun t3 => (R.ok (eqP (enc (sortI v_xs)) (enc t3)))) (R.ok false)))
def m__law_result (v_mine : (List Int)) (v_theirs : (List Int)) (v_pairing : (List Int)) : R Int :=
  (R.bind (R.bind (R.of (rngO 0 (v_mine.length : Int))) fun l6 => compR (fun x1 : Int => (R.ok true)) (fun x1 : Int => (R.bind (R.bind (R.of (atI v_mine x1)) fun t3 => R.bind (R.bind (R.of (atI v_pairing x1)) fun t2 => (R.of (atI v_theirs t2))) fun t4 => (R.ok (decide (t4 ≤ t3)))) fun t5 => (R.ok (if t5 then (1 : Int) else 0)))) l6) fun t7 => (R.ok t7.sum))
def m__law_least_b1 (v_mine : (List Int)) (v_theirs : (List Int)) (x2 : Int) (s3 : Int) : R (Int) :=
  (R.lt (if ((((v_theirs.filter fun x4 : Int => (decide (x4 ≤ x2))).map fun x4 : Int => x4).length : Int) - (((v_mine.filter fun x5 : Int => (decide (x5 < x2))).map fun x5 : Int => x5).length : Int)) > s3 then ((((v_theirs.filter fun x4 : Int => (decide (x4 ≤ x2))).map fun x4 : Int => x4).length : Int) - (((v_mine.filter fun x5 : Int => (decide (x5 < x2))).map fun x5 : Int => x5).length : Int)) else s3) fun v_best_6 => (R.ok (v_best_6)))
def m__law_least (v_mine : (List Int)) (v_theirs : (List Int)) : R Int :=
  (R.lt (0 : Int) fun v_best_1 => (R.bind (R.ok v_theirs) fun l7 => R.bind (foldR (m__law_least_b1 v_mine v_theirs) l7 (v_best_1)) fun s3 => (R.ok s3)))
def m__law_most_b1 (v_mine : (List Int)) (v_theirs : (List Int)) (x2 : Int) (s3 : Int) : R (Int) :=
  (R.lt (if ((((v_theirs.filter fun x4 : Int => (decide (x4 ≤ x2))).map fun x4 : Int => x4).length : Int) - (((v_mine.filter fun x5 : Int => (decide (x5 ≤ x2))).map fun x5 : Int => x5).length : Int)) < s3 then ((((v_theirs.filter fun x4 : Int => (decide (x4 ≤ x2))).map fun x4 : Int => x4).length : Int) - (((v_mine.filter fun x5 : Int => (decide (x5 ≤ x2))).map fun x5 : Int => x5).length : Int)) else s3) fun v_worst_6 => (R.ok (v_worst_6)))
def m__law_most (v_mine : (List Int)) (v_theirs : (List Int)) : R Int :=
  (R.lt (0 : Int) fun v_worst_1 => (R.bind (R.ok v_mine) fun l7 => R.bind (foldR (m__law_most_b1 v_mine v_theirs) l7 (v_worst_1)) fun s3 => (R.ok ((v_mine.length : Int) + s3))))
def m__law_unrank_b1 (x5 : Int) (s6 : Int × (List Int) × (List Int)) : R (Int × (List Int) × (List Int)) :=
  (R.bind (R.of (modO s6.1 (s6.2.2.length : Int))) fun v_x_7 => (R.bind (R.of (divO s6.1 (s6.2.2.length : Int))) fun v_number_8 => (R.bind (R.of (atI s6.2.2 v_x_7)) fun a11 => R.bind (R.of (appL s6.2.1 a11)) fun v_out_9 => (R.bind (R.of (catL (cutL s6.2.2 none (some v_x_7)) (cutL s6.2.2 (some (v_x_7 + (1 : Int))) none))) fun v_free_10 => (R.ok (v_number_8, v_out_9, v_free_10))))))
def m__law_unrank (v_number : Int) (v_count : Int) : R (List Int) :=
  (R.bind (R.bind (R.of (rngO 0 v_count)) fun l2 => R.ok (l2.map fun x1 : Int => x1)) fun v_free_3 => (R.lt ([] : (List Int)) fun v_out_4 => (R.bind (R.of (rngO 0 v_count)) fun l12 => R.bind (foldR m__law_unrank_b1 l12 (v_number, v_out_4, v_free_3)) fun s6 => (R.ok s6.2.1))))
def m__law_factorial_b1 (x2 : Int) (s3 : Int) : R (Int) :=
  (R.bind (R.of (mulO s3 (x2 + (1 : Int)))) fun v_out_4 => (R.ok (v_out_4)))
def m__law_factorial (v_count : Int) : R Int :=
  (R.lt (1 : Int) fun v_out_1 => (R.bind (R.of (rngO 0 v_count)) fun l5 => R.bind (foldR m__law_factorial_b1 l5 (v_out_1)) fun s3 => (R.ok s3)))
def m__law_game (v_script : Scr) (v_at : Int) (v_count : Int) (v_edge : Int) : R (Tp ((List Int) × (List Int) × Unit)) :=
  (R.bind (m__law_hands v_script v_at v_count) fun v_hands_1 => (R.ifm (R.ok (decide (v_edge = (0 : Int)))) (R.bind (R.bind (R.ok v_hands_1.t.1) fun l3 => compR (fun x2 : Int => (R.ok true)) (fun x2 : Int => (R.of (atI v_hands_1.t.1 (0 : Int)))) l3) fun t6 => R.bind (R.bind (R.ok v_hands_1.t.2.1) fun l5 => compR (fun x4 : Int => (R.ok true)) (fun x4 : Int => (R.of (atI v_hands_1.t.1 (0 : Int)))) l5) fun t7 => (R.ok (Tp.mk (t6, t7, ()) : (Tp ((List Int) × (List Int) × Unit))))) (R.ifm (R.ok (decide (v_edge = (1 : Int)))) (R.bind (R.bind (R.ok v_hands_1.t.1) fun l10 => compR (fun x8 : Int => (R.ok true)) (fun x8 : Int => (R.bind (R.of (modO x8 (7 : Int))) fun t9 => (R.ok (t9 + (6 : Int))))) l10) fun t13 => R.bind (R.bind (R.ok v_hands_1.t.2.1) fun l12 => compR (fun x11 : Int => (R.ok true)) (fun x11 : Int => (R.of (modO x11 (7 : Int)))) l12) fun t14 => (R.ok (Tp.mk (t13, t14, ()) : (Tp ((List Int) × (List Int) × Unit))))) (R.ifm (R.ok (decide (v_edge = (2 : Int)))) (R.bind (R.bind (R.ok v_hands_1.t.1) fun l16 => compR (fun x15 : Int => (R.ok true)) (fun x15 : Int => (R.of (modO x15 (7 : Int)))) l16) fun t20 => R.bind (R.bind (R.ok v_hands_1.t.2.1) fun l19 => compR (fun x17 : Int => (R.ok true)) (fun x17 : Int => (R.bind (R.of (modO x17 (7 : Int))) fun t18 => (R.ok (t18 + (7 : Int))))) l19) fun t21 => (R.ok (Tp.mk (t20, t21, ()) : (Tp ((List Int) × (List Int) × Unit))))) (R.ok v_hands_1)))))
def m__law_reached_b1 (v_mine : (List Int)) (v_theirs : (List Int)) (x3 : Int) (s4 : (List Int)) : R ((List Int)) :=
  (R.bind (R.bind (m__law_unrank x3 (v_mine.length : Int)) fun t5 => (m__law_result v_mine v_theirs t5)) fun v_hits_6 => (R.bind (R.ifm (R.ok (!(s4.map enc).any fun z => eqP z (enc v_hits_6))) (R.bind (R.ok v_hits_6) fun a11 => R.bind (R.of (appL s4 a11)) fun v_out_10 => (R.ok (v_out_10))) (R.ok (s4))) fun s9 => (R.ok (s9))))
def m__law_reached (v_mine : (List Int)) (v_theirs : (List Int)) : R (List Int) :=
  (R.lt ([] : (List Int)) fun v_out_1 => (R.bind (R.bind (m__law_factorial (v_mine.length : Int)) fun t2 => (R.of (rngO 0 t2))) fun l12 => R.bind (foldR (m__law_reached_b1 v_mine v_theirs) l12 (v_out_1)) fun s4 => (R.ok (sortI s4))))
def m_Span_width (v_self : O_Span) : R Int :=
  (R.ok (v_self.most - v_self.least))
def m__law_fits_b1 (v_span : O_Span) (v_lowest : Int) (v_highest : Int) (x7 : Int) (s8 : Unit) : R (Stp (Unit) Bool) :=
  (R.ifm (R.bind ((m_Span__contains__ v_span x7).nox) fun t10 => (R.ok (!decide (t10 = ((decide (v_lowest ≤ x7)) && (decide (x7 ≤ v_highest))))))) (R.bind (R.ok false) fun a11 => R.ok (Stp.rt a11)) (R.ok (Stp.nx ())))
def m__law_fits (v_span : O_Span) (v_lowest : Int) (v_highest : Int) : R Bool :=
  (R.ifm (R.ite (!true) (R.ok true) (R.bind (R.bind (m__law_is_int (enc v_span.least : PV)) fun t2 => R.ok (!t2)) fun t5 => (R.ite t5 (R.ok true) (R.bind (m__law_is_int (enc v_span.most : PV)) fun t4 => R.ok (!t4))))) (R.ok false) (R.ifm (R.ok ((!decide (v_span.least = v_lowest)) || (!decide (v_span.most = v_highest)))) (R.ok false) (R.bind (R.bind (R.of (divO (v_lowest + v_highest) (2 : Int))) fun t6 => (R.ok ([(v_lowest - (1 : Int)), v_lowest, t6, v_highest, (v_highest + (1 : Int))] : (List Int)))) fun l17 => R.bind (loopR (m__law_fits_b1 v_span v_lowest v_highest) l17 ()) (Stp.fin (fun s8 => (R.bind (R.bind (R.bind (m_Span_width v_span) fun t13 => (R.ok (enc t13 : PV))) fun t14 => (m__law_is_int t14)) fun t16 => (R.ite t16 (R.bind (m_Span_width v_span) fun t15 => (R.ok (decide (t15 = (v_highest - v_lowest))))) (R.ok false)))) (fun a18 => R.ok a18)))))
def m__law_sums (v_span : O_Span) (v_lowest : Int) (v_highest : Int) (v_picks : (List Int)) : R Bool :=
  (R.bind (R.bind (R.of (atI v_picks (0 : Int))) fun t1 => (R.ok (t1 - (50 : Int)))) fun v_low_2 => (R.bind (R.bind (R.of (atI v_picks (1 : Int))) fun t3 => (R.ok (v_low_2 + t3))) fun v_high_4 => (R.lt (O_Span.mk v_low_2 v_high_4) fun v_other_5 => (R.ifm (R.bind (R.bind (m__law_fits v_span v_lowest v_highest) fun t6 => R.ok (!t6)) fun t9 => (R.ite t9 (R.ok true) (R.bind (R.bind ((m_Span__add__ v_span v_other_5).nox) fun t7 => (m__law_fits t7 (v_lowest + v_low_2) (v_highest + v_high_4))) fun t8 => R.ok (!t8)))) (R.ok false) (R.ifm (R.bind (R.bind ((m_Span__add__ v_other_5 v_span).nox) fun t10 => (m__law_fits t10 (v_lowest + v_low_2) (v_highest + v_high_4))) fun t11 => R.ok (!t11)) (R.ok false) (R.ifm (R.bind (R.bind ((m_Span__add__ v_span v_span).nox) fun t12 => R.bind (R.of (mulO (2 : Int) v_lowest)) fun t13 => R.bind (R.of (mulO (2 : Int) v_highest)) fun t14 => (m__law_fits t12 t13 t14)) fun t15 => R.ok (!t15)) (R.ok false) (R.bind (m__law_fits v_span v_lowest v_highest) fun t16 => (R.ite t16 (m__law_fits v_other_5 v_low_2 v_high_4) (R.ok false)))))))))
def m__law_call (v_way : Int) (v_a : (List Int)) (v_b : (List Int)) : R PV :=
  (R.ifm (R.ok (decide (v_way = (0 : Int)))) (R.bind (m_least v_a v_b) fun t2 => (R.ok (enc t2 : PV))) (R.ifm (R.ok (decide (v_way = (1 : Int)))) (R.bind (m_most v_a v_b) fun t4 => (R.ok (enc t4 : PV))) (R.bind (m_span_of v_a v_b) fun t6 => (R.ok (enc t6 : PV)))))
def m__law_asked_b1 (v_a : (List Int)) (v_b : (List Int)) (v_lowest_3 : Int) (v_highest_4 : Int) (x5 : Int) (s6 : Unit) : R (Stp (Unit) Bool) :=
  (R.bind ((m__law_call x5 v_a v_b)).nox fun v_told_7 => (R.ifm (R.bind (R.bind (m__law_is_int v_told_7) fun t8 => R.ok (!t8)) fun t10 => (R.ite t10 (R.ok true) (R.bind (R.of (atI ([v_lowest_3, v_highest_4] : (List Int)) x5)) fun t9 => (R.of ((eqQ (enc v_told_7) (enc t9)).map (!·)))))) (R.bind (R.ok false) fun a11 => R.ok (Stp.rt a11)) (R.ok (Stp.nx ()))))
def m__law_asked (v_a : (List Int)) (v_b : (List Int)) : R Bool :=
  (R.lt v_a fun v_mine_1 => (R.lt v_b fun v_theirs_2 => (R.bind (m__law_least v_mine_1 v_theirs_2) fun v_lowest_3 => (R.bind (m__law_most v_mine_1 v_theirs_2) fun v_highest_4 => (R.bind (R.of (rngO 0 (2 : Int))) fun l14 => R.bind (loopR (m__law_asked_b1 v_a v_b v_lowest_3 v_highest_4) l14 ()) (Stp.fin (fun s6 => (R.bind (R.bind ((m_span_of v_a v_b)).nox fun t12 => (m__law_fits t12 v_lowest_3 v_highest_4)) fun t13 => (R.ite t13 (R.ok ((eqP (enc v_a) (enc v_mine_1)) && (eqP (enc v_b) (enc v_theirs_2)))) (R.ok false)))) (fun a15 => R.ok a15)))))))
def m__law_unlike (v_way : Int) (v_mine : (List Int)) (v_theirs : (List Int)) : R Bool :=
  (R.lt v_mine fun v_a_1 => (R.lt v_theirs fun v_b_2 => (R.bind (R.tryC (fun x => (x.c == 1) && x.vs.all flV) (R.bind (m__law_call v_way v_a_1 v_b_2) fun _ => R.ok (R.ok (Lr.nx ()))) (fun x => (R.ite (decide (x.c = 1)) (R.f2 x.vs fun (f17 : Int) (f16 : Int) => (R.ifm (R.ok false) (R.bind (R.ok false) fun a18 => R.ok (Lr.rt a18)) (R.ifm (R.ok false) (R.bind (R.ok false) fun a19 => R.ok (Lr.rt a19)) (R.ifm (R.ok ((!true) || (!true))) (R.bind (R.ok false) fun a20 => R.ok (Lr.rt a20)) (R.ifm (R.bind (R.bind (m__law_is_int (enc f16 : PV)) fun t22 => R.ok (!t22)) fun t26 => (R.ite t26 (R.ok true) (R.bind (R.bind (m__law_is_int (enc f17 : PV)) fun t24 => R.ok (!t24)) fun t25 => (R.ite t25 (R.ok true) (R.ok ((!eqP (enc v_a_1) (enc v_mine)) || (!eqP (enc v_b_2) (enc v_theirs)))))))) (R.bind (R.ok false) fun a27 => R.ok (Lr.rt a27)) (R.bind (R.ok ((decide (f16 = (v_mine.length : Int))) && (decide (f17 = (v_theirs.length : Int))))) fun a28 => R.ok (Lr.rt a28))))))) (R.bad)))) (Lr.fin (fun _ : Unit => (R.ok false)) (fun a29 => R.ok a29)))))
def m__law_ends_b1 (v_mine : (List Int)) (v_theirs : (List Int)) (x1 : Int) (s2 : Unit) : R (Stp (Unit) Bool) :=
  (R.bind ((m_pairing_with v_mine v_theirs x1)).nox fun v_told_3 => (R.ifm (R.bind (R.bind (m__law_is_pairing v_told_3 (v_mine.length : Int)) fun t4 => R.ok (!t4)) fun t6 => (R.ite t6 (R.ok true) (R.bind (m__law_result v_mine v_theirs v_told_3) fun t5 => (R.ok (!decide (t5 = x1)))))) (R.bind (R.ok false) fun a7 => R.ok (Stp.rt a7)) (R.ok (Stp.nx ()))))
def m__law_ends (v_mine : (List Int)) (v_theirs : (List Int)) (v_lowest : Int) (v_highest : Int) : R Bool :=
  (R.bind (R.ok ([v_lowest, v_highest] : (List Int))) fun l8 => R.bind (loopR (m__law_ends_b1 v_mine v_theirs) l8 ()) (Stp.fin (fun s2 => (R.ok true)) (fun a9 => R.ok a9)))
def m_law_b1 (v_script : Scr) (s10 : Int) (v_mine_14 : (List Int)) (v_theirs_15 : (List Int)) (v_lowest_16 : Int) (v_highest_17 : Int) (x22 : Int) (s23 : Unit) : R (Stp (Unit) Bool) :=
  (R.ifm (R.bind (R.bind (R.bind (R.bind (m__law_cell v_script ((4 : Int) + x22)) fun t24 => (m__law_pairing t24 s10)) fun t25 => (m__law_result v_mine_14 v_theirs_15 t25)) fun t26 => (R.ite (decide (v_lowest_16 ≤ t26)) (R.ok (decide (t26 ≤ v_highest_17))) (R.ok false))) fun t27 => R.ok (!t27)) (R.bind (R.ok false) fun a28 => R.ok (Stp.rt a28)) (R.ok (Stp.nx ())))
def m_law_b2 (x34 : Int) (s35 : (List Int)) : R ((List Int)) :=
  (R.bind (R.bind (R.of (atI s35 x34)) fun t36 => (R.ok ((0 : Int) - t36))) fun a38 => R.bind (R.ok x34) fun j39 => R.bind (R.of (setL s35 j39 a38)) fun v_a_37 => (R.ok (v_a_37)))
def m_law_b3 (s50 : (List Int) × (List Int)) (v_cut_59 : Int) (x60 : Int) (s61 : Unit) : R (Stp (Unit) Bool) :=
  (R.ifm (R.bind (R.bind (m__law_unlike x60 s50.1 (cutL s50.2 none (some v_cut_59))) fun t62 => R.ok (!t62)) fun t64 => (R.ite t64 (R.ok true) (R.bind (m__law_unlike x60 (cutL s50.1 none (some v_cut_59)) s50.2) fun t63 => R.ok (!t63)))) (R.bind (R.ok false) fun a65 => R.ok (Stp.rt a65)) (R.ok (Stp.nx ())))
def m_law (v_script : Scr) : R Bool :=
  (R.bind (R.bind (m__law_cell v_script (0 : Int)) fun t1 => (m__law_draws t1 ([(8 : Int), (6 : Int), (13 : Int), (41 : Int), (12 : Int), (100 : Int), (61 : Int), (40 : Int)] : (List Int)))) fun v_shape_2 => (R.bind (R.of (atI v_shape_2 (2 : Int))) fun v_count_3 => (R.bind (R.ifm (R.bind (R.of (atI v_shape_2 (0 : Int))) fun t4 => (R.ok (decide (t4 < (4 : Int))))) (R.bind (R.of (atI v_shape_2 (1 : Int))) fun v_count_7 => (R.ok (v_count_7))) (R.ok (v_count_3))) fun s6 => (R.bind (R.ifm (R.bind (R.of (atI v_shape_2 (0 : Int))) fun t8 => (R.ok (decide (t8 = (7 : Int))))) (R.bind (R.of (atI v_shape_2 (3 : Int))) fun v_count_11 => (R.ok (v_count_11))) (R.ok (s6))) fun s10 => (R.bind (R.bind (R.of (atI v_shape_2 (4 : Int))) fun t12 => (m__law_game v_script (1 : Int) s10 t12)) fun v_hands_13 => (R.lt v_hands_13.t.1 fun v_mine_14 => (R.lt v_hands_13.t.2.1 fun v_theirs_15 => (R.bind (m__law_least v_mine_14 v_theirs_15) fun v_lowest_16 => (R.bind (m__law_most v_mine_14 v_theirs_15) fun v_highest_17 => (R.ifm (R.ite (decide (s10 < (6 : Int))) (R.bind (m__law_reached v_mine_14 v_theirs_15) fun t20 => R.bind (R.bind (R.of (rngO v_lowest_16 (v_highest_17 + (1 : Int)))) fun l19 => R.ok (l19.map fun x18 : Int => x18)) fun t21 => (R.ok (!eqP (enc t20) (enc t21)))) (R.ok false)) (R.ok false) (R.bind (R.of (rngO 0 (3 : Int))) fun l69 => R.bind (loopR (m_law_b1 v_script s10 v_mine_14 v_theirs_15 v_lowest_16 v_highest_17) l69 ()) (Stp.fin (fun s23 => (R.lt v_mine_14 fun v_a_29 => (R.lt v_theirs_15 fun v_b_30 => (R.ifm (R.bind (R.bind (m__law_asked v_a_29 v_b_30) fun t31 => R.ok (!t31)) fun t33 => (R.ite t33 (R.ok true) (R.bind (m__law_ends v_mine_14 v_theirs_15 v_lowest_16 v_highest_17) fun t32 => R.ok (!t32)))) (R.ok false) (R.bind (R.of (rngO 0 s10)) fun l68 => R.bind (foldR m_law_b2 l68 (v_a_29)) fun s35 => (R.ifm (R.bind (R.bind (m__law_asked s35 v_b_30) fun t40 => R.ok (!t40)) fun t42 => (R.ite t42 (R.ok true) (R.bind (m__law_asked s35 s35) fun t41 => R.ok (!t41)))) (R.ok false) (R.ifm (R.bind (R.bind ((m_span_of v_mine_14 v_theirs_15)).nox fun t43 => (m__law_sums t43 v_lowest_16 v_highest_17 (cutL v_shape_2 (some (5 : Int)) (some (7 : Int))))) fun t44 => R.ok (!t44)) (R.ok false) (R.bind (R.ifm (R.ok (decide (s10 = (0 : Int)))) (R.bind (R.bind (R.of (atI v_shape_2 (5 : Int))) fun t51 => (R.ok ([t51] : (List Int)))) fun v_mine_52 => (R.bind (R.bind (R.of (atI v_shape_2 (6 : Int))) fun t53 => R.bind (R.of (atI v_shape_2 (7 : Int))) fun t54 => (R.ok ([t53, t54] : (List Int)))) fun v_theirs_55 => (R.ok (v_mine_52, v_theirs_55)))) (R.ok (v_mine_14, v_theirs_15))) fun s50 => (R.bind (R.bind (R.bind (R.of (atI v_shape_2 (7 : Int))) fun t56 => (R.ok t56)) fun t58 => (R.of (modO t58 (s50.1.length : Int)))) fun v_cut_59 => (R.bind (R.of (rngO 0 (3 : Int))) fun l66 => R.bind (loopR (m_law_b3 s50 v_cut_59) l66 ()) (Stp.fin (fun s61 => (R.ok true)) (fun a67 => R.ok a67)))))))))))) (fun a70 => R.ok a70)))))))))))))
section
variable {P : Program} {w : World} {K : PySem.W.Frag} {mg : Str → Option Value} {base : Heap} {T : CT}
theorem ok_Span__add__ {f : Addr} {fd : FuncData} (F : Fun K "__add__" "Span.__add__" s_Span__add__ f fd) (hT : T.K = K) (y_Span : KdC P w K mg base T 14 "Span" ["least", "most"] ["self", "least", "most"] 1) :
    FnOk P w K mg base CX0 3 f fd ["self", "other"] (Pm T (.val .fr) (fun b : O_Span × O_Span × Unit => m_Span__add__ b.1 b.2.1)) := by
  subst hT
  refine fn_pm F sc_Span__add__ (fun _ => rfl) fun cdv A outer s H E hr => ⟨_, (pss_cons (ps_ret (pe_kmake y_Span (hr.mono (by decide)) (by rfl) (pa_cons (pe_op op_add (pe_fld (pv 0) rfl) (pe_fld (pv 1) rfl)) (pa_cons (pe_op op_add (pe_fld (pv 0) rfl) (pe_fld (pv 1) rfl)) pa_nil)))) pss_nil), ?_⟩
  rintro ⟨v_self, v_other, _⟩
  show BD _ _ _ (m_Span__add__ v_self v_other) _
  unfold m_Span__add__
  exact bd_ret1 rfl (Evm.cast (evm_make (c := 14) (f := fun b : Int × Int × Unit => O_Span.mk b.1 b.2.1) (eva_cons (evm_opT (evm_flat (l2 := .fr) (evm_fldK (i := 0) (ks := (fun o : O_Span => [enc o.least, enc o.most])) (g := fun o : O_Span => o.least) y_Span (evm_var rfl) (fun _ => rfl) (fun _ => rfl) rfl)) (evm_flat (l2 := .fr) (evm_fldK (i := 0) (ks := (fun o : O_Span => [enc o.least, enc o.most])) (g := fun o : O_Span => o.least) y_Span (evm_var rfl) (fun _ => rfl) (fun _ => rfl) rfl)) fun _ _ => rv_II) (eva_cons (evm_opT (evm_flat (l2 := .fr) (evm_fldK (i := 1) (ks := (fun o : O_Span => [enc o.least, enc o.most])) (g := fun o : O_Span => o.most) y_Span (evm_var rfl) (fun _ => rfl) (fun _ => rfl) rfl)) (evm_flat (l2 := .fr) (evm_fldK (i := 1) (ks := (fun o : O_Span => [enc o.least, enc o.most])) (g := fun o : O_Span => o.most) y_Span (evm_var rfl) (fun _ => rfl) (fun _ => rfl) rfl)) fun _ _ => rv_II) eva_nil)) (fun _ => rfl) (fun _ => by rw [y_Span.fl]; rfl)) (by first | with_reducible rfl | (simp -implicitDefEqProofs only [R.bind_assoc, R.bind_ok, R.bind_right, R.of_some, compR_map, compR_filter, compR_id, compR_idF, R.ifm_ok, Bool.and_true, Bool.or_false, R.ite_and, R.ite_or]; done) | (simp -implicitDefEqProofs only [R.bind_assoc, R.bind_ok, R.bind_right, R.of_some, compR_map, compR_filter, compR_id, compR_idF, R.ifm_ok, Bool.and_true, Bool.or_false, R.ite_ok, R.ite_and, R.ite_or]; done) | rfl)) (fun _ => rfl)
theorem ok_Span__contains__ {f : Addr} {fd : FuncData} (F : Fun K "__contains__" "Span.__contains__" s_Span__contains__ f fd) (hT : T.K = K) (y_Span : KdC P w K mg base T 14 "Span" ["least", "most"] ["self", "least", "most"] 1) :
    FnOk P w K mg base CX0 3 f fd ["self", "number"] (Pm T (.val .fr) (fun b : O_Span × Int × Unit => m_Span__contains__ b.1 b.2.1)) := by
  subst hT
  refine fn_pm F sc_Span__contains__ (fun _ => rfl) fun cdv A outer s H E hr => ⟨_, (pss_cons (ps_ret (pe_chain op_le op_le (pe_fld (pv 0) rfl) (pv 1) (pe_fld (pv 0) rfl))) pss_nil), ?_⟩
  rintro ⟨v_self, v_number, _⟩
  show BD _ _ _ (m_Span__contains__ v_self v_number) _
  unfold m_Span__contains__
  exact bd_ret1 rfl (Evm.cast (evm_chain (evm_flat (l2 := .fr) (evm_fldK (i := 0) (ks := (fun o : O_Span => [enc o.least, enc o.most])) (g := fun o : O_Span => o.least) y_Span (evm_var rfl) (fun _ => rfl) (fun _ => rfl) rfl)) (evm_var rfl) (evm_flat (l2 := .fr) (evm_fldK (i := 1) (ks := (fun o : O_Span => [enc o.least, enc o.most])) (g := fun o : O_Span => o.most) y_Span (evm_var rfl) (fun _ => rfl) (fun _ => rfl) rfl)) (fun _ _ => rv_IB) (fun _ _ => rv_IB)) (by first | with_reducible rfl | (simp -implicitDefEqProofs only [R.bind_assoc, R.bind_ok, R.bind_right, R.of_some, compR_map, compR_filter, compR_id, compR_idF, R.ifm_ok, Bool.and_true, Bool.or_false, R.ite_and, R.ite_or]; done) | (simp -implicitDefEqProofs only [R.bind_assoc, R.bind_ok, R.bind_right, R.of_some, compR_map, compR_filter, compR_id, compR_idF, R.ifm_ok, Bool.and_true, Bool.or_false, R.ite_ok, R.ite_and, R.ite_or]; done) | rfl)) (fun _ => rfl)
theorem ok_check_hands {f : Addr} {fd : FuncData} (F : Fun K "check_hands" "check_hands" s_check_hands f fd) (hT : T.K = K) (y_BadHands : KdX P w K mg base T 1 "BadHands" ["mine_count", "theirs_count"] ["self", "mine_count", "theirs_count"]) (z_len : mg "len" = none) :
    FnOk P w K mg base (L2N.CX P w) 5 f fd ["mine", "theirs"] (PmX T (.val .fr) (fun b : (List Int) × (List Int) × Unit => m_check_hands b.1 b.2.1)) := by
  subst hT
  refine fn_pmXU F sc_check_hands (fun _ => rfl) fun cdv A outer s H E hr => ⟨_, (pss_cons (ps_if (pt_cmpR op_ne (pe_callB (k_len T.K rfl) (by rfl) z_len PySem.boot_len (pa_cons (pv 0) pa_nil)) (pe_callB (k_len T.K rfl) (by rfl) z_len PySem.boot_len (pa_cons (pv 1) pa_nil)) rfl) (pss_cons (L2N.ps_raise rfl (L2N.takes_of rfl rfl rfl rfl) (pmk_kdx y_BadHands (hr.mono (by decide)) (by rfl) (pa_cons (pe_callB (k_len T.K rfl) (by rfl) z_len PySem.boot_len (pa_cons (pv 0) pa_nil)) (pa_cons (pe_callB (k_len T.K rfl) (by rfl) z_len PySem.boot_len (pa_cons (pv 1) pa_nil)) pa_nil)))) pss_nil) pss_nil) pss_nil), ?_⟩
  rintro ⟨v_mine, v_theirs, _⟩
  show BD _ _ _ (m_check_hands v_mine v_theirs) _
  unfold m_check_hands
  refine bd_if (EvT.cast (evt_test (evm_opT (evm_cbT (eva_cons (evm_raw (evm_var rfl)) eva_nil) fun _ => ra_len) (evm_cbT (eva_cons (evm_raw (evm_var rfl)) eva_nil) fun _ => ra_len) fun _ _ => rv_neI)) (by first | with_reducible rfl | (simp -implicitDefEqProofs only [R.bind_assoc, R.bind_ok, R.bind_right, R.of_some, compR_map, compR_filter, compR_id, compR_idF, R.ifm_ok, Bool.and_true, Bool.or_false, R.ite_and, R.ite_or]; done) | (simp -implicitDefEqProofs only [R.bind_assoc, R.bind_ok, R.bind_right, R.of_some, compR_map, compR_filter, compR_id, compR_idF, R.ifm_ok, Bool.and_true, Bool.or_false, R.ite_ok, R.ite_and, R.ite_or]; done) | rfl)) ?_ ?_
  · refine bd_assoc ?_
    refine bd_castB (bd_raise (δ := Int × Int × Unit) (c := 1) rfl y_BadHands.fl (eva_cons (evm_flat (l2 := .raw) (evm_cbT (eva_cons (evm_raw (evm_var rfl)) eva_nil) fun _ => ra_len)) (eva_cons (evm_flat (l2 := .raw) (evm_cbT (eva_cons (evm_raw (evm_var rfl)) eva_nil) fun _ => ra_len)) eva_nil)) (fun _ => rfl) (by decide)) (by first | rfl | (simp only [R.bind_assoc, R.bind_ok]; done) | (simp only [R.bind_assoc, R.bind_ok, R.bind_right]; rfl))
  · refine bd_nil ?_
    exact bd_end (Wk.lose (Wk.lose Wk.nil)) rfl
theorem ok_check_place {f : Addr} {fd : FuncData} (F : Fun K "check_place" "check_place" s_check_place f fd) (hT : T.K = K) (y_BadPlace : KdX P w K mg base T 5 "BadPlace" ["place"] ["self", "place"]) :
    FnOk P w K mg base (L2N.CX P w) 5 f fd ["place", "lowest", "highest"] (PmX T (.val .fr) (fun b : Int × Int × Int × Unit => m_check_place b.1 b.2.1 b.2.2.1)) := by
  subst hT
  refine fn_pmXU F sc_check_place (fun _ => rfl) fun cdv A outer s H E hr => ⟨_, (pss_cons (ps_if (pt_not (pt_chain op_le op_le (pv 1) (pv 0) (pv 2))) (pss_cons (L2N.ps_raise rfl (L2N.takes_of rfl rfl rfl rfl) (pmk_kdx y_BadPlace (hr.mono (by decide)) (by rfl) (pa_cons (pv 0) pa_nil))) pss_nil) pss_nil) pss_nil), ?_⟩
  rintro ⟨v_place, v_lowest, v_highest, _⟩
  show BD _ _ _ (m_check_place v_place v_lowest v_highest) _
  unfold m_check_place
  refine bd_if (EvT.cast (evt_not (evt_test (evm_chain (evm_var rfl) (evm_var rfl) (evm_var rfl) (fun _ _ => rv_IB) (fun _ _ => rv_IB)))) (by first | with_reducible rfl | (simp -implicitDefEqProofs only [R.bind_assoc, R.bind_ok, R.bind_right, R.of_some, compR_map, compR_filter, compR_id, compR_idF, R.ifm_ok, Bool.and_true, Bool.or_false, R.ite_and, R.ite_or]; done) | (simp -implicitDefEqProofs only [R.bind_assoc, R.bind_ok, R.bind_right, R.of_some, compR_map, compR_filter, compR_id, compR_idF, R.ifm_ok, Bool.and_true, Bool.or_false, R.ite_ok, R.ite_and, R.ite_or]; done) | rfl)) ?_ ?_
  · refine bd_assoc ?_
    refine bd_castB (bd_raise (δ := Int × Unit) (c := 5) rfl y_BadPlace.fl (eva_cons (evm_flat (l2 := .raw) (evm_var rfl)) eva_nil) (fun _ => rfl) (by decide)) (by first | rfl | (simp only [R.bind_assoc, R.bind_ok]; done) | (simp only [R.bind_assoc, R.bind_ok, R.bind_right]; rfl))
  · refine bd_nil ?_
    exact bd_end (Wk.lose (Wk.lose (Wk.lose Wk.nil))) rfl
theorem ok_deck {f : Addr} {fd : FuncData} (F : Fun K "deck" "deck" s_deck f fd) (hT : T.K = K) (z_enumerate : mg "enumerate" = none) (z_sorted : mg "sorted" = none) :
    FnOk P w K mg base CX0 1 f fd ["mine", "theirs"] (Pm T (.nw .fr) (fun b : (List Int) × (List Int) × Unit => m_deck b.1 b.2.1)) := by
  subst hT
  refine fn_pm F sc_deck (fun _ => rfl) fun cdv A outer s H E hr => ⟨_, (pss_cons (ps_setLc (i := 2) (own := [("index", 3), ("number", 4)]) (g := (gTup T.K 2 (gCons (gName 3) (gCons (gName 4) gNil)))) rfl sc_deck.nd rfl rfl (sw_true rfl rfl rfl (by decide +kernel)) (k_enum T.K rfl (by rfl) z_enumerate (pa_cons (pv 1) pa_nil)) (blkOk_by (N := N_deck) (sc := defScope s_deck) (by decide +kernel)) (fun _ _ _ _ _ => (k_gtup T.K rfl rfl (pgs_cons (pg_name (i := 3) sc_deck.nd rfl (Or.inl rfl)) (pgs_cons (pg_name (i := 4) sc_deck.nd rfl (Or.inl rfl)) pgs_nil)))) (fun _ _ _ _ _ => pts_nil) (fun _ _ _ _ _ => (pe_tup (pa_cons (pv 4) (pa_cons pe_int (pa_cons (pv 3) pa_nil)))))) (pss_cons (ps_set (i := 2) sc_deck.nd rfl (Or.inl rfl) (pe_op op_cat (pv 2) (pe_lc (own := [("index", 3), ("number", 4)]) (g := (gTup T.K 2 (gCons (gName 3) (gCons (gName 4) gNil)))) rfl sc_deck.nd (k_enum T.K rfl (by rfl) z_enumerate (pa_cons (pv 0) pa_nil)) (blkOk_by (N := N_deck) (sc := defScope s_deck) (by decide +kernel)) (fun _ _ _ _ _ => (k_gtup T.K rfl rfl (pgs_cons (pg_name (i := 3) sc_deck.nd rfl (Or.inl rfl)) (pgs_cons (pg_name (i := 4) sc_deck.nd rfl (Or.inl rfl)) pgs_nil)))) (fun _ _ _ _ _ => pts_nil) (fun _ _ _ _ _ => (pe_tup (pa_cons (pv 4) (pa_cons pe_int (pa_cons (pv 3) pa_nil)))))))) (pss_cons (ps_ret (pe_lc (own := [("_", 5), ("mark", 6), ("index", 3)]) (g := (gTup T.K 3 (gCons (gName 5) (gCons (gName 6) (gCons (gName 3) gNil))))) rfl sc_deck.nd (k_pil T.K rfl (pe_callB (k_sortedR rfl) (by rfl) z_sorted (by decide +kernel) (pa_cons (pv 2) pa_nil))) (blkOk_by (N := N_deck) (sc := defScope s_deck) (by decide +kernel)) (fun _ _ _ _ _ => (k_gtup T.K rfl rfl (pgs_cons (pg_name (i := 5) sc_deck.nd rfl (Or.inl rfl)) (pgs_cons (pg_name (i := 6) sc_deck.nd rfl (Or.inl rfl)) (pgs_cons (pg_name (i := 3) sc_deck.nd rfl (Or.inl rfl)) pgs_nil))))) (fun _ _ _ _ _ => pts_nil) (fun _ _ _ _ _ => (pe_tup (pa_cons (pe_ifExp (pt_cmpR op_eq (pv 6) pe_int rfl) pe_str pe_str) (pa_cons (pv 3) pa_nil)))))) pss_nil))), ?_⟩
  rintro ⟨v_mine, v_theirs, _⟩
  show BD _ _ _ (m_deck v_mine v_theirs) _
  unfold m_deck
  refine bd_setNP (EvN.cast (evn_lc (l := .fr) (l1 := .pa) (l3 := .pa) rfl trivial trivial (.inl rfl) (evi_enum (evm_var rfl)) (hvc rfl rfl (hv1 rfl rfl)) (tg_two trivial) (fun x1 => evt_yes) (fun x1 => (evm_tup (eva_cons (evm_flat (l2 := .fr) (evm_var rfl)) (eva_cons evm_int (eva_cons (evm_flat (l2 := .fr) (evm_var rfl)) eva_nil))) (fun _ => by show (3 : Nat) ≤ 1000; decide)))) (by first | with_reducible rfl | (simp -implicitDefEqProofs only [R.bind_assoc, R.bind_ok, R.bind_right, R.of_some, compR_map, compR_filter, compR_id, compR_idF, R.ifm_ok, Bool.and_true, Bool.or_false, R.ite_and, R.ite_or]; done) | (simp -implicitDefEqProofs only [R.bind_assoc, R.bind_ok, R.bind_right, R.of_some, compR_map, compR_filter, compR_id, compR_idF, R.ifm_ok, Bool.and_true, Bool.or_false, R.ite_ok, R.ite_and, R.ite_or]; done) | rfl)) trivial (lt_of rfl) ?_
  intro v_keys_2
  refine bd_wk (Wk.keep (Wk.keep (Wk.share (Wk.keep (Wk.keep (Wk.keep (Wk.keep Wk.nil))))))) ?_
  refine bd_setN (EvN.cast (evn_cat (evm_var rfl) (evn_ev (evn_lc (l := .fr) (l1 := .pa) (l3 := .pa) rfl trivial trivial (.inl rfl) (evi_enum (evm_var rfl)) (hvc rfl rfl (hv1 rfl rfl)) (tg_two trivial) (fun x4 => evt_yes) (fun x4 => (evm_tup (eva_cons (evm_flat (l2 := .fr) (evm_var rfl)) (eva_cons evm_int (eva_cons (evm_flat (l2 := .fr) (evm_var rfl)) eva_nil))) (fun _ => by show (3 : Nat) ≤ 1000; decide)))))) (by first | with_reducible rfl | (simp -implicitDefEqProofs only [R.bind_assoc, R.bind_ok, R.bind_right, R.of_some, compR_map, compR_filter, compR_id, compR_idF, R.ifm_ok, Bool.and_true, Bool.or_false, R.ite_and, R.ite_or]; done) | (simp -implicitDefEqProofs only [R.bind_assoc, R.bind_ok, R.bind_right, R.of_some, compR_map, compR_filter, compR_id, compR_idF, R.ifm_ok, Bool.and_true, Bool.or_false, R.ite_ok, R.ite_and, R.ite_or]; done) | rfl)) trivial (lt_of rfl) ?_
  intro v_keys_5
  exact bd_retN1 rfl (EvN.cast (evn_lc (l := .fr) (l1 := .fr) (l3 := .fr) rfl trivial trivial (.inl rfl) (evi_list (evn_ev (evn_sortTo rfl))) (hvc rfl rfl (hvc rfl rfl (hv1 rfl rfl))) (tg_three trivial) (fun x6 => evt_yes) (fun x6 => (evm_tup (eva_cons (evm_if (evt_test (evm_opT (evm_var rfl) evm_int fun _ _ => rv_eqI)) evm_str evm_str) (eva_cons (evm_var rfl) eva_nil)) (fun _ => by show (2 : Nat) ≤ 1000; decide)))) (by first | with_reducible rfl | (simp -implicitDefEqProofs only [R.bind_assoc, R.bind_ok, R.bind_right, R.of_some, compR_map, compR_filter, compR_id, compR_idF, R.ifm_ok, Bool.and_true, Bool.or_false, R.ite_and, R.ite_or]; done) | (simp -implicitDefEqProofs only [R.bind_assoc, R.bind_ok, R.bind_right, R.of_some, compR_map, compR_filter, compR_id, compR_idF, R.ifm_ok, Bool.and_true, Bool.or_false, R.ite_ok, R.ite_and, R.ite_or]; done) | rfl)) (fun _ => rfl)
theorem ok_side_order {f : Addr} {fd : FuncData} (F : Fun K "side_order" "side_order" s_side_order f fd) (hT : T.K = K) (k_deck : Kd P w K mg base CX0 "deck" ["mine", "theirs"] 1 (Pm T (.nw .fr) (fun b : (List Int) × (List Int) × Unit => m_deck b.1 b.2.1))) :
    FnOk P w K mg base CX0 2 f fd ["mine", "theirs", "side"] (Pm T (.nw .fr) (fun b : (List Int) × (List Int) × Str × Unit => m_side_order b.1 b.2.1 b.2.2.1)) := by
  subst hT
  refine fn_pm F sc_side_order (fun _ => rfl) fun cdv A outer s H E hr => ⟨_, (pss_cons (ps_ret (pe_lc (own := [("whose", 3), ("index", 4)]) (g := (gTup T.K 2 (gCons (gName 3) (gCons (gName 4) gNil)))) rfl sc_side_order.nd (k_pil T.K rfl (pe_kd k_deck (hr.mono (by decide)) (by rfl) (pa_cons (pv 0) (pa_cons (pv 1) pa_nil)))) (blkOk_by (N := N_side_order) (sc := defScope s_side_order) (by decide +kernel)) (fun _ _ _ _ _ => (k_gtup T.K rfl rfl (pgs_cons (pg_name (i := 3) sc_side_order.nd rfl (Or.inl rfl)) (pgs_cons (pg_name (i := 4) sc_side_order.nd rfl (Or.inl rfl)) pgs_nil)))) (fun _ _ _ _ _ => (pts_one (pt_cmpR op_eq (pv 3) (pv 2) rfl))) (fun _ _ _ _ _ => (pv 4)))) pss_nil), ?_⟩
  rintro ⟨v_mine, v_theirs, v_side, _⟩
  show BD _ _ _ (m_side_order v_mine v_theirs v_side) _
  unfold m_side_order
  exact bd_retN1 rfl (EvN.cast (evn_lc (l := .fr) (l1 := .fr) (l3 := .fr) rfl trivial trivial (.inl rfl) (evi_list (evn_ev (evn_callF rfl (eva_cons (evm_raw (evm_var rfl)) (eva_cons (evm_raw (evm_var rfl)) eva_nil))))) (hvc rfl rfl (hv1 rfl rfl)) (tg_two trivial) (fun x1 => (evt_test (evm_opT (evm_var rfl) (evm_var rfl) fun _ _ => rv_eqS))) (fun x1 => (evm_var rfl))) (by first | with_reducible rfl | (simp -implicitDefEqProofs only [R.bind_assoc, R.bind_ok, R.bind_right, R.of_some, compR_map, compR_filter, compR_id, compR_idF, R.ifm_ok, Bool.and_true, Bool.or_false, R.ite_and, R.ite_or]; done) | (simp -implicitDefEqProofs only [R.bind_assoc, R.bind_ok, R.bind_right, R.of_some, compR_map, compR_filter, compR_id, compR_idF, R.ifm_ok, Bool.and_true, Bool.or_false, R.ite_ok, R.ite_and, R.ite_or]; done) | rfl)) (fun _ => rfl)
theorem ok_rotation {f : Addr} {fd : FuncData} (F : Fun K "rotation" "rotation" s_rotation f fd) (hT : T.K = K) (k_check_hands : KdR P w K mg base "check_hands" ["mine", "theirs"] 5 (PmX T (.val .fr) (fun b : (List Int) × (List Int) × Unit => m_check_hands b.1 b.2.1))) (k_check_place : KdR P w K mg base "check_place" ["place", "lowest", "highest"] 5 (PmX T (.val .fr) (fun b : Int × Int × Int × Unit => m_check_place b.1 b.2.1 b.2.2.1))) (k_side_order : Kd P w K mg base CX0 "side_order" ["mine", "theirs", "side"] 2 (Pm T (.nw .fr) (fun b : (List Int) × (List Int) × Str × Unit => m_side_order b.1 b.2.1 b.2.2.1))) (z_len : mg "len" = none) (z_zip : mg "zip" = none) :
    FnOk P w K mg base (L2N.CX P w) 6 f fd ["mine", "theirs", "r"] (PmX T (.nw .fr) (fun b : (List Int) × (List Int) × Int × Unit => m_rotation b.1 b.2.1 b.2.2.1)) := by
  subst hT
  refine fn_pmX F sc_rotation (fun _ => rfl) fun cdv A outer s H E hr => ⟨_, (pss_cons (ps_expr (pe_kr k_check_hands (L2N.takes_of rfl rfl rfl rfl) (hr.mono (by decide)) (by rfl) (pa_cons (pv 0) (pa_cons (pv 1) pa_nil)))) (pss_cons (ps_expr (pe_kr k_check_place (L2N.takes_of rfl rfl rfl rfl) (hr.mono (by decide)) (by rfl) (pa_cons (pv 2) (pa_cons pe_int (pa_cons (pe_callB (k_len T.K rfl) (by rfl) z_len PySem.boot_len (pa_cons (pv 0) pa_nil)) pa_nil))))) (pss_cons (ps_set (i := 3) sc_rotation.nd rfl (Or.inl rfl) (pe_kd k_side_order (hr.mono (by decide)) (by rfl) (pa_cons (pv 0) (pa_cons (pv 1) (pa_cons pe_str pa_nil))))) (pss_cons (ps_set (i := 4) sc_rotation.nd rfl (Or.inl rfl) (pe_kd k_side_order (hr.mono (by decide)) (by rfl) (pa_cons (pv 0) (pa_cons (pv 1) (pa_cons pe_str pa_nil))))) (pss_cons (ps_set (i := 5) sc_rotation.nd rfl (Or.inl rfl) (pe_op op_rep (pe_lst (pa_cons pe_int pa_nil)) (pe_callB (k_len T.K rfl) (by rfl) z_len PySem.boot_len (pa_cons (pv 0) pa_nil)))) (pss_cons (ps_for (passes_of rfl) rfl (k_zip T.K rfl (by rfl) z_zip (pa_cons (pv 3) (pa_cons (pe_op op_cat (pe_slice (k_sll T.K rfl) (pv 4) (po_some (pv 2)) po_none) (pe_slice (k_sll T.K rfl) (pv 4) po_none (po_some (pv 2)))) pa_nil))) (k_gtup T.K rfl rfl (pgs_cons (pg_name (i := 6) sc_rotation.nd rfl (Or.inl rfl)) (pgs_cons (pg_name (i := 7) sc_rotation.nd rfl (Or.inl rfl)) pgs_nil))) (pss_cons (ps_asg (pv 7) (pg_sub (pv 5) (pv 6) set_list)) pss_nil)) (pss_cons (ps_ret (pv 5)) pss_nil))))))), ?_⟩
  rintro ⟨v_mine, v_theirs, v_r, _⟩
  show BD _ _ _ (m_rotation v_mine v_theirs v_r) _
  unfold m_rotation
  refine bd_drop (Evm.cast (evm_callXF rfl (eva_cons (evm_raw (evm_var rfl)) (eva_cons (evm_raw (evm_var rfl)) eva_nil))) (by first | with_reducible rfl | (simp -implicitDefEqProofs only [R.bind_assoc, R.bind_ok, R.bind_right, R.of_some, compR_map, compR_filter, compR_id, compR_idF, R.ifm_ok, Bool.and_true, Bool.or_false, R.ite_and, R.ite_or]; done) | (simp -implicitDefEqProofs only [R.bind_assoc, R.bind_ok, R.bind_right, R.of_some, compR_map, compR_filter, compR_id, compR_idF, R.ifm_ok, Bool.and_true, Bool.or_false, R.ite_ok, R.ite_and, R.ite_or]; done) | rfl)) ?_
  refine bd_drop (Evm.cast (evm_callXF rfl (eva_cons (evm_flat (l2 := .raw) (evm_var rfl)) (eva_cons (evm_flat (l2 := .raw) evm_int) (eva_cons (evm_flat (l2 := .raw) (evm_cbT (eva_cons (evm_raw (evm_var rfl)) eva_nil) fun _ => ra_len)) eva_nil)))) (by first | with_reducible rfl | (simp -implicitDefEqProofs only [R.bind_assoc, R.bind_ok, R.bind_right, R.of_some, compR_map, compR_filter, compR_id, compR_idF, R.ifm_ok, Bool.and_true, Bool.or_false, R.ite_and, R.ite_or]; done) | (simp -implicitDefEqProofs only [R.bind_assoc, R.bind_ok, R.bind_right, R.of_some, compR_map, compR_filter, compR_id, compR_idF, R.ifm_ok, Bool.and_true, Bool.or_false, R.ite_ok, R.ite_and, R.ite_or]; done) | rfl)) ?_
  refine bd_setN (EvN.cast (evn_callNF (eva_cons (evm_raw (evm_var rfl)) (eva_cons (evm_raw (evm_var rfl)) (eva_cons (evm_flat (l2 := .raw) evm_str) eva_nil)))) (by first | with_reducible rfl | (simp -implicitDefEqProofs only [R.bind_assoc, R.bind_ok, R.bind_right, R.of_some, compR_map, compR_filter, compR_id, compR_idF, R.ifm_ok, Bool.and_true, Bool.or_false, R.ite_and, R.ite_or]; done) | (simp -implicitDefEqProofs only [R.bind_assoc, R.bind_ok, R.bind_right, R.of_some, compR_map, compR_filter, compR_id, compR_idF, R.ifm_ok, Bool.and_true, Bool.or_false, R.ite_ok, R.ite_and, R.ite_or]; done) | rfl)) trivial (lt_of rfl) ?_
  intro v_my_order_1
  refine bd_setN (EvN.cast (evn_callNF (eva_cons (evm_raw (evm_var rfl)) (eva_cons (evm_raw (evm_var rfl)) (eva_cons (evm_flat (l2 := .raw) evm_str) eva_nil)))) (by first | with_reducible rfl | (simp -implicitDefEqProofs only [R.bind_assoc, R.bind_ok, R.bind_right, R.of_some, compR_map, compR_filter, compR_id, compR_idF, R.ifm_ok, Bool.and_true, Bool.or_false, R.ite_and, R.ite_or]; done) | (simp -implicitDefEqProofs only [R.bind_assoc, R.bind_ok, R.bind_right, R.of_some, compR_map, compR_filter, compR_id, compR_idF, R.ifm_ok, Bool.and_true, Bool.or_false, R.ite_ok, R.ite_and, R.ite_or]; done) | rfl)) trivial (lt_of rfl) ?_
  intro v_their_order_2
  refine bd_setN (EvN.cast (evn_flat (l2 := .fr) (evn_rep (l := .raw) (evm_raw (evn_ev (evn_lst (l := .fr) (f := fun b : Int × Unit => ([b.1] : (List Int))) (eva_cons evm_int eva_nil) (fun _ => rfl) (fun _ => by show (1 : Nat) ≤ 1000; decide)))) (evm_cbT (eva_cons (evm_raw (evm_var rfl)) eva_nil) fun _ => ra_len))) (by first | with_reducible rfl | (simp -implicitDefEqProofs only [R.bind_assoc, R.bind_ok, R.bind_right, R.of_some, compR_map, compR_filter, compR_id, compR_idF, R.ifm_ok, Bool.and_true, Bool.or_false, R.ite_and, R.ite_or]; done) | (simp -implicitDefEqProofs only [R.bind_assoc, R.bind_ok, R.bind_right, R.of_some, compR_map, compR_filter, compR_id, compR_idF, R.ifm_ok, Bool.and_true, Bool.or_false, R.ite_ok, R.ite_and, R.ite_or]; done) | rfl)) trivial (lt_of rfl) ?_
  intro v_pairing_3
  refine bd_wk (Wk.keep (Wk.keep (Wk.keep (Wk.share (Wk.keep (Wk.keep (Wk.keep (Wk.keep Wk.nil)))))))) ?_
  refine bd_fold (l1 := .fr) (es := (fun s7 : (List Int) => [.sh .pa (enc (v_mine : (List Int))), .sh .pa (enc (v_theirs : (List Int))), .sh .pa (enc (v_r : Int)), .sh .fr (enc (v_my_order_1 : (List Int))), .ow .fr ((v_their_order_2 : (List Int)).map enc), .ow .fr ((s7 : (List Int)).map enc), .un, .un])) (EvI.cast (evi_zip (evm_var rfl) (evn_ev (evn_flat (l2 := .fr) (evn_cat (l := .raw) (evm_raw (evn_ev (evn_slo rfl (evo_some (evm_var rfl)) evo_none))) (evm_raw (evn_ev (evn_slo rfl evo_none (evo_some (evm_var rfl))))))))) (by first | with_reducible rfl | (simp -implicitDefEqProofs only [R.bind_assoc, R.bind_ok, R.bind_right, R.of_some, compR_map, compR_filter, compR_id, compR_idF, R.ifm_ok, Bool.and_true, Bool.or_false, R.ite_and, R.ite_or]; done) | (simp -implicitDefEqProofs only [R.bind_assoc, R.bind_ok, R.bind_right, R.of_some, compR_map, compR_filter, compR_id, compR_idF, R.ifm_ok, Bool.and_true, Bool.or_false, R.ite_ok, R.ite_and, R.ite_or]; done) | rfl)) trivial (Wk.keep (Wk.keep (Wk.keep (Wk.keep (Wk.keep (Wk.keep (Wk.keep (Wk.keep Wk.nil)))))))) (tg_two trivial) (huc (fun _ => rfl) (hu1 fun _ => rfl)) ?_ ?_
  · intro x6 s7
    unfold m_rotation_b1
    refine bd_seti (by rfl) (Evm.cast (evm_var rfl) (by first | with_reducible rfl | (simp -implicitDefEqProofs only [R.bind_assoc, R.bind_ok, R.bind_right, R.of_some, compR_map, compR_filter, compR_id, compR_idF, R.ifm_ok, Bool.and_true, Bool.or_false, R.ite_and, R.ite_or]; done) | (simp -implicitDefEqProofs only [R.bind_assoc, R.bind_ok, R.bind_right, R.of_some, compR_map, compR_filter, compR_id, compR_idF, R.ifm_ok, Bool.and_true, Bool.or_false, R.ite_ok, R.ite_and, R.ite_or]; done) | rfl)) (Evm.cast (evm_var rfl) (by first | with_reducible rfl | (simp -implicitDefEqProofs only [R.bind_assoc, R.bind_ok, R.bind_right, R.of_some, compR_map, compR_filter, compR_id, compR_idF, R.ifm_ok, Bool.and_true, Bool.or_false, R.ite_and, R.ite_or]; done) | (simp -implicitDefEqProofs only [R.bind_assoc, R.bind_ok, R.bind_right, R.of_some, compR_map, compR_filter, compR_id, compR_idF, R.ifm_ok, Bool.and_true, Bool.or_false, R.ite_ok, R.ite_and, R.ite_or]; done) | rfl)) ?_
    intro v_pairing_8
    exact bd_end (Wk.keep (Wk.keep (Wk.keep (Wk.keep (Wk.keep (Wk.keep (Wk.lose (Wk.lose Wk.nil)))))))) rfl
  intro s7
  exact bd_retO rfl (by rfl) (by rfl)
theorem ok_heights {f : Addr} {fd : FuncData} (F : Fun K "heights" "heights" s_heights f fd) (hT : T.K = K) (k_check_hands : KdR P w K mg base "check_hands" ["mine", "theirs"] 5 (PmX T (.val .fr) (fun b : (List Int) × (List Int) × Unit => m_check_hands b.1 b.2.1))) (k_deck : Kd P w K mg base CX0 "deck" ["mine", "theirs"] 1 (Pm T (.nw .fr) (fun b : (List Int) × (List Int) × Unit => m_deck b.1 b.2.1))) :
    FnOk P w K mg base (L2N.CX P w) 6 f fd ["mine", "theirs"] (PmX T (.nw .fr) (fun b : (List Int) × (List Int) × Unit => m_heights b.1 b.2.1)) := by
  subst hT
  refine fn_pmX F sc_heights (fun _ => rfl) fun cdv A outer s H E hr => ⟨_, (pss_cons (ps_expr (pe_kr k_check_hands (L2N.takes_of rfl rfl rfl rfl) (hr.mono (by decide)) (by rfl) (pa_cons (pv 0) (pa_cons (pv 1) pa_nil)))) (pss_cons (ps_set (i := 2) sc_heights.nd rfl (Or.inl rfl) (pe_lst (pa_cons pe_int pa_nil))) (pss_cons (ps_for (passes_of rfl) rfl (k_pil T.K rfl (pe_kd k_deck (hr.mono (by decide)) (by rfl) (pa_cons (pv 0) (pa_cons (pv 1) pa_nil)))) (k_gtup T.K rfl rfl (pgs_cons (pg_name (i := 3) sc_heights.nd rfl (Or.inl rfl)) (pgs_cons (pg_name (i := 4) sc_heights.nd rfl (Or.inl rfl)) pgs_nil))) (pss_cons (ps_expr (pe_bm PySem.F.plainAttrs_list PySem.F.slot_list_append PySem.F.type_list_append mt_append (pv 2) (pa_cons (pe_op op_add (pe_ix (k_ixl T.K rfl) (pv 2) (pe_un un_neg pe_int) (fun _ _ => rfl)) (pe_ifExp (pt_cmpR op_eq (pv 3) pe_str rfl) pe_int (pe_un un_neg pe_int))) pa_nil))) pss_nil)) (pss_cons (ps_ret (pv 2)) pss_nil)))), ?_⟩
  rintro ⟨v_mine, v_theirs, _⟩
  show BD _ _ _ (m_heights v_mine v_theirs) _
  unfold m_heights
  refine bd_drop (Evm.cast (evm_callXF rfl (eva_cons (evm_raw (evm_var rfl)) (eva_cons (evm_raw (evm_var rfl)) eva_nil))) (by first | with_reducible rfl | (simp -implicitDefEqProofs only [R.bind_assoc, R.bind_ok, R.bind_right, R.of_some, compR_map, compR_filter, compR_id, compR_idF, R.ifm_ok, Bool.and_true, Bool.or_false, R.ite_and, R.ite_or]; done) | (simp -implicitDefEqProofs only [R.bind_assoc, R.bind_ok, R.bind_right, R.of_some, compR_map, compR_filter, compR_id, compR_idF, R.ifm_ok, Bool.and_true, Bool.or_false, R.ite_ok, R.ite_and, R.ite_or]; done) | rfl)) ?_
  refine bd_setNP (EvN.cast (evn_lst (l := .fr) (f := fun b : Int × Unit => ([b.1] : (List Int))) (eva_cons evm_int eva_nil) (fun _ => rfl) (fun _ => by show (1 : Nat) ≤ 1000; decide)) (by first | with_reducible rfl | (simp -implicitDefEqProofs only [R.bind_assoc, R.bind_ok, R.bind_right, R.of_some, compR_map, compR_filter, compR_id, compR_idF, R.ifm_ok, Bool.and_true, Bool.or_false, R.ite_and, R.ite_or]; done) | (simp -implicitDefEqProofs only [R.bind_assoc, R.bind_ok, R.bind_right, R.of_some, compR_map, compR_filter, compR_id, compR_idF, R.ifm_ok, Bool.and_true, Bool.or_false, R.ite_ok, R.ite_and, R.ite_or]; done) | rfl)) trivial (lt_of rfl) ?_
  intro v_found_1
  refine bd_fold (l1 := .fr) (es := (fun s3 : (List Int) => [.sh .pa (enc (v_mine : (List Int))), .sh .pa (enc (v_theirs : (List Int))), .ow .fr ((s3 : (List Int)).map enc), .un, .un])) (EvI.cast (evi_list (evn_ev (evn_callNF (eva_cons (evm_raw (evm_var rfl)) (eva_cons (evm_raw (evm_var rfl)) eva_nil))))) (by first | with_reducible rfl | (simp -implicitDefEqProofs only [R.bind_assoc, R.bind_ok, R.bind_right, R.of_some, compR_map, compR_filter, compR_id, compR_idF, R.ifm_ok, Bool.and_true, Bool.or_false, R.ite_and, R.ite_or]; done) | (simp -implicitDefEqProofs only [R.bind_assoc, R.bind_ok, R.bind_right, R.of_some, compR_map, compR_filter, compR_id, compR_idF, R.ifm_ok, Bool.and_true, Bool.or_false, R.ite_ok, R.ite_and, R.ite_or]; done) | rfl)) trivial (Wk.keep (Wk.keep (Wk.keep (Wk.keep (Wk.keep Wk.nil))))) (tg_two trivial) (huc (fun _ => rfl) (hu1 fun _ => rfl)) ?_ ?_
  · intro x2 s3
    unfold m_heights_b1
    refine bd_app (by rfl) (Evm.cast (evm_opT (evm_ixo rfl (evm_un evm_int fun _ _ => ru_neg)) (evm_if (evt_test (evm_opT (evm_var rfl) evm_str fun _ _ => rv_eqS)) evm_int (evm_un evm_int fun _ _ => ru_neg)) fun _ _ => rv_II) (by first | with_reducible rfl | (simp -implicitDefEqProofs only [R.bind_assoc, R.bind_ok, R.bind_right, R.of_some, compR_map, compR_filter, compR_id, compR_idF, R.ifm_ok, Bool.and_true, Bool.or_false, R.ite_and, R.ite_or]; done) | (simp -implicitDefEqProofs only [R.bind_assoc, R.bind_ok, R.bind_right, R.of_some, compR_map, compR_filter, compR_id, compR_idF, R.ifm_ok, Bool.and_true, Bool.or_false, R.ite_ok, R.ite_and, R.ite_or]; done) | rfl)) ?_
    intro v_found_5
    exact bd_end (Wk.keep (Wk.keep (Wk.keep (Wk.lose (Wk.lose Wk.nil))))) rfl
  intro s3
  exact bd_retO rfl (by rfl) (by rfl)
theorem ok_peak {f : Addr} {fd : FuncData} (F : Fun K "peak" "peak" s_peak f fd) (hT : T.K = K) (k_heights : KdR P w K mg base "heights" ["mine", "theirs"] 6 (PmX T (.nw .fr) (fun b : (List Int) × (List Int) × Unit => m_heights b.1 b.2.1))) (z_max : mg "max" = none) :
    FnOk P w K mg base (L2N.CX P w) 7 f fd ["mine", "theirs"] (PmX T (.val .fr) (fun b : (List Int) × (List Int) × Unit => m_peak b.1 b.2.1)) := by
  subst hT
  refine fn_pmX F sc_peak (fun _ => rfl) fun cdv A outer s H E hr => ⟨_, (pss_cons (ps_ret (pe_callB (k_max T.K rfl rfl) (by rfl) z_max (by decide +kernel) (pa_cons (pe_kr k_heights (L2N.takes_of rfl rfl rfl rfl) (hr.mono (by decide)) (by rfl) (pa_cons (pv 0) (pa_cons (pv 1) pa_nil))) pa_nil))) pss_nil), ?_⟩
  rintro ⟨v_mine, v_theirs, _⟩
  show BD _ _ _ (m_peak v_mine v_theirs) _
  unfold m_peak
  exact bd_ret1 rfl (Evm.cast (evm_cb (eva_cons (evm_raw (evn_ev (evn_callXF rfl (eva_cons (evm_raw (evm_var rfl)) (eva_cons (evm_raw (evm_var rfl)) eva_nil))))) eva_nil) fun _ => ra_maxL) (by first | with_reducible rfl | (simp -implicitDefEqProofs only [R.bind_assoc, R.bind_ok, R.bind_right, R.of_some, compR_map, compR_filter, compR_id, compR_idF, R.ifm_ok, Bool.and_true, Bool.or_false, R.ite_and, R.ite_or]; done) | (simp -implicitDefEqProofs only [R.bind_assoc, R.bind_ok, R.bind_right, R.of_some, compR_map, compR_filter, compR_id, compR_idF, R.ifm_ok, Bool.and_true, Bool.or_false, R.ite_ok, R.ite_and, R.ite_or]; done) | rfl)) (fun _ => rfl)
theorem ok_valley {f : Addr} {fd : FuncData} (F : Fun K "valley" "valley" s_valley f fd) (hT : T.K = K) (k_heights : KdR P w K mg base "heights" ["mine", "theirs"] 6 (PmX T (.nw .fr) (fun b : (List Int) × (List Int) × Unit => m_heights b.1 b.2.1))) (z_min : mg "min" = none) :
    FnOk P w K mg base (L2N.CX P w) 7 f fd ["mine", "theirs"] (PmX T (.val .fr) (fun b : (List Int) × (List Int) × Unit => m_valley b.1 b.2.1)) := by
  subst hT
  refine fn_pmX F sc_valley (fun _ => rfl) fun cdv A outer s H E hr => ⟨_, (pss_cons (ps_ret (pe_callB (k_min T.K rfl rfl) (by rfl) z_min (by decide +kernel) (pa_cons (pe_kr k_heights (L2N.takes_of rfl rfl rfl rfl) (hr.mono (by decide)) (by rfl) (pa_cons (pv 0) (pa_cons (pv 1) pa_nil))) pa_nil))) pss_nil), ?_⟩
  rintro ⟨v_mine, v_theirs, _⟩
  show BD _ _ _ (m_valley v_mine v_theirs) _
  unfold m_valley
  exact bd_ret1 rfl (Evm.cast (evm_cb (eva_cons (evm_raw (evn_ev (evn_callXF rfl (eva_cons (evm_raw (evm_var rfl)) (eva_cons (evm_raw (evm_var rfl)) eva_nil))))) eva_nil) fun _ => ra_minL) (by first | with_reducible rfl | (simp -implicitDefEqProofs only [R.bind_assoc, R.bind_ok, R.bind_right, R.of_some, compR_map, compR_filter, compR_id, compR_idF, R.ifm_ok, Bool.and_true, Bool.or_false, R.ite_and, R.ite_or]; done) | (simp -implicitDefEqProofs only [R.bind_assoc, R.bind_ok, R.bind_right, R.of_some, compR_map, compR_filter, compR_id, compR_idF, R.ifm_ok, Bool.and_true, Bool.or_false, R.ite_ok, R.ite_and, R.ite_or]; done) | rfl)) (fun _ => rfl)
theorem ok_least {f : Addr} {fd : FuncData} (F : Fun K "least" "least" s_least f fd) (hT : T.K = K) (k_peak : KdR P w K mg base "peak" ["mine", "theirs"] 7 (PmX T (.val .fr) (fun b : (List Int) × (List Int) × Unit => m_peak b.1 b.2.1))) :
    FnOk P w K mg base (L2N.CX P w) 8 f fd ["mine", "theirs"] (PmX T (.val .fr) (fun b : (List Int) × (List Int) × Unit => m_least b.1 b.2.1)) := by
  subst hT
  refine fn_pmX F sc_least (fun _ => rfl) fun cdv A outer s H E hr => ⟨_, (pss_cons (ps_ret (pe_kr k_peak (L2N.takes_of rfl rfl rfl rfl) (hr.mono (by decide)) (by rfl) (pa_cons (pv 0) (pa_cons (pv 1) pa_nil)))) pss_nil), ?_⟩
  rintro ⟨v_mine, v_theirs, _⟩
  show BD _ _ _ (m_least v_mine v_theirs) _
  unfold m_least
  exact bd_ret1 rfl (Evm.cast (evm_callXF rfl (eva_cons (evm_raw (evm_var rfl)) (eva_cons (evm_raw (evm_var rfl)) eva_nil))) (by first | with_reducible rfl | (simp -implicitDefEqProofs only [R.bind_assoc, R.bind_ok, R.bind_right, R.of_some, compR_map, compR_filter, compR_id, compR_idF, R.ifm_ok, Bool.and_true, Bool.or_false, R.ite_and, R.ite_or]; done) | (simp -implicitDefEqProofs only [R.bind_assoc, R.bind_ok, R.bind_right, R.of_some, compR_map, compR_filter, compR_id, compR_idF, R.ifm_ok, Bool.and_true, Bool.or_false, R.ite_ok, R.ite_and, R.ite_or]; done) | rfl)) (fun _ => rfl)
theorem ok_most {f : Addr} {fd : FuncData} (F : Fun K "most" "most" s_most f fd) (hT : T.K = K) (k_valley : KdR P w K mg base "valley" ["mine", "theirs"] 7 (PmX T (.val .fr) (fun b : (List Int) × (List Int) × Unit => m_valley b.1 b.2.1))) (z_len : mg "len" = none) :
    FnOk P w K mg base (L2N.CX P w) 8 f fd ["mine", "theirs"] (PmX T (.val .fr) (fun b : (List Int) × (List Int) × Unit => m_most b.1 b.2.1)) := by
  subst hT
  refine fn_pmX F sc_most (fun _ => rfl) fun cdv A outer s H E hr => ⟨_, (pss_cons (ps_ret (pe_op op_add (pe_callB (k_len T.K rfl) (by rfl) z_len PySem.boot_len (pa_cons (pv 0) pa_nil)) (pe_kr k_valley (L2N.takes_of rfl rfl rfl rfl) (hr.mono (by decide)) (by rfl) (pa_cons (pv 0) (pa_cons (pv 1) pa_nil))))) pss_nil), ?_⟩
  rintro ⟨v_mine, v_theirs, _⟩
  show BD _ _ _ (m_most v_mine v_theirs) _
  unfold m_most
  exact bd_ret1 rfl (Evm.cast (evm_opT (evm_cbT (eva_cons (evm_raw (evm_var rfl)) eva_nil) fun _ => ra_len) (evm_callXF rfl (eva_cons (evm_raw (evm_var rfl)) (eva_cons (evm_raw (evm_var rfl)) eva_nil))) fun _ _ => rv_II) (by first | with_reducible rfl | (simp -implicitDefEqProofs only [R.bind_assoc, R.bind_ok, R.bind_right, R.of_some, compR_map, compR_filter, compR_id, compR_idF, R.ifm_ok, Bool.and_true, Bool.or_false, R.ite_and, R.ite_or]; done) | (simp -implicitDefEqProofs only [R.bind_assoc, R.bind_ok, R.bind_right, R.of_some, compR_map, compR_filter, compR_id, compR_idF, R.ifm_ok, Bool.and_true, Bool.or_false, R.ite_ok, R.ite_and, R.ite_or]; done) | rfl)) (fun _ => rfl)
theorem ok_span_of {f : Addr} {fd : FuncData} (F : Fun K "span_of" "span_of" s_span_of f fd) (hT : T.K = K) (k_least : KdR P w K mg base "least" ["mine", "theirs"] 8 (PmX T (.val .fr) (fun b : (List Int) × (List Int) × Unit => m_least b.1 b.2.1))) (k_most : KdR P w K mg base "most" ["mine", "theirs"] 8 (PmX T (.val .fr) (fun b : (List Int) × (List Int) × Unit => m_most b.1 b.2.1))) (y_Span : KdC P w K mg base T 14 "Span" ["least", "most"] ["self", "least", "most"] 1) :
    FnOk P w K mg base (L2N.CX P w) 9 f fd ["mine", "theirs"] (PmX T (.val .fr) (fun b : (List Int) × (List Int) × Unit => m_span_of b.1 b.2.1)) := by
  subst hT
  refine fn_pmX F sc_span_of (fun _ => rfl) fun cdv A outer s H E hr => ⟨_, (pss_cons (ps_ret (pe_kmake y_Span (hr.mono (by decide)) (by rfl) (pa_cons (pe_kr k_least (L2N.takes_of rfl rfl rfl rfl) (hr.mono (by decide)) (by rfl) (pa_cons (pv 0) (pa_cons (pv 1) pa_nil))) (pa_cons (pe_kr k_most (L2N.takes_of rfl rfl rfl rfl) (hr.mono (by decide)) (by rfl) (pa_cons (pv 0) (pa_cons (pv 1) pa_nil))) pa_nil)))) pss_nil), ?_⟩
  rintro ⟨v_mine, v_theirs, _⟩
  show BD _ _ _ (m_span_of v_mine v_theirs) _
  unfold m_span_of
  exact bd_ret1 rfl (Evm.cast (evm_make (c := 14) (f := fun b : Int × Int × Unit => O_Span.mk b.1 b.2.1) (eva_cons (evm_callXF rfl (eva_cons (evm_raw (evm_var rfl)) (eva_cons (evm_raw (evm_var rfl)) eva_nil))) (eva_cons (evm_callXF rfl (eva_cons (evm_raw (evm_var rfl)) (eva_cons (evm_raw (evm_var rfl)) eva_nil))) eva_nil)) (fun _ => rfl) (fun _ => by rw [y_Span.fl]; rfl)) (by first | with_reducible rfl | (simp -implicitDefEqProofs only [R.bind_assoc, R.bind_ok, R.bind_right, R.of_some, compR_map, compR_filter, compR_id, compR_idF, R.ifm_ok, Bool.and_true, Bool.or_false, R.ite_and, R.ite_or]; done) | (simp -implicitDefEqProofs only [R.bind_assoc, R.bind_ok, R.bind_right, R.of_some, compR_map, compR_filter, compR_id, compR_idF, R.ifm_ok, Bool.and_true, Bool.or_false, R.ite_ok, R.ite_and, R.ite_or]; done) | rfl)) (fun _ => rfl)
theorem ok_pairing_with {f : Addr} {fd : FuncData} (F : Fun K "pairing_with" "pairing_with" s_pairing_with f fd) (hT : T.K = K) (k_Span__contains__ : KdM P w K mg base (T.addr 14) "__contains__" ["self", "number"] 3 (Pm T (.val .fr) (fun b : O_Span × Int × Unit => m_Span__contains__ b.1 b.2.1))) (k_rotation : KdR P w K mg base "rotation" ["mine", "theirs", "r"] 6 (PmX T (.nw .fr) (fun b : (List Int) × (List Int) × Int × Unit => m_rotation b.1 b.2.1 b.2.2.1))) (k_span_of : KdR P w K mg base "span_of" ["mine", "theirs"] 9 (PmX T (.val .fr) (fun b : (List Int) × (List Int) × Unit => m_span_of b.1 b.2.1))) (y_Span : KdC P w K mg base T 14 "Span" ["least", "most"] ["self", "least", "most"] 1) (y_Unreachable : KdX P w K mg base T 7 "Unreachable" ["wanted", "lowest", "highest"] ["self", "wanted", "lowest", "highest"]) :
    FnOk P w K mg base (L2N.CX P w) 10 f fd ["mine", "theirs", "wanted"] (PmX T (.nw .fr) (fun b : (List Int) × (List Int) × Int × Unit => m_pairing_with b.1 b.2.1 b.2.2.1)) := by
  subst hT
  refine fn_pmX F sc_pairing_with (fun _ => rfl) fun cdv A outer s H E hr => ⟨_, (pss_cons (ps_set (i := 3) sc_pairing_with.nd rfl (Or.inl rfl) (pe_kr k_span_of (L2N.takes_of rfl rfl rfl rfl) (hr.mono (by decide)) (by rfl) (pa_cons (pv 0) (pa_cons (pv 1) pa_nil)))) (pss_cons (ps_if (pt_cmpR (op_niC k_Span__contains__ (hr.mono (by decide))) (pv 2) (pv 3) rfl) (pss_cons (L2N.ps_raise rfl (L2N.takes_of rfl rfl rfl rfl) (pmk_kdx y_Unreachable (hr.mono (by decide)) (by rfl) (pa_cons (pv 2) (pa_cons (pe_fld (pv 3) rfl) (pa_cons (pe_fld (pv 3) rfl) pa_nil))))) pss_nil) pss_nil) (pss_cons (ps_ret (pe_kr k_rotation (L2N.takes_of rfl rfl rfl rfl) (hr.mono (by decide)) (by rfl) (pa_cons (pv 0) (pa_cons (pv 1) (pa_cons (pv 2) pa_nil))))) pss_nil))), ?_⟩
  rintro ⟨v_mine, v_theirs, v_wanted, _⟩
  show BD _ _ _ (m_pairing_with v_mine v_theirs v_wanted) _
  unfold m_pairing_with
  refine bd_set (Evm.cast (evm_callXF rfl (eva_cons (evm_raw (evm_var rfl)) (eva_cons (evm_raw (evm_var rfl)) eva_nil))) (by first | with_reducible rfl | (simp -implicitDefEqProofs only [R.bind_assoc, R.bind_ok, R.bind_right, R.of_some, compR_map, compR_filter, compR_id, compR_idF, R.ifm_ok, Bool.and_true, Bool.or_false, R.ite_and, R.ite_or]; done) | (simp -implicitDefEqProofs only [R.bind_assoc, R.bind_ok, R.bind_right, R.of_some, compR_map, compR_filter, compR_id, compR_idF, R.ifm_ok, Bool.and_true, Bool.or_false, R.ite_ok, R.ite_and, R.ite_or]; done) | rfl)) trivial (lt_of rfl) ?_
  intro v_span_1
  refine bd_if (EvT.cast (evt_test (evm_niC (ks := (fun o : O_Span => [enc o.least, enc o.most])) (evm_var rfl) (evm_var rfl) (fun _ => rfl))) (by first | with_reducible rfl | (simp -implicitDefEqProofs only [R.bind_assoc, R.bind_ok, R.bind_right, R.of_some, compR_map, compR_filter, compR_id, compR_idF, R.ifm_ok, Bool.and_true, Bool.or_false, R.ite_and, R.ite_or]; done) | (simp -implicitDefEqProofs only [R.bind_assoc, R.bind_ok, R.bind_right, R.of_some, compR_map, compR_filter, compR_id, compR_idF, R.ifm_ok, Bool.and_true, Bool.or_false, R.ite_ok, R.ite_and, R.ite_or]; done) | rfl)) ?_ ?_
  · refine bd_assoc ?_
    refine bd_castB (bd_raise (δ := Int × Int × Int × Unit) (c := 7) rfl y_Unreachable.fl (eva_cons (evm_flat (l2 := .raw) (evm_var rfl)) (eva_cons (evm_flat (l2 := .raw) (evm_fldK (i := 0) (ks := (fun o : O_Span => [enc o.least, enc o.most])) (g := fun o : O_Span => o.least) y_Span (evm_var rfl) (fun _ => rfl) (fun _ => rfl) rfl)) (eva_cons (evm_flat (l2 := .raw) (evm_fldK (i := 1) (ks := (fun o : O_Span => [enc o.least, enc o.most])) (g := fun o : O_Span => o.most) y_Span (evm_var rfl) (fun _ => rfl) (fun _ => rfl) rfl)) eva_nil))) (fun _ => rfl) (by decide)) (by first | rfl | (simp only [R.bind_assoc, R.bind_ok]; done) | (simp only [R.bind_assoc, R.bind_ok, R.bind_right]; rfl))
  · refine bd_nil ?_
    exact bd_retN1 rfl (EvN.cast (evn_callXF rfl (eva_cons (evm_raw (evm_var rfl)) (eva_cons (evm_raw (evm_var rfl)) (eva_cons (evm_flat (l2 := .raw) (evm_var rfl)) eva_nil)))) (by first | with_reducible rfl | (simp -implicitDefEqProofs only [R.bind_assoc, R.bind_ok, R.bind_right, R.of_some, compR_map, compR_filter, compR_id, compR_idF, R.ifm_ok, Bool.and_true, Bool.or_false, R.ite_and, R.ite_or]; done) | (simp -implicitDefEqProofs only [R.bind_assoc, R.bind_ok, R.bind_right, R.of_some, compR_map, compR_filter, compR_id, compR_idF, R.ifm_ok, Bool.and_true, Bool.or_false, R.ite_ok, R.ite_and, R.ite_or]; done) | rfl)) (fun _ => rfl)
theorem ok__law_cell {f : Addr} {fd : FuncData} (F : Fun K "_law_cell" "_law_cell" s__law_cell f fd) (hT : T.K = K) (z_int : mg "int" = none) (z_len : mg "len" = none) :
    FnOk P w K mg base CX0 1 f fd ["_law_script", "_law_k"] (Pm T (.val .fr) (fun b : Scr × Int × Unit => m__law_cell b.1 b.2.1)) := by
  subst hT
  refine fn_pm F sc__law_cell (fun _ => rfl) fun cdv A outer s H E hr => ⟨_, (pss_cons (ps_if (pt_cmpR op_lt (pv 1) (pe_callB (k_len T.K rfl) (by rfl) z_len PySem.boot_len (pa_cons (pv 0) pa_nil)) rfl) (pss_cons (ps_ret (pe_callTy call_int1 (by rfl) z_int PyProof.Rows.boot_int (pa_cons (pe_ix (k_ixl T.K rfl) (pv 0) (pv 1) (fun _ _ => rfl)) pa_nil))) pss_nil) pss_nil) (pss_cons (ps_if (pt_cmpR op_gt (pe_callB (k_len T.K rfl) (by rfl) z_len PySem.boot_len (pa_cons (pv 0) pa_nil)) pe_int rfl) (pss_cons (ps_ret (pe_op op_add (pe_callTy call_int1 (by rfl) z_int PyProof.Rows.boot_int (pa_cons (pe_ix (k_ixl T.K rfl) (pv 0) pe_int (fun _ _ => rfl)) pa_nil)) (pe_op op_mul pe_int (pe_op op_add (pv 1) pe_int)))) pss_nil) pss_nil) (pss_cons (ps_ret (pe_op op_mul pe_int (pe_op op_add (pv 1) pe_int))) pss_nil))), ?_⟩
  rintro ⟨v_script, v_k, _⟩
  show BD _ _ _ (m__law_cell v_script v_k) _
  unfold m__law_cell
  refine bd_if (EvT.cast (evt_test (evm_opT (evm_var rfl) (evm_cbT (eva_cons (evm_raw (evm_var rfl)) eva_nil) fun _ => ra_lenS) fun _ _ => rv_IB)) (by first | with_reducible rfl | (simp -implicitDefEqProofs only [R.bind_assoc, R.bind_ok, R.bind_right, R.of_some, compR_map, compR_filter, compR_id, compR_idF, R.ifm_ok, Bool.and_true, Bool.or_false, R.ite_and, R.ite_or]; done) | (simp -implicitDefEqProofs only [R.bind_assoc, R.bind_ok, R.bind_right, R.of_some, compR_map, compR_filter, compR_id, compR_idF, R.ifm_ok, Bool.and_true, Bool.or_false, R.ite_ok, R.ite_and, R.ite_or]; done) | rfl)) ?_ ?_
  · refine bd_assoc ?_
    exact bd_ret1 rfl (Evm.cast (evm_cbT (eva_cons (evm_flat (l2 := .raw) (evm_ixs (evm_var rfl) (evm_var rfl))) eva_nil) fun _ => ra_int) (by first | with_reducible rfl | (simp -implicitDefEqProofs only [R.bind_assoc, R.bind_ok, R.bind_right, R.of_some, compR_map, compR_filter, compR_id, compR_idF, R.ifm_ok, Bool.and_true, Bool.or_false, R.ite_and, R.ite_or]; done) | (simp -implicitDefEqProofs only [R.bind_assoc, R.bind_ok, R.bind_right, R.of_some, compR_map, compR_filter, compR_id, compR_idF, R.ifm_ok, Bool.and_true, Bool.or_false, R.ite_ok, R.ite_and, R.ite_or]; done) | rfl)) (fun _ => rfl)
  · refine bd_nil ?_
    refine bd_if (EvT.cast (evt_test (evm_opT (evm_cbT (eva_cons (evm_raw (evm_var rfl)) eva_nil) fun _ => ra_lenS) evm_int fun _ _ => rv_IB)) (by first | with_reducible rfl | (simp -implicitDefEqProofs only [R.bind_assoc, R.bind_ok, R.bind_right, R.of_some, compR_map, compR_filter, compR_id, compR_idF, R.ifm_ok, Bool.and_true, Bool.or_false, R.ite_and, R.ite_or]; done) | (simp -implicitDefEqProofs only [R.bind_assoc, R.bind_ok, R.bind_right, R.of_some, compR_map, compR_filter, compR_id, compR_idF, R.ifm_ok, Bool.and_true, Bool.or_false, R.ite_ok, R.ite_and, R.ite_or]; done) | rfl)) ?_ ?_
    · refine bd_assoc ?_
      exact bd_ret1 rfl (Evm.cast (evm_opT (evm_cbT (eva_cons (evm_flat (l2 := .raw) (evm_ixs (evm_var rfl) evm_int)) eva_nil) fun _ => ra_int) (evm_op evm_int (evm_opT (evm_var rfl) evm_int fun _ _ => rv_II) fun _ _ _ _ => rv_mul) fun _ _ => rv_II) (by first | with_reducible rfl | (simp -implicitDefEqProofs only [R.bind_assoc, R.bind_ok, R.bind_right, R.of_some, compR_map, compR_filter, compR_id, compR_idF, R.ifm_ok, Bool.and_true, Bool.or_false, R.ite_and, R.ite_or]; done) | (simp -implicitDefEqProofs only [R.bind_assoc, R.bind_ok, R.bind_right, R.of_some, compR_map, compR_filter, compR_id, compR_idF, R.ifm_ok, Bool.and_true, Bool.or_false, R.ite_ok, R.ite_and, R.ite_or]; done) | rfl)) (fun _ => rfl)
    · refine bd_nil ?_
      exact bd_ret1 rfl (Evm.cast (evm_op evm_int (evm_opT (evm_var rfl) evm_int fun _ _ => rv_II) fun _ _ _ _ => rv_mul) (by first | with_reducible rfl | (simp -implicitDefEqProofs only [R.bind_assoc, R.bind_ok, R.bind_right, R.of_some, compR_map, compR_filter, compR_id, compR_idF, R.ifm_ok, Bool.and_true, Bool.or_false, R.ite_and, R.ite_or]; done) | (simp -implicitDefEqProofs only [R.bind_assoc, R.bind_ok, R.bind_right, R.of_some, compR_map, compR_filter, compR_id, compR_idF, R.ifm_ok, Bool.and_true, Bool.or_false, R.ite_ok, R.ite_and, R.ite_or]; done) | rfl)) (fun _ => rfl)
theorem ok__law_draws {f : Addr} {fd : FuncData} (F : Fun K "_law_draws" "_law_draws" s__law_draws f fd) (hT : T.K = K) (z_abs : mg "abs" = none) (z_int : mg "int" = none) (z_len : mg "len" = none) (z_range : mg "range" = none) :
    FnOk P w K mg base CX0 1 f fd ["_law_cell_here", "_law_sizes"] (Pm T (.nw .fr) (fun b : Int × (List Int) × Unit => m__law_draws b.1 b.2.1)) := by
  subst hT
  refine fn_pm F sc__law_draws (fun _ => rfl) fun cdv A outer s H E hr => ⟨_, (pss_cons (ps_set (i := 2) sc__law_draws.nd rfl (Or.inl rfl) (pe_callB call_abs (by rfl) z_abs PyProof.Rows.boot_abs (pa_cons (pe_callTy call_int1 (by rfl) z_int PyProof.Rows.boot_int (pa_cons (pv 0) pa_nil)) pa_nil))) (pss_cons (ps_set (i := 3) sc__law_draws.nd rfl (Or.inl rfl) (pe_cmpR op_ge (pv 2) (pe_op op_pow pe_int pe_int) rfl)) (pss_cons (ps_set (i := 4) sc__law_draws.nd rfl (Or.inl rfl) (pv 2)) (pss_cons (ps_set (i := 5) sc__law_draws.nd rfl (Or.inl rfl) (pe_lst pa_nil)) (pss_cons (ps_for PassesOwn.never rfl (pi_range1 (by rfl) z_range (pa_cons (pe_callB (k_len T.K rfl) (by rfl) z_len PySem.boot_len (pa_cons (pv 1) pa_nil)) pa_nil)) (pg_name (i := 6) sc__law_draws.nd rfl (Or.inl rfl)) (pss_cons (ps_if (pw_and (pt_val (pv 3)) (pw_and1 (pt_cmpR op_gt (pv 2) pe_int rfl))).pt (pss_cons (ps_expr (pe_bm PySem.F.plainAttrs_list PySem.F.slot_list_append PySem.F.type_list_append mt_append (pv 5) (pa_cons (pe_op op_mod (pe_callTy call_int1 (by rfl) z_int PyProof.Rows.boot_int (pa_cons (pv 2) pa_nil)) (pe_ix (k_ixl T.K rfl) (pv 1) (pv 6) (fun _ _ => rfl))) pa_nil))) (pss_cons (ps_set (i := 2) sc__law_draws.nd rfl (Or.inl rfl) (pe_op op_fdivW (pv 2) (pe_ix (k_ixl T.K rfl) (pv 1) (pv 6) (fun _ _ => rfl)))) pss_nil)) (pss_cons (ps_set (i := 7) sc__law_draws.nd rfl (Or.inl rfl) (pe_op op_mod (pe_callTy call_int1 (by rfl) z_int PyProof.Rows.boot_int (pa_cons (pe_op op_add (pe_op op_add (pv 4) (pe_op op_mul pe_int (pv 6))) pe_int) pa_nil)) pe_int)) (pss_cons (ps_set (i := 7) sc__law_draws.nd rfl (Or.inl rfl) (pe_op op_mod (pe_callTy call_int1 (by rfl) z_int PyProof.Rows.boot_int (pa_cons (pe_op op_mul (pv 7) (pe_op op_add (pv 7) pe_int)) pa_nil)) pe_int)) (pss_cons (ps_set (i := 7) sc__law_draws.nd rfl (Or.inl rfl) (pe_op op_mod (pe_callTy call_int1 (by rfl) z_int PyProof.Rows.boot_int (pa_cons (pe_op op_add (pe_op op_mul (pv 7) (pe_op op_add (pv 7) pe_int)) (pe_op op_mul pe_int (pv 6))) pa_nil)) pe_int)) (pss_cons (ps_expr (pe_bm PySem.F.plainAttrs_list PySem.F.slot_list_append PySem.F.type_list_append mt_append (pv 5) (pa_cons (pe_op op_mod (pe_callTy call_int1 (by rfl) z_int PyProof.Rows.boot_int (pa_cons (pe_op op_fdivW (pv 7) pe_int) pa_nil)) (pe_ix (k_ixl T.K rfl) (pv 1) (pv 6) (fun _ _ => rfl))) pa_nil))) pss_nil))))) pss_nil)) (pss_cons (ps_ret (pv 5)) pss_nil)))))), ?_⟩
  rintro ⟨v_cell, v_sizes, _⟩
  show BD _ _ _ (m__law_draws v_cell v_sizes) _
  unfold m__law_draws
  refine bd_setP (Evm.cast (evm_cbT (eva_cons (evm_flat (l2 := .raw) (evm_cbT (eva_cons (evm_flat (l2 := .raw) (evm_var rfl)) eva_nil) fun _ => ra_int)) eva_nil) fun _ => ra_abs) (by first | with_reducible rfl | (simp -implicitDefEqProofs only [R.bind_assoc, R.bind_ok, R.bind_right, R.of_some, compR_map, compR_filter, compR_id, compR_idF, R.ifm_ok, Bool.and_true, Bool.or_false, R.ite_and, R.ite_or]; done) | (simp -implicitDefEqProofs only [R.bind_assoc, R.bind_ok, R.bind_right, R.of_some, compR_map, compR_filter, compR_id, compR_idF, R.ifm_ok, Bool.and_true, Bool.or_false, R.ite_ok, R.ite_and, R.ite_or]; done) | rfl)) trivial (lt_of rfl) ?_
  intro v_digits_1
  refine bd_set (Evm.cast (evm_opT (evm_var rfl) (evm_op evm_int evm_int fun _ _ _ _ => rv_pow) fun _ _ => rv_IB) (by first | with_reducible rfl | (simp -implicitDefEqProofs only [R.bind_assoc, R.bind_ok, R.bind_right, R.of_some, compR_map, compR_filter, compR_id, compR_idF, R.ifm_ok, Bool.and_true, Bool.or_false, R.ite_and, R.ite_or]; done) | (simp -implicitDefEqProofs only [R.bind_assoc, R.bind_ok, R.bind_right, R.of_some, compR_map, compR_filter, compR_id, compR_idF, R.ifm_ok, Bool.and_true, Bool.or_false, R.ite_ok, R.ite_and, R.ite_or]; done) | rfl)) trivial (lt_of rfl) ?_
  intro v_great_3
  refine bd_setP (Evm.cast (evm_var rfl) (by first | with_reducible rfl | (simp -implicitDefEqProofs only [R.bind_assoc, R.bind_ok, R.bind_right, R.of_some, compR_map, compR_filter, compR_id, compR_idF, R.ifm_ok, Bool.and_true, Bool.or_false, R.ite_and, R.ite_or]; done) | (simp -implicitDefEqProofs only [R.bind_assoc, R.bind_ok, R.bind_right, R.of_some, compR_map, compR_filter, compR_id, compR_idF, R.ifm_ok, Bool.and_true, Bool.or_false, R.ite_ok, R.ite_and, R.ite_or]; done) | rfl)) trivial (lt_of rfl) ?_
  intro v_first_4
  refine bd_setNP (EvN.cast (evn_lst (l := .fr) (f := fun b : Unit => ([] : (List Int))) eva_nil (fun _ => rfl) (fun _ => by show (0 : Nat) ≤ 1000; decide)) (by first | with_reducible rfl | (simp -implicitDefEqProofs only [R.bind_assoc, R.bind_ok, R.bind_right, R.of_some, compR_map, compR_filter, compR_id, compR_idF, R.ifm_ok, Bool.and_true, Bool.or_false, R.ite_and, R.ite_or]; done) | (simp -implicitDefEqProofs only [R.bind_assoc, R.bind_ok, R.bind_right, R.of_some, compR_map, compR_filter, compR_id, compR_idF, R.ifm_ok, Bool.and_true, Bool.or_false, R.ite_ok, R.ite_and, R.ite_or]; done) | rfl)) trivial (lt_of rfl) ?_
  intro v_out_5
  refine bd_fold (l1 := .fr) (es := (fun s7 : (List Int) × Int => [.sh .pa (enc (v_cell : Int)), .sh .pa (enc (v_sizes : (List Int))), .sh .fr (enc (s7.2 : Int)), .sh .fr (enc (v_great_3 : Bool)), .sh .fr (enc (v_first_4 : Int)), .ow .fr ((s7.1 : (List Int)).map enc), .un, .un])) (EvI.cast (evi_rng1 (evm_cbT (eva_cons (evm_raw (evm_var rfl)) eva_nil) fun _ => ra_len)) (by first | with_reducible rfl | (simp -implicitDefEqProofs only [R.bind_assoc, R.bind_ok, R.bind_right, R.of_some, compR_map, compR_filter, compR_id, compR_idF, R.ifm_ok, Bool.and_true, Bool.or_false, R.ite_and, R.ite_or]; done) | (simp -implicitDefEqProofs only [R.bind_assoc, R.bind_ok, R.bind_right, R.of_some, compR_map, compR_filter, compR_id, compR_idF, R.ifm_ok, Bool.and_true, Bool.or_false, R.ite_ok, R.ite_and, R.ite_or]; done) | rfl)) trivial (Wk.keep (Wk.keep (Wk.keep (Wk.keep (Wk.keep (Wk.keep (Wk.keep (Wk.keep Wk.nil)))))))) (tg_name trivial) (hu1 fun _ => rfl) ?_ ?_
  · intro x6 s7
    unfold m__law_draws_b1
    refine bd_join (es := (fun s38 : (List Int) × Int => [.sh .pa (enc (v_cell : Int)), .sh .pa (enc (v_sizes : (List Int))), .sh .fr (enc (s38.2 : Int)), .sh .fr (enc (v_great_3 : Bool)), .sh .fr (enc (v_first_4 : Int)), .ow .fr ((s38.1 : (List Int)).map enc), .sh .fr (enc (x6 : Int)), .un])) (bd_tail ?_) ?_
    · refine bd_if (EvT.cast (evt_and (evt_B (evm_var rfl)) (evt_test (evm_opT (evm_var rfl) evm_int fun _ _ => rv_IB))) (by first | with_reducible rfl | (simp -implicitDefEqProofs only [R.bind_assoc, R.bind_ok, R.bind_right, R.of_some, compR_map, compR_filter, compR_id, compR_idF, R.ifm_ok, Bool.and_true, Bool.or_false, R.ite_and, R.ite_or]; done) | (simp -implicitDefEqProofs only [R.bind_assoc, R.bind_ok, R.bind_right, R.of_some, compR_map, compR_filter, compR_id, compR_idF, R.ifm_ok, Bool.and_true, Bool.or_false, R.ite_ok, R.ite_and, R.ite_or]; done) | rfl)) ?_ ?_
      · refine bd_assoc ?_
        refine bd_app (by rfl) (Evm.cast (evm_op (evm_cbT (eva_cons (evm_flat (l2 := .raw) (evm_var rfl)) eva_nil) fun _ => ra_int) (evm_flat (l2 := .fr) (evm_ix (evm_var rfl) (evm_var rfl))) fun _ _ _ _ => rv_mod) (by first | with_reducible rfl | (simp -implicitDefEqProofs only [R.bind_assoc, R.bind_ok, R.bind_right, R.of_some, compR_map, compR_filter, compR_id, compR_idF, R.ifm_ok, Bool.and_true, Bool.or_false, R.ite_and, R.ite_or]; done) | (simp -implicitDefEqProofs only [R.bind_assoc, R.bind_ok, R.bind_right, R.of_some, compR_map, compR_filter, compR_id, compR_idF, R.ifm_ok, Bool.and_true, Bool.or_false, R.ite_ok, R.ite_and, R.ite_or]; done) | rfl)) ?_
        intro v_out_41
        refine bd_assoc ?_
        refine bd_set (Evm.cast (evm_op (evm_var rfl) (evm_flat (l2 := .fr) (evm_ix (evm_var rfl) (evm_var rfl))) fun _ _ _ _ => rv_div) (by first | with_reducible rfl | (simp -implicitDefEqProofs only [R.bind_assoc, R.bind_ok, R.bind_right, R.of_some, compR_map, compR_filter, compR_id, compR_idF, R.ifm_ok, Bool.and_true, Bool.or_false, R.ite_and, R.ite_or]; done) | (simp -implicitDefEqProofs only [R.bind_assoc, R.bind_ok, R.bind_right, R.of_some, compR_map, compR_filter, compR_id, compR_idF, R.ifm_ok, Bool.and_true, Bool.or_false, R.ite_ok, R.ite_and, R.ite_or]; done) | rfl)) trivial (lt_of rfl) ?_
        intro v_digits_44
        refine bd_nil ?_
        exact bd_end (Wk.keep (Wk.keep (Wk.keep (Wk.keep (Wk.keep (Wk.keep (Wk.keep (Wk.keep Wk.nil)))))))) rfl
      · refine bd_assoc ?_
        refine bd_set (Evm.cast (evm_op (evm_cbT (eva_cons (evm_flat (l2 := .raw) (evm_opT (evm_opT (evm_var rfl) (evm_op evm_int (evm_var rfl) fun _ _ _ _ => rv_mul) fun _ _ => rv_II) evm_int fun _ _ => rv_II)) eva_nil) fun _ => ra_int) evm_int fun _ _ _ _ => rv_mod) (by first | with_reducible rfl | (simp -implicitDefEqProofs only [R.bind_assoc, R.bind_ok, R.bind_right, R.of_some, compR_map, compR_filter, compR_id, compR_idF, R.ifm_ok, Bool.and_true, Bool.or_false, R.ite_and, R.ite_or]; done) | (simp -implicitDefEqProofs only [R.bind_assoc, R.bind_ok, R.bind_right, R.of_some, compR_map, compR_filter, compR_id, compR_idF, R.ifm_ok, Bool.and_true, Bool.or_false, R.ite_ok, R.ite_and, R.ite_or]; done) | rfl)) trivial (lt_of rfl) ?_
        intro v_mixed_51
        refine bd_assoc ?_
        refine bd_set (Evm.cast (evm_op (evm_cbT (eva_cons (evm_flat (l2 := .raw) (evm_op (evm_var rfl) (evm_opT (evm_var rfl) evm_int fun _ _ => rv_II) fun _ _ _ _ => rv_mul)) eva_nil) fun _ => ra_int) evm_int fun _ _ _ _ => rv_mod) (by first | with_reducible rfl | (simp -implicitDefEqProofs only [R.bind_assoc, R.bind_ok, R.bind_right, R.of_some, compR_map, compR_filter, compR_id, compR_idF, R.ifm_ok, Bool.and_true, Bool.or_false, R.ite_and, R.ite_or]; done) | (simp -implicitDefEqProofs only [R.bind_assoc, R.bind_ok, R.bind_right, R.of_some, compR_map, compR_filter, compR_id, compR_idF, R.ifm_ok, Bool.and_true, Bool.or_false, R.ite_ok, R.ite_and, R.ite_or]; done) | rfl)) trivial (lt_of rfl) ?_
        intro v_mixed_55
        refine bd_assoc ?_
        refine bd_set (Evm.cast (evm_op (evm_cbT (eva_cons (evm_flat (l2 := .raw) (evm_opT (evm_op (evm_var rfl) (evm_opT (evm_var rfl) evm_int fun _ _ => rv_II) fun _ _ _ _ => rv_mul) (evm_op evm_int (evm_var rfl) fun _ _ _ _ => rv_mul) fun _ _ => rv_II)) eva_nil) fun _ => ra_int) evm_int fun _ _ _ _ => rv_mod) (by first | with_reducible rfl | (simp -implicitDefEqProofs only [R.bind_assoc, R.bind_ok, R.bind_right, R.of_some, compR_map, compR_filter, compR_id, compR_idF, R.ifm_ok, Bool.and_true, Bool.or_false, R.ite_and, R.ite_or]; done) | (simp -implicitDefEqProofs only [R.bind_assoc, R.bind_ok, R.bind_right, R.of_some, compR_map, compR_filter, compR_id, compR_idF, R.ifm_ok, Bool.and_true, Bool.or_false, R.ite_ok, R.ite_and, R.ite_or]; done) | rfl)) trivial (lt_of rfl) ?_
        intro v_mixed_61
        refine bd_assoc ?_
        refine bd_app (by rfl) (Evm.cast (evm_op (evm_cbT (eva_cons (evm_flat (l2 := .raw) (evm_op (evm_var rfl) evm_int fun _ _ _ _ => rv_div)) eva_nil) fun _ => ra_int) (evm_flat (l2 := .fr) (evm_ix (evm_var rfl) (evm_var rfl))) fun _ _ _ _ => rv_mod) (by first | with_reducible rfl | (simp -implicitDefEqProofs only [R.bind_assoc, R.bind_ok, R.bind_right, R.of_some, compR_map, compR_filter, compR_id, compR_idF, R.ifm_ok, Bool.and_true, Bool.or_false, R.ite_and, R.ite_or]; done) | (simp -implicitDefEqProofs only [R.bind_assoc, R.bind_ok, R.bind_right, R.of_some, compR_map, compR_filter, compR_id, compR_idF, R.ifm_ok, Bool.and_true, Bool.or_false, R.ite_ok, R.ite_and, R.ite_or]; done) | rfl)) ?_
        intro v_out_67
        refine bd_nil ?_
        exact bd_end (Wk.keep (Wk.keep (Wk.keep (Wk.keep (Wk.keep (Wk.keep (Wk.keep (Wk.lose Wk.nil)))))))) rfl
    intro s38
    exact bd_end (Wk.keep (Wk.keep (Wk.keep (Wk.keep (Wk.keep (Wk.keep (Wk.lose (Wk.keep Wk.nil)))))))) rfl
  intro s7
  exact bd_retO rfl (by rfl) (by rfl)
theorem ok__law_hand {f : Addr} {fd : FuncData} (F : Fun K "_law_hand" "_law_hand" s__law_hand f fd) (hT : T.K = K) (k__law_draws : Kd P w K mg base CX0 "_law_draws" ["_law_cell_here", "_law_sizes"] 1 (Pm T (.nw .fr) (fun b : Int × (List Int) × Unit => m__law_draws b.1 b.2.1))) (z_range : mg "range" = none) :
    FnOk P w K mg base CX0 2 f fd ["_law_cell_here", "_law_count", "_law_kind"] (Pm T (.nw .fr) (fun b : Int × Int × Int × Unit => m__law_hand b.1 b.2.1 b.2.2.1)) := by
  subst hT
  refine fn_pm F sc__law_hand (fun _ => rfl) fun cdv A outer s H E hr => ⟨_, (pss_cons (ps_if (pt_cmpR op_eq (pv 2) pe_int rfl) (pss_cons (ps_ret (pe_lc (own := [("_law_x", 3)]) (g := (gName 3)) rfl sc__law_hand.nd (k_pil T.K rfl (pe_kd k__law_draws (hr.mono (by decide)) (by rfl) (pa_cons (pv 0) (pa_cons (pe_lc (own := [("_law_k", 4)]) (g := (gName 4)) rfl sc__law_hand.nd (pi_range1 (by rfl) z_range (pa_cons (pv 1) pa_nil)) (blkOk_by (N := N__law_hand) (sc := defScope s__law_hand) (by decide +kernel)) (fun _ _ _ _ _ => (pg_name (i := 4) sc__law_hand.nd rfl (Or.inl rfl))) (fun _ _ _ _ _ => pts_nil) (fun _ _ _ _ _ => pe_int)) pa_nil)))) (blkOk_by (N := N__law_hand) (sc := defScope s__law_hand) (by decide +kernel)) (fun _ _ _ _ _ => (pg_name (i := 3) sc__law_hand.nd rfl (Or.inl rfl))) (fun _ _ _ _ _ => pts_nil) (fun _ _ _ _ _ => (pe_op op_sub (pv 3) pe_int)))) pss_nil) pss_nil) (pss_cons (ps_if (pt_cmpR op_eq (pv 2) pe_int rfl) (pss_cons (ps_ret (pe_lc (own := [("_law_x", 3)]) (g := (gName 3)) rfl sc__law_hand.nd (k_pil T.K rfl (pe_kd k__law_draws (hr.mono (by decide)) (by rfl) (pa_cons (pv 0) (pa_cons (pe_lc (own := [("_law_k", 4)]) (g := (gName 4)) rfl sc__law_hand.nd (pi_range1 (by rfl) z_range (pa_cons (pv 1) pa_nil)) (blkOk_by (N := N__law_hand) (sc := defScope s__law_hand) (by decide +kernel)) (fun _ _ _ _ _ => (pg_name (i := 4) sc__law_hand.nd rfl (Or.inl rfl))) (fun _ _ _ _ _ => pts_nil) (fun _ _ _ _ _ => (pe_op op_add (pe_op op_mul pe_int (pv 1)) pe_int))) pa_nil)))) (blkOk_by (N := N__law_hand) (sc := defScope s__law_hand) (by decide +kernel)) (fun _ _ _ _ _ => (pg_name (i := 3) sc__law_hand.nd rfl (Or.inl rfl))) (fun _ _ _ _ _ => pts_nil) (fun _ _ _ _ _ => (pe_op op_sub (pv 3) (pv 1))))) pss_nil) pss_nil) (pss_cons (ps_if (pt_cmpR op_eq (pv 2) pe_int rfl) (pss_cons (ps_ret (pe_lc (own := [("_law_x", 3)]) (g := (gName 3)) rfl sc__law_hand.nd (k_pil T.K rfl (pe_kd k__law_draws (hr.mono (by decide)) (by rfl) (pa_cons (pv 0) (pa_cons (pe_lc (own := [("_law_k", 4)]) (g := (gName 4)) rfl sc__law_hand.nd (pi_range1 (by rfl) z_range (pa_cons (pv 1) pa_nil)) (blkOk_by (N := N__law_hand) (sc := defScope s__law_hand) (by decide +kernel)) (fun _ _ _ _ _ => (pg_name (i := 4) sc__law_hand.nd rfl (Or.inl rfl))) (fun _ _ _ _ _ => pts_nil) (fun _ _ _ _ _ => (pe_op op_add (pe_op op_mul pe_int (pe_op op_pow pe_int pe_int)) pe_int))) pa_nil)))) (blkOk_by (N := N__law_hand) (sc := defScope s__law_hand) (by decide +kernel)) (fun _ _ _ _ _ => (pg_name (i := 3) sc__law_hand.nd rfl (Or.inl rfl))) (fun _ _ _ _ _ => pts_nil) (fun _ _ _ _ _ => (pe_op op_sub (pv 3) (pe_op op_pow pe_int pe_int))))) pss_nil) pss_nil) (pss_cons (ps_ret (pe_lc (own := [("_law_x", 3)]) (g := (gName 3)) rfl sc__law_hand.nd (k_pil T.K rfl (pe_kd k__law_draws (hr.mono (by decide)) (by rfl) (pa_cons (pv 0) (pa_cons (pe_lc (own := [("_law_k", 4)]) (g := (gName 4)) rfl sc__law_hand.nd (pi_range1 (by rfl) z_range (pa_cons (pv 1) pa_nil)) (blkOk_by (N := N__law_hand) (sc := defScope s__law_hand) (by decide +kernel)) (fun _ _ _ _ _ => (pg_name (i := 4) sc__law_hand.nd rfl (Or.inl rfl))) (fun _ _ _ _ _ => pts_nil) (fun _ _ _ _ _ => (pe_op op_add (pv 1) pe_int))) pa_nil)))) (blkOk_by (N := N__law_hand) (sc := defScope s__law_hand) (by decide +kernel)) (fun _ _ _ _ _ => (pg_name (i := 3) sc__law_hand.nd rfl (Or.inl rfl))) (fun _ _ _ _ _ => pts_nil) (fun _ _ _ _ _ => (pv 3)))) pss_nil)))), ?_⟩
  rintro ⟨v_cell, v_count, v_kind, _⟩
  show BD _ _ _ (m__law_hand v_cell v_count v_kind) _
  unfold m__law_hand
  refine bd_if (EvT.cast (evt_test (evm_opT (evm_var rfl) evm_int fun _ _ => rv_eqI)) (by first | with_reducible rfl | (simp -implicitDefEqProofs only [R.bind_assoc, R.bind_ok, R.bind_right, R.of_some, compR_map, compR_filter, compR_id, compR_idF, R.ifm_ok, Bool.and_true, Bool.or_false, R.ite_and, R.ite_or]; done) | (simp -implicitDefEqProofs only [R.bind_assoc, R.bind_ok, R.bind_right, R.of_some, compR_map, compR_filter, compR_id, compR_idF, R.ifm_ok, Bool.and_true, Bool.or_false, R.ite_ok, R.ite_and, R.ite_or]; done) | rfl)) ?_ ?_
  · refine bd_assoc ?_
    exact bd_retN1 rfl (EvN.cast (evn_lc (l := .fr) (l1 := .fr) (l3 := .fr) rfl trivial trivial (.inl rfl) (evi_list (evn_ev (evn_callF rfl (eva_cons (evm_flat (l2 := .raw) (evm_var rfl)) (eva_cons (evm_raw (evn_ev (evn_lc (l := .fr) (l1 := .fr) (l3 := .fr) rfl trivial trivial (.inl rfl) (evi_rng1 (evm_var rfl)) (hv1 rfl rfl) (tg_name trivial) (fun x1 => evt_yes) (fun x1 => evm_int)))) eva_nil))))) (hv1 rfl rfl) (tg_name trivial) (fun x4 => evt_yes) (fun x4 => (evm_opT (evm_var rfl) evm_int fun _ _ => rv_II))) (by first | with_reducible rfl | (simp -implicitDefEqProofs only [R.bind_assoc, R.bind_ok, R.bind_right, R.of_some, compR_map, compR_filter, compR_id, compR_idF, R.ifm_ok, Bool.and_true, Bool.or_false, R.ite_and, R.ite_or]; done) | (simp -implicitDefEqProofs only [R.bind_assoc, R.bind_ok, R.bind_right, R.of_some, compR_map, compR_filter, compR_id, compR_idF, R.ifm_ok, Bool.and_true, Bool.or_false, R.ite_ok, R.ite_and, R.ite_or]; done) | rfl)) (fun _ => rfl)
  · refine bd_nil ?_
    refine bd_if (EvT.cast (evt_test (evm_opT (evm_var rfl) evm_int fun _ _ => rv_eqI)) (by first | with_reducible rfl | (simp -implicitDefEqProofs only [R.bind_assoc, R.bind_ok, R.bind_right, R.of_some, compR_map, compR_filter, compR_id, compR_idF, R.ifm_ok, Bool.and_true, Bool.or_false, R.ite_and, R.ite_or]; done) | (simp -implicitDefEqProofs only [R.bind_assoc, R.bind_ok, R.bind_right, R.of_some, compR_map, compR_filter, compR_id, compR_idF, R.ifm_ok, Bool.and_true, Bool.or_false, R.ite_ok, R.ite_and, R.ite_or]; done) | rfl)) ?_ ?_
    · refine bd_assoc ?_
      exact bd_retN1 rfl (EvN.cast (evn_lc (l := .fr) (l1 := .fr) (l3 := .fr) rfl trivial trivial (.inl rfl) (evi_list (evn_ev (evn_callF rfl (eva_cons (evm_flat (l2 := .raw) (evm_var rfl)) (eva_cons (evm_raw (evn_ev (evn_lc (l := .fr) (l1 := .fr) (l3 := .fr) rfl trivial trivial (.inl rfl) (evi_rng1 (evm_var rfl)) (hv1 rfl rfl) (tg_name trivial) (fun x6 => evt_yes) (fun x6 => (evm_opT (evm_op evm_int (evm_var rfl) fun _ _ _ _ => rv_mul) evm_int fun _ _ => rv_II))))) eva_nil))))) (hv1 rfl rfl) (tg_name trivial) (fun x10 => evt_yes) (fun x10 => (evm_opT (evm_var rfl) (evm_var rfl) fun _ _ => rv_II))) (by first | with_reducible rfl | (simp -implicitDefEqProofs only [R.bind_assoc, R.bind_ok, R.bind_right, R.of_some, compR_map, compR_filter, compR_id, compR_idF, R.ifm_ok, Bool.and_true, Bool.or_false, R.ite_and, R.ite_or]; done) | (simp -implicitDefEqProofs only [R.bind_assoc, R.bind_ok, R.bind_right, R.of_some, compR_map, compR_filter, compR_id, compR_idF, R.ifm_ok, Bool.and_true, Bool.or_false, R.ite_ok, R.ite_and, R.ite_or]; done) | rfl)) (fun _ => rfl)
    · refine bd_nil ?_
      refine bd_if (EvT.cast (evt_test (evm_opT (evm_var rfl) evm_int fun _ _ => rv_eqI)) (by first | with_reducible rfl | (simp -implicitDefEqProofs only [R.bind_assoc, R.bind_ok, R.bind_right, R.of_some, compR_map, compR_filter, compR_id, compR_idF, R.ifm_ok, Bool.and_true, Bool.or_false, R.ite_and, R.ite_or]; done) | (simp -implicitDefEqProofs only [R.bind_assoc, R.bind_ok, R.bind_right, R.of_some, compR_map, compR_filter, compR_id, compR_idF, R.ifm_ok, Bool.and_true, Bool.or_false, R.ite_ok, R.ite_and, R.ite_or]; done) | rfl)) ?_ ?_
      · refine bd_assoc ?_
        exact bd_retN1 rfl (EvN.cast (evn_lc (l := .fr) (l1 := .fr) (l3 := .fr) rfl trivial trivial (.inl rfl) (evi_list (evn_ev (evn_callF rfl (eva_cons (evm_flat (l2 := .raw) (evm_var rfl)) (eva_cons (evm_raw (evn_ev (evn_lc (l := .fr) (l1 := .fr) (l3 := .fr) rfl trivial trivial (.inl rfl) (evi_rng1 (evm_var rfl)) (hv1 rfl rfl) (tg_name trivial) (fun x12 => evt_yes) (fun x12 => (evm_opT (evm_op evm_int (evm_op evm_int evm_int fun _ _ _ _ => rv_pow) fun _ _ _ _ => rv_mul) evm_int fun _ _ => rv_II))))) eva_nil))))) (hv1 rfl rfl) (tg_name trivial) (fun x18 => evt_yes) (fun x18 => (evm_opT (evm_var rfl) (evm_op evm_int evm_int fun _ _ _ _ => rv_pow) fun _ _ => rv_II))) (by first | with_reducible rfl | (simp -implicitDefEqProofs only [R.bind_assoc, R.bind_ok, R.bind_right, R.of_some, compR_map, compR_filter, compR_id, compR_idF, R.ifm_ok, Bool.and_true, Bool.or_false, R.ite_and, R.ite_or]; done) | (simp -implicitDefEqProofs only [R.bind_assoc, R.bind_ok, R.bind_right, R.of_some, compR_map, compR_filter, compR_id, compR_idF, R.ifm_ok, Bool.and_true, Bool.or_false, R.ite_ok, R.ite_and, R.ite_or]; done) | rfl)) (fun _ => rfl)
      · refine bd_nil ?_
        exact bd_retN1 rfl (EvN.cast (evn_lc (l := .fr) (l1 := .fr) (l3 := .fr) rfl trivial trivial (.inl rfl) (evi_list (evn_ev (evn_callF rfl (eva_cons (evm_flat (l2 := .raw) (evm_var rfl)) (eva_cons (evm_raw (evn_ev (evn_lc (l := .fr) (l1 := .fr) (l3 := .fr) rfl trivial trivial (.inl rfl) (evi_rng1 (evm_var rfl)) (hv1 rfl rfl) (tg_name trivial) (fun x21 => evt_yes) (fun x21 => (evm_opT (evm_var rfl) evm_int fun _ _ => rv_II))))) eva_nil))))) (hv1 rfl rfl) (tg_name trivial) (fun x24 => evt_yes) (fun x24 => (evm_var rfl))) (by first | with_reducible rfl | (simp -implicitDefEqProofs only [R.bind_assoc, R.bind_ok, R.bind_right, R.of_some, compR_map, compR_filter, compR_id, compR_idF, R.ifm_ok, Bool.and_true, Bool.or_false, R.ite_and, R.ite_or]; done) | (simp -implicitDefEqProofs only [R.bind_assoc, R.bind_ok, R.bind_right, R.of_some, compR_map, compR_filter, compR_id, compR_idF, R.ifm_ok, Bool.and_true, Bool.or_false, R.ite_ok, R.ite_and, R.ite_or]; done) | rfl)) (fun _ => rfl)
theorem ok__law_hands {f : Addr} {fd : FuncData} (F : Fun K "_law_hands" "_law_hands" s__law_hands f fd) (hT : T.K = K) (k__law_cell : Kd P w K mg base CX0 "_law_cell" ["_law_script", "_law_k"] 1 (Pm T (.val .fr) (fun b : Scr × Int × Unit => m__law_cell b.1 b.2.1))) (k__law_draws : Kd P w K mg base CX0 "_law_draws" ["_law_cell_here", "_law_sizes"] 1 (Pm T (.nw .fr) (fun b : Int × (List Int) × Unit => m__law_draws b.1 b.2.1))) (k__law_hand : Kd P w K mg base CX0 "_law_hand" ["_law_cell_here", "_law_count", "_law_kind"] 2 (Pm T (.nw .fr) (fun b : Int × Int × Int × Unit => m__law_hand b.1 b.2.1 b.2.2.1))) (z_list : mg "list" = none) :
    FnOk P w K mg base CX0 3 f fd ["_law_script", "_law_at", "_law_count"] (Pm T (.val .fr) (fun b : Scr × Int × Int × Unit => m__law_hands b.1 b.2.1 b.2.2.1)) := by
  subst hT
  refine fn_pm F sc__law_hands (fun _ => rfl) fun cdv A outer s H E hr => ⟨_, (pss_cons (ps_set (i := 3) sc__law_hands.nd rfl (Or.inr rfl) (pe_kd k__law_draws (hr.mono (by decide)) (by rfl) (pa_cons (pe_kd k__law_cell (hr.mono (by decide)) (by rfl) (pa_cons (pv 0) (pa_cons (pv 1) pa_nil))) (pa_cons (pe_lst (pa_cons pe_int (pa_cons pe_int (pa_cons pe_int (pa_cons pe_int pa_nil))))) pa_nil)))) (pss_cons (ps_set (i := 4) sc__law_hands.nd rfl (Or.inl rfl) (pe_kd k__law_hand (hr.mono (by decide)) (by rfl) (pa_cons (pe_kd k__law_cell (hr.mono (by decide)) (by rfl) (pa_cons (pv 0) (pa_cons (pe_op op_add (pv 1) pe_int) pa_nil))) (pa_cons (pv 2) (pa_cons (pe_op op_mod (pe_ix (k_ixl T.K rfl) (pv 3) pe_int (fun _ _ => rfl)) pe_int) pa_nil))))) (pss_cons (ps_set (i := 5) sc__law_hands.nd rfl (Or.inl rfl) (pe_kd k__law_hand (hr.mono (by decide)) (by rfl) (pa_cons (pe_kd k__law_cell (hr.mono (by decide)) (by rfl) (pa_cons (pv 0) (pa_cons (pe_op op_add (pv 1) pe_int) pa_nil))) (pa_cons (pv 2) (pa_cons (pe_op op_mod (pe_ix (k_ixl T.K rfl) (pv 3) pe_int (fun _ _ => rfl)) pe_int) pa_nil))))) (pss_cons (ps_if (pt_cmpR op_eq (pe_ix (k_ixl T.K rfl) (pv 3) pe_int (fun _ _ => rfl)) pe_int rfl) (pss_cons (ps_set (i := 5) sc__law_hands.nd rfl (Or.inl rfl) (pe_callTy (k_list T.K rfl) (by rfl) z_list PyProof.Rows.boot_list (pa_cons (pv 4) pa_nil))) (pss_cons (ps_if (pw_and (pt_cmpR op_gt (pv 2) pe_int rfl) (pw_and1 (pt_cmpR op_gt (pe_ix (k_ixl T.K rfl) (pv 3) pe_int (fun _ _ => rfl)) pe_int rfl))).pt (pss_cons (ps_asg (pe_op op_sub (pe_op op_add (pe_ix (k_ixl T.K rfl) (pv 5) (pe_op op_mod (pe_ix (k_ixl T.K rfl) (pv 3) pe_int (fun _ _ => rfl)) (pv 2)) (fun _ _ => rfl)) (pe_ix (k_ixl T.K rfl) (pv 3) pe_int (fun _ _ => rfl))) pe_int) (pg_sub (pv 5) (pe_op op_mod (pe_ix (k_ixl T.K rfl) (pv 3) pe_int (fun _ _ => rfl)) (pv 2)) set_list)) pss_nil) pss_nil) pss_nil)) pss_nil) (pss_cons (ps_if (pw_and (pt_cmpR op_eq (pe_ix (k_ixl T.K rfl) (pv 3) pe_int (fun _ _ => rfl)) pe_int rfl) (pw_and1 (pt_cmpR op_gt (pe_ix (k_ixl T.K rfl) (pv 3) pe_int (fun _ _ => rfl)) pe_int rfl))).pt (pss_cons (ps_setLc (i := 5) (own := [("_law_x", 6)]) (g := (gName 6)) rfl sc__law_hands.nd rfl rfl (sw_true rfl rfl rfl (by decide +kernel)) (k_pil T.K rfl (pv 4)) (blkOk_by (N := N__law_hands) (sc := defScope s__law_hands) (by decide +kernel)) (fun _ _ _ _ _ => (pg_name (i := 6) sc__law_hands.nd rfl (Or.inl rfl))) (fun _ _ _ _ _ => pts_nil) (fun _ _ _ _ _ => (pe_op op_sub (pe_op op_add (pv 6) pe_int) (pe_op op_mul pe_int (pe_ix (k_ixl T.K rfl) (pv 3) pe_int (fun _ _ => rfl)))))) pss_nil) pss_nil) (pss_cons (ps_ret (pe_tup (pa_cons (pv 4) (pa_cons (pv 5) pa_nil)))) pss_nil)))))), ?_⟩
  rintro ⟨v_script, v_at, v_count, _⟩
  show BD _ _ _ (m__law_hands v_script v_at v_count) _
  unfold m__law_hands
  refine bd_setN (EvN.cast (evn_callF rfl (eva_cons (evm_flat (l2 := .raw) (evm_callF rfl (eva_cons (evm_raw (evm_var rfl)) (eva_cons (evm_flat (l2 := .raw) (evm_var rfl)) eva_nil)))) (eva_cons (evm_raw (evn_ev (evn_lst (l := .fr) (f := fun b : Int × Int × Int × Int × Unit => ([b.1, b.2.1, b.2.2.1, b.2.2.2.1] : (List Int))) (eva_cons evm_int (eva_cons evm_int (eva_cons evm_int (eva_cons evm_int eva_nil)))) (fun _ => rfl) (fun _ => by show (4 : Nat) ≤ 1000; decide)))) eva_nil))) (by first | with_reducible rfl | (simp -implicitDefEqProofs only [R.bind_assoc, R.bind_ok, R.bind_right, R.of_some, compR_map, compR_filter, compR_id, compR_idF, R.ifm_ok, Bool.and_true, Bool.or_false, R.ite_and, R.ite_or]; done) | (simp -implicitDefEqProofs only [R.bind_assoc, R.bind_ok, R.bind_right, R.of_some, compR_map, compR_filter, compR_id, compR_idF, R.ifm_ok, Bool.and_true, Bool.or_false, R.ite_ok, R.ite_and, R.ite_or]; done) | rfl)) trivial (lt_of rfl) ?_
  intro v_shape_2
  refine bd_setN (EvN.cast (evn_callF rfl (eva_cons (evm_flat (l2 := .raw) (evm_callF rfl (eva_cons (evm_raw (evm_var rfl)) (eva_cons (evm_flat (l2 := .raw) (evm_opT (evm_var rfl) evm_int fun _ _ => rv_II)) eva_nil)))) (eva_cons (evm_flat (l2 := .raw) (evm_var rfl)) (eva_cons (evm_flat (l2 := .raw) (evm_op (evm_ixo rfl evm_int) evm_int fun _ _ _ _ => rv_mod)) eva_nil)))) (by first | with_reducible rfl | (simp -implicitDefEqProofs only [R.bind_assoc, R.bind_ok, R.bind_right, R.of_some, compR_map, compR_filter, compR_id, compR_idF, R.ifm_ok, Bool.and_true, Bool.or_false, R.ite_and, R.ite_or]; done) | (simp -implicitDefEqProofs only [R.bind_assoc, R.bind_ok, R.bind_right, R.of_some, compR_map, compR_filter, compR_id, compR_idF, R.ifm_ok, Bool.and_true, Bool.or_false, R.ite_ok, R.ite_and, R.ite_or]; done) | rfl)) trivial (lt_of rfl) ?_
  intro v_mine_7
  refine bd_setN (EvN.cast (evn_callF rfl (eva_cons (evm_flat (l2 := .raw) (evm_callF rfl (eva_cons (evm_raw (evm_var rfl)) (eva_cons (evm_flat (l2 := .raw) (evm_opT (evm_var rfl) evm_int fun _ _ => rv_II)) eva_nil)))) (eva_cons (evm_flat (l2 := .raw) (evm_var rfl)) (eva_cons (evm_flat (l2 := .raw) (evm_op (evm_ixo rfl evm_int) evm_int fun _ _ _ _ => rv_mod)) eva_nil)))) (by first | with_reducible rfl | (simp -implicitDefEqProofs only [R.bind_assoc, R.bind_ok, R.bind_right, R.of_some, compR_map, compR_filter, compR_id, compR_idF, R.ifm_ok, Bool.and_true, Bool.or_false, R.ite_and, R.ite_or]; done) | (simp -implicitDefEqProofs only [R.bind_assoc, R.bind_ok, R.bind_right, R.of_some, compR_map, compR_filter, compR_id, compR_idF, R.ifm_ok, Bool.and_true, Bool.or_false, R.ite_ok, R.ite_and, R.ite_or]; done) | rfl)) trivial (lt_of rfl) ?_
  intro v_theirs_12
  refine bd_join (es := (fun s39 : (List Int) => [.sh .pa (enc (v_script : Scr)), .sh .pa (enc (v_at : Int)), .sh .pa (enc (v_count : Int)), .ow .fr ((v_shape_2 : (List Int)).map enc), .ow .fr ((v_mine_7 : (List Int)).map enc), .ow .fr ((s39 : (List Int)).map enc), .un])) (bd_tail ?_) ?_
  · refine bd_if (EvT.cast (evt_test (evm_opT (evm_ixo rfl evm_int) evm_int fun _ _ => rv_eqI)) (by first | with_reducible rfl | (simp -implicitDefEqProofs only [R.bind_assoc, R.bind_ok, R.bind_right, R.of_some, compR_map, compR_filter, compR_id, compR_idF, R.ifm_ok, Bool.and_true, Bool.or_false, R.ite_and, R.ite_or]; done) | (simp -implicitDefEqProofs only [R.bind_assoc, R.bind_ok, R.bind_right, R.of_some, compR_map, compR_filter, compR_id, compR_idF, R.ifm_ok, Bool.and_true, Bool.or_false, R.ite_ok, R.ite_and, R.ite_or]; done) | rfl)) ?_ ?_
    · refine bd_assoc ?_
      refine bd_setNP (EvN.cast (evn_listofo rfl) (by first | with_reducible rfl | (simp -implicitDefEqProofs only [R.bind_assoc, R.bind_ok, R.bind_right, R.of_some, compR_map, compR_filter, compR_id, compR_idF, R.ifm_ok, Bool.and_true, Bool.or_false, R.ite_and, R.ite_or]; done) | (simp -implicitDefEqProofs only [R.bind_assoc, R.bind_ok, R.bind_right, R.of_some, compR_map, compR_filter, compR_id, compR_idF, R.ifm_ok, Bool.and_true, Bool.or_false, R.ite_ok, R.ite_and, R.ite_or]; done) | rfl)) trivial (lt_of rfl) ?_
      intro v_theirs_40
      refine bd_assoc ?_
      refine bd_join (es := (fun s53 : (List Int) => [.sh .pa (enc (v_script : Scr)), .sh .pa (enc (v_at : Int)), .sh .pa (enc (v_count : Int)), .ow .fr ((v_shape_2 : (List Int)).map enc), .ow .fr ((v_mine_7 : (List Int)).map enc), .ow .fr ((s53 : (List Int)).map enc), .un])) (bd_tail ?_) ?_
      · refine bd_if (EvT.cast (evt_and (evt_test (evm_opT (evm_var rfl) evm_int fun _ _ => rv_IB)) (evt_test (evm_opT (evm_ixo rfl evm_int) evm_int fun _ _ => rv_IB))) (by first | with_reducible rfl | (simp -implicitDefEqProofs only [R.bind_assoc, R.bind_ok, R.bind_right, R.of_some, compR_map, compR_filter, compR_id, compR_idF, R.ifm_ok, Bool.and_true, Bool.or_false, R.ite_and, R.ite_or]; done) | (simp -implicitDefEqProofs only [R.bind_assoc, R.bind_ok, R.bind_right, R.of_some, compR_map, compR_filter, compR_id, compR_idF, R.ifm_ok, Bool.and_true, Bool.or_false, R.ite_ok, R.ite_and, R.ite_or]; done) | rfl)) ?_ ?_
        · refine bd_assoc ?_
          refine bd_seti (by rfl) (Evm.cast (evm_opT (evm_opT (evm_ixo rfl (evm_op (evm_ixo rfl evm_int) (evm_var rfl) fun _ _ _ _ => rv_mod)) (evm_ixo rfl evm_int) fun _ _ => rv_II) evm_int fun _ _ => rv_II) (by first | with_reducible rfl | (simp -implicitDefEqProofs only [R.bind_assoc, R.bind_ok, R.bind_right, R.of_some, compR_map, compR_filter, compR_id, compR_idF, R.ifm_ok, Bool.and_true, Bool.or_false, R.ite_and, R.ite_or]; done) | (simp -implicitDefEqProofs only [R.bind_assoc, R.bind_ok, R.bind_right, R.of_some, compR_map, compR_filter, compR_id, compR_idF, R.ifm_ok, Bool.and_true, Bool.or_false, R.ite_ok, R.ite_and, R.ite_or]; done) | rfl)) (Evm.cast (evm_op (evm_ixo rfl evm_int) (evm_var rfl) fun _ _ _ _ => rv_mod) (by first | with_reducible rfl | (simp -implicitDefEqProofs only [R.bind_assoc, R.bind_ok, R.bind_right, R.of_some, compR_map, compR_filter, compR_id, compR_idF, R.ifm_ok, Bool.and_true, Bool.or_false, R.ite_and, R.ite_or]; done) | (simp -implicitDefEqProofs only [R.bind_assoc, R.bind_ok, R.bind_right, R.of_some, compR_map, compR_filter, compR_id, compR_idF, R.ifm_ok, Bool.and_true, Bool.or_false, R.ite_ok, R.ite_and, R.ite_or]; done) | rfl)) ?_
          intro v_theirs_62
          refine bd_nil ?_
          exact bd_end (Wk.keep (Wk.keep (Wk.keep (Wk.keep (Wk.keep (Wk.keep (Wk.keep Wk.nil))))))) rfl
        · refine bd_nil ?_
          exact bd_end (Wk.keep (Wk.keep (Wk.keep (Wk.keep (Wk.keep (Wk.keep (Wk.keep Wk.nil))))))) rfl
      intro s53
      refine bd_nil ?_
      exact bd_end (Wk.keep (Wk.keep (Wk.keep (Wk.keep (Wk.keep (Wk.keep (Wk.keep Wk.nil))))))) rfl
    · refine bd_nil ?_
      exact bd_end (Wk.keep (Wk.keep (Wk.keep (Wk.keep (Wk.keep (Wk.keep (Wk.keep Wk.nil))))))) rfl
  intro s39
  refine bd_join (es := (fun s74 : (List Int) => [.sh .pa (enc (v_script : Scr)), .sh .pa (enc (v_at : Int)), .sh .pa (enc (v_count : Int)), .ow .fr ((v_shape_2 : (List Int)).map enc), .ow .fr ((v_mine_7 : (List Int)).map enc), .ow .fr ((s74 : (List Int)).map enc), .un])) (bd_tail ?_) ?_
  · refine bd_if (EvT.cast (evt_and (evt_test (evm_opT (evm_ixo rfl evm_int) evm_int fun _ _ => rv_eqI)) (evt_test (evm_opT (evm_ixo rfl evm_int) evm_int fun _ _ => rv_IB))) (by first | with_reducible rfl | (simp -implicitDefEqProofs only [R.bind_assoc, R.bind_ok, R.bind_right, R.of_some, compR_map, compR_filter, compR_id, compR_idF, R.ifm_ok, Bool.and_true, Bool.or_false, R.ite_and, R.ite_or]; done) | (simp -implicitDefEqProofs only [R.bind_assoc, R.bind_ok, R.bind_right, R.of_some, compR_map, compR_filter, compR_id, compR_idF, R.ifm_ok, Bool.and_true, Bool.or_false, R.ite_ok, R.ite_and, R.ite_or]; done) | rfl)) ?_ ?_
    · refine bd_assoc ?_
      refine bd_setN (EvN.cast (evn_lc (l := .fr) (l1 := .raw) (l3 := .fr) rfl trivial trivial (.inr fun _ _ _ _ _ _ h => h.flat) (evi_list (evm_own rfl)) (hv1 rfl rfl) (tg_name trivial) (fun x75 => evt_yes) (fun x75 => (evm_opT (evm_opT (evm_var rfl) evm_int fun _ _ => rv_II) (evm_op evm_int (evm_ixo rfl evm_int) fun _ _ _ _ => rv_mul) fun _ _ => rv_II))) (by first | with_reducible rfl | (simp -implicitDefEqProofs only [R.bind_assoc, R.bind_ok, R.bind_right, R.of_some, compR_map, compR_filter, compR_id, compR_idF, R.ifm_ok, Bool.and_true, Bool.or_false, R.ite_and, R.ite_or]; done) | (simp -implicitDefEqProofs only [R.bind_assoc, R.bind_ok, R.bind_right, R.of_some, compR_map, compR_filter, compR_id, compR_idF, R.ifm_ok, Bool.and_true, Bool.or_false, R.ite_ok, R.ite_and, R.ite_or]; done) | rfl)) trivial (lt_of rfl) ?_
      intro v_theirs_80
      refine bd_nil ?_
      exact bd_end (Wk.keep (Wk.keep (Wk.keep (Wk.keep (Wk.keep (Wk.keep (Wk.keep Wk.nil))))))) rfl
    · refine bd_nil ?_
      exact bd_end (Wk.keep (Wk.keep (Wk.keep (Wk.keep (Wk.keep (Wk.keep (Wk.keep Wk.nil))))))) rfl
  intro s74
  refine bd_wk (Wk.keep (Wk.keep (Wk.keep (Wk.keep (Wk.share (Wk.keep (Wk.keep Wk.nil))))))) ?_
  refine bd_wk (Wk.keep (Wk.keep (Wk.keep (Wk.keep (Wk.keep (Wk.share (Wk.keep Wk.nil))))))) ?_
  exact bd_ret1 rfl (Evm.cast (evm_tup (eva_cons (evm_var rfl) (eva_cons (evm_var rfl) eva_nil)) (fun _ => by show (2 : Nat) ≤ 1000; decide)) (by first | with_reducible rfl | (simp -implicitDefEqProofs only [R.bind_assoc, R.bind_ok, R.bind_right, R.of_some, compR_map, compR_filter, compR_id, compR_idF, R.ifm_ok, Bool.and_true, Bool.or_false, R.ite_and, R.ite_or]; done) | (simp -implicitDefEqProofs only [R.bind_assoc, R.bind_ok, R.bind_right, R.of_some, compR_map, compR_filter, compR_id, compR_idF, R.ifm_ok, Bool.and_true, Bool.or_false, R.ite_ok, R.ite_and, R.ite_or]; done) | rfl)) (fun _ => rfl)
theorem ok__law_pairing {f : Addr} {fd : FuncData} (F : Fun K "_law_pairing" "_law_pairing" s__law_pairing f fd) (hT : T.K = K) (k__law_draws : Kd P w K mg base CX0 "_law_draws" ["_law_cell_here", "_law_sizes"] 1 (Pm T (.nw .fr) (fun b : Int × (List Int) × Unit => m__law_draws b.1 b.2.1))) (z_range : mg "range" = none) :
    FnOk P w K mg base CX0 2 f fd ["_law_cell_here", "_law_count"] (Pm T (.nw .fr) (fun b : Int × Int × Unit => m__law_pairing b.1 b.2.1)) := by
  subst hT
  refine fn_pm F sc__law_pairing (fun _ => rfl) fun cdv A outer s H E hr => ⟨_, (pss_cons (ps_setLc (i := 2) (own := [("_law_k", 5)]) (g := (gName 5)) rfl sc__law_pairing.nd rfl rfl (sw_true rfl rfl rfl (by decide +kernel)) (pi_range1 (by rfl) z_range (pa_cons (pv 1) pa_nil)) (blkOk_by (N := N__law_pairing) (sc := defScope s__law_pairing) (by decide +kernel)) (fun _ _ _ _ _ => (pg_name (i := 5) sc__law_pairing.nd rfl (Or.inl rfl))) (fun _ _ _ _ _ => pts_nil) (fun _ _ _ _ _ => (pv 5))) (pss_cons (ps_set (i := 3) sc__law_pairing.nd rfl (Or.inl rfl) (pe_lst pa_nil)) (pss_cons (ps_for PassesOwn.never rfl (k_pil T.K rfl (pe_kd k__law_draws (hr.mono (by decide)) (by rfl) (pa_cons (pv 0) (pa_cons (pe_lc (own := [("_law_k", 5)]) (g := (gName 5)) rfl sc__law_pairing.nd (pi_range1 (by rfl) z_range (pa_cons (pv 1) pa_nil)) (blkOk_by (N := N__law_pairing) (sc := defScope s__law_pairing) (by decide +kernel)) (fun _ _ _ _ _ => (pg_name (i := 5) sc__law_pairing.nd rfl (Or.inl rfl))) (fun _ _ _ _ _ => pts_nil) (fun _ _ _ _ _ => (pe_op op_sub (pv 1) (pv 5)))) pa_nil)))) (pg_name (i := 4) sc__law_pairing.nd rfl (Or.inl rfl)) (pss_cons (ps_expr (pe_bm PySem.F.plainAttrs_list PySem.F.slot_list_append PySem.F.type_list_append mt_append (pv 3) (pa_cons (pe_ix (k_ixl T.K rfl) (pv 2) (pv 4) (fun _ _ => rfl)) pa_nil))) (pss_cons (ps_set (i := 2) sc__law_pairing.nd rfl (Or.inl rfl) (pe_op op_cat (pe_slice (k_sll T.K rfl) (pv 2) po_none (po_some (pv 4))) (pe_slice (k_sll T.K rfl) (pv 2) (po_some (pe_op op_add (pv 4) pe_int)) po_none))) pss_nil))) (pss_cons (ps_ret (pv 3)) pss_nil)))), ?_⟩
  rintro ⟨v_cell, v_count, _⟩
  show BD _ _ _ (m__law_pairing v_cell v_count) _
  unfold m__law_pairing
  refine bd_setN (EvN.cast (evn_lc (l := .fr) (l1 := .fr) (l3 := .fr) rfl trivial trivial (.inl rfl) (evi_rng1 (evm_var rfl)) (hv1 rfl rfl) (tg_name trivial) (fun x1 => evt_yes) (fun x1 => (evm_var rfl))) (by first | with_reducible rfl | (simp -implicitDefEqProofs only [R.bind_assoc, R.bind_ok, R.bind_right, R.of_some, compR_map, compR_filter, compR_id, compR_idF, R.ifm_ok, Bool.and_true, Bool.or_false, R.ite_and, R.ite_or]; done) | (simp -implicitDefEqProofs only [R.bind_assoc, R.bind_ok, R.bind_right, R.of_some, compR_map, compR_filter, compR_id, compR_idF, R.ifm_ok, Bool.and_true, Bool.or_false, R.ite_ok, R.ite_and, R.ite_or]; done) | rfl)) trivial (lt_of rfl) ?_
  intro v_free_3
  refine bd_setNP (EvN.cast (evn_lst (l := .fr) (f := fun b : Unit => ([] : (List Int))) eva_nil (fun _ => rfl) (fun _ => by show (0 : Nat) ≤ 1000; decide)) (by first | with_reducible rfl | (simp -implicitDefEqProofs only [R.bind_assoc, R.bind_ok, R.bind_right, R.of_some, compR_map, compR_filter, compR_id, compR_idF, R.ifm_ok, Bool.and_true, Bool.or_false, R.ite_and, R.ite_or]; done) | (simp -implicitDefEqProofs only [R.bind_assoc, R.bind_ok, R.bind_right, R.of_some, compR_map, compR_filter, compR_id, compR_idF, R.ifm_ok, Bool.and_true, Bool.or_false, R.ite_ok, R.ite_and, R.ite_or]; done) | rfl)) trivial (lt_of rfl) ?_
  intro v_out_4
  refine bd_fold (l1 := .fr) (es := (fun s9 : (List Int) × (List Int) => [.sh .pa (enc (v_cell : Int)), .sh .pa (enc (v_count : Int)), .ow .fr ((s9.2 : (List Int)).map enc), .ow .fr ((s9.1 : (List Int)).map enc), .un, .un])) (EvI.cast (evi_list (evn_ev (evn_callF rfl (eva_cons (evm_flat (l2 := .raw) (evm_var rfl)) (eva_cons (evm_raw (evn_ev (evn_lc (l := .fr) (l1 := .fr) (l3 := .fr) rfl trivial trivial (.inl rfl) (evi_rng1 (evm_var rfl)) (hv1 rfl rfl) (tg_name trivial) (fun x5 => evt_yes) (fun x5 => (evm_opT (evm_var rfl) (evm_var rfl) fun _ _ => rv_II))))) eva_nil))))) (by first | with_reducible rfl | (simp -implicitDefEqProofs only [R.bind_assoc, R.bind_ok, R.bind_right, R.of_some, compR_map, compR_filter, compR_id, compR_idF, R.ifm_ok, Bool.and_true, Bool.or_false, R.ite_and, R.ite_or]; done) | (simp -implicitDefEqProofs only [R.bind_assoc, R.bind_ok, R.bind_right, R.of_some, compR_map, compR_filter, compR_id, compR_idF, R.ifm_ok, Bool.and_true, Bool.or_false, R.ite_ok, R.ite_and, R.ite_or]; done) | rfl)) trivial (Wk.keep (Wk.keep (Wk.keep (Wk.keep (Wk.keep (Wk.keep Wk.nil)))))) (tg_name trivial) (hu1 fun _ => rfl) ?_ ?_
  · intro x8 s9
    unfold m__law_pairing_b1
    refine bd_app (by rfl) (Evm.cast (evm_ixo rfl (evm_var rfl)) (by first | with_reducible rfl | (simp -implicitDefEqProofs only [R.bind_assoc, R.bind_ok, R.bind_right, R.of_some, compR_map, compR_filter, compR_id, compR_idF, R.ifm_ok, Bool.and_true, Bool.or_false, R.ite_and, R.ite_or]; done) | (simp -implicitDefEqProofs only [R.bind_assoc, R.bind_ok, R.bind_right, R.of_some, compR_map, compR_filter, compR_id, compR_idF, R.ifm_ok, Bool.and_true, Bool.or_false, R.ite_ok, R.ite_and, R.ite_or]; done) | rfl)) ?_
    intro v_out_10
    refine bd_setN (EvN.cast (evn_flat (l2 := .fr) (evn_cat (l := .raw) (evm_raw (evn_ev (evn_slo rfl evo_none (evo_some (evm_var rfl))))) (evm_raw (evn_ev (evn_slo rfl (evo_some (evm_opT (evm_var rfl) evm_int fun _ _ => rv_II)) evo_none))))) (by first | with_reducible rfl | (simp -implicitDefEqProofs only [R.bind_assoc, R.bind_ok, R.bind_right, R.of_some, compR_map, compR_filter, compR_id, compR_idF, R.ifm_ok, Bool.and_true, Bool.or_false, R.ite_and, R.ite_or]; done) | (simp -implicitDefEqProofs only [R.bind_assoc, R.bind_ok, R.bind_right, R.of_some, compR_map, compR_filter, compR_id, compR_idF, R.ifm_ok, Bool.and_true, Bool.or_false, R.ite_ok, R.ite_and, R.ite_or]; done) | rfl)) trivial (lt_of rfl) ?_
    intro v_free_11
    exact bd_end (Wk.keep (Wk.keep (Wk.keep (Wk.keep (Wk.lose (Wk.keep Wk.nil)))))) rfl
  intro s9
  exact bd_retO rfl (by rfl) (by rfl)
theorem ok__law_is_int {f : Addr} {fd : FuncData} (F : Fun K "_law_is_int" "_law_is_int" s__law_is_int f fd) (hT : T.K = K) (z_bool : mg "bool" = none) (z_int : mg "int" = none) (z_isinstance : mg "isinstance" = none) :
    FnOk P w K mg base CX0 1 f fd ["_law_x"] (Pm T (.val .fr) (fun b : PV × Unit => m__law_is_int b.1)) := by
  subst hT
  refine fn_pm F sc__law_is_int (fun _ => rfl) fun cdv A outer s H E hr => ⟨_, (pss_cons (ps_ret (pe_and (pe_callB (k_isi T.K rfl) (by rfl) z_isinstance (by decide +kernel) (pa_cons (pv 0) (pa_cons (pe_bltn (v := .ty "int") (by rfl) z_int PyProof.Rows.boot_int rfl) pa_nil))) (pe_one (pe_not (pe_callB (k_isi T.K rfl) (by rfl) z_isinstance (by decide +kernel) (pa_cons (pv 0) (pa_cons (pe_bltn (v := .ty "bool") (by rfl) z_bool (by decide +kernel) rfl) pa_nil))))))) pss_nil), ?_⟩
  rintro ⟨v_x, _⟩
  show BD _ _ _ (m__law_is_int v_x) _
  unfold m__law_is_int
  exact bd_ret1 rfl (Evm.cast (evm_and (evm_isD (evm_var rfl)) (evm_not (evm_isD (evm_var rfl)))) (by first | with_reducible rfl | (simp -implicitDefEqProofs only [R.bind_assoc, R.bind_ok, R.bind_right, R.of_some, compR_map, compR_filter, compR_id, compR_idF, R.ifm_ok, Bool.and_true, Bool.or_false, R.ite_and, R.ite_or]; done) | (simp -implicitDefEqProofs only [R.bind_assoc, R.bind_ok, R.bind_right, R.of_some, compR_map, compR_filter, compR_id, compR_idF, R.ifm_ok, Bool.and_true, Bool.or_false, R.ite_ok, R.ite_and, R.ite_or]; done) | rfl)) (fun _ => rfl)
theorem psc__law_is_int : PlainScope ["_law_x"] (defScope s__law_is_int) := ⟨rfl, rfl, rfl, by decide +kernel, by decide +kernel, by decide +kernel, by decide +kernel⟩
theorem okq__law_is_int {f : Addr} {fd : FuncData} (F : Fun K "_law_is_int" "_law_is_int" s__law_is_int f fd) (hT : T.K = K) (z_bool : mg "bool" = none) (z_int : mg "int" = none) (z_isinstance : mg "isinstance" = none) :
    FnQ P w K mg base 1 f fd ["_law_x"] (Pm T (.val .fr) (fun b : PV × Unit => m__law_is_int b.1)) := by
  subst hT
  refine fn_pmQ F psc__law_is_int (fun _ => rfl) fun cdv A outer s H hr => ⟨_, (pss_cons (ps_ret (pe_and (pe_callB (k_isi T.K rfl) (by rfl) z_isinstance (by decide +kernel) (pa_cons (pv 0) (pa_cons (pe_bltn (v := .ty "int") (by rfl) z_int PyProof.Rows.boot_int rfl) pa_nil))) (pe_one (pe_not (pe_callB (k_isi T.K rfl) (by rfl) z_isinstance (by decide +kernel) (pa_cons (pv 0) (pa_cons (pe_bltn (v := .ty "bool") (by rfl) z_bool (by decide +kernel) rfl) pa_nil))))))) pss_nil), ?_⟩
  rintro ⟨v_x, _⟩
  show BD _ _ _ (m__law_is_int v_x) _
  unfold m__law_is_int
  exact bd_ret1 rfl (Evm.cast (evm_and (evm_isD (evm_var rfl)) (evm_not (evm_isD (evm_var rfl)))) (by first | with_reducible rfl | (simp -implicitDefEqProofs only [R.bind_assoc, R.bind_ok, R.bind_right, R.of_some, compR_map, compR_filter, compR_id, compR_idF, R.ifm_ok, Bool.and_true, Bool.or_false, R.ite_and, R.ite_or]; done) | (simp -implicitDefEqProofs only [R.bind_assoc, R.bind_ok, R.bind_right, R.of_some, compR_map, compR_filter, compR_id, compR_idF, R.ifm_ok, Bool.and_true, Bool.or_false, R.ite_ok, R.ite_and, R.ite_or]; done) | rfl)) (fun _ => rfl)
theorem ok__law_is_ints {f : Addr} {fd : FuncData} (F : Fun K "_law_is_ints" "_law_is_ints" s__law_is_ints f fd) (hT : T.K = K) (k__law_is_int : Kd P w K mg base CX0 "_law_is_int" ["_law_x"] 1 (Pm T (.val .fr) (fun b : PV × Unit => m__law_is_int b.1))) (z_all : mg "all" = none) (z_isinstance : mg "isinstance" = none) (z_list : mg "list" = none) :
    FnOk P w K mg base CX0 2 f fd ["_law_xs"] (Pm T (.val .fr) (fun b : (List Int) × Unit => m__law_is_ints b.1)) := by
  subst hT
  refine fn_pm F sc__law_is_ints (fun _ => rfl) fun cdv A outer s H E hr => ⟨_, (pss_cons (ps_ret (pe_and (pe_callB (k_isi T.K rfl) (by rfl) z_isinstance (by decide +kernel) (pa_cons (pv 0) (pa_cons (pe_bltn (v := .ty "list") (by rfl) z_list PyProof.Rows.boot_list rfl) pa_nil))) (pe_one (pe_callB (k_all T.K rfl rfl) (by rfl) z_all (by decide +kernel) (pa_cons (pe_lc (own := [("_law_x", 1)]) (g := (gName 1)) rfl sc__law_is_ints.nd (k_pil T.K rfl (pv 0)) (blkOk_by (N := N__law_is_ints) (sc := defScope s__law_is_ints) (by decide +kernel)) (fun _ _ _ _ _ => (pg_name (i := 1) sc__law_is_ints.nd rfl (Or.inl rfl))) (fun _ _ _ _ _ => pts_nil) (fun _ _ _ _ _ => (pe_kd k__law_is_int (hr.mono (by decide)) (by rfl) (pa_cons (pv 1) pa_nil)))) pa_nil))))) pss_nil), ?_⟩
  rintro ⟨v_xs, _⟩
  show BD _ _ _ (m__law_is_ints v_xs) _
  unfold m__law_is_ints
  exact bd_ret1 rfl (Evm.cast (evm_and (evm_isi (b := true) (evm_var rfl) (by decide +kernel)) (evm_cbT (eva_cons (evm_raw (evn_ev (evn_lc (l := .fr) (l1 := .pa) (l3 := .fr) rfl trivial trivial (.inr fun _ _ _ _ _ _ h => h.flat) (evi_list (evm_var rfl)) (hv1 rfl rfl) (tg_name trivial) (fun x1 => evt_yes) (fun x1 => (evm_callF rfl (eva_cons (evm_raw (evm_co (f := (fun c2 : Int => (enc c2 : PV))) (evm_var rfl) (fun _ => rfl))) eva_nil)))))) eva_nil) fun _ => ra_all)) (by first | with_reducible rfl | (simp -implicitDefEqProofs only [R.bind_assoc, R.bind_ok, R.bind_right, R.of_some, compR_map, compR_filter, compR_id, compR_idF, R.ifm_ok, Bool.and_true, Bool.or_false, R.ite_and, R.ite_or]; done) | (simp -implicitDefEqProofs only [R.bind_assoc, R.bind_ok, R.bind_right, R.of_some, compR_map, compR_filter, compR_id, compR_idF, R.ifm_ok, Bool.and_true, Bool.or_false, R.ite_ok, R.ite_and, R.ite_or]; done) | rfl)) (fun _ => rfl)
theorem ok__law_is_pairing {f : Addr} {fd : FuncData} (F : Fun K "_law_is_pairing" "_law_is_pairing" s__law_is_pairing f fd) (hT : T.K = K) (k__law_is_ints : Kd P w K mg base CX0 "_law_is_ints" ["_law_xs"] 2 (Pm T (.val .fr) (fun b : (List Int) × Unit => m__law_is_ints b.1))) (z_range : mg "range" = none) (z_sorted : mg "sorted" = none) :
    FnOk P w K mg base CX0 3 f fd ["_law_xs", "_law_count"] (Pm T (.val .fr) (fun b : (List Int) × Int × Unit => m__law_is_pairing b.1 b.2.1)) := by
  subst hT
  refine fn_pm F sc__law_is_pairing (fun _ => rfl) fun cdv A outer s H E hr => ⟨_, (pss_cons (ps_ret (pe_and (pe_kd k__law_is_ints (hr.mono (by decide)) (by rfl) (pa_cons (pv 0) pa_nil)) (pe_one (pe_cmpR (k_eqD T.K rfl (by exact hr.units)) (pe_callB (k_sorted T.K rfl) (by rfl) z_sorted (by decide +kernel) (pa_cons (pv 0) pa_nil)) (pe_lc (own := [("_law_k", 2)]) (g := (gName 2)) rfl sc__law_is_pairing.nd (pi_range1 (by rfl) z_range (pa_cons (pv 1) pa_nil)) (blkOk_by (N := N__law_is_pairing) (sc := defScope s__law_is_pairing) (by decide +kernel)) (fun _ _ _ _ _ => (pg_name (i := 2) sc__law_is_pairing.nd rfl (Or.inl rfl))) (fun _ _ _ _ _ => pts_nil) (fun _ _ _ _ _ => (pv 2))) rfl)))) pss_nil), ?_⟩
  rintro ⟨v_xs, v_count, _⟩
  show BD _ _ _ (m__law_is_pairing v_xs v_count) _
  unfold m__law_is_pairing
  exact bd_ret1 rfl (Evm.cast (evm_and (evm_callF rfl (eva_cons (evm_raw (evm_var rfl)) eva_nil)) (evm_opT (evn_ev (evn_sorted (evm_var rfl))) (evn_ev (evn_lc (l := .fr) (l1 := .fr) (l3 := .fr) rfl trivial trivial (.inl rfl) (evi_rng1 (evm_var rfl)) (hv1 rfl rfl) (tg_name trivial) (fun x1 => evt_yes) (fun x1 => (evm_var rfl)))) fun _ _ => rv_eqD)) (by first | with_reducible rfl | (simp -implicitDefEqProofs only [R.bind_assoc, R.bind_ok, R.bind_right, R.of_some, compR_map, compR_filter, compR_id, compR_idF, R.ifm_ok, Bool.and_true, Bool.or_false, R.ite_and, R.ite_or]; done) | (simp -implicitDefEqProofs only [R.bind_assoc, R.bind_ok, R.bind_right, R.of_some, compR_map, compR_filter, compR_id, compR_idF, R.ifm_ok, Bool.and_true, Bool.or_false, R.ite_ok, R.ite_and, R.ite_or]; done) | rfl)) (fun _ => rfl)
theorem ok__law_result {f : Addr} {fd : FuncData} (F : Fun K "_law_result" "_law_result" s__law_result f fd) (hT : T.K = K) (z_int : mg "int" = none) (z_len : mg "len" = none) (z_range : mg "range" = none) (z_sum : mg "sum" = none) :
    FnOk P w K mg base CX0 1 f fd ["_law_mine", "_law_theirs", "_law_pairing_here"] (Pm T (.val .fr) (fun b : (List Int) × (List Int) × (List Int) × Unit => m__law_result b.1 b.2.1 b.2.2.1)) := by
  subst hT
  refine fn_pm F sc__law_result (fun _ => rfl) fun cdv A outer s H E hr => ⟨_, (pss_cons (ps_ret (pe_callB (k_sum T.K rfl rfl) (by rfl) z_sum (by decide +kernel) (pa_cons (pe_lc (own := [("_law_m", 3)]) (g := (gName 3)) rfl sc__law_result.nd (pi_range1 (by rfl) z_range (pa_cons (pe_callB (k_len T.K rfl) (by rfl) z_len PySem.boot_len (pa_cons (pv 0) pa_nil)) pa_nil)) (blkOk_by (N := N__law_result) (sc := defScope s__law_result) (by decide +kernel)) (fun _ _ _ _ _ => (pg_name (i := 3) sc__law_result.nd rfl (Or.inl rfl))) (fun _ _ _ _ _ => pts_nil) (fun _ _ _ _ _ => (pe_callTy call_int1 (by rfl) z_int PyProof.Rows.boot_int (pa_cons (pe_cmpR op_ge (pe_ix (k_ixl T.K rfl) (pv 0) (pv 3) (fun _ _ => rfl)) (pe_ix (k_ixl T.K rfl) (pv 1) (pe_ix (k_ixl T.K rfl) (pv 2) (pv 3) (fun _ _ => rfl)) (fun _ _ => rfl)) rfl) pa_nil)))) pa_nil))) pss_nil), ?_⟩
  rintro ⟨v_mine, v_theirs, v_pairing, _⟩
  show BD _ _ _ (m__law_result v_mine v_theirs v_pairing) _
  unfold m__law_result
  exact bd_ret1 rfl (Evm.cast (evm_cbT (eva_cons (evm_raw (evn_ev (evn_lc (l := .fr) (l1 := .fr) (l3 := .fr) rfl trivial trivial (.inl rfl) (evi_rng1 (evm_cbT (eva_cons (evm_raw (evm_var rfl)) eva_nil) fun _ => ra_len)) (hv1 rfl rfl) (tg_name trivial) (fun x1 => evt_yes) (fun x1 => (evm_cbT (eva_cons (evm_flat (l2 := .raw) (evm_opT (evm_flat (l2 := .fr) (evm_ix (evm_var rfl) (evm_var rfl))) (evm_flat (l2 := .fr) (evm_ix (evm_var rfl) (evm_flat (l2 := .fr) (evm_ix (evm_var rfl) (evm_var rfl))))) fun _ _ => rv_IB)) eva_nil) fun _ => ra_intB))))) eva_nil) fun _ => ra_sum) (by first | with_reducible rfl | (simp -implicitDefEqProofs only [R.bind_assoc, R.bind_ok, R.bind_right, R.of_some, compR_map, compR_filter, compR_id, compR_idF, R.ifm_ok, Bool.and_true, Bool.or_false, R.ite_and, R.ite_or]; done) | (simp -implicitDefEqProofs only [R.bind_assoc, R.bind_ok, R.bind_right, R.of_some, compR_map, compR_filter, compR_id, compR_idF, R.ifm_ok, Bool.and_true, Bool.or_false, R.ite_ok, R.ite_and, R.ite_or]; done) | rfl)) (fun _ => rfl)
theorem ok__law_least {f : Addr} {fd : FuncData} (F : Fun K "_law_least" "_law_least" s__law_least f fd) (hT : T.K = K) (z_len : mg "len" = none) (z_max : mg "max" = none) :
    FnOk P w K mg base CX0 1 f fd ["_law_mine", "_law_theirs"] (Pm T (.val .fr) (fun b : (List Int) × (List Int) × Unit => m__law_least b.1 b.2.1)) := by
  subst hT
  refine fn_pm F sc__law_least (fun _ => rfl) fun cdv A outer s H E hr => ⟨_, (pss_cons (ps_set (i := 2) sc__law_least.nd rfl (Or.inl rfl) pe_int) (pss_cons (ps_for PassesOwn.never rfl (k_pil T.K rfl (pv 1)) (pg_name (i := 3) sc__law_least.nd rfl (Or.inr rfl)) (pss_cons (ps_set (i := 2) sc__law_least.nd rfl (Or.inl rfl) (pe_callB (call_max2 rfl) (by rfl) z_max (by decide +kernel) (pa_cons (pv 2) (pa_cons (pe_op op_sub (pe_callB (k_len T.K rfl) (by rfl) z_len PySem.boot_len (pa_cons (pe_lc (own := [("_law_y", 4)]) (g := (gName 4)) rfl sc__law_least.nd (k_pil T.K rfl (pv 1)) (blkOk_by (N := N__law_least) (sc := defScope s__law_least) (by decide +kernel)) (fun _ _ _ _ _ => (pg_name (i := 4) sc__law_least.nd rfl (Or.inl rfl))) (fun _ _ _ _ _ => (pts_one (pt_cmpR op_le (pv 4) (pv 3) rfl))) (fun _ _ _ _ _ => (pv 4))) pa_nil)) (pe_callB (k_len T.K rfl) (by rfl) z_len PySem.boot_len (pa_cons (pe_lc (own := [("_law_y", 4)]) (g := (gName 4)) rfl sc__law_least.nd (k_pil T.K rfl (pv 0)) (blkOk_by (N := N__law_least) (sc := defScope s__law_least) (by decide +kernel)) (fun _ _ _ _ _ => (pg_name (i := 4) sc__law_least.nd rfl (Or.inl rfl))) (fun _ _ _ _ _ => (pts_one (pt_cmpR op_lt (pv 4) (pv 3) rfl))) (fun _ _ _ _ _ => (pv 4))) pa_nil))) pa_nil)))) pss_nil)) (pss_cons (ps_ret (pv 2)) pss_nil))), ?_⟩
  rintro ⟨v_mine, v_theirs, _⟩
  show BD _ _ _ (m__law_least v_mine v_theirs) _
  unfold m__law_least
  refine bd_setP (Evm.cast evm_int (by first | with_reducible rfl | (simp -implicitDefEqProofs only [R.bind_assoc, R.bind_ok, R.bind_right, R.of_some, compR_map, compR_filter, compR_id, compR_idF, R.ifm_ok, Bool.and_true, Bool.or_false, R.ite_and, R.ite_or]; done) | (simp -implicitDefEqProofs only [R.bind_assoc, R.bind_ok, R.bind_right, R.of_some, compR_map, compR_filter, compR_id, compR_idF, R.ifm_ok, Bool.and_true, Bool.or_false, R.ite_ok, R.ite_and, R.ite_or]; done) | rfl)) trivial (lt_of rfl) ?_
  intro v_best_1
  refine bd_fold (l1 := .pa) (es := (fun s3 : Int => [.sh .pa (enc (v_mine : (List Int))), .sh .pa (enc (v_theirs : (List Int))), .sh .fr (enc (s3 : Int)), .un, .un])) (EvI.cast (evi_list (evm_var rfl)) (by first | with_reducible rfl | (simp -implicitDefEqProofs only [R.bind_assoc, R.bind_ok, R.bind_right, R.of_some, compR_map, compR_filter, compR_id, compR_idF, R.ifm_ok, Bool.and_true, Bool.or_false, R.ite_and, R.ite_or]; done) | (simp -implicitDefEqProofs only [R.bind_assoc, R.bind_ok, R.bind_right, R.of_some, compR_map, compR_filter, compR_id, compR_idF, R.ifm_ok, Bool.and_true, Bool.or_false, R.ite_ok, R.ite_and, R.ite_or]; done) | rfl)) trivial (Wk.keep (Wk.keep (Wk.keep (Wk.keep (Wk.keep Wk.nil))))) (tg_name trivial) (hu1 fun _ => rfl) ?_ ?_
  · intro x2 s3
    unfold m__law_least_b1
    refine bd_setP (Evm.cast (evm_cbT (eva_cons (evm_flat (l2 := .raw) (evm_var rfl)) (eva_cons (evm_flat (l2 := .raw) (evm_opT (evm_cbT (eva_cons (evm_raw (evn_ev (evn_lc (l := .fr) (l1 := .pa) (l3 := .fr) rfl trivial trivial (.inr fun _ _ _ _ _ _ h => h.flat) (evi_list (evm_var rfl)) (hv1 rfl rfl) (tg_name trivial) (fun x4 => (evt_test (evm_opT (evm_var rfl) (evm_var rfl) fun _ _ => rv_IB))) (fun x4 => (evm_var rfl))))) eva_nil) fun _ => ra_len) (evm_cbT (eva_cons (evm_raw (evn_ev (evn_lc (l := .fr) (l1 := .pa) (l3 := .fr) rfl trivial trivial (.inr fun _ _ _ _ _ _ h => h.flat) (evi_list (evm_var rfl)) (hv1 rfl rfl) (tg_name trivial) (fun x5 => (evt_test (evm_opT (evm_var rfl) (evm_var rfl) fun _ _ => rv_IB))) (fun x5 => (evm_var rfl))))) eva_nil) fun _ => ra_len) fun _ _ => rv_II)) eva_nil)) fun _ => ra_max2) (by first | with_reducible rfl | (simp -implicitDefEqProofs only [R.bind_assoc, R.bind_ok, R.bind_right, R.of_some, compR_map, compR_filter, compR_id, compR_idF, R.ifm_ok, Bool.and_true, Bool.or_false, R.ite_and, R.ite_or]; done) | (simp -implicitDefEqProofs only [R.bind_assoc, R.bind_ok, R.bind_right, R.of_some, compR_map, compR_filter, compR_id, compR_idF, R.ifm_ok, Bool.and_true, Bool.or_false, R.ite_ok, R.ite_and, R.ite_or]; done) | rfl)) trivial (lt_of rfl) ?_
    intro v_best_6
    exact bd_end (Wk.keep (Wk.keep (Wk.keep (Wk.lose (Wk.keep Wk.nil))))) rfl
  intro s3
  exact bd_ret1 rfl (Evm.cast (evm_var rfl) (by first | with_reducible rfl | (simp -implicitDefEqProofs only [R.bind_assoc, R.bind_ok, R.bind_right, R.of_some, compR_map, compR_filter, compR_id, compR_idF, R.ifm_ok, Bool.and_true, Bool.or_false, R.ite_and, R.ite_or]; done) | (simp -implicitDefEqProofs only [R.bind_assoc, R.bind_ok, R.bind_right, R.of_some, compR_map, compR_filter, compR_id, compR_idF, R.ifm_ok, Bool.and_true, Bool.or_false, R.ite_ok, R.ite_and, R.ite_or]; done) | rfl)) (fun _ => rfl)
theorem ok__law_most {f : Addr} {fd : FuncData} (F : Fun K "_law_most" "_law_most" s__law_most f fd) (hT : T.K = K) (z_len : mg "len" = none) (z_min : mg "min" = none) :
    FnOk P w K mg base CX0 1 f fd ["_law_mine", "_law_theirs"] (Pm T (.val .fr) (fun b : (List Int) × (List Int) × Unit => m__law_most b.1 b.2.1)) := by
  subst hT
  refine fn_pm F sc__law_most (fun _ => rfl) fun cdv A outer s H E hr => ⟨_, (pss_cons (ps_set (i := 2) sc__law_most.nd rfl (Or.inl rfl) pe_int) (pss_cons (ps_for PassesOwn.never rfl (k_pil T.K rfl (pv 0)) (pg_name (i := 3) sc__law_most.nd rfl (Or.inr rfl)) (pss_cons (ps_set (i := 2) sc__law_most.nd rfl (Or.inl rfl) (pe_callB (call_min2 rfl) (by rfl) z_min (by decide +kernel) (pa_cons (pv 2) (pa_cons (pe_op op_sub (pe_callB (k_len T.K rfl) (by rfl) z_len PySem.boot_len (pa_cons (pe_lc (own := [("_law_y", 4)]) (g := (gName 4)) rfl sc__law_most.nd (k_pil T.K rfl (pv 1)) (blkOk_by (N := N__law_most) (sc := defScope s__law_most) (by decide +kernel)) (fun _ _ _ _ _ => (pg_name (i := 4) sc__law_most.nd rfl (Or.inl rfl))) (fun _ _ _ _ _ => (pts_one (pt_cmpR op_le (pv 4) (pv 3) rfl))) (fun _ _ _ _ _ => (pv 4))) pa_nil)) (pe_callB (k_len T.K rfl) (by rfl) z_len PySem.boot_len (pa_cons (pe_lc (own := [("_law_y", 4)]) (g := (gName 4)) rfl sc__law_most.nd (k_pil T.K rfl (pv 0)) (blkOk_by (N := N__law_most) (sc := defScope s__law_most) (by decide +kernel)) (fun _ _ _ _ _ => (pg_name (i := 4) sc__law_most.nd rfl (Or.inl rfl))) (fun _ _ _ _ _ => (pts_one (pt_cmpR op_le (pv 4) (pv 3) rfl))) (fun _ _ _ _ _ => (pv 4))) pa_nil))) pa_nil)))) pss_nil)) (pss_cons (ps_ret (pe_op op_add (pe_callB (k_len T.K rfl) (by rfl) z_len PySem.boot_len (pa_cons (pv 0) pa_nil)) (pv 2))) pss_nil))), ?_⟩
  rintro ⟨v_mine, v_theirs, _⟩
  show BD _ _ _ (m__law_most v_mine v_theirs) _
  unfold m__law_most
  refine bd_setP (Evm.cast evm_int (by first | with_reducible rfl | (simp -implicitDefEqProofs only [R.bind_assoc, R.bind_ok, R.bind_right, R.of_some, compR_map, compR_filter, compR_id, compR_idF, R.ifm_ok, Bool.and_true, Bool.or_false, R.ite_and, R.ite_or]; done) | (simp -implicitDefEqProofs only [R.bind_assoc, R.bind_ok, R.bind_right, R.of_some, compR_map, compR_filter, compR_id, compR_idF, R.ifm_ok, Bool.and_true, Bool.or_false, R.ite_ok, R.ite_and, R.ite_or]; done) | rfl)) trivial (lt_of rfl) ?_
  intro v_worst_1
  refine bd_fold (l1 := .pa) (es := (fun s3 : Int => [.sh .pa (enc (v_mine : (List Int))), .sh .pa (enc (v_theirs : (List Int))), .sh .fr (enc (s3 : Int)), .un, .un])) (EvI.cast (evi_list (evm_var rfl)) (by first | with_reducible rfl | (simp -implicitDefEqProofs only [R.bind_assoc, R.bind_ok, R.bind_right, R.of_some, compR_map, compR_filter, compR_id, compR_idF, R.ifm_ok, Bool.and_true, Bool.or_false, R.ite_and, R.ite_or]; done) | (simp -implicitDefEqProofs only [R.bind_assoc, R.bind_ok, R.bind_right, R.of_some, compR_map, compR_filter, compR_id, compR_idF, R.ifm_ok, Bool.and_true, Bool.or_false, R.ite_ok, R.ite_and, R.ite_or]; done) | rfl)) trivial (Wk.keep (Wk.keep (Wk.keep (Wk.keep (Wk.keep Wk.nil))))) (tg_name trivial) (hu1 fun _ => rfl) ?_ ?_
  · intro x2 s3
    unfold m__law_most_b1
    refine bd_setP (Evm.cast (evm_cbT (eva_cons (evm_flat (l2 := .raw) (evm_var rfl)) (eva_cons (evm_flat (l2 := .raw) (evm_opT (evm_cbT (eva_cons (evm_raw (evn_ev (evn_lc (l := .fr) (l1 := .pa) (l3 := .fr) rfl trivial trivial (.inr fun _ _ _ _ _ _ h => h.flat) (evi_list (evm_var rfl)) (hv1 rfl rfl) (tg_name trivial) (fun x4 => (evt_test (evm_opT (evm_var rfl) (evm_var rfl) fun _ _ => rv_IB))) (fun x4 => (evm_var rfl))))) eva_nil) fun _ => ra_len) (evm_cbT (eva_cons (evm_raw (evn_ev (evn_lc (l := .fr) (l1 := .pa) (l3 := .fr) rfl trivial trivial (.inr fun _ _ _ _ _ _ h => h.flat) (evi_list (evm_var rfl)) (hv1 rfl rfl) (tg_name trivial) (fun x5 => (evt_test (evm_opT (evm_var rfl) (evm_var rfl) fun _ _ => rv_IB))) (fun x5 => (evm_var rfl))))) eva_nil) fun _ => ra_len) fun _ _ => rv_II)) eva_nil)) fun _ => ra_min2) (by first | with_reducible rfl | (simp -implicitDefEqProofs only [R.bind_assoc, R.bind_ok, R.bind_right, R.of_some, compR_map, compR_filter, compR_id, compR_idF, R.ifm_ok, Bool.and_true, Bool.or_false, R.ite_and, R.ite_or]; done) | (simp -implicitDefEqProofs only [R.bind_assoc, R.bind_ok, R.bind_right, R.of_some, compR_map, compR_filter, compR_id, compR_idF, R.ifm_ok, Bool.and_true, Bool.or_false, R.ite_ok, R.ite_and, R.ite_or]; done) | rfl)) trivial (lt_of rfl) ?_
    intro v_worst_6
    exact bd_end (Wk.keep (Wk.keep (Wk.keep (Wk.lose (Wk.keep Wk.nil))))) rfl
  intro s3
  exact bd_ret1 rfl (Evm.cast (evm_opT (evm_cbT (eva_cons (evm_raw (evm_var rfl)) eva_nil) fun _ => ra_len) (evm_var rfl) fun _ _ => rv_II) (by first | with_reducible rfl | (simp -implicitDefEqProofs only [R.bind_assoc, R.bind_ok, R.bind_right, R.of_some, compR_map, compR_filter, compR_id, compR_idF, R.ifm_ok, Bool.and_true, Bool.or_false, R.ite_and, R.ite_or]; done) | (simp -implicitDefEqProofs only [R.bind_assoc, R.bind_ok, R.bind_right, R.of_some, compR_map, compR_filter, compR_id, compR_idF, R.ifm_ok, Bool.and_true, Bool.or_false, R.ite_ok, R.ite_and, R.ite_or]; done) | rfl)) (fun _ => rfl)
theorem ok__law_unrank {f : Addr} {fd : FuncData} (F : Fun K "_law_unrank" "_law_unrank" s__law_unrank f fd) (hT : T.K = K) (z_int : mg "int" = none) (z_len : mg "len" = none) (z_range : mg "range" = none) :
    FnOk P w K mg base CX0 1 f fd ["_law_number", "_law_count"] (Pm T (.nw .fr) (fun b : Int × Int × Unit => m__law_unrank b.1 b.2.1)) := by
  subst hT
  refine fn_pm F sc__law_unrank (fun _ => rfl) fun cdv A outer s H E hr => ⟨_, (pss_cons (ps_setLc (i := 2) (own := [("_law_k", 4)]) (g := (gName 4)) rfl sc__law_unrank.nd rfl rfl (sw_true rfl rfl rfl (by decide +kernel)) (pi_range1 (by rfl) z_range (pa_cons (pv 1) pa_nil)) (blkOk_by (N := N__law_unrank) (sc := defScope s__law_unrank) (by decide +kernel)) (fun _ _ _ _ _ => (pg_name (i := 4) sc__law_unrank.nd rfl (Or.inl rfl))) (fun _ _ _ _ _ => pts_nil) (fun _ _ _ _ _ => (pv 4))) (pss_cons (ps_set (i := 3) sc__law_unrank.nd rfl (Or.inl rfl) (pe_lst pa_nil)) (pss_cons (ps_for PassesOwn.never rfl (pi_range1 (by rfl) z_range (pa_cons (pv 1) pa_nil)) (pg_name (i := 4) sc__law_unrank.nd rfl (Or.inl rfl)) (pss_cons (ps_set (i := 5) sc__law_unrank.nd rfl (Or.inl rfl) (pe_op op_mod (pe_callTy call_int1 (by rfl) z_int PyProof.Rows.boot_int (pa_cons (pv 0) pa_nil)) (pe_callB (k_len T.K rfl) (by rfl) z_len PySem.boot_len (pa_cons (pv 2) pa_nil)))) (pss_cons (ps_set (i := 0) sc__law_unrank.nd rfl (Or.inl rfl) (pe_op op_fdivW (pv 0) (pe_callB (k_len T.K rfl) (by rfl) z_len PySem.boot_len (pa_cons (pv 2) pa_nil)))) (pss_cons (ps_expr (pe_bm PySem.F.plainAttrs_list PySem.F.slot_list_append PySem.F.type_list_append mt_append (pv 3) (pa_cons (pe_ix (k_ixl T.K rfl) (pv 2) (pv 5) (fun _ _ => rfl)) pa_nil))) (pss_cons (ps_set (i := 2) sc__law_unrank.nd rfl (Or.inl rfl) (pe_op op_cat (pe_slice (k_sll T.K rfl) (pv 2) po_none (po_some (pv 5))) (pe_slice (k_sll T.K rfl) (pv 2) (po_some (pe_op op_add (pv 5) pe_int)) po_none))) pss_nil))))) (pss_cons (ps_ret (pv 3)) pss_nil)))), ?_⟩
  rintro ⟨v_number, v_count, _⟩
  show BD _ _ _ (m__law_unrank v_number v_count) _
  unfold m__law_unrank
  refine bd_setN (EvN.cast (evn_lc (l := .fr) (l1 := .fr) (l3 := .fr) rfl trivial trivial (.inl rfl) (evi_rng1 (evm_var rfl)) (hv1 rfl rfl) (tg_name trivial) (fun x1 => evt_yes) (fun x1 => (evm_var rfl))) (by first | with_reducible rfl | (simp -implicitDefEqProofs only [R.bind_assoc, R.bind_ok, R.bind_right, R.of_some, compR_map, compR_filter, compR_id, compR_idF, R.ifm_ok, Bool.and_true, Bool.or_false, R.ite_and, R.ite_or]; done) | (simp -implicitDefEqProofs only [R.bind_assoc, R.bind_ok, R.bind_right, R.of_some, compR_map, compR_filter, compR_id, compR_idF, R.ifm_ok, Bool.and_true, Bool.or_false, R.ite_ok, R.ite_and, R.ite_or]; done) | rfl)) trivial (lt_of rfl) ?_
  intro v_free_3
  refine bd_setNP (EvN.cast (evn_lst (l := .fr) (f := fun b : Unit => ([] : (List Int))) eva_nil (fun _ => rfl) (fun _ => by show (0 : Nat) ≤ 1000; decide)) (by first | with_reducible rfl | (simp -implicitDefEqProofs only [R.bind_assoc, R.bind_ok, R.bind_right, R.of_some, compR_map, compR_filter, compR_id, compR_idF, R.ifm_ok, Bool.and_true, Bool.or_false, R.ite_and, R.ite_or]; done) | (simp -implicitDefEqProofs only [R.bind_assoc, R.bind_ok, R.bind_right, R.of_some, compR_map, compR_filter, compR_id, compR_idF, R.ifm_ok, Bool.and_true, Bool.or_false, R.ite_ok, R.ite_and, R.ite_or]; done) | rfl)) trivial (lt_of rfl) ?_
  intro v_out_4
  refine bd_fold (l1 := .fr) (es := (fun s6 : Int × (List Int) × (List Int) => [.sh .pa (enc (s6.1 : Int)), .sh .pa (enc (v_count : Int)), .ow .fr ((s6.2.2 : (List Int)).map enc), .ow .fr ((s6.2.1 : (List Int)).map enc), .un, .un])) (EvI.cast (evi_rng1 (evm_var rfl)) (by first | with_reducible rfl | (simp -implicitDefEqProofs only [R.bind_assoc, R.bind_ok, R.bind_right, R.of_some, compR_map, compR_filter, compR_id, compR_idF, R.ifm_ok, Bool.and_true, Bool.or_false, R.ite_and, R.ite_or]; done) | (simp -implicitDefEqProofs only [R.bind_assoc, R.bind_ok, R.bind_right, R.of_some, compR_map, compR_filter, compR_id, compR_idF, R.ifm_ok, Bool.and_true, Bool.or_false, R.ite_ok, R.ite_and, R.ite_or]; done) | rfl)) trivial (Wk.keep (Wk.keep (Wk.keep (Wk.keep (Wk.keep (Wk.keep Wk.nil)))))) (tg_name trivial) (hu1 fun _ => rfl) ?_ ?_
  · intro x5 s6
    unfold m__law_unrank_b1
    refine bd_set (Evm.cast (evm_op (evm_cbT (eva_cons (evm_flat (l2 := .raw) (evm_var rfl)) eva_nil) fun _ => ra_int) (evm_cbT (eva_cons (evm_own rfl) eva_nil) fun _ => ra_len) fun _ _ _ _ => rv_mod) (by first | with_reducible rfl | (simp -implicitDefEqProofs only [R.bind_assoc, R.bind_ok, R.bind_right, R.of_some, compR_map, compR_filter, compR_id, compR_idF, R.ifm_ok, Bool.and_true, Bool.or_false, R.ite_and, R.ite_or]; done) | (simp -implicitDefEqProofs only [R.bind_assoc, R.bind_ok, R.bind_right, R.of_some, compR_map, compR_filter, compR_id, compR_idF, R.ifm_ok, Bool.and_true, Bool.or_false, R.ite_ok, R.ite_and, R.ite_or]; done) | rfl)) trivial (lt_of rfl) ?_
    intro v_x_7
    refine bd_set (Evm.cast (evm_op (evm_var rfl) (evm_cbT (eva_cons (evm_own rfl) eva_nil) fun _ => ra_len) fun _ _ _ _ => rv_div) (by first | with_reducible rfl | (simp -implicitDefEqProofs only [R.bind_assoc, R.bind_ok, R.bind_right, R.of_some, compR_map, compR_filter, compR_id, compR_idF, R.ifm_ok, Bool.and_true, Bool.or_false, R.ite_and, R.ite_or]; done) | (simp -implicitDefEqProofs only [R.bind_assoc, R.bind_ok, R.bind_right, R.of_some, compR_map, compR_filter, compR_id, compR_idF, R.ifm_ok, Bool.and_true, Bool.or_false, R.ite_ok, R.ite_and, R.ite_or]; done) | rfl)) trivial (lt_of rfl) ?_
    intro v_number_8
    refine bd_app (by rfl) (Evm.cast (evm_ixo rfl (evm_var rfl)) (by first | with_reducible rfl | (simp -implicitDefEqProofs only [R.bind_assoc, R.bind_ok, R.bind_right, R.of_some, compR_map, compR_filter, compR_id, compR_idF, R.ifm_ok, Bool.and_true, Bool.or_false, R.ite_and, R.ite_or]; done) | (simp -implicitDefEqProofs only [R.bind_assoc, R.bind_ok, R.bind_right, R.of_some, compR_map, compR_filter, compR_id, compR_idF, R.ifm_ok, Bool.and_true, Bool.or_false, R.ite_ok, R.ite_and, R.ite_or]; done) | rfl)) ?_
    intro v_out_9
    refine bd_setN (EvN.cast (evn_flat (l2 := .fr) (evn_cat (l := .raw) (evm_raw (evn_ev (evn_slo rfl evo_none (evo_some (evm_var rfl))))) (evm_raw (evn_ev (evn_slo rfl (evo_some (evm_opT (evm_var rfl) evm_int fun _ _ => rv_II)) evo_none))))) (by first | with_reducible rfl | (simp -implicitDefEqProofs only [R.bind_assoc, R.bind_ok, R.bind_right, R.of_some, compR_map, compR_filter, compR_id, compR_idF, R.ifm_ok, Bool.and_true, Bool.or_false, R.ite_and, R.ite_or]; done) | (simp -implicitDefEqProofs only [R.bind_assoc, R.bind_ok, R.bind_right, R.of_some, compR_map, compR_filter, compR_id, compR_idF, R.ifm_ok, Bool.and_true, Bool.or_false, R.ite_ok, R.ite_and, R.ite_or]; done) | rfl)) trivial (lt_of rfl) ?_
    intro v_free_10
    exact bd_end (Wk.low (Wk.keep (Wk.keep (Wk.keep (Wk.lose (Wk.lose Wk.nil)))))) rfl
  intro s6
  exact bd_retO rfl (by rfl) (by rfl)
theorem ok__law_factorial {f : Addr} {fd : FuncData} (F : Fun K "_law_factorial" "_law_factorial" s__law_factorial f fd) (hT : T.K = K) (z_range : mg "range" = none) :
    FnOk P w K mg base CX0 1 f fd ["_law_count"] (Pm T (.val .fr) (fun b : Int × Unit => m__law_factorial b.1)) := by
  subst hT
  refine fn_pm F sc__law_factorial (fun _ => rfl) fun cdv A outer s H E hr => ⟨_, (pss_cons (ps_set (i := 1) sc__law_factorial.nd rfl (Or.inl rfl) pe_int) (pss_cons (ps_for PassesOwn.never rfl (pi_range1 (by rfl) z_range (pa_cons (pv 0) pa_nil)) (pg_name (i := 2) sc__law_factorial.nd rfl (Or.inl rfl)) (pss_cons (ps_set (i := 1) sc__law_factorial.nd rfl (Or.inl rfl) (pe_op op_mul (pv 1) (pe_op op_add (pv 2) pe_int))) pss_nil)) (pss_cons (ps_ret (pv 1)) pss_nil))), ?_⟩
  rintro ⟨v_count, _⟩
  show BD _ _ _ (m__law_factorial v_count) _
  unfold m__law_factorial
  refine bd_setP (Evm.cast evm_int (by first | with_reducible rfl | (simp -implicitDefEqProofs only [R.bind_assoc, R.bind_ok, R.bind_right, R.of_some, compR_map, compR_filter, compR_id, compR_idF, R.ifm_ok, Bool.and_true, Bool.or_false, R.ite_and, R.ite_or]; done) | (simp -implicitDefEqProofs only [R.bind_assoc, R.bind_ok, R.bind_right, R.of_some, compR_map, compR_filter, compR_id, compR_idF, R.ifm_ok, Bool.and_true, Bool.or_false, R.ite_ok, R.ite_and, R.ite_or]; done) | rfl)) trivial (lt_of rfl) ?_
  intro v_out_1
  refine bd_fold (l1 := .fr) (es := (fun s3 : Int => [.sh .pa (enc (v_count : Int)), .sh .fr (enc (s3 : Int)), .un])) (EvI.cast (evi_rng1 (evm_var rfl)) (by first | with_reducible rfl | (simp -implicitDefEqProofs only [R.bind_assoc, R.bind_ok, R.bind_right, R.of_some, compR_map, compR_filter, compR_id, compR_idF, R.ifm_ok, Bool.and_true, Bool.or_false, R.ite_and, R.ite_or]; done) | (simp -implicitDefEqProofs only [R.bind_assoc, R.bind_ok, R.bind_right, R.of_some, compR_map, compR_filter, compR_id, compR_idF, R.ifm_ok, Bool.and_true, Bool.or_false, R.ite_ok, R.ite_and, R.ite_or]; done) | rfl)) trivial (Wk.keep (Wk.keep (Wk.keep Wk.nil))) (tg_name trivial) (hu1 fun _ => rfl) ?_ ?_
  · intro x2 s3
    unfold m__law_factorial_b1
    refine bd_set (Evm.cast (evm_op (evm_var rfl) (evm_opT (evm_var rfl) evm_int fun _ _ => rv_II) fun _ _ _ _ => rv_mul) (by first | with_reducible rfl | (simp -implicitDefEqProofs only [R.bind_assoc, R.bind_ok, R.bind_right, R.of_some, compR_map, compR_filter, compR_id, compR_idF, R.ifm_ok, Bool.and_true, Bool.or_false, R.ite_and, R.ite_or]; done) | (simp -implicitDefEqProofs only [R.bind_assoc, R.bind_ok, R.bind_right, R.of_some, compR_map, compR_filter, compR_id, compR_idF, R.ifm_ok, Bool.and_true, Bool.or_false, R.ite_ok, R.ite_and, R.ite_or]; done) | rfl)) trivial (lt_of rfl) ?_
    intro v_out_4
    exact bd_end (Wk.keep (Wk.keep (Wk.lose Wk.nil))) rfl
  intro s3
  exact bd_ret1 rfl (Evm.cast (evm_var rfl) (by first | with_reducible rfl | (simp -implicitDefEqProofs only [R.bind_assoc, R.bind_ok, R.bind_right, R.of_some, compR_map, compR_filter, compR_id, compR_idF, R.ifm_ok, Bool.and_true, Bool.or_false, R.ite_and, R.ite_or]; done) | (simp -implicitDefEqProofs only [R.bind_assoc, R.bind_ok, R.bind_right, R.of_some, compR_map, compR_filter, compR_id, compR_idF, R.ifm_ok, Bool.and_true, Bool.or_false, R.ite_ok, R.ite_and, R.ite_or]; done) | rfl)) (fun _ => rfl)
theorem ok__law_game {f : Addr} {fd : FuncData} (F : Fun K "_law_game" "_law_game" s__law_game f fd) (hT : T.K = K) (k__law_hands : Kd P w K mg base CX0 "_law_hands" ["_law_script", "_law_at", "_law_count"] 3 (Pm T (.val .fr) (fun b : Scr × Int × Int × Unit => m__law_hands b.1 b.2.1 b.2.2.1))) (z_int : mg "int" = none) :
    FnOk P w K mg base CX0 4 f fd ["_law_script", "_law_at", "_law_count", "_law_edge"] (Pm T (.val .fr) (fun b : Scr × Int × Int × Int × Unit => m__law_game b.1 b.2.1 b.2.2.1 b.2.2.2.1)) := by
  subst hT
  refine fn_pm F sc__law_game (fun _ => rfl) fun cdv A outer s H E hr => ⟨_, (pss_cons (ps_set (i := 4) sc__law_game.nd rfl (Or.inr rfl) (pe_kd k__law_hands (hr.mono (by decide)) (by rfl) (pa_cons (pv 0) (pa_cons (pv 1) (pa_cons (pv 2) pa_nil))))) (pss_cons (ps_if (pt_cmpR op_eq (pv 3) pe_int rfl) (pss_cons (ps_ret (pe_tup (pa_cons (pe_lc (own := [("_law_x", 5)]) (g := (gName 5)) rfl sc__law_game.nd (k_pil T.K rfl (pe_ix (k_ixt T.K rfl) (pv 4) pe_int (fun _ _ => rfl))) (blkOk_by (N := N__law_game) (sc := defScope s__law_game) (by decide +kernel)) (fun _ _ _ _ _ => (pg_name (i := 5) sc__law_game.nd rfl (Or.inl rfl))) (fun _ _ _ _ _ => pts_nil) (fun _ _ _ _ _ => (pe_ix (k_ixl T.K rfl) (pe_ix (k_ixt T.K rfl) (pv 4) pe_int (fun _ _ => rfl)) pe_int (fun _ _ => rfl)))) (pa_cons (pe_lc (own := [("_law_x", 5)]) (g := (gName 5)) rfl sc__law_game.nd (k_pil T.K rfl (pe_ix (k_ixt T.K rfl) (pv 4) pe_int (fun _ _ => rfl))) (blkOk_by (N := N__law_game) (sc := defScope s__law_game) (by decide +kernel)) (fun _ _ _ _ _ => (pg_name (i := 5) sc__law_game.nd rfl (Or.inl rfl))) (fun _ _ _ _ _ => pts_nil) (fun _ _ _ _ _ => (pe_ix (k_ixl T.K rfl) (pe_ix (k_ixt T.K rfl) (pv 4) pe_int (fun _ _ => rfl)) pe_int (fun _ _ => rfl)))) pa_nil)))) pss_nil) pss_nil) (pss_cons (ps_if (pt_cmpR op_eq (pv 3) pe_int rfl) (pss_cons (ps_ret (pe_tup (pa_cons (pe_lc (own := [("_law_x", 5)]) (g := (gName 5)) rfl sc__law_game.nd (k_pil T.K rfl (pe_ix (k_ixt T.K rfl) (pv 4) pe_int (fun _ _ => rfl))) (blkOk_by (N := N__law_game) (sc := defScope s__law_game) (by decide +kernel)) (fun _ _ _ _ _ => (pg_name (i := 5) sc__law_game.nd rfl (Or.inl rfl))) (fun _ _ _ _ _ => pts_nil) (fun _ _ _ _ _ => (pe_op op_add (pe_op op_mod (pe_callTy call_int1 (by rfl) z_int PyProof.Rows.boot_int (pa_cons (pv 5) pa_nil)) pe_int) pe_int))) (pa_cons (pe_lc (own := [("_law_x", 5)]) (g := (gName 5)) rfl sc__law_game.nd (k_pil T.K rfl (pe_ix (k_ixt T.K rfl) (pv 4) pe_int (fun _ _ => rfl))) (blkOk_by (N := N__law_game) (sc := defScope s__law_game) (by decide +kernel)) (fun _ _ _ _ _ => (pg_name (i := 5) sc__law_game.nd rfl (Or.inl rfl))) (fun _ _ _ _ _ => pts_nil) (fun _ _ _ _ _ => (pe_op op_mod (pe_callTy call_int1 (by rfl) z_int PyProof.Rows.boot_int (pa_cons (pv 5) pa_nil)) pe_int))) pa_nil)))) pss_nil) pss_nil) (pss_cons (ps_if (pt_cmpR op_eq (pv 3) pe_int rfl) (pss_cons (ps_ret (pe_tup (pa_cons (pe_lc (own := [("_law_x", 5)]) (g := (gName 5)) rfl sc__law_game.nd (k_pil T.K rfl (pe_ix (k_ixt T.K rfl) (pv 4) pe_int (fun _ _ => rfl))) (blkOk_by (N := N__law_game) (sc := defScope s__law_game) (by decide +kernel)) (fun _ _ _ _ _ => (pg_name (i := 5) sc__law_game.nd rfl (Or.inl rfl))) (fun _ _ _ _ _ => pts_nil) (fun _ _ _ _ _ => (pe_op op_mod (pe_callTy call_int1 (by rfl) z_int PyProof.Rows.boot_int (pa_cons (pv 5) pa_nil)) pe_int))) (pa_cons (pe_lc (own := [("_law_x", 5)]) (g := (gName 5)) rfl sc__law_game.nd (k_pil T.K rfl (pe_ix (k_ixt T.K rfl) (pv 4) pe_int (fun _ _ => rfl))) (blkOk_by (N := N__law_game) (sc := defScope s__law_game) (by decide +kernel)) (fun _ _ _ _ _ => (pg_name (i := 5) sc__law_game.nd rfl (Or.inl rfl))) (fun _ _ _ _ _ => pts_nil) (fun _ _ _ _ _ => (pe_op op_add (pe_op op_mod (pe_callTy call_int1 (by rfl) z_int PyProof.Rows.boot_int (pa_cons (pv 5) pa_nil)) pe_int) pe_int))) pa_nil)))) pss_nil) pss_nil) (pss_cons (ps_ret (pv 4)) pss_nil))))), ?_⟩
  rintro ⟨v_script, v_at, v_count, v_edge, _⟩
  show BD _ _ _ (m__law_game v_script v_at v_count v_edge) _
  unfold m__law_game
  refine bd_set (Evm.cast (evm_callF rfl (eva_cons (evm_raw (evm_var rfl)) (eva_cons (evm_flat (l2 := .raw) (evm_var rfl)) (eva_cons (evm_flat (l2 := .raw) (evm_var rfl)) eva_nil)))) (by first | with_reducible rfl | (simp -implicitDefEqProofs only [R.bind_assoc, R.bind_ok, R.bind_right, R.of_some, compR_map, compR_filter, compR_id, compR_idF, R.ifm_ok, Bool.and_true, Bool.or_false, R.ite_and, R.ite_or]; done) | (simp -implicitDefEqProofs only [R.bind_assoc, R.bind_ok, R.bind_right, R.of_some, compR_map, compR_filter, compR_id, compR_idF, R.ifm_ok, Bool.and_true, Bool.or_false, R.ite_ok, R.ite_and, R.ite_or]; done) | rfl)) trivial (lt_of rfl) ?_
  intro v_hands_1
  refine bd_if (EvT.cast (evt_test (evm_opT (evm_var rfl) evm_int fun _ _ => rv_eqI)) (by first | with_reducible rfl | (simp -implicitDefEqProofs only [R.bind_assoc, R.bind_ok, R.bind_right, R.of_some, compR_map, compR_filter, compR_id, compR_idF, R.ifm_ok, Bool.and_true, Bool.or_false, R.ite_and, R.ite_or]; done) | (simp -implicitDefEqProofs only [R.bind_assoc, R.bind_ok, R.bind_right, R.of_some, compR_map, compR_filter, compR_id, compR_idF, R.ifm_ok, Bool.and_true, Bool.or_false, R.ite_ok, R.ite_and, R.ite_or]; done) | rfl)) ?_ ?_
  · refine bd_assoc ?_
    exact bd_ret1 rfl (Evm.cast (evm_tup (eva_cons (evn_ev (evn_lc (l := .fr) (l1 := .fr) (l3 := .fr) rfl trivial trivial (.inl rfl) (evi_list (evm_ixt (j := 0) (g := fun d => d.1) (evm_var rfl) (fun _ => rfl))) (hv1 rfl rfl) (tg_name trivial) (fun x2 => evt_yes) (fun x2 => (evm_ix (evm_ixt (j := 0) (g := fun d => d.1) (evm_var rfl) (fun _ => rfl)) evm_int)))) (eva_cons (evn_ev (evn_lc (l := .fr) (l1 := .fr) (l3 := .fr) rfl trivial trivial (.inl rfl) (evi_list (evm_ixt (j := 1) (g := fun d => d.2.1) (evm_var rfl) (fun _ => rfl))) (hv1 rfl rfl) (tg_name trivial) (fun x4 => evt_yes) (fun x4 => (evm_ix (evm_ixt (j := 0) (g := fun d => d.1) (evm_var rfl) (fun _ => rfl)) evm_int)))) eva_nil)) (fun _ => by show (2 : Nat) ≤ 1000; decide)) (by first | with_reducible rfl | (simp -implicitDefEqProofs only [R.bind_assoc, R.bind_ok, R.bind_right, R.of_some, compR_map, compR_filter, compR_id, compR_idF, R.ifm_ok, Bool.and_true, Bool.or_false, R.ite_and, R.ite_or]; done) | (simp -implicitDefEqProofs only [R.bind_assoc, R.bind_ok, R.bind_right, R.of_some, compR_map, compR_filter, compR_id, compR_idF, R.ifm_ok, Bool.and_true, Bool.or_false, R.ite_ok, R.ite_and, R.ite_or]; done) | rfl)) (fun _ => rfl)
  · refine bd_nil ?_
    refine bd_if (EvT.cast (evt_test (evm_opT (evm_var rfl) evm_int fun _ _ => rv_eqI)) (by first | with_reducible rfl | (simp -implicitDefEqProofs only [R.bind_assoc, R.bind_ok, R.bind_right, R.of_some, compR_map, compR_filter, compR_id, compR_idF, R.ifm_ok, Bool.and_true, Bool.or_false, R.ite_and, R.ite_or]; done) | (simp -implicitDefEqProofs only [R.bind_assoc, R.bind_ok, R.bind_right, R.of_some, compR_map, compR_filter, compR_id, compR_idF, R.ifm_ok, Bool.and_true, Bool.or_false, R.ite_ok, R.ite_and, R.ite_or]; done) | rfl)) ?_ ?_
    · refine bd_assoc ?_
      exact bd_ret1 rfl (Evm.cast (evm_tup (eva_cons (evn_ev (evn_lc (l := .fr) (l1 := .fr) (l3 := .fr) rfl trivial trivial (.inl rfl) (evi_list (evm_ixt (j := 0) (g := fun d => d.1) (evm_var rfl) (fun _ => rfl))) (hv1 rfl rfl) (tg_name trivial) (fun x8 => evt_yes) (fun x8 => (evm_opT (evm_op (evm_cbT (eva_cons (evm_flat (l2 := .raw) (evm_var rfl)) eva_nil) fun _ => ra_int) evm_int fun _ _ _ _ => rv_mod) evm_int fun _ _ => rv_II)))) (eva_cons (evn_ev (evn_lc (l := .fr) (l1 := .fr) (l3 := .fr) rfl trivial trivial (.inl rfl) (evi_list (evm_ixt (j := 1) (g := fun d => d.2.1) (evm_var rfl) (fun _ => rfl))) (hv1 rfl rfl) (tg_name trivial) (fun x11 => evt_yes) (fun x11 => (evm_op (evm_cbT (eva_cons (evm_flat (l2 := .raw) (evm_var rfl)) eva_nil) fun _ => ra_int) evm_int fun _ _ _ _ => rv_mod)))) eva_nil)) (fun _ => by show (2 : Nat) ≤ 1000; decide)) (by first | with_reducible rfl | (simp -implicitDefEqProofs only [R.bind_assoc, R.bind_ok, R.bind_right, R.of_some, compR_map, compR_filter, compR_id, compR_idF, R.ifm_ok, Bool.and_true, Bool.or_false, R.ite_and, R.ite_or]; done) | (simp -implicitDefEqProofs only [R.bind_assoc, R.bind_ok, R.bind_right, R.of_some, compR_map, compR_filter, compR_id, compR_idF, R.ifm_ok, Bool.and_true, Bool.or_false, R.ite_ok, R.ite_and, R.ite_or]; done) | rfl)) (fun _ => rfl)
    · refine bd_nil ?_
      refine bd_if (EvT.cast (evt_test (evm_opT (evm_var rfl) evm_int fun _ _ => rv_eqI)) (by first | with_reducible rfl | (simp -implicitDefEqProofs only [R.bind_assoc, R.bind_ok, R.bind_right, R.of_some, compR_map, compR_filter, compR_id, compR_idF, R.ifm_ok, Bool.and_true, Bool.or_false, R.ite_and, R.ite_or]; done) | (simp -implicitDefEqProofs only [R.bind_assoc, R.bind_ok, R.bind_right, R.of_some, compR_map, compR_filter, compR_id, compR_idF, R.ifm_ok, Bool.and_true, Bool.or_false, R.ite_ok, R.ite_and, R.ite_or]; done) | rfl)) ?_ ?_
      · refine bd_assoc ?_
        exact bd_ret1 rfl (Evm.cast (evm_tup (eva_cons (evn_ev (evn_lc (l := .fr) (l1 := .fr) (l3 := .fr) rfl trivial trivial (.inl rfl) (evi_list (evm_ixt (j := 0) (g := fun d => d.1) (evm_var rfl) (fun _ => rfl))) (hv1 rfl rfl) (tg_name trivial) (fun x15 => evt_yes) (fun x15 => (evm_op (evm_cbT (eva_cons (evm_flat (l2 := .raw) (evm_var rfl)) eva_nil) fun _ => ra_int) evm_int fun _ _ _ _ => rv_mod)))) (eva_cons (evn_ev (evn_lc (l := .fr) (l1 := .fr) (l3 := .fr) rfl trivial trivial (.inl rfl) (evi_list (evm_ixt (j := 1) (g := fun d => d.2.1) (evm_var rfl) (fun _ => rfl))) (hv1 rfl rfl) (tg_name trivial) (fun x17 => evt_yes) (fun x17 => (evm_opT (evm_op (evm_cbT (eva_cons (evm_flat (l2 := .raw) (evm_var rfl)) eva_nil) fun _ => ra_int) evm_int fun _ _ _ _ => rv_mod) evm_int fun _ _ => rv_II)))) eva_nil)) (fun _ => by show (2 : Nat) ≤ 1000; decide)) (by first | with_reducible rfl | (simp -implicitDefEqProofs only [R.bind_assoc, R.bind_ok, R.bind_right, R.of_some, compR_map, compR_filter, compR_id, compR_idF, R.ifm_ok, Bool.and_true, Bool.or_false, R.ite_and, R.ite_or]; done) | (simp -implicitDefEqProofs only [R.bind_assoc, R.bind_ok, R.bind_right, R.of_some, compR_map, compR_filter, compR_id, compR_idF, R.ifm_ok, Bool.and_true, Bool.or_false, R.ite_ok, R.ite_and, R.ite_or]; done) | rfl)) (fun _ => rfl)
      · refine bd_nil ?_
        exact bd_ret1 rfl (Evm.cast (evm_var rfl) (by first | with_reducible rfl | (simp -implicitDefEqProofs only [R.bind_assoc, R.bind_ok, R.bind_right, R.of_some, compR_map, compR_filter, compR_id, compR_idF, R.ifm_ok, Bool.and_true, Bool.or_false, R.ite_and, R.ite_or]; done) | (simp -implicitDefEqProofs only [R.bind_assoc, R.bind_ok, R.bind_right, R.of_some, compR_map, compR_filter, compR_id, compR_idF, R.ifm_ok, Bool.and_true, Bool.or_false, R.ite_ok, R.ite_and, R.ite_or]; done) | rfl)) (fun _ => rfl)
theorem ok__law_reached {f : Addr} {fd : FuncData} (F : Fun K "_law_reached" "_law_reached" s__law_reached f fd) (hT : T.K = K) (k__law_factorial : Kd P w K mg base CX0 "_law_factorial" ["_law_count"] 1 (Pm T (.val .fr) (fun b : Int × Unit => m__law_factorial b.1))) (k__law_result : Kd P w K mg base CX0 "_law_result" ["_law_mine", "_law_theirs", "_law_pairing_here"] 1 (Pm T (.val .fr) (fun b : (List Int) × (List Int) × (List Int) × Unit => m__law_result b.1 b.2.1 b.2.2.1))) (k__law_unrank : Kd P w K mg base CX0 "_law_unrank" ["_law_number", "_law_count"] 1 (Pm T (.nw .fr) (fun b : Int × Int × Unit => m__law_unrank b.1 b.2.1))) (z_len : mg "len" = none) (z_range : mg "range" = none) (z_sorted : mg "sorted" = none) :
    FnOk P w K mg base CX0 2 f fd ["_law_mine", "_law_theirs"] (Pm T (.nw .fr) (fun b : (List Int) × (List Int) × Unit => m__law_reached b.1 b.2.1)) := by
  subst hT
  refine fn_pm F sc__law_reached (fun _ => rfl) fun cdv A outer s H E hr => ⟨_, (pss_cons (ps_set (i := 2) sc__law_reached.nd rfl (Or.inl rfl) (pe_lst pa_nil)) (pss_cons (ps_for PassesOwn.never rfl (pi_range1 (by rfl) z_range (pa_cons (pe_kd k__law_factorial (hr.mono (by decide)) (by rfl) (pa_cons (pe_callB (k_len T.K rfl) (by rfl) z_len PySem.boot_len (pa_cons (pv 0) pa_nil)) pa_nil)) pa_nil)) (pg_name (i := 3) sc__law_reached.nd rfl (Or.inl rfl)) (pss_cons (ps_set (i := 4) sc__law_reached.nd rfl (Or.inl rfl) (pe_kd k__law_result (hr.mono (by decide)) (by rfl) (pa_cons (pv 0) (pa_cons (pv 1) (pa_cons (pe_kd k__law_unrank (hr.mono (by decide)) (by rfl) (pa_cons (pv 3) (pa_cons (pe_callB (k_len T.K rfl) (by rfl) z_len PySem.boot_len (pa_cons (pv 0) pa_nil)) pa_nil))) pa_nil))))) (pss_cons (ps_if (pt_cmpR (k_niD T.K rfl (by exact hu65 hr)) (pv 4) (pv 2) rfl) (pss_cons (ps_expr (pe_bm PySem.F.plainAttrs_list PySem.F.slot_list_append PySem.F.type_list_append mt_append (pv 2) (pa_cons (pv 4) pa_nil))) pss_nil) pss_nil) pss_nil))) (pss_cons (ps_ret (pe_callB (k_sorted T.K rfl) (by rfl) z_sorted (by decide +kernel) (pa_cons (pv 2) pa_nil))) pss_nil))), ?_⟩
  rintro ⟨v_mine, v_theirs, _⟩
  show BD _ _ _ (m__law_reached v_mine v_theirs) _
  unfold m__law_reached
  refine bd_setNP (EvN.cast (evn_lst (l := .fr) (f := fun b : Unit => ([] : (List Int))) eva_nil (fun _ => rfl) (fun _ => by show (0 : Nat) ≤ 1000; decide)) (by first | with_reducible rfl | (simp -implicitDefEqProofs only [R.bind_assoc, R.bind_ok, R.bind_right, R.of_some, compR_map, compR_filter, compR_id, compR_idF, R.ifm_ok, Bool.and_true, Bool.or_false, R.ite_and, R.ite_or]; done) | (simp -implicitDefEqProofs only [R.bind_assoc, R.bind_ok, R.bind_right, R.of_some, compR_map, compR_filter, compR_id, compR_idF, R.ifm_ok, Bool.and_true, Bool.or_false, R.ite_ok, R.ite_and, R.ite_or]; done) | rfl)) trivial (lt_of rfl) ?_
  intro v_out_1
  refine bd_fold (l1 := .fr) (es := (fun s4 : (List Int) => [.sh .pa (enc (v_mine : (List Int))), .sh .pa (enc (v_theirs : (List Int))), .ow .fr ((s4 : (List Int)).map enc), .un, .un])) (EvI.cast (evi_rng1 (evm_callF rfl (eva_cons (evm_flat (l2 := .raw) (evm_cbT (eva_cons (evm_raw (evm_var rfl)) eva_nil) fun _ => ra_len)) eva_nil))) (by first | with_reducible rfl | (simp -implicitDefEqProofs only [R.bind_assoc, R.bind_ok, R.bind_right, R.of_some, compR_map, compR_filter, compR_id, compR_idF, R.ifm_ok, Bool.and_true, Bool.or_false, R.ite_and, R.ite_or]; done) | (simp -implicitDefEqProofs only [R.bind_assoc, R.bind_ok, R.bind_right, R.of_some, compR_map, compR_filter, compR_id, compR_idF, R.ifm_ok, Bool.and_true, Bool.or_false, R.ite_ok, R.ite_and, R.ite_or]; done) | rfl)) trivial (Wk.keep (Wk.keep (Wk.keep (Wk.keep (Wk.keep Wk.nil))))) (tg_name trivial) (hu1 fun _ => rfl) ?_ ?_
  · intro x3 s4
    unfold m__law_reached_b1
    refine bd_set (Evm.cast (evm_callF rfl (eva_cons (evm_raw (evm_var rfl)) (eva_cons (evm_raw (evm_var rfl)) (eva_cons (evm_raw (evn_ev (evn_callF rfl (eva_cons (evm_flat (l2 := .raw) (evm_var rfl)) (eva_cons (evm_flat (l2 := .raw) (evm_cbT (eva_cons (evm_raw (evm_var rfl)) eva_nil) fun _ => ra_len)) eva_nil))))) eva_nil)))) (by first | with_reducible rfl | (simp -implicitDefEqProofs only [R.bind_assoc, R.bind_ok, R.bind_right, R.of_some, compR_map, compR_filter, compR_id, compR_idF, R.ifm_ok, Bool.and_true, Bool.or_false, R.ite_and, R.ite_or]; done) | (simp -implicitDefEqProofs only [R.bind_assoc, R.bind_ok, R.bind_right, R.of_some, compR_map, compR_filter, compR_id, compR_idF, R.ifm_ok, Bool.and_true, Bool.or_false, R.ite_ok, R.ite_and, R.ite_or]; done) | rfl)) trivial (lt_of rfl) ?_
    intro v_hits_6
    refine bd_join (es := (fun s9 : (List Int) => [.sh .pa (enc (v_mine : (List Int))), .sh .pa (enc (v_theirs : (List Int))), .ow .fr ((s9 : (List Int)).map enc), .sh .fr (enc (x3 : Int)), .sh .fr (enc (v_hits_6 : Int))])) (bd_tail ?_) ?_
    · refine bd_if (EvT.cast (evt_test (evm_opT (evm_var rfl) (evm_own rfl) fun _ _ => rv_notInD)) (by first | with_reducible rfl | (simp -implicitDefEqProofs only [R.bind_assoc, R.bind_ok, R.bind_right, R.of_some, compR_map, compR_filter, compR_id, compR_idF, R.ifm_ok, Bool.and_true, Bool.or_false, R.ite_and, R.ite_or]; done) | (simp -implicitDefEqProofs only [R.bind_assoc, R.bind_ok, R.bind_right, R.of_some, compR_map, compR_filter, compR_id, compR_idF, R.ifm_ok, Bool.and_true, Bool.or_false, R.ite_ok, R.ite_and, R.ite_or]; done) | rfl)) ?_ ?_
      · refine bd_assoc ?_
        refine bd_app (by rfl) (Evm.cast (evm_var rfl) (by first | with_reducible rfl | (simp -implicitDefEqProofs only [R.bind_assoc, R.bind_ok, R.bind_right, R.of_some, compR_map, compR_filter, compR_id, compR_idF, R.ifm_ok, Bool.and_true, Bool.or_false, R.ite_and, R.ite_or]; done) | (simp -implicitDefEqProofs only [R.bind_assoc, R.bind_ok, R.bind_right, R.of_some, compR_map, compR_filter, compR_id, compR_idF, R.ifm_ok, Bool.and_true, Bool.or_false, R.ite_ok, R.ite_and, R.ite_or]; done) | rfl)) ?_
        intro v_out_10
        refine bd_nil ?_
        exact bd_end (Wk.keep (Wk.keep (Wk.keep (Wk.keep (Wk.keep Wk.nil))))) rfl
      · refine bd_nil ?_
        exact bd_end (Wk.keep (Wk.keep (Wk.keep (Wk.keep (Wk.keep Wk.nil))))) rfl
    intro s9
    exact bd_end (Wk.keep (Wk.keep (Wk.keep (Wk.lose (Wk.lose Wk.nil))))) rfl
  intro s4
  exact bd_retN1 rfl (EvN.cast (evn_sorted (evm_own rfl)) (by first | with_reducible rfl | (simp -implicitDefEqProofs only [R.bind_assoc, R.bind_ok, R.bind_right, R.of_some, compR_map, compR_filter, compR_id, compR_idF, R.ifm_ok, Bool.and_true, Bool.or_false, R.ite_and, R.ite_or]; done) | (simp -implicitDefEqProofs only [R.bind_assoc, R.bind_ok, R.bind_right, R.of_some, compR_map, compR_filter, compR_id, compR_idF, R.ifm_ok, Bool.and_true, Bool.or_false, R.ite_ok, R.ite_and, R.ite_or]; done) | rfl)) (fun _ => rfl)
theorem ok_Span_width {f : Addr} {fd : FuncData} (F : Fun K "width" "Span.width" s_Span_width f fd) (hT : T.K = K) (y_Span : KdC P w K mg base T 14 "Span" ["least", "most"] ["self", "least", "most"] 1) :
    FnOk P w K mg base CX0 3 f fd ["self"] (Pm T (.val .fr) (fun b : O_Span × Unit => m_Span_width b.1)) := by
  subst hT
  refine fn_pm F sc_Span_width (fun _ => rfl) fun cdv A outer s H E hr => ⟨_, (pss_cons (ps_ret (pe_op op_sub (pe_fld (pv 0) rfl) (pe_fld (pv 0) rfl))) pss_nil), ?_⟩
  rintro ⟨v_self, _⟩
  show BD _ _ _ (m_Span_width v_self) _
  unfold m_Span_width
  exact bd_ret1 rfl (Evm.cast (evm_opT (evm_flat (l2 := .fr) (evm_fldK (i := 1) (ks := (fun o : O_Span => [enc o.least, enc o.most])) (g := fun o : O_Span => o.most) y_Span (evm_var rfl) (fun _ => rfl) (fun _ => rfl) rfl)) (evm_flat (l2 := .fr) (evm_fldK (i := 0) (ks := (fun o : O_Span => [enc o.least, enc o.most])) (g := fun o : O_Span => o.least) y_Span (evm_var rfl) (fun _ => rfl) (fun _ => rfl) rfl)) fun _ _ => rv_II) (by first | with_reducible rfl | (simp -implicitDefEqProofs only [R.bind_assoc, R.bind_ok, R.bind_right, R.of_some, compR_map, compR_filter, compR_id, compR_idF, R.ifm_ok, Bool.and_true, Bool.or_false, R.ite_and, R.ite_or]; done) | (simp -implicitDefEqProofs only [R.bind_assoc, R.bind_ok, R.bind_right, R.of_some, compR_map, compR_filter, compR_id, compR_idF, R.ifm_ok, Bool.and_true, Bool.or_false, R.ite_ok, R.ite_and, R.ite_or]; done) | rfl)) (fun _ => rfl)
theorem ok__law_fits {f : Addr} {fd : FuncData} (F : Fun K "_law_fits" "_law_fits" s__law_fits f fd) (hT : T.K = K) (k_Span__contains__ : KdM P w K mg base (T.addr 14) "__contains__" ["self", "number"] 3 (Pm T (.val .fr) (fun b : O_Span × Int × Unit => m_Span__contains__ b.1 b.2.1))) (k_Span_width : ∃ p a fd, PropOf K (T.addr 14) "width" p a ∧ Binds K fd ["self"] [] ∧ FnOk P w K mg base CX0 3 a fd ["self"] (Pm T (.val .fr) (fun b : O_Span × Unit => m_Span_width b.1))) (k__law_is_int : Kd P w K mg base CX0 "_law_is_int" ["_law_x"] 1 (Pm T (.val .fr) (fun b : PV × Unit => m__law_is_int b.1))) (y_Span : KdC P w K mg base T 14 "Span" ["least", "most"] ["self", "least", "most"] 1) (z_isinstance : mg "isinstance" = none) :
    FnOk P w K mg base CX0 5 f fd ["_law_span", "_law_lowest", "_law_highest"] (Pm T (.val .fr) (fun b : O_Span × Int × Int × Unit => m__law_fits b.1 b.2.1 b.2.2.1)) := by
  subst hT
  refine fn_pm F sc__law_fits (fun _ => rfl) fun cdv A outer s H E hr => ⟨_, (pss_cons (ps_if (pw_or (pt_not (pt_val (pe_callB (C8.call_isC y_Span.isc) (by rfl) z_isinstance (by decide +kernel) (pa_cons (pv 0) (pa_cons (C8.pe_gc (v := .ref (T.addr 14)) (by rfl) ⟨_, y_Span.gm, rfl⟩) pa_nil))))) (pw_or (pt_not (pt_val (pe_kd k__law_is_int (hr.mono (by decide)) (by rfl) (pa_cons (pe_fld (pv 0) rfl) pa_nil)))) (pw_or1 (pt_not (pt_val (pe_kd k__law_is_int (hr.mono (by decide)) (by rfl) (pa_cons (pe_fld (pv 0) rfl) pa_nil))))))).pt (pss_cons (ps_ret pe_bl) pss_nil) pss_nil) (pss_cons (ps_if (pw_or (pt_cmpR op_ne (pe_fld (pv 0) rfl) (pv 1) rfl) (pw_or1 (pt_cmpR op_ne (pe_fld (pv 0) rfl) (pv 2) rfl))).pt (pss_cons (ps_ret pe_bl) pss_nil) pss_nil) (pss_cons (ps_for PassesOwn.never rfl (k_pil T.K rfl (pe_lst (pa_cons (pe_op op_sub (pv 1) pe_int) (pa_cons (pv 1) (pa_cons (pe_op op_fdivW (pe_op op_add (pv 1) (pv 2)) pe_int) (pa_cons (pv 2) (pa_cons (pe_op op_add (pv 2) pe_int) pa_nil))))))) (pg_name (i := 3) sc__law_fits.nd rfl (Or.inl rfl)) (pss_cons (ps_if (pt_cmpR op_ne (pe_cmpR (op_inC k_Span__contains__ (hr.mono (by decide))) (pv 3) (pv 0) rfl) (pe_chain op_le op_le (pv 1) (pv 3) (pv 2)) rfl) (pss_cons (ps_ret pe_bl) pss_nil) pss_nil) pss_nil)) (pss_cons (ps_ret (pe_and (pe_kd k__law_is_int (hr.mono (by decide)) (by rfl) (pa_cons (pe_kprop (pv 0) y_Span.cl k_Span_width (hr.mono (by decide)) rfl) pa_nil)) (pe_one (pe_cmpR op_eq (pe_kprop (pv 0) y_Span.cl k_Span_width (hr.mono (by decide)) rfl) (pe_op op_sub (pv 2) (pv 1)) rfl)))) pss_nil)))), ?_⟩
  rintro ⟨v_span, v_lowest, v_highest, _⟩
  show BD _ _ _ (m__law_fits v_span v_lowest v_highest) _
  unfold m__law_fits
  refine bd_if (EvT.cast (evt_or (evt_not (evt_B (evm_isC (ks := (fun o : O_Span => [enc o.least, enc o.most])) (evm_var rfl) (fun _ => rfl)))) (evt_or (evt_not (evt_B (evm_callF rfl (eva_cons (evm_raw (evm_co (f := (fun c1 : Int => (enc c1 : PV))) (evm_flat (l2 := .fr) (evm_fldK (i := 0) (ks := (fun o : O_Span => [enc o.least, enc o.most])) (g := fun o : O_Span => o.least) y_Span (evm_var rfl) (fun _ => rfl) (fun _ => rfl) rfl)) (fun _ => rfl))) eva_nil)))) (evt_not (evt_B (evm_callF rfl (eva_cons (evm_raw (evm_co (f := (fun c3 : Int => (enc c3 : PV))) (evm_flat (l2 := .fr) (evm_fldK (i := 1) (ks := (fun o : O_Span => [enc o.least, enc o.most])) (g := fun o : O_Span => o.most) y_Span (evm_var rfl) (fun _ => rfl) (fun _ => rfl) rfl)) (fun _ => rfl))) eva_nil)))))) (by first | with_reducible rfl | (simp -implicitDefEqProofs only [R.bind_assoc, R.bind_ok, R.bind_right, R.of_some, compR_map, compR_filter, compR_id, compR_idF, R.ifm_ok, Bool.and_true, Bool.or_false, R.ite_and, R.ite_or]; done) | (simp -implicitDefEqProofs only [R.bind_assoc, R.bind_ok, R.bind_right, R.of_some, compR_map, compR_filter, compR_id, compR_idF, R.ifm_ok, Bool.and_true, Bool.or_false, R.ite_ok, R.ite_and, R.ite_or]; done) | rfl)) ?_ ?_
  · refine bd_assoc ?_
    exact bd_ret1 rfl (Evm.cast evm_bl (by first | with_reducible rfl | (simp -implicitDefEqProofs only [R.bind_assoc, R.bind_ok, R.bind_right, R.of_some, compR_map, compR_filter, compR_id, compR_idF, R.ifm_ok, Bool.and_true, Bool.or_false, R.ite_and, R.ite_or]; done) | (simp -implicitDefEqProofs only [R.bind_assoc, R.bind_ok, R.bind_right, R.of_some, compR_map, compR_filter, compR_id, compR_idF, R.ifm_ok, Bool.and_true, Bool.or_false, R.ite_ok, R.ite_and, R.ite_or]; done) | rfl)) (fun _ => rfl)
  · refine bd_nil ?_
    refine bd_if (EvT.cast (evt_or (evt_test (evm_opT (evm_flat (l2 := .fr) (evm_fldK (i := 0) (ks := (fun o : O_Span => [enc o.least, enc o.most])) (g := fun o : O_Span => o.least) y_Span (evm_var rfl) (fun _ => rfl) (fun _ => rfl) rfl)) (evm_var rfl) fun _ _ => rv_neI)) (evt_test (evm_opT (evm_flat (l2 := .fr) (evm_fldK (i := 1) (ks := (fun o : O_Span => [enc o.least, enc o.most])) (g := fun o : O_Span => o.most) y_Span (evm_var rfl) (fun _ => rfl) (fun _ => rfl) rfl)) (evm_var rfl) fun _ _ => rv_neI))) (by first | with_reducible rfl | (simp -implicitDefEqProofs only [R.bind_assoc, R.bind_ok, R.bind_right, R.of_some, compR_map, compR_filter, compR_id, compR_idF, R.ifm_ok, Bool.and_true, Bool.or_false, R.ite_and, R.ite_or]; done) | (simp -implicitDefEqProofs only [R.bind_assoc, R.bind_ok, R.bind_right, R.of_some, compR_map, compR_filter, compR_id, compR_idF, R.ifm_ok, Bool.and_true, Bool.or_false, R.ite_ok, R.ite_and, R.ite_or]; done) | rfl)) ?_ ?_
    · refine bd_assoc ?_
      exact bd_ret1 rfl (Evm.cast evm_bl (by first | with_reducible rfl | (simp -implicitDefEqProofs only [R.bind_assoc, R.bind_ok, R.bind_right, R.of_some, compR_map, compR_filter, compR_id, compR_idF, R.ifm_ok, Bool.and_true, Bool.or_false, R.ite_and, R.ite_or]; done) | (simp -implicitDefEqProofs only [R.bind_assoc, R.bind_ok, R.bind_right, R.of_some, compR_map, compR_filter, compR_id, compR_idF, R.ifm_ok, Bool.and_true, Bool.or_false, R.ite_ok, R.ite_and, R.ite_or]; done) | rfl)) (fun _ => rfl)
    · refine bd_nil ?_
      refine bd_for (l1 := .fr) (es := (fun s8 : Unit => [.sh .pa (enc (v_span : O_Span)), .sh .pa (enc (v_lowest : Int)), .sh .pa (enc (v_highest : Int)), .un])) (er := fun a => enc a) (EvI.cast (evi_list (evn_ev (evn_lst (l := .fr) (f := fun b : Int × Int × Int × Int × Int × Unit => ([b.1, b.2.1, b.2.2.1, b.2.2.2.1, b.2.2.2.2.1] : (List Int))) (eva_cons (evm_opT (evm_var rfl) evm_int fun _ _ => rv_II) (eva_cons (evm_flat (l2 := .fr) (evm_var rfl)) (eva_cons (evm_op (evm_opT (evm_var rfl) (evm_var rfl) fun _ _ => rv_II) evm_int fun _ _ _ _ => rv_div) (eva_cons (evm_flat (l2 := .fr) (evm_var rfl)) (eva_cons (evm_opT (evm_var rfl) evm_int fun _ _ => rv_II) eva_nil))))) (fun _ => rfl) (fun _ => by show (5 : Nat) ≤ 1000; decide)))) (by first | with_reducible rfl | (simp -implicitDefEqProofs only [R.bind_assoc, R.bind_ok, R.bind_right, R.of_some, compR_map, compR_filter, compR_id, compR_idF, R.ifm_ok, Bool.and_true, Bool.or_false, R.ite_and, R.ite_or]; done) | (simp -implicitDefEqProofs only [R.bind_assoc, R.bind_ok, R.bind_right, R.of_some, compR_map, compR_filter, compR_id, compR_idF, R.ifm_ok, Bool.and_true, Bool.or_false, R.ite_ok, R.ite_and, R.ite_or]; done) | rfl)) trivial (Wk.keep (Wk.keep (Wk.keep (Wk.keep Wk.nil)))) (tg_name trivial) (hu1 fun _ => rfl) ?_ ?_ (fun a => ⟨_, rfl, rfl⟩)
      · intro x7 s8
        unfold m__law_fits_b1
        refine bd_if (EvT.cast (evt_test (evm_opT (evm_inC (ks := (fun o : O_Span => [enc o.least, enc o.most])) (evm_var rfl) (evm_var rfl) (fun _ => rfl)) (evm_chain (evm_var rfl) (evm_var rfl) (evm_var rfl) (fun _ _ => rv_IB) (fun _ _ => rv_IB)) fun _ _ => rv_neB)) (by first | with_reducible rfl | (simp -implicitDefEqProofs only [R.bind_assoc, R.bind_ok, R.bind_right, R.of_some, compR_map, compR_filter, compR_id, compR_idF, R.ifm_ok, Bool.and_true, Bool.or_false, R.ite_and, R.ite_or]; done) | (simp -implicitDefEqProofs only [R.bind_assoc, R.bind_ok, R.bind_right, R.of_some, compR_map, compR_filter, compR_id, compR_idF, R.ifm_ok, Bool.and_true, Bool.or_false, R.ite_ok, R.ite_and, R.ite_or]; done) | rfl)) ?_ ?_
        · refine bd_assoc ?_
          exact bd_ret (k := fun a11 => (Stp.rt a11)) rfl (Evm.cast evm_bl (by first | with_reducible rfl | (simp -implicitDefEqProofs only [R.bind_assoc, R.bind_ok, R.bind_right, R.of_some, compR_map, compR_filter, compR_id, compR_idF, R.ifm_ok, Bool.and_true, Bool.or_false, R.ite_and, R.ite_or]; done) | (simp -implicitDefEqProofs only [R.bind_assoc, R.bind_ok, R.bind_right, R.of_some, compR_map, compR_filter, compR_id, compR_idF, R.ifm_ok, Bool.and_true, Bool.or_false, R.ite_ok, R.ite_and, R.ite_or]; done) | rfl)) (fun _ => rfl)
        · refine bd_nil ?_
          exact bd_end (Wk.keep (Wk.keep (Wk.keep (Wk.lose Wk.nil)))) rfl
      intro s8
      exact bd_ret1 rfl (Evm.cast (evm_and (evm_callF rfl (eva_cons (evm_raw (evm_co (f := (fun c12 : Int => (enc c12 : PV))) (evm_prop (ks := (fun o : O_Span => [enc o.least, enc o.most])) rfl (evm_var rfl) (fun _ => rfl)) (fun _ => rfl))) eva_nil)) (evm_opT (evm_prop (ks := (fun o : O_Span => [enc o.least, enc o.most])) rfl (evm_var rfl) (fun _ => rfl)) (evm_opT (evm_var rfl) (evm_var rfl) fun _ _ => rv_II) fun _ _ => rv_eqI)) (by first | with_reducible rfl | (simp -implicitDefEqProofs only [R.bind_assoc, R.bind_ok, R.bind_right, R.of_some, compR_map, compR_filter, compR_id, compR_idF, R.ifm_ok, Bool.and_true, Bool.or_false, R.ite_and, R.ite_or]; done) | (simp -implicitDefEqProofs only [R.bind_assoc, R.bind_ok, R.bind_right, R.of_some, compR_map, compR_filter, compR_id, compR_idF, R.ifm_ok, Bool.and_true, Bool.or_false, R.ite_ok, R.ite_and, R.ite_or]; done) | rfl)) (fun _ => rfl)
theorem ok__law_sums {f : Addr} {fd : FuncData} (F : Fun K "_law_sums" "_law_sums" s__law_sums f fd) (hT : T.K = K) (k_Span__add__ : KdM P w K mg base (T.addr 14) "__add__" ["self", "other"] 3 (Pm T (.val .fr) (fun b : O_Span × O_Span × Unit => m_Span__add__ b.1 b.2.1))) (k__law_fits : Kd P w K mg base CX0 "_law_fits" ["_law_span", "_law_lowest", "_law_highest"] 5 (Pm T (.val .fr) (fun b : O_Span × Int × Int × Unit => m__law_fits b.1 b.2.1 b.2.2.1))) (y_Span : KdC P w K mg base T 14 "Span" ["least", "most"] ["self", "least", "most"] 1) :
    FnOk P w K mg base CX0 6 f fd ["_law_span", "_law_lowest", "_law_highest", "_law_picks"] (Pm T (.val .fr) (fun b : O_Span × Int × Int × (List Int) × Unit => m__law_sums b.1 b.2.1 b.2.2.1 b.2.2.2.1)) := by
  subst hT
  refine fn_pm F sc__law_sums (fun _ => rfl) fun cdv A outer s H E hr => ⟨_, (pss_cons (ps_set (i := 4) sc__law_sums.nd rfl (Or.inl rfl) (pe_op op_sub (pe_ix (k_ixl T.K rfl) (pv 3) pe_int (fun _ _ => rfl)) pe_int)) (pss_cons (ps_set (i := 5) sc__law_sums.nd rfl (Or.inl rfl) (pe_op op_add (pv 4) (pe_ix (k_ixl T.K rfl) (pv 3) pe_int (fun _ _ => rfl)))) (pss_cons (ps_set (i := 6) sc__law_sums.nd rfl (Or.inl rfl) (pe_kmake y_Span (hr.mono (by decide)) (by rfl) (pa_cons (pv 4) (pa_cons (pv 5) pa_nil)))) (pss_cons (ps_if (pw_or (pt_not (pt_val (pe_kd k__law_fits (hr.mono (by decide)) (by rfl) (pa_cons (pv 0) (pa_cons (pv 1) (pa_cons (pv 2) pa_nil)))))) (pw_or1 (pt_not (pt_val (pe_kd k__law_fits (hr.mono (by decide)) (by rfl) (pa_cons (pe_op (op_addC k_Span__add__ (hr.mono (by decide))) (pv 0) (pv 6)) (pa_cons (pe_op op_add (pv 1) (pv 4)) (pa_cons (pe_op op_add (pv 2) (pv 5)) pa_nil)))))))).pt (pss_cons (ps_ret pe_bl) pss_nil) pss_nil) (pss_cons (ps_if (pt_not (pt_val (pe_kd k__law_fits (hr.mono (by decide)) (by rfl) (pa_cons (pe_op (op_addC k_Span__add__ (hr.mono (by decide))) (pv 6) (pv 0)) (pa_cons (pe_op op_add (pv 1) (pv 4)) (pa_cons (pe_op op_add (pv 2) (pv 5)) pa_nil)))))) (pss_cons (ps_ret pe_bl) pss_nil) pss_nil) (pss_cons (ps_if (pt_not (pt_val (pe_kd k__law_fits (hr.mono (by decide)) (by rfl) (pa_cons (pe_op (op_addC k_Span__add__ (hr.mono (by decide))) (pv 0) (pv 0)) (pa_cons (pe_op op_mul pe_int (pv 1)) (pa_cons (pe_op op_mul pe_int (pv 2)) pa_nil)))))) (pss_cons (ps_ret pe_bl) pss_nil) pss_nil) (pss_cons (ps_ret (pe_and (pe_kd k__law_fits (hr.mono (by decide)) (by rfl) (pa_cons (pv 0) (pa_cons (pv 1) (pa_cons (pv 2) pa_nil)))) (pe_one (pe_kd k__law_fits (hr.mono (by decide)) (by rfl) (pa_cons (pv 6) (pa_cons (pv 4) (pa_cons (pv 5) pa_nil))))))) pss_nil))))))), ?_⟩
  rintro ⟨v_span, v_lowest, v_highest, v_picks, _⟩
  show BD _ _ _ (m__law_sums v_span v_lowest v_highest v_picks) _
  unfold m__law_sums
  refine bd_set (Evm.cast (evm_opT (evm_flat (l2 := .fr) (evm_ix (evm_var rfl) evm_int)) evm_int fun _ _ => rv_II) (by first | with_reducible rfl | (simp -implicitDefEqProofs only [R.bind_assoc, R.bind_ok, R.bind_right, R.of_some, compR_map, compR_filter, compR_id, compR_idF, R.ifm_ok, Bool.and_true, Bool.or_false, R.ite_and, R.ite_or]; done) | (simp -implicitDefEqProofs only [R.bind_assoc, R.bind_ok, R.bind_right, R.of_some, compR_map, compR_filter, compR_id, compR_idF, R.ifm_ok, Bool.and_true, Bool.or_false, R.ite_ok, R.ite_and, R.ite_or]; done) | rfl)) trivial (lt_of rfl) ?_
  intro v_low_2
  refine bd_set (Evm.cast (evm_opT (evm_var rfl) (evm_flat (l2 := .fr) (evm_ix (evm_var rfl) evm_int)) fun _ _ => rv_II) (by first | with_reducible rfl | (simp -implicitDefEqProofs only [R.bind_assoc, R.bind_ok, R.bind_right, R.of_some, compR_map, compR_filter, compR_id, compR_idF, R.ifm_ok, Bool.and_true, Bool.or_false, R.ite_and, R.ite_or]; done) | (simp -implicitDefEqProofs only [R.bind_assoc, R.bind_ok, R.bind_right, R.of_some, compR_map, compR_filter, compR_id, compR_idF, R.ifm_ok, Bool.and_true, Bool.or_false, R.ite_ok, R.ite_and, R.ite_or]; done) | rfl)) trivial (lt_of rfl) ?_
  intro v_high_4
  refine bd_setP (Evm.cast (evm_make (c := 14) (f := fun b : Int × Int × Unit => O_Span.mk b.1 b.2.1) (eva_cons (evm_var rfl) (eva_cons (evm_var rfl) eva_nil)) (fun _ => rfl) (fun _ => by rw [y_Span.fl]; rfl)) (by first | with_reducible rfl | (simp -implicitDefEqProofs only [R.bind_assoc, R.bind_ok, R.bind_right, R.of_some, compR_map, compR_filter, compR_id, compR_idF, R.ifm_ok, Bool.and_true, Bool.or_false, R.ite_and, R.ite_or]; done) | (simp -implicitDefEqProofs only [R.bind_assoc, R.bind_ok, R.bind_right, R.of_some, compR_map, compR_filter, compR_id, compR_idF, R.ifm_ok, Bool.and_true, Bool.or_false, R.ite_ok, R.ite_and, R.ite_or]; done) | rfl)) trivial (lt_of rfl) ?_
  intro v_other_5
  refine bd_if (EvT.cast (evt_or (evt_not (evt_B (evm_callF rfl (eva_cons (evm_raw (evm_var rfl)) (eva_cons (evm_flat (l2 := .raw) (evm_var rfl)) (eva_cons (evm_flat (l2 := .raw) (evm_var rfl)) eva_nil)))))) (evt_not (evt_B (evm_callF rfl (eva_cons (evm_raw (evm_addC (ks := (fun o : O_Span => [enc o.least, enc o.most])) (kc := (fun o : O_Span => [enc o.least, enc o.most])) (evm_var rfl) (evm_var rfl) (fun _ => rfl) (fun _ => rfl))) (eva_cons (evm_flat (l2 := .raw) (evm_opT (evm_var rfl) (evm_var rfl) fun _ _ => rv_II)) (eva_cons (evm_flat (l2 := .raw) (evm_opT (evm_var rfl) (evm_var rfl) fun _ _ => rv_II)) eva_nil))))))) (by first | with_reducible rfl | (simp -implicitDefEqProofs only [R.bind_assoc, R.bind_ok, R.bind_right, R.of_some, compR_map, compR_filter, compR_id, compR_idF, R.ifm_ok, Bool.and_true, Bool.or_false, R.ite_and, R.ite_or]; done) | (simp -implicitDefEqProofs only [R.bind_assoc, R.bind_ok, R.bind_right, R.of_some, compR_map, compR_filter, compR_id, compR_idF, R.ifm_ok, Bool.and_true, Bool.or_false, R.ite_ok, R.ite_and, R.ite_or]; done) | rfl)) ?_ ?_
  · refine bd_assoc ?_
    exact bd_ret1 rfl (Evm.cast evm_bl (by first | with_reducible rfl | (simp -implicitDefEqProofs only [R.bind_assoc, R.bind_ok, R.bind_right, R.of_some, compR_map, compR_filter, compR_id, compR_idF, R.ifm_ok, Bool.and_true, Bool.or_false, R.ite_and, R.ite_or]; done) | (simp -implicitDefEqProofs only [R.bind_assoc, R.bind_ok, R.bind_right, R.of_some, compR_map, compR_filter, compR_id, compR_idF, R.ifm_ok, Bool.and_true, Bool.or_false, R.ite_ok, R.ite_and, R.ite_or]; done) | rfl)) (fun _ => rfl)
  · refine bd_nil ?_
    refine bd_if (EvT.cast (evt_not (evt_B (evm_callF rfl (eva_cons (evm_raw (evm_addC (ks := (fun o : O_Span => [enc o.least, enc o.most])) (kc := (fun o : O_Span => [enc o.least, enc o.most])) (evm_var rfl) (evm_var rfl) (fun _ => rfl) (fun _ => rfl))) (eva_cons (evm_flat (l2 := .raw) (evm_opT (evm_var rfl) (evm_var rfl) fun _ _ => rv_II)) (eva_cons (evm_flat (l2 := .raw) (evm_opT (evm_var rfl) (evm_var rfl) fun _ _ => rv_II)) eva_nil)))))) (by first | with_reducible rfl | (simp -implicitDefEqProofs only [R.bind_assoc, R.bind_ok, R.bind_right, R.of_some, compR_map, compR_filter, compR_id, compR_idF, R.ifm_ok, Bool.and_true, Bool.or_false, R.ite_and, R.ite_or]; done) | (simp -implicitDefEqProofs only [R.bind_assoc, R.bind_ok, R.bind_right, R.of_some, compR_map, compR_filter, compR_id, compR_idF, R.ifm_ok, Bool.and_true, Bool.or_false, R.ite_ok, R.ite_and, R.ite_or]; done) | rfl)) ?_ ?_
    · refine bd_assoc ?_
      exact bd_ret1 rfl (Evm.cast evm_bl (by first | with_reducible rfl | (simp -implicitDefEqProofs only [R.bind_assoc, R.bind_ok, R.bind_right, R.of_some, compR_map, compR_filter, compR_id, compR_idF, R.ifm_ok, Bool.and_true, Bool.or_false, R.ite_and, R.ite_or]; done) | (simp -implicitDefEqProofs only [R.bind_assoc, R.bind_ok, R.bind_right, R.of_some, compR_map, compR_filter, compR_id, compR_idF, R.ifm_ok, Bool.and_true, Bool.or_false, R.ite_ok, R.ite_and, R.ite_or]; done) | rfl)) (fun _ => rfl)
    · refine bd_nil ?_
      refine bd_if (EvT.cast (evt_not (evt_B (evm_callF rfl (eva_cons (evm_raw (evm_addC (ks := (fun o : O_Span => [enc o.least, enc o.most])) (kc := (fun o : O_Span => [enc o.least, enc o.most])) (evm_var rfl) (evm_var rfl) (fun _ => rfl) (fun _ => rfl))) (eva_cons (evm_flat (l2 := .raw) (evm_op evm_int (evm_var rfl) fun _ _ _ _ => rv_mul)) (eva_cons (evm_flat (l2 := .raw) (evm_op evm_int (evm_var rfl) fun _ _ _ _ => rv_mul)) eva_nil)))))) (by first | with_reducible rfl | (simp -implicitDefEqProofs only [R.bind_assoc, R.bind_ok, R.bind_right, R.of_some, compR_map, compR_filter, compR_id, compR_idF, R.ifm_ok, Bool.and_true, Bool.or_false, R.ite_and, R.ite_or]; done) | (simp -implicitDefEqProofs only [R.bind_assoc, R.bind_ok, R.bind_right, R.of_some, compR_map, compR_filter, compR_id, compR_idF, R.ifm_ok, Bool.and_true, Bool.or_false, R.ite_ok, R.ite_and, R.ite_or]; done) | rfl)) ?_ ?_
      · refine bd_assoc ?_
        exact bd_ret1 rfl (Evm.cast evm_bl (by first | with_reducible rfl | (simp -implicitDefEqProofs only [R.bind_assoc, R.bind_ok, R.bind_right, R.of_some, compR_map, compR_filter, compR_id, compR_idF, R.ifm_ok, Bool.and_true, Bool.or_false, R.ite_and, R.ite_or]; done) | (simp -implicitDefEqProofs only [R.bind_assoc, R.bind_ok, R.bind_right, R.of_some, compR_map, compR_filter, compR_id, compR_idF, R.ifm_ok, Bool.and_true, Bool.or_false, R.ite_ok, R.ite_and, R.ite_or]; done) | rfl)) (fun _ => rfl)
      · refine bd_nil ?_
        exact bd_ret1 rfl (Evm.cast (evm_and (evm_callF rfl (eva_cons (evm_raw (evm_var rfl)) (eva_cons (evm_flat (l2 := .raw) (evm_var rfl)) (eva_cons (evm_flat (l2 := .raw) (evm_var rfl)) eva_nil)))) (evm_callF rfl (eva_cons (evm_raw (evm_var rfl)) (eva_cons (evm_flat (l2 := .raw) (evm_var rfl)) (eva_cons (evm_flat (l2 := .raw) (evm_var rfl)) eva_nil))))) (by first | with_reducible rfl | (simp -implicitDefEqProofs only [R.bind_assoc, R.bind_ok, R.bind_right, R.of_some, compR_map, compR_filter, compR_id, compR_idF, R.ifm_ok, Bool.and_true, Bool.or_false, R.ite_and, R.ite_or]; done) | (simp -implicitDefEqProofs only [R.bind_assoc, R.bind_ok, R.bind_right, R.of_some, compR_map, compR_filter, compR_id, compR_idF, R.ifm_ok, Bool.and_true, Bool.or_false, R.ite_ok, R.ite_and, R.ite_or]; done) | rfl)) (fun _ => rfl)
theorem ok__law_call {f : Addr} {fd : FuncData} (F : Fun K "_law_call" "_law_call" s__law_call f fd) (hT : T.K = K) (k_least : KdR P w K mg base "least" ["mine", "theirs"] 8 (PmX T (.val .fr) (fun b : (List Int) × (List Int) × Unit => m_least b.1 b.2.1))) (k_most : KdR P w K mg base "most" ["mine", "theirs"] 8 (PmX T (.val .fr) (fun b : (List Int) × (List Int) × Unit => m_most b.1 b.2.1))) (k_span_of : KdR P w K mg base "span_of" ["mine", "theirs"] 9 (PmX T (.val .fr) (fun b : (List Int) × (List Int) × Unit => m_span_of b.1 b.2.1))) :
    FnOk P w K mg base (L2N.CX P w) 10 f fd ["_law_way", "_law_a", "_law_b"] (PmX T (.val .fr) (fun b : Int × (List Int) × (List Int) × Unit => m__law_call b.1 b.2.1 b.2.2.1)) := by
  subst hT
  refine fn_pmX F sc__law_call (fun _ => rfl) fun cdv A outer s H E hr => ⟨_, (pss_cons (ps_if (pt_cmpR op_eq (pv 0) pe_int rfl) (pss_cons (ps_ret (pe_kr k_least (L2N.takes_of rfl rfl rfl rfl) (hr.mono (by decide)) (by rfl) (pa_cons (pv 1) (pa_cons (pv 2) pa_nil)))) pss_nil) pss_nil) (pss_cons (ps_if (pt_cmpR op_eq (pv 0) pe_int rfl) (pss_cons (ps_ret (pe_kr k_most (L2N.takes_of rfl rfl rfl rfl) (hr.mono (by decide)) (by rfl) (pa_cons (pv 1) (pa_cons (pv 2) pa_nil)))) pss_nil) pss_nil) (pss_cons (ps_ret (pe_kr k_span_of (L2N.takes_of rfl rfl rfl rfl) (hr.mono (by decide)) (by rfl) (pa_cons (pv 1) (pa_cons (pv 2) pa_nil)))) pss_nil))), ?_⟩
  rintro ⟨v_way, v_a, v_b, _⟩
  show BD _ _ _ (m__law_call v_way v_a v_b) _
  unfold m__law_call
  refine bd_if (EvT.cast (evt_test (evm_opT (evm_var rfl) evm_int fun _ _ => rv_eqI)) (by first | with_reducible rfl | (simp -implicitDefEqProofs only [R.bind_assoc, R.bind_ok, R.bind_right, R.of_some, compR_map, compR_filter, compR_id, compR_idF, R.ifm_ok, Bool.and_true, Bool.or_false, R.ite_and, R.ite_or]; done) | (simp -implicitDefEqProofs only [R.bind_assoc, R.bind_ok, R.bind_right, R.of_some, compR_map, compR_filter, compR_id, compR_idF, R.ifm_ok, Bool.and_true, Bool.or_false, R.ite_ok, R.ite_and, R.ite_or]; done) | rfl)) ?_ ?_
  · refine bd_assoc ?_
    exact bd_ret1 rfl (Evm.cast (evm_co (f := (fun c1 : Int => (enc c1 : PV))) (evm_callXF rfl (eva_cons (evm_raw (evm_var rfl)) (eva_cons (evm_raw (evm_var rfl)) eva_nil))) (fun _ => rfl)) (by first | with_reducible rfl | (simp -implicitDefEqProofs only [R.bind_assoc, R.bind_ok, R.bind_right, R.of_some, compR_map, compR_filter, compR_id, compR_idF, R.ifm_ok, Bool.and_true, Bool.or_false, R.ite_and, R.ite_or]; done) | (simp -implicitDefEqProofs only [R.bind_assoc, R.bind_ok, R.bind_right, R.of_some, compR_map, compR_filter, compR_id, compR_idF, R.ifm_ok, Bool.and_true, Bool.or_false, R.ite_ok, R.ite_and, R.ite_or]; done) | rfl)) (fun _ => rfl)
  · refine bd_nil ?_
    refine bd_if (EvT.cast (evt_test (evm_opT (evm_var rfl) evm_int fun _ _ => rv_eqI)) (by first | with_reducible rfl | (simp -implicitDefEqProofs only [R.bind_assoc, R.bind_ok, R.bind_right, R.of_some, compR_map, compR_filter, compR_id, compR_idF, R.ifm_ok, Bool.and_true, Bool.or_false, R.ite_and, R.ite_or]; done) | (simp -implicitDefEqProofs only [R.bind_assoc, R.bind_ok, R.bind_right, R.of_some, compR_map, compR_filter, compR_id, compR_idF, R.ifm_ok, Bool.and_true, Bool.or_false, R.ite_ok, R.ite_and, R.ite_or]; done) | rfl)) ?_ ?_
    · refine bd_assoc ?_
      exact bd_ret1 rfl (Evm.cast (evm_co (f := (fun c3 : Int => (enc c3 : PV))) (evm_callXF rfl (eva_cons (evm_raw (evm_var rfl)) (eva_cons (evm_raw (evm_var rfl)) eva_nil))) (fun _ => rfl)) (by first | with_reducible rfl | (simp -implicitDefEqProofs only [R.bind_assoc, R.bind_ok, R.bind_right, R.of_some, compR_map, compR_filter, compR_id, compR_idF, R.ifm_ok, Bool.and_true, Bool.or_false, R.ite_and, R.ite_or]; done) | (simp -implicitDefEqProofs only [R.bind_assoc, R.bind_ok, R.bind_right, R.of_some, compR_map, compR_filter, compR_id, compR_idF, R.ifm_ok, Bool.and_true, Bool.or_false, R.ite_ok, R.ite_and, R.ite_or]; done) | rfl)) (fun _ => rfl)
    · refine bd_nil ?_
      exact bd_ret1 rfl (Evm.cast (evm_co (f := (fun c5 : O_Span => (enc c5 : PV))) (evm_callXF rfl (eva_cons (evm_raw (evm_var rfl)) (eva_cons (evm_raw (evm_var rfl)) eva_nil))) (fun _ => rfl)) (by first | with_reducible rfl | (simp -implicitDefEqProofs only [R.bind_assoc, R.bind_ok, R.bind_right, R.of_some, compR_map, compR_filter, compR_id, compR_idF, R.ifm_ok, Bool.and_true, Bool.or_false, R.ite_and, R.ite_or]; done) | (simp -implicitDefEqProofs only [R.bind_assoc, R.bind_ok, R.bind_right, R.of_some, compR_map, compR_filter, compR_id, compR_idF, R.ifm_ok, Bool.and_true, Bool.or_false, R.ite_ok, R.ite_and, R.ite_or]; done) | rfl)) (fun _ => rfl)
theorem ok__law_asked {f : Addr} {fd : FuncData} (F : Fun K "_law_asked" "_law_asked" s__law_asked f fd) (hT : T.K = K) (k__law_call : KdR P w K mg base "_law_call" ["_law_way", "_law_a", "_law_b"] 10 (PmX T (.val .fr) (fun b : Int × (List Int) × (List Int) × Unit => m__law_call b.1 b.2.1 b.2.2.1))) (k__law_fits : Kd P w K mg base CX0 "_law_fits" ["_law_span", "_law_lowest", "_law_highest"] 5 (Pm T (.val .fr) (fun b : O_Span × Int × Int × Unit => m__law_fits b.1 b.2.1 b.2.2.1))) (k__law_is_int : Kd P w K mg base CX0 "_law_is_int" ["_law_x"] 1 (Pm T (.val .fr) (fun b : PV × Unit => m__law_is_int b.1))) (k__law_least : Kd P w K mg base CX0 "_law_least" ["_law_mine", "_law_theirs"] 1 (Pm T (.val .fr) (fun b : (List Int) × (List Int) × Unit => m__law_least b.1 b.2.1))) (k__law_most : Kd P w K mg base CX0 "_law_most" ["_law_mine", "_law_theirs"] 1 (Pm T (.val .fr) (fun b : (List Int) × (List Int) × Unit => m__law_most b.1 b.2.1))) (k_span_of : KdR P w K mg base "span_of" ["mine", "theirs"] 9 (PmX T (.val .fr) (fun b : (List Int) × (List Int) × Unit => m_span_of b.1 b.2.1))) (z_list : mg "list" = none) (z_range : mg "range" = none) :
    FnOk P w K mg base CX0 11 f fd ["_law_a", "_law_b"] (Pm T (.val .fr) (fun b : (List Int) × (List Int) × Unit => m__law_asked b.1 b.2.1)) := by
  subst hT
  refine fn_pm F sc__law_asked (fun _ => rfl) fun cdv A outer s H E hr => ⟨_, (pss_cons (ps_set (i := 2) sc__law_asked.nd rfl (Or.inl rfl) (pe_callTy (k_list T.K rfl) (by rfl) z_list PyProof.Rows.boot_list (pa_cons (pv 0) pa_nil))) (pss_cons (ps_set (i := 3) sc__law_asked.nd rfl (Or.inl rfl) (pe_callTy (k_list T.K rfl) (by rfl) z_list PyProof.Rows.boot_list (pa_cons (pv 1) pa_nil))) (pss_cons (ps_set (i := 4) sc__law_asked.nd rfl (Or.inl rfl) (pe_kd k__law_least (hr.mono (by decide)) (by rfl) (pa_cons (pv 2) (pa_cons (pv 3) pa_nil)))) (pss_cons (ps_set (i := 5) sc__law_asked.nd rfl (Or.inl rfl) (pe_kd k__law_most (hr.mono (by decide)) (by rfl) (pa_cons (pv 2) (pa_cons (pv 3) pa_nil)))) (pss_cons (ps_for PassesOwn.never rfl (pi_range1 (by rfl) z_range (pa_cons pe_int pa_nil)) (pg_name (i := 6) sc__law_asked.nd rfl (Or.inl rfl)) (pss_cons (ps_set (i := 7) sc__law_asked.nd rfl (Or.inl rfl) (pe_krq k__law_call (hr.mono (by decide)) (by rfl) (pa_cons (pv 6) (pa_cons (pv 0) (pa_cons (pv 1) pa_nil))))) (pss_cons (ps_if (pw_or (pt_not (pt_val (pe_kd k__law_is_int (hr.mono (by decide)) (by rfl) (pa_cons (pv 7) pa_nil)))) (pw_or1 (pt_cmpR (k_neD T.K rfl (by exact hr.units)) (pv 7) (pe_ix (k_ixl T.K rfl) (pe_lst (pa_cons (pv 4) (pa_cons (pv 5) pa_nil))) (pv 6) (fun _ _ => rfl)) rfl))).pt (pss_cons (ps_ret pe_bl) pss_nil) pss_nil) pss_nil))) (pss_cons (ps_ret (pe_and (pe_kd k__law_fits (hr.mono (by decide)) (by rfl) (pa_cons (pe_krq k_span_of (hr.mono (by decide)) (by rfl) (pa_cons (pv 0) (pa_cons (pv 1) pa_nil))) (pa_cons (pv 4) (pa_cons (pv 5) pa_nil)))) (pe_and (pe_cmpR (k_eqD T.K rfl (by exact hr.units)) (pv 0) (pv 2) rfl) (pe_one (pe_cmpR (k_eqD T.K rfl (by exact hr.units)) (pv 1) (pv 3) rfl))))) pss_nil)))))), ?_⟩
  rintro ⟨v_a, v_b, _⟩
  show BD _ _ _ (m__law_asked v_a v_b) _
  unfold m__law_asked
  refine bd_setNP (EvN.cast (evn_flat (l2 := .fr) (evn_listof (evm_var rfl))) (by first | with_reducible rfl | (simp -implicitDefEqProofs only [R.bind_assoc, R.bind_ok, R.bind_right, R.of_some, compR_map, compR_filter, compR_id, compR_idF, R.ifm_ok, Bool.and_true, Bool.or_false, R.ite_and, R.ite_or]; done) | (simp -implicitDefEqProofs only [R.bind_assoc, R.bind_ok, R.bind_right, R.of_some, compR_map, compR_filter, compR_id, compR_idF, R.ifm_ok, Bool.and_true, Bool.or_false, R.ite_ok, R.ite_and, R.ite_or]; done) | rfl)) trivial (lt_of rfl) ?_
  intro v_mine_1
  refine bd_setNP (EvN.cast (evn_flat (l2 := .fr) (evn_listof (evm_var rfl))) (by first | with_reducible rfl | (simp -implicitDefEqProofs only [R.bind_assoc, R.bind_ok, R.bind_right, R.of_some, compR_map, compR_filter, compR_id, compR_idF, R.ifm_ok, Bool.and_true, Bool.or_false, R.ite_and, R.ite_or]; done) | (simp -implicitDefEqProofs only [R.bind_assoc, R.bind_ok, R.bind_right, R.of_some, compR_map, compR_filter, compR_id, compR_idF, R.ifm_ok, Bool.and_true, Bool.or_false, R.ite_ok, R.ite_and, R.ite_or]; done) | rfl)) trivial (lt_of rfl) ?_
  intro v_theirs_2
  refine bd_set (Evm.cast (evm_callF rfl (eva_cons (evm_own rfl) (eva_cons (evm_own rfl) eva_nil))) (by first | with_reducible rfl | (simp -implicitDefEqProofs only [R.bind_assoc, R.bind_ok, R.bind_right, R.of_some, compR_map, compR_filter, compR_id, compR_idF, R.ifm_ok, Bool.and_true, Bool.or_false, R.ite_and, R.ite_or]; done) | (simp -implicitDefEqProofs only [R.bind_assoc, R.bind_ok, R.bind_right, R.of_some, compR_map, compR_filter, compR_id, compR_idF, R.ifm_ok, Bool.and_true, Bool.or_false, R.ite_ok, R.ite_and, R.ite_or]; done) | rfl)) trivial (lt_of rfl) ?_
  intro v_lowest_3
  refine bd_set (Evm.cast (evm_callF rfl (eva_cons (evm_own rfl) (eva_cons (evm_own rfl) eva_nil))) (by first | with_reducible rfl | (simp -implicitDefEqProofs only [R.bind_assoc, R.bind_ok, R.bind_right, R.of_some, compR_map, compR_filter, compR_id, compR_idF, R.ifm_ok, Bool.and_true, Bool.or_false, R.ite_and, R.ite_or]; done) | (simp -implicitDefEqProofs only [R.bind_assoc, R.bind_ok, R.bind_right, R.of_some, compR_map, compR_filter, compR_id, compR_idF, R.ifm_ok, Bool.and_true, Bool.or_false, R.ite_ok, R.ite_and, R.ite_or]; done) | rfl)) trivial (lt_of rfl) ?_
  intro v_highest_4
  refine bd_for (l1 := .fr) (es := (fun s6 : Unit => [.sh .pa (enc (v_a : (List Int))), .sh .pa (enc (v_b : (List Int))), .ow .fr ((v_mine_1 : (List Int)).map enc), .ow .fr ((v_theirs_2 : (List Int)).map enc), .sh .fr (enc (v_lowest_3 : Int)), .sh .fr (enc (v_highest_4 : Int)), .un, .un])) (er := fun a => enc a) (EvI.cast (evi_rng1 evm_int) (by first | with_reducible rfl | (simp -implicitDefEqProofs only [R.bind_assoc, R.bind_ok, R.bind_right, R.of_some, compR_map, compR_filter, compR_id, compR_idF, R.ifm_ok, Bool.and_true, Bool.or_false, R.ite_and, R.ite_or]; done) | (simp -implicitDefEqProofs only [R.bind_assoc, R.bind_ok, R.bind_right, R.of_some, compR_map, compR_filter, compR_id, compR_idF, R.ifm_ok, Bool.and_true, Bool.or_false, R.ite_ok, R.ite_and, R.ite_or]; done) | rfl)) trivial (Wk.keep (Wk.keep (Wk.keep (Wk.keep (Wk.keep (Wk.keep (Wk.keep (Wk.keep Wk.nil)))))))) (tg_name trivial) (hu1 fun _ => rfl) ?_ ?_ (fun a => ⟨_, rfl, rfl⟩)
  · intro x5 s6
    unfold m__law_asked_b1
    refine bd_set (Evm.cast (evm_callQF (eva_cons (evm_flat (l2 := .raw) (evm_var rfl)) (eva_cons (evm_raw (evm_var rfl)) (eva_cons (evm_raw (evm_var rfl)) eva_nil)))) (by first | with_reducible rfl | (simp -implicitDefEqProofs only [R.bind_assoc, R.bind_ok, R.bind_right, R.of_some, compR_map, compR_filter, compR_id, compR_idF, R.ifm_ok, Bool.and_true, Bool.or_false, R.ite_and, R.ite_or]; done) | (simp -implicitDefEqProofs only [R.bind_assoc, R.bind_ok, R.bind_right, R.of_some, compR_map, compR_filter, compR_id, compR_idF, R.ifm_ok, Bool.and_true, Bool.or_false, R.ite_ok, R.ite_and, R.ite_or]; done) | rfl)) trivial (lt_of rfl) ?_
    intro v_told_7
    refine bd_if (EvT.cast (evt_or (evt_not (evt_B (evm_callF rfl (eva_cons (evm_raw (evm_var rfl)) eva_nil)))) (evt_test (evm_op (evm_var rfl) (evm_ix (evn_ev (evn_lst (l := .fr) (f := fun b : Int × Int × Unit => ([b.1, b.2.1] : (List Int))) (eva_cons (evm_var rfl) (eva_cons (evm_var rfl) eva_nil)) (fun _ => rfl) (fun _ => by show (2 : Nat) ≤ 1000; decide))) (evm_var rfl)) fun _ _ _ _ => rv_neQ))) (by first | with_reducible rfl | (simp -implicitDefEqProofs only [R.bind_assoc, R.bind_ok, R.bind_right, R.of_some, compR_map, compR_filter, compR_id, compR_idF, R.ifm_ok, Bool.and_true, Bool.or_false, R.ite_and, R.ite_or]; done) | (simp -implicitDefEqProofs only [R.bind_assoc, R.bind_ok, R.bind_right, R.of_some, compR_map, compR_filter, compR_id, compR_idF, R.ifm_ok, Bool.and_true, Bool.or_false, R.ite_ok, R.ite_and, R.ite_or]; done) | rfl)) ?_ ?_
    · refine bd_assoc ?_
      exact bd_ret (k := fun a11 => (Stp.rt a11)) rfl (Evm.cast evm_bl (by first | with_reducible rfl | (simp -implicitDefEqProofs only [R.bind_assoc, R.bind_ok, R.bind_right, R.of_some, compR_map, compR_filter, compR_id, compR_idF, R.ifm_ok, Bool.and_true, Bool.or_false, R.ite_and, R.ite_or]; done) | (simp -implicitDefEqProofs only [R.bind_assoc, R.bind_ok, R.bind_right, R.of_some, compR_map, compR_filter, compR_id, compR_idF, R.ifm_ok, Bool.and_true, Bool.or_false, R.ite_ok, R.ite_and, R.ite_or]; done) | rfl)) (fun _ => rfl)
    · refine bd_nil ?_
      exact bd_end (Wk.keep (Wk.keep (Wk.keep (Wk.keep (Wk.keep (Wk.keep (Wk.lose (Wk.lose Wk.nil)))))))) rfl
  intro s6
  exact bd_ret1 rfl (Evm.cast (evm_and (evm_callF rfl (eva_cons (evm_raw (evm_callQF (eva_cons (evm_raw (evm_var rfl)) (eva_cons (evm_raw (evm_var rfl)) eva_nil)))) (eva_cons (evm_flat (l2 := .raw) (evm_var rfl)) (eva_cons (evm_flat (l2 := .raw) (evm_var rfl)) eva_nil)))) (evm_and (evm_opT (evm_var rfl) (evm_own rfl) fun _ _ => rv_eqD) (evm_opT (evm_var rfl) (evm_own rfl) fun _ _ => rv_eqD))) (by first | with_reducible rfl | (simp -implicitDefEqProofs only [R.bind_assoc, R.bind_ok, R.bind_right, R.of_some, compR_map, compR_filter, compR_id, compR_idF, R.ifm_ok, Bool.and_true, Bool.or_false, R.ite_and, R.ite_or]; done) | (simp -implicitDefEqProofs only [R.bind_assoc, R.bind_ok, R.bind_right, R.of_some, compR_map, compR_filter, compR_id, compR_idF, R.ifm_ok, Bool.and_true, Bool.or_false, R.ite_ok, R.ite_and, R.ite_or]; done) | rfl)) (fun _ => rfl)
theorem ok__law_unlike {f : Addr} {fd : FuncData} (F : Fun K "_law_unlike" "_law_unlike" s__law_unlike f fd) (hT : T.K = K) (k__law_call : KdR P w K mg base "_law_call" ["_law_way", "_law_a", "_law_b"] 10 (PmX T (.val .fr) (fun b : Int × (List Int) × (List Int) × Unit => m__law_call b.1 b.2.1 b.2.2.1))) (y_BadHands : KdX P w K mg base T 1 "BadHands" ["mine_count", "theirs_count"] ["self", "mine_count", "theirs_count"]) (q__law_is_int : KdQ P w K mg base "_law_is_int" ["_law_x"] 1 (Pm T (.val .fr) (fun b : PV × Unit => m__law_is_int b.1))) (w_BadBounds : mg "BadBounds" = some (.ref (T.addr 9))) (w_BadCard : mg "BadCard" = some (.ref (T.addr 3))) (w_BadHands : mg "BadHands" = some (.ref (T.addr 1))) (w_BadPairing : mg "BadPairing" = some (.ref (T.addr 4))) (w_BadPlace : mg "BadPlace" = some (.ref (T.addr 5))) (w_BadSchedule : mg "BadSchedule" = some (.ref (T.addr 10))) (w_BadText : mg "BadText" = some (.ref (T.addr 11))) (w_BadWord : mg "BadWord" = some (.ref (T.addr 2))) (w_ClimbrowError : mg "ClimbrowError" = some (.ref (T.addr 0))) (w_Contradiction : mg "Contradiction" = some (.ref (T.addr 8))) (w_DuplicateName : mg "DuplicateName" = some (.ref (T.addr 13))) (w_OutOfTurn : mg "OutOfTurn" = some (.ref (T.addr 6))) (w_UnknownName : mg "UnknownName" = some (.ref (T.addr 12))) (w_Unreachable : mg "Unreachable" = some (.ref (T.addr 7))) (v_BadHands : ExcC K (T.addr 1)) (t_BadHands_BadBounds : PySem.W.kitOne K (.ref (T.addr 1)) (.ref (T.addr 9)) = some false) (t_BadHands_BadCard : PySem.W.kitOne K (.ref (T.addr 1)) (.ref (T.addr 3)) = some false) (t_BadHands_BadPairing : PySem.W.kitOne K (.ref (T.addr 1)) (.ref (T.addr 4)) = some false) (t_BadHands_BadPlace : PySem.W.kitOne K (.ref (T.addr 1)) (.ref (T.addr 5)) = some false) (t_BadHands_BadSchedule : PySem.W.kitOne K (.ref (T.addr 1)) (.ref (T.addr 10)) = some false) (t_BadHands_BadText : PySem.W.kitOne K (.ref (T.addr 1)) (.ref (T.addr 11)) = some false) (t_BadHands_BadWord : PySem.W.kitOne K (.ref (T.addr 1)) (.ref (T.addr 2)) = some false) (t_BadHands_ClimbrowError : PySem.W.kitOne K (.ref (T.addr 1)) (.ref (T.addr 0)) = some true) (t_BadHands_Contradiction : PySem.W.kitOne K (.ref (T.addr 1)) (.ref (T.addr 8)) = some false) (t_BadHands_DuplicateName : PySem.W.kitOne K (.ref (T.addr 1)) (.ref (T.addr 13)) = some false) (t_BadHands_OutOfTurn : PySem.W.kitOne K (.ref (T.addr 1)) (.ref (T.addr 6)) = some false) (t_BadHands_UnknownName : PySem.W.kitOne K (.ref (T.addr 1)) (.ref (T.addr 12)) = some false) (t_BadHands_Unreachable : PySem.W.kitOne K (.ref (T.addr 1)) (.ref (T.addr 7)) = some false) (t_BadHands_ValueError : PySem.W.kitOne K (.ref (T.addr 1)) (.type "ValueError") = some true) (m_BadHands_BadHands__y : PySem.W.exmOne K (.ref (T.addr 1)) (.ref (T.addr 1)) = some true) (xf_BadHands : XfC K (T.addr 1)) (xn_BadHands_mine_count : PySem.W.findIn K (.ref (T.addr 1)) "mine_count" = some none) (xn_BadHands_theirs_count : PySem.W.findIn K (.ref (T.addr 1)) "theirs_count" = some none) (z_ValueError : mg "ValueError" = none) (z_isinstance : mg "isinstance" = none) (z_len : mg "len" = none) (z_list : mg "list" = none) :
    FnOk P w K mg base CX0 11 f fd ["_law_way", "_law_mine", "_law_theirs"] (Pm T (.val .fr) (fun b : Int × (List Int) × (List Int) × Unit => m__law_unlike b.1 b.2.1 b.2.2.1)) := by
  subst hT
  refine fn_pm F sc__law_unlike (fun _ => rfl) fun cdv A outer s H E hr => ⟨_, (pss_cons (ps_set (i := 3) sc__law_unlike.nd rfl (Or.inl rfl) (pe_callTy (k_list T.K rfl) (by rfl) z_list PyProof.Rows.boot_list (pa_cons (pv 1) pa_nil))) (pss_cons (ps_set (i := 4) sc__law_unlike.nd rfl (Or.inl rfl) (pe_callTy (k_list T.K rfl) (by rfl) z_list PyProof.Rows.boot_list (pa_cons (pv 2) pa_nil))) (pss_cons (ps_tryM (Wout := fun _ _ _ _ => False) sc__law_unlike.nd rfl rfl tk0 (.named (i := 5) rfl rfl ⟨rfl, by decide, Or.inl w_BadHands⟩ (fun a oe cls d pn hz hf => ex_t ⟨_, (pss_cons (ps_if (pt_val (pe_callB (call_isXT hz.zc hf) (by rfl) z_isinstance (by decide +kernel) (pa_cons (pv 5) (pa_cons (pe_tup (pa_cons (C8.pe_gc (v := .ref (T.addr 9)) (by rfl) ⟨_, w_BadBounds, rfl⟩) (pa_cons (C8.pe_gc (v := .ref (T.addr 3)) (by rfl) ⟨_, w_BadCard, rfl⟩) (pa_cons (C8.pe_gc (v := .ref (T.addr 4)) (by rfl) ⟨_, w_BadPairing, rfl⟩) (pa_cons (C8.pe_gc (v := .ref (T.addr 5)) (by rfl) ⟨_, w_BadPlace, rfl⟩) (pa_cons (C8.pe_gc (v := .ref (T.addr 10)) (by rfl) ⟨_, w_BadSchedule, rfl⟩) (pa_cons (C8.pe_gc (v := .ref (T.addr 11)) (by rfl) ⟨_, w_BadText, rfl⟩) pa_nil))))))) pa_nil)))) (pss_cons (ps_ret pe_bl) pss_nil) pss_nil) (pss_cons (ps_if (pt_val (pe_callB (call_isXT hz.zc hf) (by rfl) z_isinstance (by decide +kernel) (pa_cons (pv 5) (pa_cons (pe_tup (pa_cons (C8.pe_gc (v := .ref (T.addr 2)) (by rfl) ⟨_, w_BadWord, rfl⟩) (pa_cons (C8.pe_gc (v := .ref (T.addr 8)) (by rfl) ⟨_, w_Contradiction, rfl⟩) (pa_cons (C8.pe_gc (v := .ref (T.addr 13)) (by rfl) ⟨_, w_DuplicateName, rfl⟩) (pa_cons (C8.pe_gc (v := .ref (T.addr 6)) (by rfl) ⟨_, w_OutOfTurn, rfl⟩) (pa_cons (C8.pe_gc (v := .ref (T.addr 12)) (by rfl) ⟨_, w_UnknownName, rfl⟩) (pa_cons (C8.pe_gc (v := .ref (T.addr 7)) (by rfl) ⟨_, w_Unreachable, rfl⟩) pa_nil))))))) pa_nil)))) (pss_cons (ps_ret pe_bl) pss_nil) pss_nil) (pss_cons (ps_if (pw_or (pt_not (pt_val (pe_callB (call_isX hz.zc hf) (by rfl) z_isinstance (by decide +kernel) (pa_cons (pv 5) (pa_cons (C8.pe_gc (v := .ref (T.addr 0)) (by rfl) ⟨_, w_ClimbrowError, rfl⟩) pa_nil))))) (pw_or1 (pt_not (pt_val (pe_callB (call_isX hz.zc hf) (by rfl) z_isinstance (by decide +kernel) (pa_cons (pv 5) (pa_cons (pe_bltn (v := .ty "ValueError") (by rfl) z_ValueError (by decide +kernel) rfl) pa_nil))))))).pt (pss_cons (ps_ret pe_bl) pss_nil) pss_nil) (pss_cons (ps_if (pw_or (pt_not (pt_val (pe_kdq q__law_is_int (roomH_mark (hr.mono (by decide))) (by rfl) (pa_cons (pe_xfU hz.zc hf (pv 5)) pa_nil)))) (pw_or (pt_not (pt_val (pe_kdq q__law_is_int (roomH_mark (hr.mono (by decide))) (by rfl) (pa_cons (pe_xfU hz.zc hf (pv 5)) pa_nil)))) (pw_or (pt_cmpR (k_neD T.K rfl (by exact hr.units)) (pv 3) (pv 1) rfl) (pw_or1 (pt_cmpR (k_neD T.K rfl (by exact hr.units)) (pv 4) (pv 2) rfl))))).pt (pss_cons (ps_ret pe_bl) pss_nil) pss_nil) (pss_cons (ps_ret (pe_and (pe_cmpR op_eq (pe_xfU hz.zc hf (pv 5)) (pe_callB (k_len T.K rfl) (by rfl) z_len PySem.boot_len (pa_cons (pv 1) pa_nil)) rfl) (pe_one (pe_cmpR op_eq (pe_xfU hz.zc hf (pv 5)) (pe_callB (k_len T.K rfl) (by rfl) z_len PySem.boot_len (pa_cons (pv 2) pa_nil)) rfl)))) pss_nil))))), rfl⟩) .nil) (fun W pn xe tk _ => ex_t ⟨_, (pss_cons (ps_expr (pe_kr k__law_call tk (hr.mono (by decide)) (by rfl) (pa_cons (pv 0) (pa_cons (pv 3) (pa_cons (pv 4) pa_nil))))) pss_nil), rfl⟩)) (pss_cons (ps_ret pe_bl) pss_nil)))), ?_⟩
  rintro ⟨v_way, v_mine, v_theirs, _⟩
  show BD _ _ _ (m__law_unlike v_way v_mine v_theirs) _
  unfold m__law_unlike
  refine bd_setNP (EvN.cast (evn_flat (l2 := .fr) (evn_listof (evm_var rfl))) (by first | with_reducible rfl | (simp -implicitDefEqProofs only [R.bind_assoc, R.bind_ok, R.bind_right, R.of_some, compR_map, compR_filter, compR_id, compR_idF, R.ifm_ok, Bool.and_true, Bool.or_false, R.ite_and, R.ite_or]; done) | (simp -implicitDefEqProofs only [R.bind_assoc, R.bind_ok, R.bind_right, R.of_some, compR_map, compR_filter, compR_id, compR_idF, R.ifm_ok, Bool.and_true, Bool.or_false, R.ite_ok, R.ite_and, R.ite_or]; done) | rfl)) trivial (lt_of rfl) ?_
  intro v_a_1
  refine bd_setNP (EvN.cast (evn_flat (l2 := .fr) (evn_listof (evm_var rfl))) (by first | with_reducible rfl | (simp -implicitDefEqProofs only [R.bind_assoc, R.bind_ok, R.bind_right, R.of_some, compR_map, compR_filter, compR_id, compR_idF, R.ifm_ok, Bool.and_true, Bool.or_false, R.ite_and, R.ite_or]; done) | (simp -implicitDefEqProofs only [R.bind_assoc, R.bind_ok, R.bind_right, R.of_some, compR_map, compR_filter, compR_id, compR_idF, R.ifm_ok, Bool.and_true, Bool.or_false, R.ite_ok, R.ite_and, R.ite_or]; done) | rfl)) trivial (lt_of rfl) ?_
  intro v_b_2
  refine bd_seqL (es := (fun _ : Unit => [.sh .pa (enc (v_way : Int)), .sh .pa (enc (v_mine : (List Int))), .sh .pa (enc (v_theirs : (List Int))), .ow .fr ((v_a_1 : (List Int)).map enc), .ow .fr ((v_b_2 : (List Int)).map enc), .un])) (er := fun a => enc a) ?_ ?_ (fun a => ⟨_, rfl, rfl⟩)
  · refine bd_tryM (okc := (fun x => (x.c == 1) && x.vs.all flV)) (ms := fun x => (R.ite (decide (x.c = 1)) (R.f2 x.vs fun (f17 : Int) (f16 : Int) => (R.ifm (R.ok false) (R.bind (R.ok false) fun a18 => R.ok (Lr.rt a18)) (R.ifm (R.ok false) (R.bind (R.ok false) fun a19 => R.ok (Lr.rt a19)) (R.ifm (R.ok ((!true) || (!true))) (R.bind (R.ok false) fun a20 => R.ok (Lr.rt a20)) (R.ifm (R.bind (R.bind (m__law_is_int (enc f16 : PV)) fun t22 => R.ok (!t22)) fun t26 => (R.ite t26 (R.ok true) (R.bind (R.bind (m__law_is_int (enc f17 : PV)) fun t24 => R.ok (!t24)) fun t25 => (R.ite t25 (R.ok true) (R.ok ((!eqP (enc v_a_1) (enc v_mine)) || (!eqP (enc v_b_2) (enc v_theirs)))))))) (R.bind (R.ok false) fun a27 => R.ok (Lr.rt a27)) (R.bind (R.ok ((decide (f16 = (v_mine.length : Int))) && (decide (f17 = (v_theirs.length : Int))))) fun a28 => R.ok (Lr.rt a28))))))) (R.bad))) (fun b => by cases b with | nx s => exact .inl ⟨_, rfl⟩ | rt a => exact .inr ⟨_, rfl⟩) (fun x hx => by rw [Bool.and_eq_true] at hx; exact hx.2) (fun x hok => ?_) (fun W => ?_)
    · obtain ⟨c, vs⟩ := x
      rw [Bool.and_eq_true] at hok
      have hc := hok.1
      simp only [Bool.or_eq_true, beq_iff_eq] at hc
      subst hc
      refine .named m_BadHands_BadHands__y (lt_of rfl) (fun a d => ?_)
      show BD _ _ _ (R.f2 vs fun (f17 : Int) (f16 : Int) => (R.ifm (R.ok false) (R.bind (R.ok false) fun a18 => R.ok (Lr.rt a18)) (R.ifm (R.ok false) (R.bind (R.ok false) fun a19 => R.ok (Lr.rt a19)) (R.ifm (R.ok ((!true) || (!true))) (R.bind (R.ok false) fun a20 => R.ok (Lr.rt a20)) (R.ifm (R.bind (R.bind (m__law_is_int (enc f16 : PV)) fun t22 => R.ok (!t22)) fun t26 => (R.ite t26 (R.ok true) (R.bind (R.bind (m__law_is_int (enc f17 : PV)) fun t24 => R.ok (!t24)) fun t25 => (R.ite t25 (R.ok true) (R.ok ((!eqP (enc v_a_1) (enc v_mine)) || (!eqP (enc v_b_2) (enc v_theirs)))))))) (R.bind (R.ok false) fun a27 => R.ok (Lr.rt a27)) (R.bind (R.ok ((decide (f16 = (v_mine.length : Int))) && (decide (f17 = (v_theirs.length : Int))))) fun a28 => R.ok (Lr.rt a28))))))) _
      refine bd_f2 fun f17 f16 hv => ?_
      subst hv
      refine bd_assoc ?_
      refine bd_if (EvT.cast (evt_B (evm_isXT (x := ⟨1, [enc f17, enc f16]⟩) (cs := [.ref (T.addr 9), .ref (T.addr 3), .ref (T.addr 4), .ref (T.addr 5), .ref (T.addr 10), .ref (T.addr 11)]) (cvs := [.ref (T.addr 9), .ref (T.addr 3), .ref (T.addr 4), .ref (T.addr 5), .ref (T.addr 10), .ref (T.addr 11)]) rfl (List.cons_ne_nil _ _) v_BadHands (by show (6 : Nat) ≤ 1000; decide) (.cons (.own _) (.cons (.own _) (.cons (.own _) (.cons (.own _) (.cons (.own _) (.cons (.own _) .nil)))))) (kitAny_cons (r := false) t_BadHands_BadBounds (fun _ => (kitAny_cons (r := false) t_BadHands_BadCard (fun _ => (kitAny_cons (r := false) t_BadHands_BadPairing (fun _ => (kitAny_cons (r := false) t_BadHands_BadPlace (fun _ => (kitAny_cons (r := false) t_BadHands_BadSchedule (fun _ => (kitAny_cons (r := false) t_BadHands_BadText (fun _ => kitAny_nil) (fun z => Bool.noConfusion z))) (fun z => Bool.noConfusion z))) (fun z => Bool.noConfusion z))) (fun z => Bool.noConfusion z))) (fun z => Bool.noConfusion z))) (fun z => Bool.noConfusion z)))) (by first | with_reducible rfl | (simp -implicitDefEqProofs only [R.bind_assoc, R.bind_ok, R.bind_right, R.of_some, compR_map, compR_filter, compR_id, compR_idF, R.ifm_ok, Bool.and_true, Bool.or_false, R.ite_and, R.ite_or]; done) | (simp -implicitDefEqProofs only [R.bind_assoc, R.bind_ok, R.bind_right, R.of_some, compR_map, compR_filter, compR_id, compR_idF, R.ifm_ok, Bool.and_true, Bool.or_false, R.ite_ok, R.ite_and, R.ite_or]; done) | rfl)) ?_ ?_
      · refine bd_assoc ?_
        exact bd_ret (k := fun a18 => (Lr.rt a18)) rfl (Evm.cast evm_bl (by first | with_reducible rfl | (simp -implicitDefEqProofs only [R.bind_assoc, R.bind_ok, R.bind_right, R.of_some, compR_map, compR_filter, compR_id, compR_idF, R.ifm_ok, Bool.and_true, Bool.or_false, R.ite_and, R.ite_or]; done) | (simp -implicitDefEqProofs only [R.bind_assoc, R.bind_ok, R.bind_right, R.of_some, compR_map, compR_filter, compR_id, compR_idF, R.ifm_ok, Bool.and_true, Bool.or_false, R.ite_ok, R.ite_and, R.ite_or]; done) | rfl)) (fun _ => rfl)
      · refine bd_nil ?_
        refine bd_assoc ?_
        refine bd_if (EvT.cast (evt_B (evm_isXT (x := ⟨1, [enc f17, enc f16]⟩) (cs := [.ref (T.addr 2), .ref (T.addr 8), .ref (T.addr 13), .ref (T.addr 6), .ref (T.addr 12), .ref (T.addr 7)]) (cvs := [.ref (T.addr 2), .ref (T.addr 8), .ref (T.addr 13), .ref (T.addr 6), .ref (T.addr 12), .ref (T.addr 7)]) rfl (List.cons_ne_nil _ _) v_BadHands (by show (6 : Nat) ≤ 1000; decide) (.cons (.own _) (.cons (.own _) (.cons (.own _) (.cons (.own _) (.cons (.own _) (.cons (.own _) .nil)))))) (kitAny_cons (r := false) t_BadHands_BadWord (fun _ => (kitAny_cons (r := false) t_BadHands_Contradiction (fun _ => (kitAny_cons (r := false) t_BadHands_DuplicateName (fun _ => (kitAny_cons (r := false) t_BadHands_OutOfTurn (fun _ => (kitAny_cons (r := false) t_BadHands_UnknownName (fun _ => (kitAny_cons (r := false) t_BadHands_Unreachable (fun _ => kitAny_nil) (fun z => Bool.noConfusion z))) (fun z => Bool.noConfusion z))) (fun z => Bool.noConfusion z))) (fun z => Bool.noConfusion z))) (fun z => Bool.noConfusion z))) (fun z => Bool.noConfusion z)))) (by first | with_reducible rfl | (simp -implicitDefEqProofs only [R.bind_assoc, R.bind_ok, R.bind_right, R.of_some, compR_map, compR_filter, compR_id, compR_idF, R.ifm_ok, Bool.and_true, Bool.or_false, R.ite_and, R.ite_or]; done) | (simp -implicitDefEqProofs only [R.bind_assoc, R.bind_ok, R.bind_right, R.of_some, compR_map, compR_filter, compR_id, compR_idF, R.ifm_ok, Bool.and_true, Bool.or_false, R.ite_ok, R.ite_and, R.ite_or]; done) | rfl)) ?_ ?_
        · refine bd_assoc ?_
          exact bd_ret (k := fun a19 => (Lr.rt a19)) rfl (Evm.cast evm_bl (by first | with_reducible rfl | (simp -implicitDefEqProofs only [R.bind_assoc, R.bind_ok, R.bind_right, R.of_some, compR_map, compR_filter, compR_id, compR_idF, R.ifm_ok, Bool.and_true, Bool.or_false, R.ite_and, R.ite_or]; done) | (simp -implicitDefEqProofs only [R.bind_assoc, R.bind_ok, R.bind_right, R.of_some, compR_map, compR_filter, compR_id, compR_idF, R.ifm_ok, Bool.and_true, Bool.or_false, R.ite_ok, R.ite_and, R.ite_or]; done) | rfl)) (fun _ => rfl)
        · refine bd_nil ?_
          refine bd_assoc ?_
          refine bd_if (EvT.cast (evt_or (evt_not (evt_B (evm_isX (x := ⟨1, [enc f17, enc f16]⟩) (c := .ref (T.addr 0)) rfl (List.cons_ne_nil _ _) v_BadHands (.own _) t_BadHands_ClimbrowError))) (evt_not (evt_B (evm_isX (x := ⟨1, [enc f17, enc f16]⟩) (c := .ty "ValueError") rfl (List.cons_ne_nil _ _) v_BadHands (.ty _) t_BadHands_ValueError)))) (by first | with_reducible rfl | (simp -implicitDefEqProofs only [R.bind_assoc, R.bind_ok, R.bind_right, R.of_some, compR_map, compR_filter, compR_id, compR_idF, R.ifm_ok, Bool.and_true, Bool.or_false, R.ite_and, R.ite_or]; done) | (simp -implicitDefEqProofs only [R.bind_assoc, R.bind_ok, R.bind_right, R.of_some, compR_map, compR_filter, compR_id, compR_idF, R.ifm_ok, Bool.and_true, Bool.or_false, R.ite_ok, R.ite_and, R.ite_or]; done) | rfl)) ?_ ?_
          · refine bd_assoc ?_
            exact bd_ret (k := fun a20 => (Lr.rt a20)) rfl (Evm.cast evm_bl (by first | with_reducible rfl | (simp -implicitDefEqProofs only [R.bind_assoc, R.bind_ok, R.bind_right, R.of_some, compR_map, compR_filter, compR_id, compR_idF, R.ifm_ok, Bool.and_true, Bool.or_false, R.ite_and, R.ite_or]; done) | (simp -implicitDefEqProofs only [R.bind_assoc, R.bind_ok, R.bind_right, R.of_some, compR_map, compR_filter, compR_id, compR_idF, R.ifm_ok, Bool.and_true, Bool.or_false, R.ite_ok, R.ite_and, R.ite_or]; done) | rfl)) (fun _ => rfl)
          · refine bd_nil ?_
            refine bd_assoc ?_
            refine bd_if (EvT.cast (evt_or (evt_not (evt_B (evm_callF rfl (eva_cons (evm_raw (evm_co (f := (fun c21 : Int => (enc c21 : PV))) (evm_xfU (x := ⟨1, [enc f17, enc f16]⟩) (f := "mine_count") (v := f16) (j := 1) rfl (List.cons_ne_nil _ _) (by rw [y_BadHands.fl]; decide) (by rw [y_BadHands.fl]; rfl) rfl rfl xf_BadHands xn_BadHands_mine_count) (fun _ => rfl))) eva_nil)))) (evt_or (evt_not (evt_B (evm_callF rfl (eva_cons (evm_raw (evm_co (f := (fun c23 : Int => (enc c23 : PV))) (evm_xfU (x := ⟨1, [enc f17, enc f16]⟩) (f := "theirs_count") (v := f17) (j := 0) rfl (List.cons_ne_nil _ _) (by rw [y_BadHands.fl]; decide) (by rw [y_BadHands.fl]; rfl) rfl rfl xf_BadHands xn_BadHands_theirs_count) (fun _ => rfl))) eva_nil)))) (evt_or (evt_test (evm_opT (evm_own rfl) (evm_var rfl) fun _ _ => rv_neD)) (evt_test (evm_opT (evm_own rfl) (evm_var rfl) fun _ _ => rv_neD))))) (by first | with_reducible rfl | (simp -implicitDefEqProofs only [R.bind_assoc, R.bind_ok, R.bind_right, R.of_some, compR_map, compR_filter, compR_id, compR_idF, R.ifm_ok, Bool.and_true, Bool.or_false, R.ite_and, R.ite_or]; done) | (simp -implicitDefEqProofs only [R.bind_assoc, R.bind_ok, R.bind_right, R.of_some, compR_map, compR_filter, compR_id, compR_idF, R.ifm_ok, Bool.and_true, Bool.or_false, R.ite_ok, R.ite_and, R.ite_or]; done) | rfl)) ?_ ?_
            · refine bd_assoc ?_
              exact bd_ret (k := fun a27 => (Lr.rt a27)) rfl (Evm.cast evm_bl (by first | with_reducible rfl | (simp -implicitDefEqProofs only [R.bind_assoc, R.bind_ok, R.bind_right, R.of_some, compR_map, compR_filter, compR_id, compR_idF, R.ifm_ok, Bool.and_true, Bool.or_false, R.ite_and, R.ite_or]; done) | (simp -implicitDefEqProofs only [R.bind_assoc, R.bind_ok, R.bind_right, R.of_some, compR_map, compR_filter, compR_id, compR_idF, R.ifm_ok, Bool.and_true, Bool.or_false, R.ite_ok, R.ite_and, R.ite_or]; done) | rfl)) (fun _ => rfl)
            · refine bd_nil ?_
              refine bd_assoc ?_
              exact bd_ret (k := fun a28 => (Lr.rt a28)) rfl (Evm.cast (evm_and (evm_opT (evm_xfU (x := ⟨1, [enc f17, enc f16]⟩) (f := "mine_count") (v := f16) (j := 1) rfl (List.cons_ne_nil _ _) (by rw [y_BadHands.fl]; decide) (by rw [y_BadHands.fl]; rfl) rfl rfl xf_BadHands xn_BadHands_mine_count) (evm_cbT (eva_cons (evm_raw (evm_var rfl)) eva_nil) fun _ => ra_len) fun _ _ => rv_eqI) (evm_opT (evm_xfU (x := ⟨1, [enc f17, enc f16]⟩) (f := "theirs_count") (v := f17) (j := 0) rfl (List.cons_ne_nil _ _) (by rw [y_BadHands.fl]; decide) (by rw [y_BadHands.fl]; rfl) rfl rfl xf_BadHands xn_BadHands_theirs_count) (evm_cbT (eva_cons (evm_raw (evm_var rfl)) eva_nil) fun _ => ra_len) fun _ _ => rv_eqI)) (by first | with_reducible rfl | (simp -implicitDefEqProofs only [R.bind_assoc, R.bind_ok, R.bind_right, R.of_some, compR_map, compR_filter, compR_id, compR_idF, R.ifm_ok, Bool.and_true, Bool.or_false, R.ite_and, R.ite_or]; done) | (simp -implicitDefEqProofs only [R.bind_assoc, R.bind_ok, R.bind_right, R.of_some, compR_map, compR_filter, compR_id, compR_idF, R.ifm_ok, Bool.and_true, Bool.or_false, R.ite_ok, R.ite_and, R.ite_or]; done) | rfl)) (fun _ => rfl)
    · refine bdx_assoc ?_
      refine bdx_end (Evm.cast (evm_callXF rfl (eva_cons (evm_flat (l2 := .raw) (evm_var rfl)) (eva_cons (evm_own rfl) (eva_cons (evm_own rfl) eva_nil)))) (by first | with_reducible rfl | (simp -implicitDefEqProofs only [R.bind_assoc, R.bind_ok, R.bind_right, R.of_some, compR_map, compR_filter, compR_id, compR_idF, R.ifm_ok, Bool.and_true, Bool.or_false, R.ite_and, R.ite_or]; done) | (simp -implicitDefEqProofs only [R.bind_assoc, R.bind_ok, R.bind_right, R.of_some, compR_map, compR_filter, compR_id, compR_idF, R.ifm_ok, Bool.and_true, Bool.or_false, R.ite_ok, R.ite_and, R.ite_or]; done) | rfl)) ?_
      repeat (with_reducible refine bd_nil ?_)
      exact bd_end (Wk.keep (Wk.keep (Wk.keep (Wk.keep (Wk.keep (Wk.keep Wk.nil)))))) rfl
  intro _
  exact bd_ret1 rfl (Evm.cast evm_bl (by first | with_reducible rfl | (simp -implicitDefEqProofs only [R.bind_assoc, R.bind_ok, R.bind_right, R.of_some, compR_map, compR_filter, compR_id, compR_idF, R.ifm_ok, Bool.and_true, Bool.or_false, R.ite_and, R.ite_or]; done) | (simp -implicitDefEqProofs only [R.bind_assoc, R.bind_ok, R.bind_right, R.of_some, compR_map, compR_filter, compR_id, compR_idF, R.ifm_ok, Bool.and_true, Bool.or_false, R.ite_ok, R.ite_and, R.ite_or]; done) | rfl)) (fun _ => rfl)
theorem ok__law_ends {f : Addr} {fd : FuncData} (F : Fun K "_law_ends" "_law_ends" s__law_ends f fd) (hT : T.K = K) (k__law_is_pairing : Kd P w K mg base CX0 "_law_is_pairing" ["_law_xs", "_law_count"] 3 (Pm T (.val .fr) (fun b : (List Int) × Int × Unit => m__law_is_pairing b.1 b.2.1))) (k__law_result : Kd P w K mg base CX0 "_law_result" ["_law_mine", "_law_theirs", "_law_pairing_here"] 1 (Pm T (.val .fr) (fun b : (List Int) × (List Int) × (List Int) × Unit => m__law_result b.1 b.2.1 b.2.2.1))) (k_pairing_with : KdR P w K mg base "pairing_with" ["mine", "theirs", "wanted"] 10 (PmX T (.nw .fr) (fun b : (List Int) × (List Int) × Int × Unit => m_pairing_with b.1 b.2.1 b.2.2.1))) (z_len : mg "len" = none) (z_list : mg "list" = none) :
    FnOk P w K mg base CX0 11 f fd ["_law_mine", "_law_theirs", "_law_lowest", "_law_highest"] (Pm T (.val .fr) (fun b : (List Int) × (List Int) × Int × Int × Unit => m__law_ends b.1 b.2.1 b.2.2.1 b.2.2.2.1)) := by
  subst hT
  refine fn_pm F sc__law_ends (fun _ => rfl) fun cdv A outer s H E hr => ⟨_, (pss_cons (ps_for PassesOwn.never rfl (k_pil T.K rfl (pe_lst (pa_cons (pv 2) (pa_cons (pv 3) pa_nil)))) (pg_name (i := 4) sc__law_ends.nd rfl (Or.inl rfl)) (pss_cons (ps_set (i := 5) sc__law_ends.nd rfl (Or.inl rfl) (pe_krq k_pairing_with (hr.mono (by decide)) (by rfl) (pa_cons (pe_callTy (k_list T.K rfl) (by rfl) z_list PyProof.Rows.boot_list (pa_cons (pv 0) pa_nil)) (pa_cons (pe_callTy (k_list T.K rfl) (by rfl) z_list PyProof.Rows.boot_list (pa_cons (pv 1) pa_nil)) (pa_cons (pv 4) pa_nil))))) (pss_cons (ps_if (pw_or (pt_not (pt_val (pe_kd k__law_is_pairing (hr.mono (by decide)) (by rfl) (pa_cons (pv 5) (pa_cons (pe_callB (k_len T.K rfl) (by rfl) z_len PySem.boot_len (pa_cons (pv 0) pa_nil)) pa_nil))))) (pw_or1 (pt_cmpR op_ne (pe_kd k__law_result (hr.mono (by decide)) (by rfl) (pa_cons (pv 0) (pa_cons (pv 1) (pa_cons (pv 5) pa_nil)))) (pv 4) rfl))).pt (pss_cons (ps_ret pe_bl) pss_nil) pss_nil) pss_nil))) (pss_cons (ps_ret pe_bl) pss_nil)), ?_⟩
  rintro ⟨v_mine, v_theirs, v_lowest, v_highest, _⟩
  show BD _ _ _ (m__law_ends v_mine v_theirs v_lowest v_highest) _
  unfold m__law_ends
  refine bd_for (l1 := .fr) (es := (fun s2 : Unit => [.sh .pa (enc (v_mine : (List Int))), .sh .pa (enc (v_theirs : (List Int))), .sh .pa (enc (v_lowest : Int)), .sh .pa (enc (v_highest : Int)), .un, .un])) (er := fun a => enc a) (EvI.cast (evi_list (evn_ev (evn_lst (l := .fr) (f := fun b : Int × Int × Unit => ([b.1, b.2.1] : (List Int))) (eva_cons (evm_flat (l2 := .fr) (evm_var rfl)) (eva_cons (evm_flat (l2 := .fr) (evm_var rfl)) eva_nil)) (fun _ => rfl) (fun _ => by show (2 : Nat) ≤ 1000; decide)))) (by first | with_reducible rfl | (simp -implicitDefEqProofs only [R.bind_assoc, R.bind_ok, R.bind_right, R.of_some, compR_map, compR_filter, compR_id, compR_idF, R.ifm_ok, Bool.and_true, Bool.or_false, R.ite_and, R.ite_or]; done) | (simp -implicitDefEqProofs only [R.bind_assoc, R.bind_ok, R.bind_right, R.of_some, compR_map, compR_filter, compR_id, compR_idF, R.ifm_ok, Bool.and_true, Bool.or_false, R.ite_ok, R.ite_and, R.ite_or]; done) | rfl)) trivial (Wk.keep (Wk.keep (Wk.keep (Wk.keep (Wk.keep (Wk.keep Wk.nil)))))) (tg_name trivial) (hu1 fun _ => rfl) ?_ ?_ (fun a => ⟨_, rfl, rfl⟩)
  · intro x1 s2
    unfold m__law_ends_b1
    refine bd_setN (EvN.cast (evn_callQF (eva_cons (evm_raw (evn_ev (evn_flat (l2 := .fr) (evn_listof (evm_var rfl))))) (eva_cons (evm_raw (evn_ev (evn_flat (l2 := .fr) (evn_listof (evm_var rfl))))) (eva_cons (evm_flat (l2 := .raw) (evm_var rfl)) eva_nil)))) (by first | with_reducible rfl | (simp -implicitDefEqProofs only [R.bind_assoc, R.bind_ok, R.bind_right, R.of_some, compR_map, compR_filter, compR_id, compR_idF, R.ifm_ok, Bool.and_true, Bool.or_false, R.ite_and, R.ite_or]; done) | (simp -implicitDefEqProofs only [R.bind_assoc, R.bind_ok, R.bind_right, R.of_some, compR_map, compR_filter, compR_id, compR_idF, R.ifm_ok, Bool.and_true, Bool.or_false, R.ite_ok, R.ite_and, R.ite_or]; done) | rfl)) trivial (lt_of rfl) ?_
    intro v_told_3
    refine bd_if (EvT.cast (evt_or (evt_not (evt_B (evm_callF rfl (eva_cons (evm_own rfl) (eva_cons (evm_flat (l2 := .raw) (evm_cbT (eva_cons (evm_raw (evm_var rfl)) eva_nil) fun _ => ra_len)) eva_nil))))) (evt_test (evm_opT (evm_callF rfl (eva_cons (evm_raw (evm_var rfl)) (eva_cons (evm_raw (evm_var rfl)) (eva_cons (evm_own rfl) eva_nil)))) (evm_var rfl) fun _ _ => rv_neI))) (by first | with_reducible rfl | (simp -implicitDefEqProofs only [R.bind_assoc, R.bind_ok, R.bind_right, R.of_some, compR_map, compR_filter, compR_id, compR_idF, R.ifm_ok, Bool.and_true, Bool.or_false, R.ite_and, R.ite_or]; done) | (simp -implicitDefEqProofs only [R.bind_assoc, R.bind_ok, R.bind_right, R.of_some, compR_map, compR_filter, compR_id, compR_idF, R.ifm_ok, Bool.and_true, Bool.or_false, R.ite_ok, R.ite_and, R.ite_or]; done) | rfl)) ?_ ?_
    · refine bd_assoc ?_
      exact bd_ret (k := fun a7 => (Stp.rt a7)) rfl (Evm.cast evm_bl (by first | with_reducible rfl | (simp -implicitDefEqProofs only [R.bind_assoc, R.bind_ok, R.bind_right, R.of_some, compR_map, compR_filter, compR_id, compR_idF, R.ifm_ok, Bool.and_true, Bool.or_false, R.ite_and, R.ite_or]; done) | (simp -implicitDefEqProofs only [R.bind_assoc, R.bind_ok, R.bind_right, R.of_some, compR_map, compR_filter, compR_id, compR_idF, R.ifm_ok, Bool.and_true, Bool.or_false, R.ite_ok, R.ite_and, R.ite_or]; done) | rfl)) (fun _ => rfl)
    · refine bd_nil ?_
      exact bd_end (Wk.keep (Wk.keep (Wk.keep (Wk.keep (Wk.lose (Wk.lose Wk.nil)))))) rfl
  intro s2
  exact bd_ret1 rfl (Evm.cast evm_bl (by first | with_reducible rfl | (simp -implicitDefEqProofs only [R.bind_assoc, R.bind_ok, R.bind_right, R.of_some, compR_map, compR_filter, compR_id, compR_idF, R.ifm_ok, Bool.and_true, Bool.or_false, R.ite_and, R.ite_or]; done) | (simp -implicitDefEqProofs only [R.bind_assoc, R.bind_ok, R.bind_right, R.of_some, compR_map, compR_filter, compR_id, compR_idF, R.ifm_ok, Bool.and_true, Bool.or_false, R.ite_ok, R.ite_and, R.ite_or]; done) | rfl)) (fun _ => rfl)
theorem ok_law {f : Addr} {fd : FuncData} (F : Fun K "law" "law" s_law f fd) (hT : T.K = K) (k__law_asked : Kd P w K mg base CX0 "_law_asked" ["_law_a", "_law_b"] 11 (Pm T (.val .fr) (fun b : (List Int) × (List Int) × Unit => m__law_asked b.1 b.2.1))) (k__law_cell : Kd P w K mg base CX0 "_law_cell" ["_law_script", "_law_k"] 1 (Pm T (.val .fr) (fun b : Scr × Int × Unit => m__law_cell b.1 b.2.1))) (k__law_draws : Kd P w K mg base CX0 "_law_draws" ["_law_cell_here", "_law_sizes"] 1 (Pm T (.nw .fr) (fun b : Int × (List Int) × Unit => m__law_draws b.1 b.2.1))) (k__law_ends : Kd P w K mg base CX0 "_law_ends" ["_law_mine", "_law_theirs", "_law_lowest", "_law_highest"] 11 (Pm T (.val .fr) (fun b : (List Int) × (List Int) × Int × Int × Unit => m__law_ends b.1 b.2.1 b.2.2.1 b.2.2.2.1))) (k__law_game : Kd P w K mg base CX0 "_law_game" ["_law_script", "_law_at", "_law_count", "_law_edge"] 4 (Pm T (.val .fr) (fun b : Scr × Int × Int × Int × Unit => m__law_game b.1 b.2.1 b.2.2.1 b.2.2.2.1))) (k__law_least : Kd P w K mg base CX0 "_law_least" ["_law_mine", "_law_theirs"] 1 (Pm T (.val .fr) (fun b : (List Int) × (List Int) × Unit => m__law_least b.1 b.2.1))) (k__law_most : Kd P w K mg base CX0 "_law_most" ["_law_mine", "_law_theirs"] 1 (Pm T (.val .fr) (fun b : (List Int) × (List Int) × Unit => m__law_most b.1 b.2.1))) (k__law_pairing : Kd P w K mg base CX0 "_law_pairing" ["_law_cell_here", "_law_count"] 2 (Pm T (.nw .fr) (fun b : Int × Int × Unit => m__law_pairing b.1 b.2.1))) (k__law_reached : Kd P w K mg base CX0 "_law_reached" ["_law_mine", "_law_theirs"] 2 (Pm T (.nw .fr) (fun b : (List Int) × (List Int) × Unit => m__law_reached b.1 b.2.1))) (k__law_result : Kd P w K mg base CX0 "_law_result" ["_law_mine", "_law_theirs", "_law_pairing_here"] 1 (Pm T (.val .fr) (fun b : (List Int) × (List Int) × (List Int) × Unit => m__law_result b.1 b.2.1 b.2.2.1))) (k__law_sums : Kd P w K mg base CX0 "_law_sums" ["_law_span", "_law_lowest", "_law_highest", "_law_picks"] 6 (Pm T (.val .fr) (fun b : O_Span × Int × Int × (List Int) × Unit => m__law_sums b.1 b.2.1 b.2.2.1 b.2.2.2.1))) (k__law_unlike : Kd P w K mg base CX0 "_law_unlike" ["_law_way", "_law_mine", "_law_theirs"] 11 (Pm T (.val .fr) (fun b : Int × (List Int) × (List Int) × Unit => m__law_unlike b.1 b.2.1 b.2.2.1))) (k_span_of : KdR P w K mg base "span_of" ["mine", "theirs"] 9 (PmX T (.val .fr) (fun b : (List Int) × (List Int) × Unit => m_span_of b.1 b.2.1))) (z_int : mg "int" = none) (z_len : mg "len" = none) (z_list : mg "list" = none) (z_range : mg "range" = none) :
    FnOk P w K mg base CX0 12 f fd ["_law_script"] (Pm T (.val .fr) (fun b : Scr × Unit => m_law b.1)) := by
  subst hT
  refine fn_pm F sc_law (fun _ => rfl) fun cdv A outer s H E hr => ⟨_, (pss_cons (ps_set (i := 1) sc_law.nd rfl (Or.inl rfl) (pe_kd k__law_draws (hr.mono (by decide)) (by rfl) (pa_cons (pe_kd k__law_cell (hr.mono (by decide)) (by rfl) (pa_cons (pv 0) (pa_cons pe_int pa_nil))) (pa_cons (pe_lst (pa_cons pe_int (pa_cons pe_int (pa_cons pe_int (pa_cons pe_int (pa_cons pe_int (pa_cons pe_int (pa_cons pe_int (pa_cons pe_int pa_nil))))))))) pa_nil)))) (pss_cons (ps_set (i := 2) sc_law.nd rfl (Or.inl rfl) (pe_ix (k_ixl T.K rfl) (pv 1) pe_int (fun _ _ => rfl))) (pss_cons (ps_if (pt_cmpR op_lt (pe_ix (k_ixl T.K rfl) (pv 1) pe_int (fun _ _ => rfl)) pe_int rfl) (pss_cons (ps_set (i := 2) sc_law.nd rfl (Or.inl rfl) (pe_ix (k_ixl T.K rfl) (pv 1) pe_int (fun _ _ => rfl))) pss_nil) pss_nil) (pss_cons (ps_if (pt_cmpR op_eq (pe_ix (k_ixl T.K rfl) (pv 1) pe_int (fun _ _ => rfl)) pe_int rfl) (pss_cons (ps_set (i := 2) sc_law.nd rfl (Or.inl rfl) (pe_ix (k_ixl T.K rfl) (pv 1) pe_int (fun _ _ => rfl))) pss_nil) pss_nil) (pss_cons (ps_set (i := 3) sc_law.nd rfl (Or.inl rfl) (pe_kd k__law_game (hr.mono (by decide)) (by rfl) (pa_cons (pv 0) (pa_cons pe_int (pa_cons (pv 2) (pa_cons (pe_ix (k_ixl T.K rfl) (pv 1) pe_int (fun _ _ => rfl)) pa_nil)))))) (pss_cons (ps_set (i := 4) sc_law.nd rfl (Or.inl rfl) (pe_ix (k_ixt T.K rfl) (pv 3) pe_int (fun _ _ => rfl))) (pss_cons (ps_set (i := 5) sc_law.nd rfl (Or.inl rfl) (pe_ix (k_ixt T.K rfl) (pv 3) pe_int (fun _ _ => rfl))) (pss_cons (ps_set (i := 6) sc_law.nd rfl (Or.inl rfl) (pe_kd k__law_least (hr.mono (by decide)) (by rfl) (pa_cons (pv 4) (pa_cons (pv 5) pa_nil)))) (pss_cons (ps_set (i := 7) sc_law.nd rfl (Or.inl rfl) (pe_kd k__law_most (hr.mono (by decide)) (by rfl) (pa_cons (pv 4) (pa_cons (pv 5) pa_nil)))) (pss_cons (ps_if (pw_and (pt_cmpR op_lt (pv 2) pe_int rfl) (pw_and1 (pt_cmpR (k_neD T.K rfl (by exact hr.units)) (pe_kd k__law_reached (hr.mono (by decide)) (by rfl) (pa_cons (pv 4) (pa_cons (pv 5) pa_nil))) (pe_lc (own := [("_law_k", 8)]) (g := (gName 8)) rfl sc_law.nd (pi_range2 (by rfl) z_range (pa_cons (pv 6) (pa_cons (pe_op op_add (pv 7) pe_int) pa_nil))) (blkOk_by (N := N_law) (sc := defScope s_law) (by decide +kernel)) (fun _ _ _ _ _ => (pg_name (i := 8) sc_law.nd rfl (Or.inl rfl))) (fun _ _ _ _ _ => pts_nil) (fun _ _ _ _ _ => (pv 8))) rfl))).pt (pss_cons (ps_ret pe_bl) pss_nil) pss_nil) (pss_cons (ps_for PassesOwn.never rfl (pi_range1 (by rfl) z_range (pa_cons pe_int pa_nil)) (pg_name (i := 8) sc_law.nd rfl (Or.inl rfl)) (pss_cons (ps_if (pt_not (pt_chain op_le op_le (pv 6) (pe_kd k__law_result (hr.mono (by decide)) (by rfl) (pa_cons (pv 4) (pa_cons (pv 5) (pa_cons (pe_kd k__law_pairing (hr.mono (by decide)) (by rfl) (pa_cons (pe_kd k__law_cell (hr.mono (by decide)) (by rfl) (pa_cons (pv 0) (pa_cons (pe_op op_add pe_int (pv 8)) pa_nil))) (pa_cons (pv 2) pa_nil))) pa_nil)))) (pv 7))) (pss_cons (ps_ret pe_bl) pss_nil) pss_nil) pss_nil)) (pss_cons (ps_set (i := 9) sc_law.nd rfl (Or.inl rfl) (pe_callTy (k_list T.K rfl) (by rfl) z_list PyProof.Rows.boot_list (pa_cons (pv 4) pa_nil))) (pss_cons (ps_set (i := 10) sc_law.nd rfl (Or.inl rfl) (pe_callTy (k_list T.K rfl) (by rfl) z_list PyProof.Rows.boot_list (pa_cons (pv 5) pa_nil))) (pss_cons (ps_if (pw_or (pt_not (pt_val (pe_kd k__law_asked (hr.mono (by decide)) (by rfl) (pa_cons (pv 9) (pa_cons (pv 10) pa_nil))))) (pw_or1 (pt_not (pt_val (pe_kd k__law_ends (hr.mono (by decide)) (by rfl) (pa_cons (pv 4) (pa_cons (pv 5) (pa_cons (pv 6) (pa_cons (pv 7) pa_nil))))))))).pt (pss_cons (ps_ret pe_bl) pss_nil) pss_nil) (pss_cons (ps_for PassesOwn.never rfl (pi_range1 (by rfl) z_range (pa_cons (pv 2) pa_nil)) (pg_name (i := 8) sc_law.nd rfl (Or.inl rfl)) (pss_cons (ps_asg (pe_op op_sub pe_int (pe_ix (k_ixl T.K rfl) (pv 9) (pv 8) (fun _ _ => rfl))) (pg_sub (pv 9) (pv 8) set_list)) pss_nil)) (pss_cons (ps_if (pw_or (pt_not (pt_val (pe_kd k__law_asked (hr.mono (by decide)) (by rfl) (pa_cons (pv 9) (pa_cons (pv 10) pa_nil))))) (pw_or1 (pt_not (pt_val (pe_kd k__law_asked (hr.mono (by decide)) (by rfl) (pa_cons (pv 9) (pa_cons (pv 9) pa_nil))))))).pt (pss_cons (ps_ret pe_bl) pss_nil) pss_nil) (pss_cons (ps_if (pt_not (pt_val (pe_kd k__law_sums (hr.mono (by decide)) (by rfl) (pa_cons (pe_krq k_span_of (hr.mono (by decide)) (by rfl) (pa_cons (pe_callTy (k_list T.K rfl) (by rfl) z_list PyProof.Rows.boot_list (pa_cons (pv 4) pa_nil)) (pa_cons (pe_callTy (k_list T.K rfl) (by rfl) z_list PyProof.Rows.boot_list (pa_cons (pv 5) pa_nil)) pa_nil))) (pa_cons (pv 6) (pa_cons (pv 7) (pa_cons (pe_slice (k_sll T.K rfl) (pv 1) (po_some pe_int) (po_some pe_int)) pa_nil))))))) (pss_cons (ps_ret pe_bl) pss_nil) pss_nil) (pss_cons (ps_if (pt_cmpR op_eq (pv 2) pe_int rfl) (pss_cons (ps_set (i := 4) sc_law.nd rfl (Or.inl rfl) (pe_lst (pa_cons (pe_ix (k_ixl T.K rfl) (pv 1) pe_int (fun _ _ => rfl)) pa_nil))) (pss_cons (ps_set (i := 5) sc_law.nd rfl (Or.inl rfl) (pe_lst (pa_cons (pe_ix (k_ixl T.K rfl) (pv 1) pe_int (fun _ _ => rfl)) (pa_cons (pe_ix (k_ixl T.K rfl) (pv 1) pe_int (fun _ _ => rfl)) pa_nil)))) pss_nil)) pss_nil) (pss_cons (ps_set (i := 11) sc_law.nd rfl (Or.inl rfl) (pe_op op_mod (pe_callTy call_int1 (by rfl) z_int PyProof.Rows.boot_int (pa_cons (pe_ix (k_ixl T.K rfl) (pv 1) pe_int (fun _ _ => rfl)) pa_nil)) (pe_callB (k_len T.K rfl) (by rfl) z_len PySem.boot_len (pa_cons (pv 4) pa_nil)))) (pss_cons (ps_for PassesOwn.never rfl (pi_range1 (by rfl) z_range (pa_cons pe_int pa_nil)) (pg_name (i := 12) sc_law.nd rfl (Or.inl rfl)) (pss_cons (ps_if (pw_or (pt_not (pt_val (pe_kd k__law_unlike (hr.mono (by decide)) (by rfl) (pa_cons (pv 12) (pa_cons (pv 4) (pa_cons (pe_slice (k_sll T.K rfl) (pv 5) po_none (po_some (pv 11))) pa_nil)))))) (pw_or1 (pt_not (pt_val (pe_kd k__law_unlike (hr.mono (by decide)) (by rfl) (pa_cons (pv 12) (pa_cons (pe_slice (k_sll T.K rfl) (pv 4) po_none (po_some (pv 11))) (pa_cons (pv 5) pa_nil)))))))).pt (pss_cons (ps_ret pe_bl) pss_nil) pss_nil) pss_nil)) (pss_cons (ps_ret pe_bl) pss_nil))))))))))))))))))))), ?_⟩
  rintro ⟨v_script, _⟩
  show BD _ _ _ (m_law v_script) _
  unfold m_law
  refine bd_setN (EvN.cast (evn_callF rfl (eva_cons (evm_flat (l2 := .raw) (evm_callF rfl (eva_cons (evm_raw (evm_var rfl)) (eva_cons (evm_flat (l2 := .raw) evm_int) eva_nil)))) (eva_cons (evm_raw (evn_ev (evn_lst (l := .fr) (f := fun b : Int × Int × Int × Int × Int × Int × Int × Int × Unit => ([b.1, b.2.1, b.2.2.1, b.2.2.2.1, b.2.2.2.2.1, b.2.2.2.2.2.1, b.2.2.2.2.2.2.1, b.2.2.2.2.2.2.2.1] : (List Int))) (eva_cons evm_int (eva_cons evm_int (eva_cons evm_int (eva_cons evm_int (eva_cons evm_int (eva_cons evm_int (eva_cons evm_int (eva_cons evm_int eva_nil)))))))) (fun _ => rfl) (fun _ => by show (8 : Nat) ≤ 1000; decide)))) eva_nil))) (by first | with_reducible rfl | (simp -implicitDefEqProofs only [R.bind_assoc, R.bind_ok, R.bind_right, R.of_some, compR_map, compR_filter, compR_id, compR_idF, R.ifm_ok, Bool.and_true, Bool.or_false, R.ite_and, R.ite_or]; done) | (simp -implicitDefEqProofs only [R.bind_assoc, R.bind_ok, R.bind_right, R.of_some, compR_map, compR_filter, compR_id, compR_idF, R.ifm_ok, Bool.and_true, Bool.or_false, R.ite_ok, R.ite_and, R.ite_or]; done) | rfl)) trivial (lt_of rfl) ?_
  intro v_shape_2
  refine bd_set (Evm.cast (evm_ixo rfl evm_int) (by first | with_reducible rfl | (simp -implicitDefEqProofs only [R.bind_assoc, R.bind_ok, R.bind_right, R.of_some, compR_map, compR_filter, compR_id, compR_idF, R.ifm_ok, Bool.and_true, Bool.or_false, R.ite_and, R.ite_or]; done) | (simp -implicitDefEqProofs only [R.bind_assoc, R.bind_ok, R.bind_right, R.of_some, compR_map, compR_filter, compR_id, compR_idF, R.ifm_ok, Bool.and_true, Bool.or_false, R.ite_ok, R.ite_and, R.ite_or]; done) | rfl)) trivial (lt_of rfl) ?_
  intro v_count_3
  refine bd_join (es := (fun s6 : Int => [.sh .pa (enc (v_script : Scr)), .ow .fr ((v_shape_2 : (List Int)).map enc), .sh .fr (enc (s6 : Int)), .un, .un, .un, .un, .un, .un, .un, .un, .un, .un])) (bd_tail ?_) ?_
  · refine bd_if (EvT.cast (evt_test (evm_opT (evm_ixo rfl evm_int) evm_int fun _ _ => rv_IB)) (by first | with_reducible rfl | (simp -implicitDefEqProofs only [R.bind_assoc, R.bind_ok, R.bind_right, R.of_some, compR_map, compR_filter, compR_id, compR_idF, R.ifm_ok, Bool.and_true, Bool.or_false, R.ite_and, R.ite_or]; done) | (simp -implicitDefEqProofs only [R.bind_assoc, R.bind_ok, R.bind_right, R.of_some, compR_map, compR_filter, compR_id, compR_idF, R.ifm_ok, Bool.and_true, Bool.or_false, R.ite_ok, R.ite_and, R.ite_or]; done) | rfl)) ?_ ?_
    · refine bd_assoc ?_
      refine bd_set (Evm.cast (evm_ixo rfl evm_int) (by first | with_reducible rfl | (simp -implicitDefEqProofs only [R.bind_assoc, R.bind_ok, R.bind_right, R.of_some, compR_map, compR_filter, compR_id, compR_idF, R.ifm_ok, Bool.and_true, Bool.or_false, R.ite_and, R.ite_or]; done) | (simp -implicitDefEqProofs only [R.bind_assoc, R.bind_ok, R.bind_right, R.of_some, compR_map, compR_filter, compR_id, compR_idF, R.ifm_ok, Bool.and_true, Bool.or_false, R.ite_ok, R.ite_and, R.ite_or]; done) | rfl)) trivial (lt_of rfl) ?_
      intro v_count_7
      refine bd_nil ?_
      exact bd_end (Wk.keep (Wk.keep (Wk.keep (Wk.keep (Wk.keep (Wk.keep (Wk.keep (Wk.keep (Wk.keep (Wk.keep (Wk.keep (Wk.keep (Wk.keep Wk.nil))))))))))))) rfl
    · refine bd_nil ?_
      exact bd_end (Wk.keep (Wk.keep (Wk.keep (Wk.keep (Wk.keep (Wk.keep (Wk.keep (Wk.keep (Wk.keep (Wk.keep (Wk.keep (Wk.keep (Wk.keep Wk.nil))))))))))))) rfl
  intro s6
  refine bd_join (es := (fun s10 : Int => [.sh .pa (enc (v_script : Scr)), .ow .fr ((v_shape_2 : (List Int)).map enc), .sh .fr (enc (s10 : Int)), .un, .un, .un, .un, .un, .un, .un, .un, .un, .un])) (bd_tail ?_) ?_
  · refine bd_if (EvT.cast (evt_test (evm_opT (evm_ixo rfl evm_int) evm_int fun _ _ => rv_eqI)) (by first | with_reducible rfl | (simp -implicitDefEqProofs only [R.bind_assoc, R.bind_ok, R.bind_right, R.of_some, compR_map, compR_filter, compR_id, compR_idF, R.ifm_ok, Bool.and_true, Bool.or_false, R.ite_and, R.ite_or]; done) | (simp -implicitDefEqProofs only [R.bind_assoc, R.bind_ok, R.bind_right, R.of_some, compR_map, compR_filter, compR_id, compR_idF, R.ifm_ok, Bool.and_true, Bool.or_false, R.ite_ok, R.ite_and, R.ite_or]; done) | rfl)) ?_ ?_
    · refine bd_assoc ?_
      refine bd_set (Evm.cast (evm_ixo rfl evm_int) (by first | with_reducible rfl | (simp -implicitDefEqProofs only [R.bind_assoc, R.bind_ok, R.bind_right, R.of_some, compR_map, compR_filter, compR_id, compR_idF, R.ifm_ok, Bool.and_true, Bool.or_false, R.ite_and, R.ite_or]; done) | (simp -implicitDefEqProofs only [R.bind_assoc, R.bind_ok, R.bind_right, R.of_some, compR_map, compR_filter, compR_id, compR_idF, R.ifm_ok, Bool.and_true, Bool.or_false, R.ite_ok, R.ite_and, R.ite_or]; done) | rfl)) trivial (lt_of rfl) ?_
      intro v_count_11
      refine bd_nil ?_
      exact bd_end (Wk.keep (Wk.keep (Wk.keep (Wk.keep (Wk.keep (Wk.keep (Wk.keep (Wk.keep (Wk.keep (Wk.keep (Wk.keep (Wk.keep (Wk.keep Wk.nil))))))))))))) rfl
    · refine bd_nil ?_
      exact bd_end (Wk.keep (Wk.keep (Wk.keep (Wk.keep (Wk.keep (Wk.keep (Wk.keep (Wk.keep (Wk.keep (Wk.keep (Wk.keep (Wk.keep (Wk.keep Wk.nil))))))))))))) rfl
  intro s10
  refine bd_set (Evm.cast (evm_callF rfl (eva_cons (evm_raw (evm_var rfl)) (eva_cons (evm_flat (l2 := .raw) evm_int) (eva_cons (evm_flat (l2 := .raw) (evm_var rfl)) (eva_cons (evm_flat (l2 := .raw) (evm_ixo rfl evm_int)) eva_nil))))) (by first | with_reducible rfl | (simp -implicitDefEqProofs only [R.bind_assoc, R.bind_ok, R.bind_right, R.of_some, compR_map, compR_filter, compR_id, compR_idF, R.ifm_ok, Bool.and_true, Bool.or_false, R.ite_and, R.ite_or]; done) | (simp -implicitDefEqProofs only [R.bind_assoc, R.bind_ok, R.bind_right, R.of_some, compR_map, compR_filter, compR_id, compR_idF, R.ifm_ok, Bool.and_true, Bool.or_false, R.ite_ok, R.ite_and, R.ite_or]; done) | rfl)) trivial (lt_of rfl) ?_
  intro v_hands_13
  refine bd_setP (Evm.cast (evm_ixt (j := 0) (g := fun d => d.1) (evm_var rfl) (fun _ => rfl)) (by first | with_reducible rfl | (simp -implicitDefEqProofs only [R.bind_assoc, R.bind_ok, R.bind_right, R.of_some, compR_map, compR_filter, compR_id, compR_idF, R.ifm_ok, Bool.and_true, Bool.or_false, R.ite_and, R.ite_or]; done) | (simp -implicitDefEqProofs only [R.bind_assoc, R.bind_ok, R.bind_right, R.of_some, compR_map, compR_filter, compR_id, compR_idF, R.ifm_ok, Bool.and_true, Bool.or_false, R.ite_ok, R.ite_and, R.ite_or]; done) | rfl)) trivial (lt_of rfl) ?_
  intro v_mine_14
  refine bd_setP (Evm.cast (evm_ixt (j := 1) (g := fun d => d.2.1) (evm_var rfl) (fun _ => rfl)) (by first | with_reducible rfl | (simp -implicitDefEqProofs only [R.bind_assoc, R.bind_ok, R.bind_right, R.of_some, compR_map, compR_filter, compR_id, compR_idF, R.ifm_ok, Bool.and_true, Bool.or_false, R.ite_and, R.ite_or]; done) | (simp -implicitDefEqProofs only [R.bind_assoc, R.bind_ok, R.bind_right, R.of_some, compR_map, compR_filter, compR_id, compR_idF, R.ifm_ok, Bool.and_true, Bool.or_false, R.ite_ok, R.ite_and, R.ite_or]; done) | rfl)) trivial (lt_of rfl) ?_
  intro v_theirs_15
  refine bd_set (Evm.cast (evm_callF rfl (eva_cons (evm_raw (evm_var rfl)) (eva_cons (evm_raw (evm_var rfl)) eva_nil))) (by first | with_reducible rfl | (simp -implicitDefEqProofs only [R.bind_assoc, R.bind_ok, R.bind_right, R.of_some, compR_map, compR_filter, compR_id, compR_idF, R.ifm_ok, Bool.and_true, Bool.or_false, R.ite_and, R.ite_or]; done) | (simp -implicitDefEqProofs only [R.bind_assoc, R.bind_ok, R.bind_right, R.of_some, compR_map, compR_filter, compR_id, compR_idF, R.ifm_ok, Bool.and_true, Bool.or_false, R.ite_ok, R.ite_and, R.ite_or]; done) | rfl)) trivial (lt_of rfl) ?_
  intro v_lowest_16
  refine bd_set (Evm.cast (evm_callF rfl (eva_cons (evm_raw (evm_var rfl)) (eva_cons (evm_raw (evm_var rfl)) eva_nil))) (by first | with_reducible rfl | (simp -implicitDefEqProofs only [R.bind_assoc, R.bind_ok, R.bind_right, R.of_some, compR_map, compR_filter, compR_id, compR_idF, R.ifm_ok, Bool.and_true, Bool.or_false, R.ite_and, R.ite_or]; done) | (simp -implicitDefEqProofs only [R.bind_assoc, R.bind_ok, R.bind_right, R.of_some, compR_map, compR_filter, compR_id, compR_idF, R.ifm_ok, Bool.and_true, Bool.or_false, R.ite_ok, R.ite_and, R.ite_or]; done) | rfl)) trivial (lt_of rfl) ?_
  intro v_highest_17
  refine bd_if (EvT.cast (evt_and (evt_test (evm_opT (evm_var rfl) evm_int fun _ _ => rv_IB)) (evt_test (evm_opT (evn_ev (evn_callF rfl (eva_cons (evm_raw (evm_var rfl)) (eva_cons (evm_raw (evm_var rfl)) eva_nil)))) (evn_ev (evn_lc (l := .fr) (l1 := .fr) (l3 := .fr) rfl trivial trivial (.inl rfl) (evi_rng2 (evm_var rfl) (evm_opT (evm_var rfl) evm_int fun _ _ => rv_II)) (hv1 rfl rfl) (tg_name trivial) (fun x18 => evt_yes) (fun x18 => (evm_var rfl)))) fun _ _ => rv_neD))) (by first | with_reducible rfl | (simp -implicitDefEqProofs only [R.bind_assoc, R.bind_ok, R.bind_right, R.of_some, compR_map, compR_filter, compR_id, compR_idF, R.ifm_ok, Bool.and_true, Bool.or_false, R.ite_and, R.ite_or]; done) | (simp -implicitDefEqProofs only [R.bind_assoc, R.bind_ok, R.bind_right, R.of_some, compR_map, compR_filter, compR_id, compR_idF, R.ifm_ok, Bool.and_true, Bool.or_false, R.ite_ok, R.ite_and, R.ite_or]; done) | rfl)) ?_ ?_
  · refine bd_assoc ?_
    exact bd_ret1 rfl (Evm.cast evm_bl (by first | with_reducible rfl | (simp -implicitDefEqProofs only [R.bind_assoc, R.bind_ok, R.bind_right, R.of_some, compR_map, compR_filter, compR_id, compR_idF, R.ifm_ok, Bool.and_true, Bool.or_false, R.ite_and, R.ite_or]; done) | (simp -implicitDefEqProofs only [R.bind_assoc, R.bind_ok, R.bind_right, R.of_some, compR_map, compR_filter, compR_id, compR_idF, R.ifm_ok, Bool.and_true, Bool.or_false, R.ite_ok, R.ite_and, R.ite_or]; done) | rfl)) (fun _ => rfl)
  · refine bd_nil ?_
    refine bd_for (l1 := .fr) (es := (fun s23 : Unit => [.sh .pa (enc (v_script : Scr)), .ow .fr ((v_shape_2 : (List Int)).map enc), .sh .fr (enc (s10 : Int)), .sh .fr (enc (v_hands_13 : (Tp ((List Int) × (List Int) × Unit)))), .sh .fr (enc (v_mine_14 : (List Int))), .sh .fr (enc (v_theirs_15 : (List Int))), .sh .fr (enc (v_lowest_16 : Int)), .sh .fr (enc (v_highest_17 : Int)), .un, .un, .un, .un, .un])) (er := fun a => enc a) (EvI.cast (evi_rng1 evm_int) (by first | with_reducible rfl | (simp -implicitDefEqProofs only [R.bind_assoc, R.bind_ok, R.bind_right, R.of_some, compR_map, compR_filter, compR_id, compR_idF, R.ifm_ok, Bool.and_true, Bool.or_false, R.ite_and, R.ite_or]; done) | (simp -implicitDefEqProofs only [R.bind_assoc, R.bind_ok, R.bind_right, R.of_some, compR_map, compR_filter, compR_id, compR_idF, R.ifm_ok, Bool.and_true, Bool.or_false, R.ite_ok, R.ite_and, R.ite_or]; done) | rfl)) trivial (Wk.keep (Wk.keep (Wk.keep (Wk.keep (Wk.keep (Wk.keep (Wk.keep (Wk.keep (Wk.keep (Wk.keep (Wk.keep (Wk.keep (Wk.keep Wk.nil))))))))))))) (tg_name trivial) (hu1 fun _ => rfl) ?_ ?_ (fun a => ⟨_, rfl, rfl⟩)
    · intro x22 s23
      unfold m_law_b1
      refine bd_if (EvT.cast (evt_not (evt_test (evm_chain (evm_var rfl) (evm_callF rfl (eva_cons (evm_raw (evm_var rfl)) (eva_cons (evm_raw (evm_var rfl)) (eva_cons (evm_raw (evn_ev (evn_callF rfl (eva_cons (evm_flat (l2 := .raw) (evm_callF rfl (eva_cons (evm_raw (evm_var rfl)) (eva_cons (evm_flat (l2 := .raw) (evm_opT evm_int (evm_var rfl) fun _ _ => rv_II)) eva_nil)))) (eva_cons (evm_flat (l2 := .raw) (evm_var rfl)) eva_nil))))) eva_nil)))) (evm_var rfl) (fun _ _ => rv_IB) (fun _ _ => rv_IB)))) (by first | with_reducible rfl | (simp -implicitDefEqProofs only [R.bind_assoc, R.bind_ok, R.bind_right, R.of_some, compR_map, compR_filter, compR_id, compR_idF, R.ifm_ok, Bool.and_true, Bool.or_false, R.ite_and, R.ite_or]; done) | (simp -implicitDefEqProofs only [R.bind_assoc, R.bind_ok, R.bind_right, R.of_some, compR_map, compR_filter, compR_id, compR_idF, R.ifm_ok, Bool.and_true, Bool.or_false, R.ite_ok, R.ite_and, R.ite_or]; done) | rfl)) ?_ ?_
      · refine bd_assoc ?_
        exact bd_ret (k := fun a28 => (Stp.rt a28)) rfl (Evm.cast evm_bl (by first | with_reducible rfl | (simp -implicitDefEqProofs only [R.bind_assoc, R.bind_ok, R.bind_right, R.of_some, compR_map, compR_filter, compR_id, compR_idF, R.ifm_ok, Bool.and_true, Bool.or_false, R.ite_and, R.ite_or]; done) | (simp -implicitDefEqProofs only [R.bind_assoc, R.bind_ok, R.bind_right, R.of_some, compR_map, compR_filter, compR_id, compR_idF, R.ifm_ok, Bool.and_true, Bool.or_false, R.ite_ok, R.ite_and, R.ite_or]; done) | rfl)) (fun _ => rfl)
      · refine bd_nil ?_
        exact bd_end (Wk.keep (Wk.keep (Wk.keep (Wk.keep (Wk.keep (Wk.keep (Wk.keep (Wk.keep (Wk.lose (Wk.keep (Wk.keep (Wk.keep (Wk.keep Wk.nil))))))))))))) rfl
    intro s23
    refine bd_setNP (EvN.cast (evn_listof (evm_var rfl)) (by first | with_reducible rfl | (simp -implicitDefEqProofs only [R.bind_assoc, R.bind_ok, R.bind_right, R.of_some, compR_map, compR_filter, compR_id, compR_idF, R.ifm_ok, Bool.and_true, Bool.or_false, R.ite_and, R.ite_or]; done) | (simp -implicitDefEqProofs only [R.bind_assoc, R.bind_ok, R.bind_right, R.of_some, compR_map, compR_filter, compR_id, compR_idF, R.ifm_ok, Bool.and_true, Bool.or_false, R.ite_ok, R.ite_and, R.ite_or]; done) | rfl)) trivial (lt_of rfl) ?_
    intro v_a_29
    refine bd_setNP (EvN.cast (evn_listof (evm_var rfl)) (by first | with_reducible rfl | (simp -implicitDefEqProofs only [R.bind_assoc, R.bind_ok, R.bind_right, R.of_some, compR_map, compR_filter, compR_id, compR_idF, R.ifm_ok, Bool.and_true, Bool.or_false, R.ite_and, R.ite_or]; done) | (simp -implicitDefEqProofs only [R.bind_assoc, R.bind_ok, R.bind_right, R.of_some, compR_map, compR_filter, compR_id, compR_idF, R.ifm_ok, Bool.and_true, Bool.or_false, R.ite_ok, R.ite_and, R.ite_or]; done) | rfl)) trivial (lt_of rfl) ?_
    intro v_b_30
    refine bd_if (EvT.cast (evt_or (evt_not (evt_B (evm_callF rfl (eva_cons (evm_own rfl) (eva_cons (evm_own rfl) eva_nil))))) (evt_not (evt_B (evm_callF rfl (eva_cons (evm_raw (evm_var rfl)) (eva_cons (evm_raw (evm_var rfl)) (eva_cons (evm_flat (l2 := .raw) (evm_var rfl)) (eva_cons (evm_flat (l2 := .raw) (evm_var rfl)) eva_nil)))))))) (by first | with_reducible rfl | (simp -implicitDefEqProofs only [R.bind_assoc, R.bind_ok, R.bind_right, R.of_some, compR_map, compR_filter, compR_id, compR_idF, R.ifm_ok, Bool.and_true, Bool.or_false, R.ite_and, R.ite_or]; done) | (simp -implicitDefEqProofs only [R.bind_assoc, R.bind_ok, R.bind_right, R.of_some, compR_map, compR_filter, compR_id, compR_idF, R.ifm_ok, Bool.and_true, Bool.or_false, R.ite_ok, R.ite_and, R.ite_or]; done) | rfl)) ?_ ?_
    · refine bd_assoc ?_
      exact bd_ret1 rfl (Evm.cast evm_bl (by first | with_reducible rfl | (simp -implicitDefEqProofs only [R.bind_assoc, R.bind_ok, R.bind_right, R.of_some, compR_map, compR_filter, compR_id, compR_idF, R.ifm_ok, Bool.and_true, Bool.or_false, R.ite_and, R.ite_or]; done) | (simp -implicitDefEqProofs only [R.bind_assoc, R.bind_ok, R.bind_right, R.of_some, compR_map, compR_filter, compR_id, compR_idF, R.ifm_ok, Bool.and_true, Bool.or_false, R.ite_ok, R.ite_and, R.ite_or]; done) | rfl)) (fun _ => rfl)
    · refine bd_nil ?_
      refine bd_fold (l1 := .fr) (es := (fun s35 : (List Int) => [.sh .pa (enc (v_script : Scr)), .ow .fr ((v_shape_2 : (List Int)).map enc), .sh .fr (enc (s10 : Int)), .sh .fr (enc (v_hands_13 : (Tp ((List Int) × (List Int) × Unit)))), .sh .fr (enc (v_mine_14 : (List Int))), .sh .fr (enc (v_theirs_15 : (List Int))), .sh .fr (enc (v_lowest_16 : Int)), .sh .fr (enc (v_highest_17 : Int)), .un, .ow .fr ((s35 : (List Int)).map enc), .ow .fr ((v_b_30 : (List Int)).map enc), .un, .un])) (EvI.cast (evi_rng1 (evm_var rfl)) (by first | with_reducible rfl | (simp -implicitDefEqProofs only [R.bind_assoc, R.bind_ok, R.bind_right, R.of_some, compR_map, compR_filter, compR_id, compR_idF, R.ifm_ok, Bool.and_true, Bool.or_false, R.ite_and, R.ite_or]; done) | (simp -implicitDefEqProofs only [R.bind_assoc, R.bind_ok, R.bind_right, R.of_some, compR_map, compR_filter, compR_id, compR_idF, R.ifm_ok, Bool.and_true, Bool.or_false, R.ite_ok, R.ite_and, R.ite_or]; done) | rfl)) trivial (Wk.keep (Wk.keep (Wk.keep (Wk.keep (Wk.keep (Wk.keep (Wk.keep (Wk.keep (Wk.keep (Wk.keep (Wk.keep (Wk.keep (Wk.keep Wk.nil))))))))))))) (tg_name trivial) (hu1 fun _ => rfl) ?_ ?_
      · intro x34 s35
        unfold m_law_b2
        refine bd_seti (by rfl) (Evm.cast (evm_opT evm_int (evm_ixo rfl (evm_var rfl)) fun _ _ => rv_II) (by first | with_reducible rfl | (simp -implicitDefEqProofs only [R.bind_assoc, R.bind_ok, R.bind_right, R.of_some, compR_map, compR_filter, compR_id, compR_idF, R.ifm_ok, Bool.and_true, Bool.or_false, R.ite_and, R.ite_or]; done) | (simp -implicitDefEqProofs only [R.bind_assoc, R.bind_ok, R.bind_right, R.of_some, compR_map, compR_filter, compR_id, compR_idF, R.ifm_ok, Bool.and_true, Bool.or_false, R.ite_ok, R.ite_and, R.ite_or]; done) | rfl)) (Evm.cast (evm_var rfl) (by first | with_reducible rfl | (simp -implicitDefEqProofs only [R.bind_assoc, R.bind_ok, R.bind_right, R.of_some, compR_map, compR_filter, compR_id, compR_idF, R.ifm_ok, Bool.and_true, Bool.or_false, R.ite_and, R.ite_or]; done) | (simp -implicitDefEqProofs only [R.bind_assoc, R.bind_ok, R.bind_right, R.of_some, compR_map, compR_filter, compR_id, compR_idF, R.ifm_ok, Bool.and_true, Bool.or_false, R.ite_ok, R.ite_and, R.ite_or]; done) | rfl)) ?_
        intro v_a_37
        exact bd_end (Wk.keep (Wk.keep (Wk.keep (Wk.keep (Wk.keep (Wk.keep (Wk.keep (Wk.keep (Wk.lose (Wk.keep (Wk.keep (Wk.keep (Wk.keep Wk.nil))))))))))))) rfl
      intro s35
      refine bd_if (EvT.cast (evt_or (evt_not (evt_B (evm_callF rfl (eva_cons (evm_own rfl) (eva_cons (evm_own rfl) eva_nil))))) (evt_not (evt_B (evm_callF rfl (eva_cons (evm_own rfl) (eva_cons (evm_own rfl) eva_nil)))))) (by first | with_reducible rfl | (simp -implicitDefEqProofs only [R.bind_assoc, R.bind_ok, R.bind_right, R.of_some, compR_map, compR_filter, compR_id, compR_idF, R.ifm_ok, Bool.and_true, Bool.or_false, R.ite_and, R.ite_or]; done) | (simp -implicitDefEqProofs only [R.bind_assoc, R.bind_ok, R.bind_right, R.of_some, compR_map, compR_filter, compR_id, compR_idF, R.ifm_ok, Bool.and_true, Bool.or_false, R.ite_ok, R.ite_and, R.ite_or]; done) | rfl)) ?_ ?_
      · refine bd_assoc ?_
        exact bd_ret1 rfl (Evm.cast evm_bl (by first | with_reducible rfl | (simp -implicitDefEqProofs only [R.bind_assoc, R.bind_ok, R.bind_right, R.of_some, compR_map, compR_filter, compR_id, compR_idF, R.ifm_ok, Bool.and_true, Bool.or_false, R.ite_and, R.ite_or]; done) | (simp -implicitDefEqProofs only [R.bind_assoc, R.bind_ok, R.bind_right, R.of_some, compR_map, compR_filter, compR_id, compR_idF, R.ifm_ok, Bool.and_true, Bool.or_false, R.ite_ok, R.ite_and, R.ite_or]; done) | rfl)) (fun _ => rfl)
      · refine bd_nil ?_
        refine bd_if (EvT.cast (evt_not (evt_B (evm_callF rfl (eva_cons (evm_raw (evm_callQF (eva_cons (evm_raw (evn_ev (evn_listof (evm_var rfl)))) (eva_cons (evm_raw (evn_ev (evn_listof (evm_var rfl)))) eva_nil)))) (eva_cons (evm_flat (l2 := .raw) (evm_var rfl)) (eva_cons (evm_flat (l2 := .raw) (evm_var rfl)) (eva_cons (evm_raw (evn_ev (evn_slo rfl (evo_some evm_int) (evo_some evm_int)))) eva_nil))))))) (by first | with_reducible rfl | (simp -implicitDefEqProofs only [R.bind_assoc, R.bind_ok, R.bind_right, R.of_some, compR_map, compR_filter, compR_id, compR_idF, R.ifm_ok, Bool.and_true, Bool.or_false, R.ite_and, R.ite_or]; done) | (simp -implicitDefEqProofs only [R.bind_assoc, R.bind_ok, R.bind_right, R.of_some, compR_map, compR_filter, compR_id, compR_idF, R.ifm_ok, Bool.and_true, Bool.or_false, R.ite_ok, R.ite_and, R.ite_or]; done) | rfl)) ?_ ?_
        · refine bd_assoc ?_
          exact bd_ret1 rfl (Evm.cast evm_bl (by first | with_reducible rfl | (simp -implicitDefEqProofs only [R.bind_assoc, R.bind_ok, R.bind_right, R.of_some, compR_map, compR_filter, compR_id, compR_idF, R.ifm_ok, Bool.and_true, Bool.or_false, R.ite_and, R.ite_or]; done) | (simp -implicitDefEqProofs only [R.bind_assoc, R.bind_ok, R.bind_right, R.of_some, compR_map, compR_filter, compR_id, compR_idF, R.ifm_ok, Bool.and_true, Bool.or_false, R.ite_ok, R.ite_and, R.ite_or]; done) | rfl)) (fun _ => rfl)
        · refine bd_nil ?_
          refine bd_join (es := (fun s50 : (List Int) × (List Int) => [.sh .pa (enc (v_script : Scr)), .ow .fr ((v_shape_2 : (List Int)).map enc), .sh .fr (enc (s10 : Int)), .sh .fr (enc (v_hands_13 : (Tp ((List Int) × (List Int) × Unit)))), .sh .fr (enc (s50.1 : (List Int))), .sh .fr (enc (s50.2 : (List Int))), .sh .fr (enc (v_lowest_16 : Int)), .sh .fr (enc (v_highest_17 : Int)), .un, .ow .fr ((s35 : (List Int)).map enc), .ow .fr ((v_b_30 : (List Int)).map enc), .un, .un])) (bd_tail ?_) ?_
          · refine bd_if (EvT.cast (evt_test (evm_opT (evm_var rfl) evm_int fun _ _ => rv_eqI)) (by first | with_reducible rfl | (simp -implicitDefEqProofs only [R.bind_assoc, R.bind_ok, R.bind_right, R.of_some, compR_map, compR_filter, compR_id, compR_idF, R.ifm_ok, Bool.and_true, Bool.or_false, R.ite_and, R.ite_or]; done) | (simp -implicitDefEqProofs only [R.bind_assoc, R.bind_ok, R.bind_right, R.of_some, compR_map, compR_filter, compR_id, compR_idF, R.ifm_ok, Bool.and_true, Bool.or_false, R.ite_ok, R.ite_and, R.ite_or]; done) | rfl)) ?_ ?_
            · refine bd_assoc ?_
              refine bd_setN (EvN.cast (evn_lst (l := .fr) (f := fun b : Int × Unit => ([b.1] : (List Int))) (eva_cons (evm_ixo rfl evm_int) eva_nil) (fun _ => rfl) (fun _ => by show (1 : Nat) ≤ 1000; decide)) (by first | with_reducible rfl | (simp -implicitDefEqProofs only [R.bind_assoc, R.bind_ok, R.bind_right, R.of_some, compR_map, compR_filter, compR_id, compR_idF, R.ifm_ok, Bool.and_true, Bool.or_false, R.ite_and, R.ite_or]; done) | (simp -implicitDefEqProofs only [R.bind_assoc, R.bind_ok, R.bind_right, R.of_some, compR_map, compR_filter, compR_id, compR_idF, R.ifm_ok, Bool.and_true, Bool.or_false, R.ite_ok, R.ite_and, R.ite_or]; done) | rfl)) trivial (lt_of rfl) ?_
              intro v_mine_52
              refine bd_assoc ?_
              refine bd_setN (EvN.cast (evn_lst (l := .fr) (f := fun b : Int × Int × Unit => ([b.1, b.2.1] : (List Int))) (eva_cons (evm_ixo rfl evm_int) (eva_cons (evm_ixo rfl evm_int) eva_nil)) (fun _ => rfl) (fun _ => by show (2 : Nat) ≤ 1000; decide)) (by first | with_reducible rfl | (simp -implicitDefEqProofs only [R.bind_assoc, R.bind_ok, R.bind_right, R.of_some, compR_map, compR_filter, compR_id, compR_idF, R.ifm_ok, Bool.and_true, Bool.or_false, R.ite_and, R.ite_or]; done) | (simp -implicitDefEqProofs only [R.bind_assoc, R.bind_ok, R.bind_right, R.of_some, compR_map, compR_filter, compR_id, compR_idF, R.ifm_ok, Bool.and_true, Bool.or_false, R.ite_ok, R.ite_and, R.ite_or]; done) | rfl)) trivial (lt_of rfl) ?_
              intro v_theirs_55
              refine bd_nil ?_
              exact bd_end (Wk.keep (Wk.keep (Wk.keep (Wk.keep (Wk.share (Wk.share (Wk.keep (Wk.keep (Wk.keep (Wk.keep (Wk.keep (Wk.keep (Wk.keep Wk.nil))))))))))))) rfl
            · refine bd_nil ?_
              exact bd_end (Wk.keep (Wk.keep (Wk.keep (Wk.keep (Wk.keep (Wk.keep (Wk.keep (Wk.keep (Wk.keep (Wk.keep (Wk.keep (Wk.keep (Wk.keep Wk.nil))))))))))))) rfl
          intro s50
          refine bd_set (Evm.cast (evm_op (evm_cbT (eva_cons (evm_flat (l2 := .raw) (evm_ixo rfl evm_int)) eva_nil) fun _ => ra_int) (evm_cbT (eva_cons (evm_raw (evm_var rfl)) eva_nil) fun _ => ra_len) fun _ _ _ _ => rv_mod) (by first | with_reducible rfl | (simp -implicitDefEqProofs only [R.bind_assoc, R.bind_ok, R.bind_right, R.of_some, compR_map, compR_filter, compR_id, compR_idF, R.ifm_ok, Bool.and_true, Bool.or_false, R.ite_and, R.ite_or]; done) | (simp -implicitDefEqProofs only [R.bind_assoc, R.bind_ok, R.bind_right, R.of_some, compR_map, compR_filter, compR_id, compR_idF, R.ifm_ok, Bool.and_true, Bool.or_false, R.ite_ok, R.ite_and, R.ite_or]; done) | rfl)) trivial (lt_of rfl) ?_
          intro v_cut_59
          refine bd_for (l1 := .fr) (es := (fun s61 : Unit => [.sh .pa (enc (v_script : Scr)), .ow .fr ((v_shape_2 : (List Int)).map enc), .sh .fr (enc (s10 : Int)), .sh .fr (enc (v_hands_13 : (Tp ((List Int) × (List Int) × Unit)))), .sh .fr (enc (s50.1 : (List Int))), .sh .fr (enc (s50.2 : (List Int))), .sh .fr (enc (v_lowest_16 : Int)), .sh .fr (enc (v_highest_17 : Int)), .un, .ow .fr ((s35 : (List Int)).map enc), .ow .fr ((v_b_30 : (List Int)).map enc), .sh .fr (enc (v_cut_59 : Int)), .un])) (er := fun a => enc a) (EvI.cast (evi_rng1 evm_int) (by first | with_reducible rfl | (simp -implicitDefEqProofs only [R.bind_assoc, R.bind_ok, R.bind_right, R.of_some, compR_map, compR_filter, compR_id, compR_idF, R.ifm_ok, Bool.and_true, Bool.or_false, R.ite_and, R.ite_or]; done) | (simp -implicitDefEqProofs only [R.bind_assoc, R.bind_ok, R.bind_right, R.of_some, compR_map, compR_filter, compR_id, compR_idF, R.ifm_ok, Bool.and_true, Bool.or_false, R.ite_ok, R.ite_and, R.ite_or]; done) | rfl)) trivial (Wk.keep (Wk.keep (Wk.keep (Wk.keep (Wk.keep (Wk.keep (Wk.keep (Wk.keep (Wk.keep (Wk.keep (Wk.keep (Wk.keep (Wk.keep Wk.nil))))))))))))) (tg_name trivial) (hu1 fun _ => rfl) ?_ ?_ (fun a => ⟨_, rfl, rfl⟩)
          · intro x60 s61
            unfold m_law_b3
            refine bd_if (EvT.cast (evt_or (evt_not (evt_B (evm_callF rfl (eva_cons (evm_flat (l2 := .raw) (evm_var rfl)) (eva_cons (evm_raw (evm_var rfl)) (eva_cons (evm_raw (evn_ev (evn_sl (evm_var rfl) evo_none (evo_some (evm_var rfl))))) eva_nil)))))) (evt_not (evt_B (evm_callF rfl (eva_cons (evm_flat (l2 := .raw) (evm_var rfl)) (eva_cons (evm_raw (evn_ev (evn_sl (evm_var rfl) evo_none (evo_some (evm_var rfl))))) (eva_cons (evm_raw (evm_var rfl)) eva_nil))))))) (by first | with_reducible rfl | (simp -implicitDefEqProofs only [R.bind_assoc, R.bind_ok, R.bind_right, R.of_some, compR_map, compR_filter, compR_id, compR_idF, R.ifm_ok, Bool.and_true, Bool.or_false, R.ite_and, R.ite_or]; done) | (simp -implicitDefEqProofs only [R.bind_assoc, R.bind_ok, R.bind_right, R.of_some, compR_map, compR_filter, compR_id, compR_idF, R.ifm_ok, Bool.and_true, Bool.or_false, R.ite_ok, R.ite_and, R.ite_or]; done) | rfl)) ?_ ?_
            · refine bd_assoc ?_
              exact bd_ret (k := fun a65 => (Stp.rt a65)) rfl (Evm.cast evm_bl (by first | with_reducible rfl | (simp -implicitDefEqProofs only [R.bind_assoc, R.bind_ok, R.bind_right, R.of_some, compR_map, compR_filter, compR_id, compR_idF, R.ifm_ok, Bool.and_true, Bool.or_false, R.ite_and, R.ite_or]; done) | (simp -implicitDefEqProofs only [R.bind_assoc, R.bind_ok, R.bind_right, R.of_some, compR_map, compR_filter, compR_id, compR_idF, R.ifm_ok, Bool.and_true, Bool.or_false, R.ite_ok, R.ite_and, R.ite_or]; done) | rfl)) (fun _ => rfl)
            · refine bd_nil ?_
              exact bd_end (Wk.keep (Wk.keep (Wk.keep (Wk.keep (Wk.keep (Wk.keep (Wk.keep (Wk.keep (Wk.keep (Wk.keep (Wk.keep (Wk.keep (Wk.lose Wk.nil))))))))))))) rfl
          intro s61
          exact bd_ret1 rfl (Evm.cast evm_bl (by first | with_reducible rfl | (simp -implicitDefEqProofs only [R.bind_assoc, R.bind_ok, R.bind_right, R.of_some, compR_map, compR_filter, compR_id, compR_idF, R.ifm_ok, Bool.and_true, Bool.or_false, R.ite_and, R.ite_or]; done) | (simp -implicitDefEqProofs only [R.bind_assoc, R.bind_ok, R.bind_right, R.of_some, compR_map, compR_filter, compR_id, compR_idF, R.ifm_ok, Bool.and_true, Bool.or_false, R.ite_ok, R.ite_and, R.ite_or]; done) | rfl)) (fun _ => rfl)
end
end K16

set_option Elab.async false
set_option linter.all false
set_option maxRecDepth 100000
set_option maxHeartbeats 4000000
namespace K16
open PySem PySem.Spec L2 Pv Rot
open Cm (IsLo IsHi IsP rotP res Sm fact unr)
open Enc (enc)
open Encs (encs)
theorem e_cell : m__law_cell = Cm.m__law_cell := rfl
theorem e_draws : m__law_draws = Cm.m__law_draws := rfl
theorem e_game : m__law_game = Cm.m__law_game := rfl
theorem e_result : m__law_result = Cm.m__law_result := rfl
theorem e_least : m__law_least = Cm.m__law_least := rfl
theorem e_most : m__law_most = Cm.m__law_most := rfl
theorem e_peak : m_peak = Cm.m_peak := rfl
theorem e_valley : m_valley = Cm.m_valley := rfl
theorem e_heights : m_heights = Cm.m_heights := rfl
theorem e_order : m_side_order = Cm.m_side_order := rfl
theorem e_rot : m_rotation_b1 = Cm.m_rotation_b1 := rfl
theorem e_unrank : m__law_unrank = Cm.m__law_unrank := rfl
theorem e_fact : m__law_factorial = Cm.m__law_factorial := rfl
theorem e_pairing : m__law_pairing = Cm.m__law_pairing := rfl
theorem int_yes (x : Int) : m__law_is_int (enc x : PV) = .ok true := rfl
theorem ints_yes (xs : List Int) : m__law_is_ints xs = .ok true := by
  unfold m__law_is_ints
  show (R.bind (R.bind (R.ok xs) fun l2 => compR (fun x1 : Int => (R.ok true)) (fun x1 : Int => (m__law_is_int (enc x1 : PV))) l2) fun t3 => (R.ok (t3.all id))) = _
  rw [R.bind_ok, show compR (fun x1 : Int => (R.ok true)) (fun x1 : Int => (m__law_is_int (enc x1 : PV))) xs = .ok ((xs.filter fun _ => true).map fun _ => true) from compR_ok (fun _ _ => rfl) (fun _ _ => rfl), filter_yes]
  show R.ok _ = R.ok true
  congr 1
  rw [List.all_map]
  exact List.all_eq_true.mpr fun _ _ => rfl
section
variable {a b : List Int}
theorem hands_eq (h : a.length = b.length) : m_check_hands a b = .ok () := by
  unfold m_check_hands
  rw [decide_eq_true (show (a.length : Int) = (b.length : Int) by omega)]
  rfl
theorem hands_ne (h : a.length ≠ b.length) (ha : a.length ≤ 100) (hb : b.length ≤ 100) : m_check_hands a b = .ex ⟨1, [enc (b.length : Int), enc (a.length : Int)]⟩ := by
  unfold m_check_hands
  rw [decide_eq_false (show ¬ (a.length : Int) = (b.length : Int) by omega)]
  exact Cm.raise_two ⟨by omega, by omega⟩ ⟨by omega, by omega⟩
theorem rotation_is (h : a.length = b.length) (hl : a.length ≤ 100) {r : Int} (h0 : 0 ≤ r) (hr : r ≤ a.length) : m_rotation a b r = .ok (rotP a b r.toNat) := by
  unfold m_rotation m_check_place
  rw [hands_eq h, R.bind_ok, decide_eq_true h0, decide_eq_true hr, e_order, Cm.order_mine (by omega) (by omega), Cm.order_theirs (by omega) (by omega), Cm.rep0 _ (by omega)]
  show (R.bind (R.bind (R.of (catL (cutL ((Cm.Ts a b).map Cm.idx) (some r) none) (cutL ((Cm.Ts a b).map Cm.idx) none (some r)))) fun t5 => (R.ok (zipF ((Cm.Ms a b).map Cm.idx) t5))) fun l11 => R.bind (foldR m_rotation_b1 l11 (List.replicate a.length 0)) fun s7 => (R.ok s7)) = _
  rw [Cm.cut_rot h0 (by rw [List.length_map, Cm.Ts_len]; omega)]
  show (R.bind (foldR m_rotation_b1 (zipF ((Cm.Ms a b).map Cm.idx) (Cm.rot ((Cm.Ts a b).map Cm.idx) r.toNat)) (List.replicate a.length 0)) fun s7 => (R.ok s7)) = _
  rw [e_rot, Cm.zip_fold Cm.Ms_isP (by rw [Cm.rot_len, List.length_map, Cm.Ts_len, h])]
  rfl
theorem rotation_hands (h : a.length ≠ b.length) (ha : a.length ≤ 100) (hb : b.length ≤ 100) (r : Int) : m_rotation a b r = .ex ⟨1, [enc (b.length : Int), enc (a.length : Int)]⟩ := by
  unfold m_rotation
  rw [hands_ne h ha hb]
  rfl
theorem rotation_place (h : a.length = b.length) {r : Int} (hr : ¬ (0 ≤ r ∧ r ≤ a.length)) (hs : Sm r) : m_rotation a b r = .ex ⟨5, [enc r]⟩ := by
  unfold m_rotation m_check_place
  rw [hands_eq h, R.bind_ok]
  have e : (decide (0 ≤ r) && decide (r ≤ (a.length : Int))) = false := by
    rw [Bool.eq_false_iff]
    intro z
    rw [Bool.and_eq_true, decide_eq_true_iff, decide_eq_true_iff] at z
    exact hr z
  rw [e]
  show (R.bind (R.raise 5 [enc r]) _ : R (List Int)) = _
  rw [Cm.raise_one hs]
  rfl
theorem span_is (h : a.length = b.length) (hl : a.length ≤ 100) {L M : Int} (hL : IsLo a b L) (hM : IsHi a b M) : m_span_of a b = .ok ⟨L, M⟩ := by
  unfold m_span_of m_least m_most
  rw [e_peak, e_valley, Cm.m_peak_is h hl hL, Cm.m_valley_is h hl hM]
  show R.ok (O_Span.mk L ((a.length : Int) + (M - a.length))) = _
  congr 2
  omega
theorem with_in (h : a.length = b.length) (hl : a.length ≤ 100) {L M r : Int} (hL : IsLo a b L) (hM : IsHi a b M) (h0 : L ≤ r) (hr : r ≤ M) : m_pairing_with a b r = .ok (rotP a b r.toNat) := by
  unfold m_pairing_with m_Span__contains__
  rw [span_is h hl hL hM, R.bind_ok]
  show (R.ifm (R.bind ((R.ok (decide (L ≤ r) && decide (r ≤ M))).nox) fun t2 => R.ok (!t2)) _ _) = _
  rw [decide_eq_true h0, decide_eq_true hr]
  have := hL.z
  have := hM.n
  exact rotation_is h hl (by omega) (by omega)
theorem with_out (h : a.length = b.length) (hl : a.length ≤ 100) {L M r : Int} (hL : IsLo a b L) (hM : IsHi a b M) (hr : ¬ (L ≤ r ∧ r ≤ M)) (hs : Sm r) : m_pairing_with a b r = .ex ⟨7, [enc M, enc L, enc r]⟩ := by
  unfold m_pairing_with m_Span__contains__
  rw [span_is h hl hL hM, R.bind_ok]
  show (R.ifm (R.bind ((R.ok (decide (L ≤ r) && decide (r ≤ M))).nox) fun t2 => R.ok (!t2)) _ _) = _
  have e : (decide (L ≤ r) && decide (r ≤ M)) = false := by
    rw [Bool.eq_false_iff]
    intro z
    rw [Bool.and_eq_true, decide_eq_true_iff, decide_eq_true_iff] at z
    exact hr z
  rw [e]
  have n1 := hM.n
  have n2 := hM.z
  have n3 := hL.z
  have n4 : L ≤ (a.length : Int) := by
    have := (hL.i a.length).mpr fun i hi => by have := bv_le (mv := Cm.mv a b) (tv := Cm.tv a b) (i := i); rw [Cm.tv_len] at this; exact Nat.le_trans this (by omega)
    exact this
  have sL : Sm L := ⟨by omega, by omega⟩
  have sM : Sm M := ⟨by omega, by omega⟩
  exact Cm.raise_three hs sL sM
theorem with_hands (h : a.length ≠ b.length) (ha : a.length ≤ 100) (hb : b.length ≤ 100) (r : Int) : m_pairing_with a b r = .ex ⟨1, [enc (b.length : Int), enc (a.length : Int)]⟩ := by
  unfold m_pairing_with m_span_of m_least
  rw [e_peak]
  unfold Cm.m_peak
  rw [Cm.heights_ex h ha hb]
  rfl

theorem fits_ok (L M : Int) : m__law_fits ⟨L, M⟩ L M = .ok true := by
  unfold m__law_fits
  refine Ok.get (Ok.ifm ?_)
  show Ok (R.bind (R.bind (m__law_is_int (enc L : PV)) fun t2 => R.ok (!t2)) fun t5 => (R.ite t5 (R.ok true) (R.bind (m__law_is_int (enc M : PV)) fun t4 => R.ok (!t4)))) _
  rw [int_yes, int_yes]
  refine Ok.ok (Ok.ite (fun z => by cases z) fun _ => ?_)
  rw [decide_eq_true rfl, decide_eq_true rfl]
  refine Ok.ifm (Ok.ok (Ok.ite (fun z => by cases z) fun _ => ?_))
  refine Ok.bind (Ok.bind (Ok.div (by decide) (by decide +kernel) (Ok.ok (Ok.bind ?_))))
  rw [loopR_all (p := fun _ => true) (bad := false) _ fun x _ => ?_]
  · rw [if_pos (by rw [List.all_eq_true]; exact fun _ _ => rfl)]
    refine Ok.ok ?_
    dsimp only [Stp.fin]
    unfold m_Span_width
    refine Ok.bind (Ok.bind (Ok.bind (Ok.ok (Ok.ok ?_))))
    rw [int_yes]
    refine Ok.ok (Ok.ite (fun _ => Ok.bind (Ok.ok (Ok.ok (decide_eq_true rfl)))) fun z => by cases z)
  · unfold m__law_fits_b1 m_Span__contains__
    show (R.ifm (R.ok (!decide ((decide (L ≤ x) && decide (x ≤ M)) = (decide (L ≤ x) && decide (x ≤ M))))) _ _) = _
    rw [decide_eq_true rfl]
    rfl
theorem sums_ok (L M : Int) {picks : List Int} {a b : Int} (ha : atI picks (0 : Int) = some a) (hb : atI picks (1 : Int) = some b) : m__law_sums ⟨L, M⟩ L M picks = .ok true := by
  unfold m__law_sums
  rw [ha, hb]
  refine Ok.get (Ok.bind (Ok.bind (Ok.ok (Ok.ok (Ok.bind (Ok.bind (Ok.ok (Ok.ok (Ok.lt ?_)))))))))
  have ad : ∀ p q : O_Span, (m_Span__add__ p q).nox = .ok ⟨p.least + q.least, p.most + q.most⟩ := fun _ _ => rfl
  rw [fits_ok, ad, ad, ad, Cm.mul2, Cm.mul2]
  refine Ok.ifm (Ok.bind (Ok.bind (Ok.ok (Ok.ok (Ok.ite (fun z => by cases z) fun _ => ?_)))))
  refine Ok.bind (Ok.bind (Ok.ok ?_))
  rw [fits_ok]
  refine Ok.ok (Ok.ok (Ok.ite (fun z => by cases z) fun _ => ?_))
  refine Ok.ifm (Ok.bind (Ok.bind (Ok.ok ?_)))
  rw [show L + (a - 50) = (a - 50) + L by omega, show M + (a - 50 + b) = (a - 50 + b) + M by omega, fits_ok]
  refine Ok.ok (Ok.ok (Ok.ite (fun z => by cases z) fun _ => ?_))
  refine Ok.ifm (Ok.bind (Ok.bind (Ok.ok (Ok.bind (Ok.ok (Ok.bind (Ok.ok ?_)))))))
  rw [show (O_Span.mk (L + L) (M + M)) = ⟨2 * L, 2 * M⟩ by rw [show L + L = 2 * L by omega, show M + M = 2 * M by omega], fits_ok]
  refine Ok.ok (Ok.ok (Ok.ite (fun z => by cases z) fun _ => ?_))
  exact Ok.bind (Ok.ok (Ok.ite (fun _ => ⟨_, fits_ok _ _, rfl⟩) fun z => by cases z))
theorem call_is {way : Int} (hw : way = 0 ∨ way = 1) (h : a.length = b.length) (hl : a.length ≤ 100) {L M : Int} (hL : IsLo a b L) (hM : IsHi a b M) : ∃ v : Int, m__law_call way a b = .ok (enc v : PV) ∧ atI ([L, M] : List Int) way = some v := by
  unfold m__law_call m_least m_most
  rw [e_peak, e_valley, Cm.m_peak_is h hl hL, Cm.m_valley_is h hl hM]
  rcases hw with rfl | rfl
  · exact ⟨L, rfl, rfl⟩
  · refine ⟨M, ?_, rfl⟩
    show R.ok (enc ((a.length : Int) + (M - a.length)) : PV) = _
    congr 2
    omega
theorem int_eq (x : Int) : eqQ (enc (enc x : PV)) (enc x) = some true := (eqQ_enc x x).trans (congrArg some (eqP_self _))
theorem asked_ok (h : a.length = b.length) (hl : a.length ≤ 100) : m__law_asked a b = .ok true := by
  obtain ⟨L, eL, hL⟩ := Cm.law_least_is h
  obtain ⟨M, eM, hM⟩ := Cm.law_most_is h
  unfold m__law_asked
  dsimp only [R.lt]
  rw [e_least, e_most, eL, eM, span_is h hl hL hM]
  refine Ok.get (Ok.bind (Ok.ok (Ok.bind (Ok.ok (Ok.bind (Ok.range (by decide) (Ok.bind ?_)))))))
  rw [loopR_all (p := fun _ => true) (bad := false) _ fun x hx => ?_]
  · rw [if_pos (by rw [List.all_eq_true]; exact fun _ _ => rfl)]
    refine Ok.ok ?_
    dsimp only [Stp.fin]
    refine Ok.bind (Ok.bind (Ok.ok ?_))
    rw [fits_ok, eqP_self, eqP_self]
    exact Ok.ok (Ok.ite (fun _ => Ok.ok rfl) fun z => by cases z)
  · have hx : x = 0 ∨ x = 1 := by
      unfold Pv.rng at hx
      obtain ⟨j, hj, rfl⟩ := List.mem_map.mp hx
      have := List.mem_range.mp hj
      omega
    obtain ⟨v, e1, e2⟩ := call_is hx h hl hL hM
    unfold m__law_asked_b1
    rw [e1, e2]
    show (R.ifm (R.bind (R.bind (m__law_is_int (enc v : PV)) fun t8 => R.ok (!t8)) fun t10 => (R.ite t10 (R.ok true) (R.bind (R.ok v) fun t9 => (R.of ((eqQ (enc (enc v : PV)) (enc t9)).map (!·)))))) _ _) = _
    rw [int_yes, R.bind_ok, R.bind_ok, R.bind_ok, int_eq]
    rfl
theorem unlike_ok {way : Int} (hw : way = 0 ∨ way = 1 ∨ way = 2) (h : a.length ≠ b.length) (ha : a.length ≤ 100) (hb : b.length ≤ 100) : m__law_unlike way a b = .ok true := by
  have k0 := Cm.heights_ex h ha hb
  have kl : m_least a b = .ex ⟨1, [enc (b.length : Int), enc (a.length : Int)]⟩ := by unfold m_least; rw [e_peak]; unfold Cm.m_peak; rw [k0]; rfl
  have km : m_most a b = .ex ⟨1, [enc (b.length : Int), enc (a.length : Int)]⟩ := by unfold m_most; rw [e_valley]; unfold Cm.m_valley; rw [k0]; rfl
  have ks : m_span_of a b = .ex ⟨1, [enc (b.length : Int), enc (a.length : Int)]⟩ := by unfold m_span_of; rw [kl]; rfl
  have kc : m__law_call way a b = .ex ⟨1, [enc (b.length : Int), enc (a.length : Int)]⟩ := by
    unfold m__law_call
    rw [kl, km, ks]
    rcases hw with rfl | rfl | rfl <;> rfl
  unfold m__law_unlike
  dsimp only [R.lt]
  rw [kc]
  show (R.bind (R.ifm (R.ok ((!eqP (enc a) (enc a)) || (!eqP (enc b) (enc b)))) (R.bind (R.ok false) fun a27 => R.ok (Lr.rt a27)) (R.bind (R.ok ((decide ((a.length : Int) = (a.length : Int))) && (decide ((b.length : Int) = (b.length : Int))))) fun a28 => R.ok (Lr.rt a28))) (Lr.fin (fun _ : Unit => (R.ok false)) (fun a29 => R.ok a29)) : R Bool) = _
  rw [eqP_self, eqP_self, decide_eq_true rfl, decide_eq_true rfl]
  rfl
theorem ends_ok (h : a.length = b.length) (hl : a.length ≤ 100) {L M : Int} (hL : IsLo a b L) (hM : IsHi a b M) : m__law_ends a b L M = .ok true := by
  have lm := Cm.lo_le_hi h hL hM
  unfold m__law_ends
  refine Ok.get (Ok.bind (Ok.ok (Ok.bind ?_)))
  rw [loopR_all (p := fun _ => true) (bad := false) _ fun x hx => ?_]
  · rw [if_pos (by rw [List.all_eq_true]; exact fun _ _ => rfl)]
    exact Ok.ok (Ok.ok rfl)
  · have hx : L ≤ x ∧ x ≤ M := by
      have : x = L ∨ x = M := by simpa using hx
      omega
    have hr : x.toNat ≤ a.length := by have := hM.n; omega
    have h0 := hL.z
    unfold m__law_ends_b1
    rw [with_in h hl hL hM hx.1 hx.2]
    refine Ok.get (Ok.bind (Ok.ok ?_))
    unfold m__law_is_pairing
    have hp := Cm.rotP_isP h hr
    rw [ints_yes, e_result, Cm.res_ok h (by omega) hp, Cm.sort_isP hp]
    refine Ok.ifm (Ok.bind (Ok.bind (Ok.bind (Ok.ok (Ok.ite (fun _ => ?_) fun z => by cases z)))))
    refine Ok.bind (Ok.bind (Ok.range ⟨by omega, by omega, by omega, by omega, by omega⟩ (Ok.ok ?_)))
    rw [Cm.rngN, eqP_self]
    refine Ok.ok (Ok.ok (Ok.ite (fun z => by cases z) fun _ => ?_))
    have e := (Cm.rot_iff h hr hL hM).mpr (by omega)
    rw [e]
    refine Ok.bind (Ok.ok (Ok.ok ?_))
    rw [decide_eq_true (show ((x.toNat : Nat) : Int) = x by omega)]
    exact Ok.ite (fun z => by cases z) fun _ => Ok.ok rfl
theorem in_is (xs : List Int) (x : Int) : ((xs.map enc).any fun z => eqP z (enc x)) = decide (x ∈ xs) := by
  rw [Bool.eq_iff_iff, decide_eq_true_iff, List.any_eq_true]
  constructor
  · rintro ⟨z, hz, e⟩
    obtain ⟨y, hy, rfl⟩ := List.mem_map.mp hz
    rw [(EqD.eq y x).mp e] at hy
    exact hy
  · intro hx
    exact ⟨enc x, List.mem_map.mpr ⟨x, hx, rfl⟩, eqP_self x⟩
theorem reached_is (h : a.length = b.length) (hl : a.length ≤ 5) {L M : Int} (hL : IsLo a b L) (hM : IsHi a b M) : m__law_reached a b = .ok (Pv.rng L (M + 1)) := by
  have fl : fact a.length ≤ 120 := by
    have : a.length = 0 ∨ a.length = 1 ∨ a.length = 2 ∨ a.length = 3 ∨ a.length = 4 ∨ a.length = 5 := by omega
    rcases this with e | e | e | e | e | e <;> rw [e] <;> decide
  unfold m__law_reached
  rw [e_fact, Cm.fact_is (by omega)]
  refine Ok.get (Ok.lt (Ok.bind (Ok.bind (Ok.ok (Ok.range ⟨by omega, by omega, by omega, by omega, by omega⟩ (Ok.bind ?_))))))
  let P : Nat → List Int := fun k => unr a.length ((List.range a.length).map fun i : Nat => (i : Int)) k
  refine Ok.foldRng (fun i s => s.Nodup ∧ s.length ≤ i ∧ ∀ x, x ∈ s ↔ ∃ k, k < i ∧ x = (res a b (P k) : Int)) ⟨List.Pairwise.nil, Nat.le_refl _, fun x => by simp⟩ (fun i hi s ⟨h1, h2, h3⟩ => ?_) fun s ⟨h1, h2, h3⟩ => ?_
  · unfold m__law_reached_b1
    rw [e_unrank, Cm.unrank_is (by omega)]
    refine Ok.bind (Ok.bind (Ok.ok ?_))
    rw [e_result, Cm.res_ok h (by omega) Cm.unr_isP]
    refine Ok.ok (Ok.bind (Ok.ifm (Ok.ok ?_)))
    rw [in_is]
    refine Ok.ite (fun c => ?_) fun c => ?_
    · rw [Bool.not_eq_true', decide_eq_false_iff_not] at c
      refine Ok.bind (Ok.ok (Ok.bind (Ok.app (by have := Cm.limv; omega) (Ok.ok (Ok.ok ⟨?_, ?_, fun x => ?_⟩)))))
      · refine List.nodup_append.mpr ⟨h1, List.pairwise_singleton _ _, fun x hx y hy e => ?_⟩
        rw [List.mem_singleton] at hy
        subst hy
        exact c (e ▸ hx)
      · rw [List.length_append, List.length_singleton]
        omega
      · rw [List.mem_append, List.mem_singleton, h3]
        constructor
        · rintro (⟨k, hk, e⟩ | e)
          · exact ⟨k, by omega, e⟩
          · exact ⟨i, by omega, e⟩
        · rintro ⟨k, hk, e⟩
          by_cases z : k = i
          · subst z; exact .inr e
          · exact .inl ⟨k, by omega, e⟩
    · rw [Bool.not_eq_false', decide_eq_true_iff] at c
      refine Ok.ok (Ok.ok ⟨h1, by omega, fun x => ?_⟩)
      rw [h3]
      constructor
      · rintro ⟨k, hk, e⟩
        exact ⟨k, by omega, e⟩
      · rintro ⟨k, hk, e⟩
        by_cases z : k = i
        · subst z
          rw [h3] at c
          obtain ⟨k2, hk2, e2⟩ := c
          exact ⟨k2, hk2, e.trans e2⟩
        · exact ⟨k, by omega, e⟩
  · refine Ok.ok ?_
    rw [Int.toNat_natCast] at h3
    have mem : ∀ x, x ∈ s ↔ x ∈ Pv.rng L (M + 1) := fun x => by
      rw [h3]
      unfold Pv.rng
      rw [List.mem_map]
      have hz := hL.z
      have hn := hM.n
      constructor
      · rintro ⟨k, hk, rfl⟩
        have q : L ≤ ((res a b (P k) : Nat) : Int) ∧ ((res a b (P k) : Nat) : Int) ≤ M := Cm.res_span h (Cm.unr_isP (n := a.length) (k := k)) hL hM
        exact ⟨(((res a b (P k) : Nat) : Int) - L).toNat, List.mem_range.mpr (by omega), by omega⟩
      · rintro ⟨j, hj, rfl⟩
        have hj := List.mem_range.mp hj
        have hr : (L + (j : Int)).toNat ≤ a.length := by omega
        have hp := Cm.rotP_isP h hr
        obtain ⟨k, hk, e⟩ := Cm.unr_onto a.length ((List.range a.length).map fun i : Nat => (i : Int)) (rotP a b (L + (j : Int)).toNat) (by rw [List.length_map, List.length_range]) hp.perm
        refine ⟨k, hk, ?_⟩
        show L + (j : Int) = ((res a b (unr a.length ((List.range a.length).map fun i : Nat => (i : Int)) k) : Nat) : Int)
        rw [e, (Cm.rot_iff h hr hL hM).mpr (by omega)]
        omega
    have rn : (Pv.rng L (M + 1)).Pairwise (· < ·) := by
      unfold Pv.rng
      refine List.pairwise_map.mpr ((List.pairwise_lt_range (n := (M + 1 - L).toNat)).imp fun {a b} h => ?_)
      omega
    have nd : (Pv.rng L (M + 1)).Nodup := rn.imp fun {a b} h => by omega
    have pm : s.Perm (Pv.rng L (M + 1)) := by
      refine Cm.sub_perm h1 (fun x hx => (mem x).mp hx) ?_
      exact (Cm.sub_len nd fun x hx => (mem x).mpr hx)
    exact sorted_one ((sortI_perm s).trans pm) (sortI_le s) (rn.imp fun {a b} h => by omega)
end
theorem law_true (ns : List Int) (_hl : ns.length ≤ 63) : m_law ⟨ns⟩ = .ok true := by
  refine Ok.get ?_
  unfold m_law
  rw [e_cell, e_draws, e_game]
  repeat (with_reducible first | refine Ok.bind ?_ | refine Ok.lt ?_ | refine Ok.ifm ?_ | refine Ok.ok ?_)
  refine (Cm.cell_ok ⟨ns⟩ 0 (by decide)).imp fun c1 _ => ?_
  refine (Cm.draws_ok c1 _ (by show (8 : Nat) ≤ 1000; decide) (by decide)).imp fun sh hsh => ?_
  repeat (with_reducible first | refine Ok.bind ?_ | refine Ok.lt ?_ | refine Ok.ifm ?_ | refine Ok.ok ?_)
  refine drawn_at hsh 2 13 rfl rfl fun s2 _ h20 h21 => ?_
  repeat (with_reducible first | refine Ok.bind ?_ | refine Ok.lt ?_ | refine Ok.ifm ?_ | refine Ok.ok ?_)
  refine drawn_at hsh 0 8 rfl rfl fun s0 es0 _ _ => ?_
  repeat (with_reducible first | refine Ok.bind ?_ | refine Ok.lt ?_ | refine Ok.ifm ?_ | refine Ok.ok ?_)
  have es0' : atI sh (0 : Int) = some s0 := atI_nat (j := 0) es0
  have cnt1 : ∀ {Q : Int → Prop}, (∀ n : Int, 0 ≤ n → n ≤ 40 → Q n) → Ok (R.ite (decide (s0 < (4 : Int))) (R.bind (R.of (atI sh (1 : Int))) fun v_count_7 => (R.ok (v_count_7))) (R.ok s2)) Q := fun {Q} q => by
    refine Ok.ite (fun _ => ?_) fun _ => ?_
    · repeat (with_reducible first | refine Ok.bind ?_ | refine Ok.lt ?_ | refine Ok.ifm ?_ | refine Ok.ok ?_)
      refine drawn_at hsh 1 6 rfl rfl fun p2 _ h20 h21 => ?_
      repeat (with_reducible first | refine Ok.bind ?_ | refine Ok.lt ?_ | refine Ok.ifm ?_ | refine Ok.ok ?_)
      exact q _ (by omega) (by omega)
    · repeat (with_reducible first | refine Ok.bind ?_ | refine Ok.lt ?_ | refine Ok.ifm ?_ | refine Ok.ok ?_)
      exact q _ (by omega) (by omega)
  refine cnt1 fun n0 n00 n01 => ?_
  repeat (with_reducible first | refine Ok.bind ?_ | refine Ok.lt ?_ | refine Ok.ifm ?_ | refine Ok.ok ?_)
  refine Ok.of es0' ?_
  repeat (with_reducible first | refine Ok.bind ?_ | refine Ok.lt ?_ | refine Ok.ifm ?_ | refine Ok.ok ?_)
  have cnt2 : ∀ {Q : Int → Prop}, (∀ n : Int, 0 ≤ n → n ≤ 40 → Q n) → Ok (R.ite (decide (s0 = (7 : Int))) (R.bind (R.of (atI sh (3 : Int))) fun v_count_7 => (R.ok (v_count_7))) (R.ok n0)) Q := fun {Q} q => by
    refine Ok.ite (fun _ => ?_) fun _ => ?_
    · repeat (with_reducible first | refine Ok.bind ?_ | refine Ok.lt ?_ | refine Ok.ifm ?_ | refine Ok.ok ?_)
      refine drawn_at hsh 3 41 rfl rfl fun p2 _ h20 h21 => ?_
      repeat (with_reducible first | refine Ok.bind ?_ | refine Ok.lt ?_ | refine Ok.ifm ?_ | refine Ok.ok ?_)
      exact q _ (by omega) (by omega)
    · repeat (with_reducible first | refine Ok.bind ?_ | refine Ok.lt ?_ | refine Ok.ifm ?_ | refine Ok.ok ?_)
      exact q _ (by omega) (by omega)
  refine cnt2 fun n nz n1 => ?_
  repeat (with_reducible first | refine Ok.bind ?_ | refine Ok.lt ?_ | refine Ok.ifm ?_ | refine Ok.ok ?_)

  refine drawn_at hsh 4 12 rfl rfl fun s4 _ _ _ => ?_
  refine (Cm.game_ok ⟨ns⟩ 1 n s4 (by decide) (by omega)).imp fun t ⟨ht1, ht2⟩ => ?_
  repeat (with_reducible first | refine Ok.bind ?_ | refine Ok.lt ?_ | refine Ok.ifm ?_ | refine Ok.ok ?_)
  have hab : t.t.1.length = t.t.2.1.length := by omega
  have hal : t.t.1.length ≤ 100 := by omega
  obtain ⟨L, eL, hL⟩ := Cm.law_least_is hab
  obtain ⟨M, eM, hM⟩ := Cm.law_most_is hab
  rw [e_least, e_most]
  refine Ok.eq eL ?_
  repeat (with_reducible first | refine Ok.bind ?_ | refine Ok.lt ?_ | refine Ok.ifm ?_ | refine Ok.ok ?_)
  refine Ok.eq eM ?_
  repeat (with_reducible first | refine Ok.bind ?_ | refine Ok.lt ?_ | refine Ok.ifm ?_ | refine Ok.ok ?_)
  have b0 := hL.z
  have b1 := hM.n
  have b2 := Cm.lo_le_hi hab hL hM
  refine Ok.imp (P := fun c : Bool => c = false) ?_ fun c hc => ?_
  · refine Ok.ite (fun c => ?_) fun _ => Ok.ok rfl
    rw [decide_eq_true_iff] at c
    rw [reached_is hab (by omega) hL hM]
    refine Ok.bind (Ok.ok (Ok.bind (Ok.bind (Ok.range ⟨by omega, by omega, by omega, by omega, by omega⟩ (Ok.ok ?_)))))
    rw [List.map_id', eqP_self]
    exact Ok.ok rfl
  subst hc
  refine Ok.ite (fun z => by cases z) fun _ => ?_
  repeat (with_reducible first | refine Ok.bind ?_ | refine Ok.lt ?_ | refine Ok.ifm ?_ | refine Ok.ok ?_)
  refine Ok.range (by decide) ?_
  repeat (with_reducible first | refine Ok.bind ?_ | refine Ok.lt ?_ | refine Ok.ifm ?_ | refine Ok.ok ?_)
  rw [loopR_all (p := fun _ => true) (bad := false) _ fun x hx => ?_]
  rotate_left
  · have hx : 0 ≤ x := by
      unfold Pv.rng at hx
      obtain ⟨j, hj, rfl⟩ := List.mem_map.mp hx
      omega
    unfold m_law_b1
    rw [e_cell, e_pairing, e_result]
    refine Ok.get (Ok.ifm (Ok.bind (Ok.bind (Ok.bind (Ok.bind ((Cm.cell_ok ⟨ns⟩ (4 + x) (by omega)).imp fun c _ => ?_))))))
    refine (Cm.pairing_ok c (by omega)).imp fun p hp => ?_
    have hp' : IsP t.t.1.length p := by rw [show t.t.1.length = n.toNat by omega]; exact hp
    refine Ok.eq (Cm.res_ok hab (by omega) hp') ?_
    obtain ⟨q1, q2⟩ := Cm.res_span hab hp' hL hM
    rw [decide_eq_true q1, decide_eq_true q2]
    exact Ok.ok (Ok.ok (Ok.ok rfl))
  rw [if_pos (by rw [List.all_eq_true]; exact fun _ _ => rfl)]
  refine Ok.ok ?_
  dsimp only [Stp.fin]
  repeat (with_reducible first | refine Ok.bind ?_ | refine Ok.lt ?_ | refine Ok.ifm ?_ | refine Ok.ok ?_)
  refine Ok.eq (asked_ok hab hal) ?_
  repeat (with_reducible first | refine Ok.bind ?_ | refine Ok.lt ?_ | refine Ok.ifm ?_ | refine Ok.ok ?_)
  refine Ok.ite (fun z => by cases z) fun _ => ?_
  repeat (with_reducible first | refine Ok.bind ?_ | refine Ok.lt ?_ | refine Ok.ifm ?_ | refine Ok.ok ?_)
  refine Ok.eq (ends_ok hab hal hL hM) ?_
  repeat (with_reducible first | refine Ok.bind ?_ | refine Ok.lt ?_ | refine Ok.ifm ?_ | refine Ok.ok ?_)
  refine Ok.ite (fun z => by cases z) fun _ => ?_
  repeat (with_reducible first | refine Ok.bind ?_ | refine Ok.lt ?_ | refine Ok.ifm ?_ | refine Ok.ok ?_)
  refine Ok.range (by omega) ?_
  repeat (with_reducible first | refine Ok.bind ?_ | refine Ok.lt ?_ | refine Ok.ifm ?_ | refine Ok.ok ?_)
  refine Cm.neg_fold (fun i s hi => ?_) ht1 fun s hs => ?_
  · unfold m_law_b2
    refine Ok.bind (Ok.bind (Ok.at (by omega) (by omega) fun v _ => Ok.ok (Ok.bind (Ok.ok (Ok.bind (Ok.set (by omega) (by omega) (Ok.ok ?_)))))))
    rw [List.length_set]
  repeat (with_reducible first | refine Ok.bind ?_ | refine Ok.lt ?_ | refine Ok.ifm ?_ | refine Ok.ok ?_)
  refine Ok.eq (asked_ok (by omega) (by omega)) ?_
  repeat (with_reducible first | refine Ok.bind ?_ | refine Ok.lt ?_ | refine Ok.ifm ?_ | refine Ok.ok ?_)
  refine Ok.ite (fun z => by cases z) fun _ => ?_
  repeat (with_reducible first | refine Ok.bind ?_ | refine Ok.lt ?_ | refine Ok.ifm ?_ | refine Ok.ok ?_)
  refine Ok.eq (asked_ok rfl (by omega)) ?_
  repeat (with_reducible first | refine Ok.bind ?_ | refine Ok.lt ?_ | refine Ok.ifm ?_ | refine Ok.ok ?_)
  refine Ok.ite (fun z => by cases z) fun _ => ?_
  rw [span_is hab hal hL hM]
  repeat (with_reducible first | refine Ok.bind ?_ | refine Ok.lt ?_ | refine Ok.ifm ?_ | refine Ok.ok ?_)
  have l8 : sh.length = 8 := hsh.1
  obtain ⟨u5, e5, _, _⟩ := drawn_get hsh 5 100 rfl
  obtain ⟨u6, e6, _, _⟩ := drawn_get hsh 6 61 rfl
  have cut : cutL sh (some (5 : Int)) (some (7 : Int)) = [u5, u6] := by
    match sh, l8 with
    | [q0, q1, q2, q3, q4, q5, q6, q7], _ =>
      have z5 : some q5 = some u5 := e5
      have z6 : some q6 = some u6 := e6
      cases z5
      cases z6
      rfl
  rw [cut]
  refine Ok.ok (Ok.eq (sums_ok L M (a := u5) (b := u6) rfl rfl) ?_)
  repeat (with_reducible first | refine Ok.bind ?_ | refine Ok.lt ?_ | refine Ok.ifm ?_ | refine Ok.ok ?_)
  refine Ok.ite (fun z => by cases z) fun _ => ?_
  repeat (with_reducible first | refine Ok.bind ?_ | refine Ok.lt ?_ | refine Ok.ifm ?_ | refine Ok.ok ?_)
  refine Ok.imp (P := fun p : List Int × List Int => p.1 ≠ [] ∧ p.1.length ≤ 100 ∧ p.2.length ≤ 100 ∧ p.1.length ≤ p.2.length) (Ok.ite (fun c => ?_) fun c => ?_) fun p ⟨pn, pl, pl2, pe⟩ => ?_
  · repeat (with_reducible first | refine Ok.bind ?_ | refine Ok.lt ?_ | refine Ok.ifm ?_ | refine Ok.ok ?_)
    refine drawn_at hsh 5 100 rfl rfl fun u5 _ _ _ => ?_
    repeat (with_reducible first | refine Ok.bind ?_ | refine Ok.lt ?_ | refine Ok.ifm ?_ | refine Ok.ok ?_)
    refine drawn_at hsh 6 61 rfl rfl fun u6 _ _ _ => ?_
    repeat (with_reducible first | refine Ok.bind ?_ | refine Ok.lt ?_ | refine Ok.ifm ?_ | refine Ok.ok ?_)
    refine drawn_at hsh 7 40 rfl rfl fun u8 _ _ _ => ?_
    repeat (with_reducible first | refine Ok.bind ?_ | refine Ok.lt ?_ | refine Ok.ifm ?_ | refine Ok.ok ?_)
    exact ⟨List.cons_ne_nil _ _, by show 1 ≤ 100; decide, by show 2 ≤ 100; decide, by show 1 ≤ 2; decide⟩
  · rw [decide_eq_false_iff_not] at c
    refine Ok.ok ⟨fun z => ?_, ?_, ?_, ?_⟩
    · have z : t.t.1 = [] := z
      rw [z] at ht1
      exact c ht1.symm
    · show t.t.1.length ≤ 100; omega
    · show t.t.2.1.length ≤ 100; omega
    · show t.t.1.length ≤ t.t.2.1.length; omega
  · have pos : 0 < p.1.length := List.length_pos_iff.mpr pn
    repeat (with_reducible first | refine Ok.bind ?_ | refine Ok.lt ?_ | refine Ok.ifm ?_ | refine Ok.ok ?_)
    refine drawn_at hsh 7 40 rfl rfl fun u8 _ _ _ => ?_
    repeat (with_reducible first | refine Ok.bind ?_ | refine Ok.lt ?_ | refine Ok.ifm ?_ | refine Ok.ok ?_)
    refine Ok.mod (by omega) ?_
    repeat (with_reducible first | refine Ok.bind ?_ | refine Ok.lt ?_ | refine Ok.ifm ?_ | refine Ok.ok ?_)
    have b0 := Int.emod_nonneg u8 (show (p.1.length : Int) ≠ 0 by omega)
    have b1 := Int.emod_lt_of_pos u8 (show (0 : Int) < p.1.length by omega)
    generalize u8 % (p.1.length : Int) = cut at b0 b1
    refine Ok.range (by decide) ?_
    repeat (with_reducible first | refine Ok.bind ?_ | refine Ok.lt ?_ | refine Ok.ifm ?_ | refine Ok.ok ?_)
    rw [loopR_all (p := fun _ => true) (bad := false) _ fun x hx => ?_]
    · rw [if_pos (by rw [List.all_eq_true]; exact fun _ _ => rfl)]
      exact Ok.ok (Ok.ok rfl)
    · have hx : x = 0 ∨ x = 1 ∨ x = 2 := by
        unfold Pv.rng at hx
        obtain ⟨j, hj, rfl⟩ := List.mem_map.mp hx
        have := List.mem_range.mp hj
        omega
      unfold m_law_b3
      rw [cutL_to b0, cutL_to b0, unlike_ok hx (by rw [List.length_take]; omega) (by omega) (by rw [List.length_take]; omega), unlike_ok hx (by rw [List.length_take]; omega) (by rw [List.length_take]; omega) (by omega)]
      rfl
end K16

set_option Elab.async false
set_option linter.all false
set_option maxRecDepth 100000
set_option maxHeartbeats 4000000
namespace K16
open PySem PySem.Spec L2 Pv
open Enc (enc)
open Encs (encs)
section
variable {P : Program} {w : World} {K : PySem.W.Frag} {mg : Str → Option Value} {base : Heap}
abbrev s_Span_init : Stmt := inClass (topS 28) 0
theorem sc_Span_init : FnScope ["self", "least", "most"] ["self", "least", "most"] (defScope s_Span_init) := ⟨rfl, rfl, rfl, by decide +kernel, rfl, by decide +kernel, by decide +kernel⟩
abbrev s_BadHands_init : Stmt := inClass (topS 2) 0
theorem sc_BadHands_init : SupScope ["self", "mine_count", "theirs_count"] (defScope s_BadHands_init) := ⟨rfl, rfl, rfl, by decide +kernel, by decide +kernel, by decide +kernel, by decide +kernel⟩
abbrev s_BadPlace_init : Stmt := inClass (topS 6) 0
theorem sc_BadPlace_init : SupScope ["self", "place"] (defScope s_BadPlace_init) := ⟨rfl, rfl, rfl, by decide +kernel, by decide +kernel, by decide +kernel, by decide +kernel⟩
abbrev s_Unreachable_init : Stmt := inClass (topS 8) 0
theorem sc_Unreachable_init : SupScope ["self", "wanted", "lowest", "highest"] (defScope s_Unreachable_init) := ⟨rfl, rfl, rfl, by decide +kernel, by decide +kernel, by decide +kernel, by decide +kernel⟩
set_option maxRecDepth 100000 in
theorem all_mk {l : PySem.W.OpenLaw} {w : World} {K : PySem.W.Frag} {h : Heap} {mg : Str → Option Value} {fa fI14 f1 f2 f3 f4 f5 f6 f7 f8 f9 f10 f11 f12 f13 f14 f15 f16 f17 f18 f19 f20 f21 f22 f23 f24 f25 f26 f27 f28 f29 f30 f31 f32 f33 f34 f35 f36 f37 C14 C0 C1 C2 C3 C4 C5 C6 C7 C8 C9 C10 C11 C12 C13 fX1 fX5 fX7 p30 : Addr} (X : K.In h) (G : h.Ns mainGlobals mg) (hfa : mg "law" = some (.ref fa))
    {odI14 anI14 od1 an1 od2 an2 od3 an3 od4 an4 od5 an5 od6 an6 od7 an7 od8 an8 od9 an9 od10 an10 od11 an11 od12 an12 od13 an13 od14 an14 od15 an15 od16 an16 od17 an17 od18 an18 od19 an19 od20 an20 od21 an21 od22 an22 od23 an23 od24 an24 od25 an25 od26 an26 od27 an27 od28 an28 od29 an29 od30 an30 od31 an31 od32 an32 od33 an33 od34 an34 od35 an35 od36 an36 od37 an37 : Option Addr} {slI14 sl1 sl2 sl3 sl4 sl5 sl6 sl7 sl8 sl9 sl10 sl11 sl12 sl13 sl14 sl15 sl16 sl17 sl18 sl19 sl20 sl21 sl22 sl23 sl24 sl25 sl26 sl27 sl28 sl29 sl30 sl31 sl32 sl33 sl34 sl35 sl36 sl37 : Array (Option Value)} {ocI14 kVI14 dcI14 pmI14 cdI14 ctI14 oc1 kV1 dc1 pm1 cd1 ct1 oc2 kV2 dc2 pm2 cd2 ct2 oc3 kV3 dc3 pm3 cd3 ct3 oc4 kV4 dc4 pm4 cd4 ct4 oc5 kV5 dc5 pm5 cd5 ct5 oc6 kV6 dc6 pm6 cd6 ct6 oc7 kV7 dc7 pm7 cd7 ct7 oc8 kV8 dc8 pm8 cd8 ct8 oc9 kV9 dc9 pm9 cd9 ct9 oc10 kV10 dc10 pm10 cd10 ct10 oc11 kV11 dc11 pm11 cd11 ct11 oc12 kV12 dc12 pm12 cd12 ct12 oc13 kV13 dc13 pm13 cd13 ct13 oc14 kV14 dc14 pm14 cd14 ct14 oc15 kV15 dc15 pm15 cd15 ct15 oc16 kV16 dc16 pm16 cd16 ct16 oc17 kV17 dc17 pm17 cd17 ct17 oc18 kV18 dc18 pm18 cd18 ct18 oc19 kV19 dc19 pm19 cd19 ct19 oc20 kV20 dc20 pm20 cd20 ct20 oc21 kV21 dc21 pm21 cd21 ct21 oc22 kV22 dc22 pm22 cd22 ct22 oc23 kV23 dc23 pm23 cd23 ct23 oc24 kV24 dc24 pm24 cd24 ct24 oc25 kV25 dc25 pm25 cd25 ct25 oc26 kV26 dc26 pm26 cd26 ct26 oc27 kV27 dc27 pm27 cd27 ct27 oc28 kV28 dc28 pm28 cd28 ct28 oc29 kV29 dc29 pm29 cd29 ct29 oc30 kV30 dc30 pm30 cd30 ct30 oc31 kV31 dc31 pm31 cd31 ct31 oc32 kV32 dc32 pm32 cd32 ct32 oc33 kV33 dc33 pm33 cd33 ct33 oc34 kV34 dc34 pm34 cd34 ct34 oc35 kV35 dc35 pm35 cd35 ct35 oc36 kV36 dc36 pm36 cd36 ct36 oc37 kV37 dc37 pm37 cd37 ct37 : Value} {r30 : List Value} {nm1 qn1 : Str} {N1 : Addr} {bs1 : List Value} {sn1 : List Str} {sub1 : List Value} {ab1 : Bool} {col1 : Option Bool} {dd1 : Option Addr} {ka1 kb1 kc1 kd1 ke1 : Option Value} {ocX1 kVX1 dcX1 pmX1 ctX1 : Value} {odX1 anX1 : Option Addr} {slX1 : Array (Option Value)} {cda1 cc1 : Addr} {ccl1 : Value} {cdd1 : Option Addr} {cvs1 : Array Value} {ccs1 : Array (Option Value)} {fil1 : Str} {tf1 : Tok} {cl1 : Value} {cld1 : Option Addr} {csl1 : Array (Option Value)} {cdD1 : ClassData} {nm5 qn5 : Str} {N5 : Addr} {bs5 : List Value} {sn5 : List Str} {sub5 : List Value} {ab5 : Bool} {col5 : Option Bool} {dd5 : Option Addr} {ka5 kb5 kc5 kd5 ke5 : Option Value} {ocX5 kVX5 dcX5 pmX5 ctX5 : Value} {odX5 anX5 : Option Addr} {slX5 : Array (Option Value)} {cda5 cc5 : Addr} {ccl5 : Value} {cdd5 : Option Addr} {cvs5 : Array Value} {ccs5 : Array (Option Value)} {fil5 : Str} {tf5 : Tok} {cl5 : Value} {cld5 : Option Addr} {csl5 : Array (Option Value)} {cdD5 : ClassData} {nm7 qn7 : Str} {N7 : Addr} {bs7 : List Value} {sn7 : List Str} {sub7 : List Value} {ab7 : Bool} {col7 : Option Bool} {dd7 : Option Addr} {ka7 kb7 kc7 kd7 ke7 : Option Value} {ocX7 kVX7 dcX7 pmX7 ctX7 : Value} {odX7 anX7 : Option Addr} {slX7 : Array (Option Value)} {cda7 cc7 : Addr} {ccl7 : Value} {cdd7 : Option Addr} {cvs7 : Array Value} {ccs7 : Array (Option Value)} {fil7 : Str} {tf7 : Tok} {cl7 : Value} {cld7 : Option Addr} {csl7 : Array (Option Value)} {cdD7 : ClassData}
    (aC14 : PySem.W.nsIn K mainGlobals "Span" = some (some (.ref C14)))
    (ai14 : PySem.W.findIn K (.ref C14) "__init__" = some (some (.ref fI14)))
    (ii14 : PySem.W.isFn K (.ref fI14) = true)
    (lI14 : K.lookup fI14 = some ⟨ocI14, odI14, .func (PySem.W.fnOf "__init__" "Span.__init__" (defArgs s_Span_init) (defBody s_Span_init) (defScope s_Span_init) .none kVI14 dcI14 pmI14 anI14 cdI14 ctI14), slI14⟩)
    (cI14 : PySem.W.codeIn K cdI14 "Span.__init__" = true)
    (kI14 : PySem.W.keepIn K (.ref fI14) = true)
    (pg14 : PySem.W.plainGet K C14 Str.empty = true)
    (hd14 : PySem.W.hasDictIn K C14 = true)
    (po14 : PySem.W.plainOver K C14 = true)
    (sa14 : PySem.W.findIn K (.ref C14) "__setattr__" = some (some (.builtin "object.__setattr__")))
    (mk14 : PySem.W.makesIn K C14 = true)
    (kc14 : PySem.W.keepIn K (.ref C14) = true)
    (n14_0 : PySem.W.findIn K (.ref C14) "least" = some none)
    (n14_1 : PySem.W.findIn K (.ref C14) "most" = some none)
    (ha14 : PySem.W.findIn K (.ref C14) "__class__" = some (some (.builtin "object.__class__")))
    (hn14 : PySem.W.specialIn K (.builtin "object.__class__") "__get__" = some (some (.builtin "getset_descriptor.__get__")))
    (ht14 : PySem.W.takesIn K (.builtin "object.__class__") = some true)
    (hm14 : PySem.W.mroIn K C14 (.type "object") = some true)
    (z_ValueError : PySem.W.nsIn K mainGlobals "ValueError" = some none)
    (z_abs : PySem.W.nsIn K mainGlobals "abs" = some none)
    (z_all : PySem.W.nsIn K mainGlobals "all" = some none)
    (z_bool : PySem.W.nsIn K mainGlobals "bool" = some none)
    (z_enumerate : PySem.W.nsIn K mainGlobals "enumerate" = some none)
    (z_int : PySem.W.nsIn K mainGlobals "int" = some none)
    (z_isinstance : PySem.W.nsIn K mainGlobals "isinstance" = some none)
    (z_len : PySem.W.nsIn K mainGlobals "len" = some none)
    (z_list : PySem.W.nsIn K mainGlobals "list" = some none)
    (z_max : PySem.W.nsIn K mainGlobals "max" = some none)
    (z_min : PySem.W.nsIn K mainGlobals "min" = some none)
    (z_range : PySem.W.nsIn K mainGlobals "range" = some none)
    (z_sorted : PySem.W.nsIn K mainGlobals "sorted" = some none)
    (z_sum : PySem.W.nsIn K mainGlobals "sum" = some none)
    (z_super : PySem.W.nsIn K mainGlobals "super" = some none)
    (z_zip : PySem.W.nsIn K mainGlobals "zip" = some none)
    (aC0 : PySem.W.nsIn K mainGlobals "ClimbrowError" = some (some (.ref C0)))
    (aC1 : PySem.W.nsIn K mainGlobals "BadHands" = some (some (.ref C1)))
    (aC2 : PySem.W.nsIn K mainGlobals "BadWord" = some (some (.ref C2)))
    (aC3 : PySem.W.nsIn K mainGlobals "BadCard" = some (some (.ref C3)))
    (aC4 : PySem.W.nsIn K mainGlobals "BadPairing" = some (some (.ref C4)))
    (aC5 : PySem.W.nsIn K mainGlobals "BadPlace" = some (some (.ref C5)))
    (aC6 : PySem.W.nsIn K mainGlobals "OutOfTurn" = some (some (.ref C6)))
    (aC7 : PySem.W.nsIn K mainGlobals "Unreachable" = some (some (.ref C7)))
    (aC8 : PySem.W.nsIn K mainGlobals "Contradiction" = some (some (.ref C8)))
    (aC9 : PySem.W.nsIn K mainGlobals "BadBounds" = some (some (.ref C9)))
    (aC10 : PySem.W.nsIn K mainGlobals "BadSchedule" = some (some (.ref C10)))
    (aC11 : PySem.W.nsIn K mainGlobals "BadText" = some (some (.ref C11)))
    (aC12 : PySem.W.nsIn K mainGlobals "UnknownName" = some (some (.ref C12)))
    (aC13 : PySem.W.nsIn K mainGlobals "DuplicateName" = some (some (.ref C13)))
    (eC1 : PySem.W.subIn K (.ref C1) (.type "BaseException") = some true)
    (tC1 : PySem.W.typeIn K (.ref C1) = some (.type "type"))
    (hC1 : PySem.W.hasDictIn K C1 = true)
    (eC5 : PySem.W.subIn K (.ref C5) (.type "BaseException") = some true)
    (tC5 : PySem.W.typeIn K (.ref C5) = some (.type "type"))
    (hC5 : PySem.W.hasDictIn K C5 = true)
    (eC7 : PySem.W.subIn K (.ref C7) (.type "BaseException") = some true)
    (tC7 : PySem.W.typeIn K (.ref C7) = some (.type "type"))
    (hC7 : PySem.W.hasDictIn K C7 = true)
    (xL1 : K.lookup C1 = some (excClassObj nm1 qn1 C1 N1 bs1 [.ref C0, .type "ValueError", .type "Exception", .type "BaseException", .type "object"] true sn1 sub1 ab1 col1 dd1 ka1 kb1 kc1 kd1 ke1 "ValueError.__new__"))
    (sa1 : PySem.W.findIn K (.ref C1) "__setattr__" = some (some (.builtin "object.__setattr__")))
    (kk1 : PySem.W.keepIn K (.ref C1) = true)
    (ai1 : PySem.W.findIn K (.ref C1) "__init__" = some (some (.ref fX1)))
    (ti1 : PySem.W.typeIn K (.ref fX1) = some (.type "function"))
    (lX1 : K.lookup fX1 = some ⟨ocX1, odX1, .func (PySem.W.ksFn "__init__" "BadHands.__init__" (defArgs s_BadHands_init) (defBody s_BadHands_init) (defScope s_BadHands_init) .none kVX1 dcX1 pmX1 anX1 (.ref cda1) ctX1 cc1), slX1⟩)
    (cX1 : PySem.W.codeIn K (.ref cda1) "BadHands.__init__" = true)
    (lcd1 : K.lookup cda1 = some ⟨ccl1, cdd1, .fields cvs1, ccs1⟩)
    (hvs1 : cvs1[2]? = some (.str fil1 tf1))
    (hfi1 : ((l.prog.main.file : Str) == fil1) = true)
    (lce1 : K.lookup cc1 = some ⟨cl1, cld1, .cell (some (.ref C1)), csl1⟩)
    (hcl1 : PySem.W.clsIn K C1 = some cdD1)
    (hms1 : PySem.W.mroIn K C1 (.ref C1) = some true)
    (hup1 : PySem.W.ks_superIn K C1 C1 "__init__" = some (some (.builtin "ValueError.__init__")))
    (hbs1 : PySem.W.subIn K (.ref C1) (.type "ValueError") = some true)
    (nf1_mine_count : PySem.W.findIn K (.ref C1) "mine_count" = some none)
    (nf1_theirs_count : PySem.W.findIn K (.ref C1) "theirs_count" = some none)
    (xL5 : K.lookup C5 = some (excClassObj nm5 qn5 C5 N5 bs5 [.ref C0, .type "ValueError", .type "Exception", .type "BaseException", .type "object"] true sn5 sub5 ab5 col5 dd5 ka5 kb5 kc5 kd5 ke5 "ValueError.__new__"))
    (sa5 : PySem.W.findIn K (.ref C5) "__setattr__" = some (some (.builtin "object.__setattr__")))
    (kk5 : PySem.W.keepIn K (.ref C5) = true)
    (ai5 : PySem.W.findIn K (.ref C5) "__init__" = some (some (.ref fX5)))
    (ti5 : PySem.W.typeIn K (.ref fX5) = some (.type "function"))
    (lX5 : K.lookup fX5 = some ⟨ocX5, odX5, .func (PySem.W.ksFn "__init__" "BadPlace.__init__" (defArgs s_BadPlace_init) (defBody s_BadPlace_init) (defScope s_BadPlace_init) .none kVX5 dcX5 pmX5 anX5 (.ref cda5) ctX5 cc5), slX5⟩)
    (cX5 : PySem.W.codeIn K (.ref cda5) "BadPlace.__init__" = true)
    (lcd5 : K.lookup cda5 = some ⟨ccl5, cdd5, .fields cvs5, ccs5⟩)
    (hvs5 : cvs5[2]? = some (.str fil5 tf5))
    (hfi5 : ((l.prog.main.file : Str) == fil5) = true)
    (lce5 : K.lookup cc5 = some ⟨cl5, cld5, .cell (some (.ref C5)), csl5⟩)
    (hcl5 : PySem.W.clsIn K C5 = some cdD5)
    (hms5 : PySem.W.mroIn K C5 (.ref C5) = some true)
    (hup5 : PySem.W.ks_superIn K C5 C5 "__init__" = some (some (.builtin "ValueError.__init__")))
    (hbs5 : PySem.W.subIn K (.ref C5) (.type "ValueError") = some true)
    (nf5_place : PySem.W.findIn K (.ref C5) "place" = some none)
    (xL7 : K.lookup C7 = some (excClassObj nm7 qn7 C7 N7 bs7 [.ref C0, .type "ValueError", .type "Exception", .type "BaseException", .type "object"] true sn7 sub7 ab7 col7 dd7 ka7 kb7 kc7 kd7 ke7 "ValueError.__new__"))
    (sa7 : PySem.W.findIn K (.ref C7) "__setattr__" = some (some (.builtin "object.__setattr__")))
    (kk7 : PySem.W.keepIn K (.ref C7) = true)
    (ai7 : PySem.W.findIn K (.ref C7) "__init__" = some (some (.ref fX7)))
    (ti7 : PySem.W.typeIn K (.ref fX7) = some (.type "function"))
    (lX7 : K.lookup fX7 = some ⟨ocX7, odX7, .func (PySem.W.ksFn "__init__" "Unreachable.__init__" (defArgs s_Unreachable_init) (defBody s_Unreachable_init) (defScope s_Unreachable_init) .none kVX7 dcX7 pmX7 anX7 (.ref cda7) ctX7 cc7), slX7⟩)
    (cX7 : PySem.W.codeIn K (.ref cda7) "Unreachable.__init__" = true)
    (lcd7 : K.lookup cda7 = some ⟨ccl7, cdd7, .fields cvs7, ccs7⟩)
    (hvs7 : cvs7[2]? = some (.str fil7 tf7))
    (hfi7 : ((l.prog.main.file : Str) == fil7) = true)
    (lce7 : K.lookup cc7 = some ⟨cl7, cld7, .cell (some (.ref C7)), csl7⟩)
    (hcl7 : PySem.W.clsIn K C7 = some cdD7)
    (hms7 : PySem.W.mroIn K C7 (.ref C7) = some true)
    (hup7 : PySem.W.ks_superIn K C7 C7 "__init__" = some (some (.builtin "ValueError.__init__")))
    (hbs7 : PySem.W.subIn K (.ref C7) (.type "ValueError") = some true)
    (nf7_wanted : PySem.W.findIn K (.ref C7) "wanted" = some none)
    (nf7_lowest : PySem.W.findIn K (.ref C7) "lowest" = some none)
    (nf7_highest : PySem.W.findIn K (.ref C7) "highest" = some none)
    (htop : (l.prog.main.scope.names.lookup ("super" : Str)).isSome = false)
    (hopq : PySem.W.nsIn K cStatics "thirdparty.any" = some none)
    (ga1 : PySem.W.findIn K (.ref C1) "__getattribute__" = some (some (.builtin "BaseException.__getattribute__")))
    (gg1 : PySem.W.findIn K (.ref C1) "__getattr__" = some none)
    (hx1 : PySem.W.findIn K (.ref C1) "__class__" = some (some (.builtin "object.__class__")))
    (mo1 : PySem.W.mroIn K C1 (.type "object") = some true)
    (gc1 : PySem.W.specialIn K (.builtin "object.__class__") "__get__" = some (some (.builtin "getset_descriptor.__get__")))
    (gc2 : PySem.W.takesIn K (.builtin "object.__class__") = some true)
    (t_BadHands_BadBounds : PySem.W.kitOne K (.ref C1) (.ref C9) = some false)
    (t_BadHands_BadCard : PySem.W.kitOne K (.ref C1) (.ref C3) = some false)
    (t_BadHands_BadPairing : PySem.W.kitOne K (.ref C1) (.ref C4) = some false)
    (t_BadHands_BadPlace : PySem.W.kitOne K (.ref C1) (.ref C5) = some false)
    (t_BadHands_BadSchedule : PySem.W.kitOne K (.ref C1) (.ref C10) = some false)
    (t_BadHands_BadText : PySem.W.kitOne K (.ref C1) (.ref C11) = some false)
    (t_BadHands_BadWord : PySem.W.kitOne K (.ref C1) (.ref C2) = some false)
    (t_BadHands_ClimbrowError : PySem.W.kitOne K (.ref C1) (.ref C0) = some true)
    (t_BadHands_Contradiction : PySem.W.kitOne K (.ref C1) (.ref C8) = some false)
    (t_BadHands_DuplicateName : PySem.W.kitOne K (.ref C1) (.ref C13) = some false)
    (t_BadHands_OutOfTurn : PySem.W.kitOne K (.ref C1) (.ref C6) = some false)
    (t_BadHands_UnknownName : PySem.W.kitOne K (.ref C1) (.ref C12) = some false)
    (t_BadHands_Unreachable : PySem.W.kitOne K (.ref C1) (.ref C7) = some false)
    (t_BadHands_ValueError : PySem.W.kitOne K (.ref C1) (.type "ValueError") = some true)
    (sb_BadHands_BadHands_y : PySem.W.subIn K (.ref C1) (.ref C1) = some true)
    (ma1 : PySem.W.findIn K (.ref C14) "__add__" = some (some (.ref f1)))
    (mi1 : PySem.W.isFn K (.ref f1) = true)
    (ms1 : PySem.W.selfFirst K C14 = true)
    (l1 : K.lookup f1 = some ⟨oc1, od1, .func (PySem.W.fnOf "__add__" "Span.__add__" (defArgs s_Span__add__) (defBody s_Span__add__) (defScope s_Span__add__) .none kV1 dc1 pm1 an1 cd1 ct1), sl1⟩)
    (c1 : PySem.W.codeIn K cd1 "Span.__add__" = true)
    (k1 : PySem.W.keepIn K (.ref f1) = true)
    (ma2 : PySem.W.findIn K (.ref C14) "__contains__" = some (some (.ref f2)))
    (mi2 : PySem.W.isFn K (.ref f2) = true)
    (ms2 : PySem.W.selfFirst K C14 = true)
    (l2 : K.lookup f2 = some ⟨oc2, od2, .func (PySem.W.fnOf "__contains__" "Span.__contains__" (defArgs s_Span__contains__) (defBody s_Span__contains__) (defScope s_Span__contains__) .none kV2 dc2 pm2 an2 cd2 ct2), sl2⟩)
    (c2 : PySem.W.codeIn K cd2 "Span.__contains__" = true)
    (k2 : PySem.W.keepIn K (.ref f2) = true)
    (a3 : PySem.W.nsIn K mainGlobals "check_hands" = some (some (.ref f3)))
    (l3 : K.lookup f3 = some ⟨oc3, od3, .func (PySem.W.fnOf "check_hands" "check_hands" (defArgs s_check_hands) (defBody s_check_hands) (defScope s_check_hands) .none kV3 dc3 pm3 an3 cd3 ct3), sl3⟩)
    (c3 : PySem.W.codeIn K cd3 "check_hands" = true)
    (k3 : PySem.W.keepIn K (.ref f3) = true)
    (a4 : PySem.W.nsIn K mainGlobals "check_place" = some (some (.ref f4)))
    (l4 : K.lookup f4 = some ⟨oc4, od4, .func (PySem.W.fnOf "check_place" "check_place" (defArgs s_check_place) (defBody s_check_place) (defScope s_check_place) .none kV4 dc4 pm4 an4 cd4 ct4), sl4⟩)
    (c4 : PySem.W.codeIn K cd4 "check_place" = true)
    (k4 : PySem.W.keepIn K (.ref f4) = true)
    (a5 : PySem.W.nsIn K mainGlobals "deck" = some (some (.ref f5)))
    (l5 : K.lookup f5 = some ⟨oc5, od5, .func (PySem.W.fnOf "deck" "deck" (defArgs s_deck) (defBody s_deck) (defScope s_deck) .none kV5 dc5 pm5 an5 cd5 ct5), sl5⟩)
    (c5 : PySem.W.codeIn K cd5 "deck" = true)
    (k5 : PySem.W.keepIn K (.ref f5) = true)
    (a6 : PySem.W.nsIn K mainGlobals "side_order" = some (some (.ref f6)))
    (l6 : K.lookup f6 = some ⟨oc6, od6, .func (PySem.W.fnOf "side_order" "side_order" (defArgs s_side_order) (defBody s_side_order) (defScope s_side_order) .none kV6 dc6 pm6 an6 cd6 ct6), sl6⟩)
    (c6 : PySem.W.codeIn K cd6 "side_order" = true)
    (k6 : PySem.W.keepIn K (.ref f6) = true)
    (a7 : PySem.W.nsIn K mainGlobals "rotation" = some (some (.ref f7)))
    (l7 : K.lookup f7 = some ⟨oc7, od7, .func (PySem.W.fnOf "rotation" "rotation" (defArgs s_rotation) (defBody s_rotation) (defScope s_rotation) .none kV7 dc7 pm7 an7 cd7 ct7), sl7⟩)
    (c7 : PySem.W.codeIn K cd7 "rotation" = true)
    (k7 : PySem.W.keepIn K (.ref f7) = true)
    (a8 : PySem.W.nsIn K mainGlobals "heights" = some (some (.ref f8)))
    (l8 : K.lookup f8 = some ⟨oc8, od8, .func (PySem.W.fnOf "heights" "heights" (defArgs s_heights) (defBody s_heights) (defScope s_heights) .none kV8 dc8 pm8 an8 cd8 ct8), sl8⟩)
    (c8 : PySem.W.codeIn K cd8 "heights" = true)
    (k8 : PySem.W.keepIn K (.ref f8) = true)
    (a9 : PySem.W.nsIn K mainGlobals "peak" = some (some (.ref f9)))
    (l9 : K.lookup f9 = some ⟨oc9, od9, .func (PySem.W.fnOf "peak" "peak" (defArgs s_peak) (defBody s_peak) (defScope s_peak) .none kV9 dc9 pm9 an9 cd9 ct9), sl9⟩)
    (c9 : PySem.W.codeIn K cd9 "peak" = true)
    (k9 : PySem.W.keepIn K (.ref f9) = true)
    (a10 : PySem.W.nsIn K mainGlobals "valley" = some (some (.ref f10)))
    (l10 : K.lookup f10 = some ⟨oc10, od10, .func (PySem.W.fnOf "valley" "valley" (defArgs s_valley) (defBody s_valley) (defScope s_valley) .none kV10 dc10 pm10 an10 cd10 ct10), sl10⟩)
    (c10 : PySem.W.codeIn K cd10 "valley" = true)
    (k10 : PySem.W.keepIn K (.ref f10) = true)
    (a11 : PySem.W.nsIn K mainGlobals "least" = some (some (.ref f11)))
    (l11 : K.lookup f11 = some ⟨oc11, od11, .func (PySem.W.fnOf "least" "least" (defArgs s_least) (defBody s_least) (defScope s_least) .none kV11 dc11 pm11 an11 cd11 ct11), sl11⟩)
    (c11 : PySem.W.codeIn K cd11 "least" = true)
    (k11 : PySem.W.keepIn K (.ref f11) = true)
    (a12 : PySem.W.nsIn K mainGlobals "most" = some (some (.ref f12)))
    (l12 : K.lookup f12 = some ⟨oc12, od12, .func (PySem.W.fnOf "most" "most" (defArgs s_most) (defBody s_most) (defScope s_most) .none kV12 dc12 pm12 an12 cd12 ct12), sl12⟩)
    (c12 : PySem.W.codeIn K cd12 "most" = true)
    (k12 : PySem.W.keepIn K (.ref f12) = true)
    (a13 : PySem.W.nsIn K mainGlobals "span_of" = some (some (.ref f13)))
    (l13 : K.lookup f13 = some ⟨oc13, od13, .func (PySem.W.fnOf "span_of" "span_of" (defArgs s_span_of) (defBody s_span_of) (defScope s_span_of) .none kV13 dc13 pm13 an13 cd13 ct13), sl13⟩)
    (c13 : PySem.W.codeIn K cd13 "span_of" = true)
    (k13 : PySem.W.keepIn K (.ref f13) = true)
    (a14 : PySem.W.nsIn K mainGlobals "pairing_with" = some (some (.ref f14)))
    (l14 : K.lookup f14 = some ⟨oc14, od14, .func (PySem.W.fnOf "pairing_with" "pairing_with" (defArgs s_pairing_with) (defBody s_pairing_with) (defScope s_pairing_with) .none kV14 dc14 pm14 an14 cd14 ct14), sl14⟩)
    (c14 : PySem.W.codeIn K cd14 "pairing_with" = true)
    (k14 : PySem.W.keepIn K (.ref f14) = true)
    (a15 : PySem.W.nsIn K mainGlobals "_law_cell" = some (some (.ref f15)))
    (l15 : K.lookup f15 = some ⟨oc15, od15, .func (PySem.W.fnOf "_law_cell" "_law_cell" (defArgs s__law_cell) (defBody s__law_cell) (defScope s__law_cell) .none kV15 dc15 pm15 an15 cd15 ct15), sl15⟩)
    (c15 : PySem.W.codeIn K cd15 "_law_cell" = true)
    (k15 : PySem.W.keepIn K (.ref f15) = true)
    (a16 : PySem.W.nsIn K mainGlobals "_law_draws" = some (some (.ref f16)))
    (l16 : K.lookup f16 = some ⟨oc16, od16, .func (PySem.W.fnOf "_law_draws" "_law_draws" (defArgs s__law_draws) (defBody s__law_draws) (defScope s__law_draws) .none kV16 dc16 pm16 an16 cd16 ct16), sl16⟩)
    (c16 : PySem.W.codeIn K cd16 "_law_draws" = true)
    (k16 : PySem.W.keepIn K (.ref f16) = true)
    (a17 : PySem.W.nsIn K mainGlobals "_law_hand" = some (some (.ref f17)))
    (l17 : K.lookup f17 = some ⟨oc17, od17, .func (PySem.W.fnOf "_law_hand" "_law_hand" (defArgs s__law_hand) (defBody s__law_hand) (defScope s__law_hand) .none kV17 dc17 pm17 an17 cd17 ct17), sl17⟩)
    (c17 : PySem.W.codeIn K cd17 "_law_hand" = true)
    (k17 : PySem.W.keepIn K (.ref f17) = true)
    (a18 : PySem.W.nsIn K mainGlobals "_law_hands" = some (some (.ref f18)))
    (l18 : K.lookup f18 = some ⟨oc18, od18, .func (PySem.W.fnOf "_law_hands" "_law_hands" (defArgs s__law_hands) (defBody s__law_hands) (defScope s__law_hands) .none kV18 dc18 pm18 an18 cd18 ct18), sl18⟩)
    (c18 : PySem.W.codeIn K cd18 "_law_hands" = true)
    (k18 : PySem.W.keepIn K (.ref f18) = true)
    (a19 : PySem.W.nsIn K mainGlobals "_law_pairing" = some (some (.ref f19)))
    (l19 : K.lookup f19 = some ⟨oc19, od19, .func (PySem.W.fnOf "_law_pairing" "_law_pairing" (defArgs s__law_pairing) (defBody s__law_pairing) (defScope s__law_pairing) .none kV19 dc19 pm19 an19 cd19 ct19), sl19⟩)
    (c19 : PySem.W.codeIn K cd19 "_law_pairing" = true)
    (k19 : PySem.W.keepIn K (.ref f19) = true)
    (a20 : PySem.W.nsIn K mainGlobals "_law_is_int" = some (some (.ref f20)))
    (l20 : K.lookup f20 = some ⟨oc20, od20, .func (PySem.W.fnOf "_law_is_int" "_law_is_int" (defArgs s__law_is_int) (defBody s__law_is_int) (defScope s__law_is_int) .none kV20 dc20 pm20 an20 cd20 ct20), sl20⟩)
    (c20 : PySem.W.codeIn K cd20 "_law_is_int" = true)
    (k20 : PySem.W.keepIn K (.ref f20) = true)
    (a21 : PySem.W.nsIn K mainGlobals "_law_is_ints" = some (some (.ref f21)))
    (l21 : K.lookup f21 = some ⟨oc21, od21, .func (PySem.W.fnOf "_law_is_ints" "_law_is_ints" (defArgs s__law_is_ints) (defBody s__law_is_ints) (defScope s__law_is_ints) .none kV21 dc21 pm21 an21 cd21 ct21), sl21⟩)
    (c21 : PySem.W.codeIn K cd21 "_law_is_ints" = true)
    (k21 : PySem.W.keepIn K (.ref f21) = true)
    (a22 : PySem.W.nsIn K mainGlobals "_law_is_pairing" = some (some (.ref f22)))
    (l22 : K.lookup f22 = some ⟨oc22, od22, .func (PySem.W.fnOf "_law_is_pairing" "_law_is_pairing" (defArgs s__law_is_pairing) (defBody s__law_is_pairing) (defScope s__law_is_pairing) .none kV22 dc22 pm22 an22 cd22 ct22), sl22⟩)
    (c22 : PySem.W.codeIn K cd22 "_law_is_pairing" = true)
    (k22 : PySem.W.keepIn K (.ref f22) = true)
    (a23 : PySem.W.nsIn K mainGlobals "_law_result" = some (some (.ref f23)))
    (l23 : K.lookup f23 = some ⟨oc23, od23, .func (PySem.W.fnOf "_law_result" "_law_result" (defArgs s__law_result) (defBody s__law_result) (defScope s__law_result) .none kV23 dc23 pm23 an23 cd23 ct23), sl23⟩)
    (c23 : PySem.W.codeIn K cd23 "_law_result" = true)
    (k23 : PySem.W.keepIn K (.ref f23) = true)
    (a24 : PySem.W.nsIn K mainGlobals "_law_least" = some (some (.ref f24)))
    (l24 : K.lookup f24 = some ⟨oc24, od24, .func (PySem.W.fnOf "_law_least" "_law_least" (defArgs s__law_least) (defBody s__law_least) (defScope s__law_least) .none kV24 dc24 pm24 an24 cd24 ct24), sl24⟩)
    (c24 : PySem.W.codeIn K cd24 "_law_least" = true)
    (k24 : PySem.W.keepIn K (.ref f24) = true)
    (a25 : PySem.W.nsIn K mainGlobals "_law_most" = some (some (.ref f25)))
    (l25 : K.lookup f25 = some ⟨oc25, od25, .func (PySem.W.fnOf "_law_most" "_law_most" (defArgs s__law_most) (defBody s__law_most) (defScope s__law_most) .none kV25 dc25 pm25 an25 cd25 ct25), sl25⟩)
    (c25 : PySem.W.codeIn K cd25 "_law_most" = true)
    (k25 : PySem.W.keepIn K (.ref f25) = true)
    (a26 : PySem.W.nsIn K mainGlobals "_law_unrank" = some (some (.ref f26)))
    (l26 : K.lookup f26 = some ⟨oc26, od26, .func (PySem.W.fnOf "_law_unrank" "_law_unrank" (defArgs s__law_unrank) (defBody s__law_unrank) (defScope s__law_unrank) .none kV26 dc26 pm26 an26 cd26 ct26), sl26⟩)
    (c26 : PySem.W.codeIn K cd26 "_law_unrank" = true)
    (k26 : PySem.W.keepIn K (.ref f26) = true)
    (a27 : PySem.W.nsIn K mainGlobals "_law_factorial" = some (some (.ref f27)))
    (l27 : K.lookup f27 = some ⟨oc27, od27, .func (PySem.W.fnOf "_law_factorial" "_law_factorial" (defArgs s__law_factorial) (defBody s__law_factorial) (defScope s__law_factorial) .none kV27 dc27 pm27 an27 cd27 ct27), sl27⟩)
    (c27 : PySem.W.codeIn K cd27 "_law_factorial" = true)
    (k27 : PySem.W.keepIn K (.ref f27) = true)
    (a28 : PySem.W.nsIn K mainGlobals "_law_game" = some (some (.ref f28)))
    (l28 : K.lookup f28 = some ⟨oc28, od28, .func (PySem.W.fnOf "_law_game" "_law_game" (defArgs s__law_game) (defBody s__law_game) (defScope s__law_game) .none kV28 dc28 pm28 an28 cd28 ct28), sl28⟩)
    (c28 : PySem.W.codeIn K cd28 "_law_game" = true)
    (k28 : PySem.W.keepIn K (.ref f28) = true)
    (a29 : PySem.W.nsIn K mainGlobals "_law_reached" = some (some (.ref f29)))
    (l29 : K.lookup f29 = some ⟨oc29, od29, .func (PySem.W.fnOf "_law_reached" "_law_reached" (defArgs s__law_reached) (defBody s__law_reached) (defScope s__law_reached) .none kV29 dc29 pm29 an29 cd29 ct29), sl29⟩)
    (c29 : PySem.W.codeIn K cd29 "_law_reached" = true)
    (k29 : PySem.W.keepIn K (.ref f29) = true)
    (pa30 : PySem.W.findIn K (.ref C14) "width" = some (some (.ref p30)))
    (pb30 : PySem.W.specialIn K (.ref p30) "__get__" = some (some (.builtin "property.__get__")))
    (pc30 : PySem.W.takesIn K (.ref p30) = some true)
    (pd30 : PySem.W.recIn K p30 "property" = some (.ref f30 :: r30))
    (l30 : K.lookup f30 = some ⟨oc30, od30, .func (PySem.W.fnOf "width" "Span.width" (defArgs s_Span_width) (defBody s_Span_width) (defScope s_Span_width) .none kV30 dc30 pm30 an30 cd30 ct30), sl30⟩)
    (c30 : PySem.W.codeIn K cd30 "Span.width" = true)
    (k30 : PySem.W.keepIn K (.ref f30) = true)
    (a31 : PySem.W.nsIn K mainGlobals "_law_fits" = some (some (.ref f31)))
    (l31 : K.lookup f31 = some ⟨oc31, od31, .func (PySem.W.fnOf "_law_fits" "_law_fits" (defArgs s__law_fits) (defBody s__law_fits) (defScope s__law_fits) .none kV31 dc31 pm31 an31 cd31 ct31), sl31⟩)
    (c31 : PySem.W.codeIn K cd31 "_law_fits" = true)
    (k31 : PySem.W.keepIn K (.ref f31) = true)
    (a32 : PySem.W.nsIn K mainGlobals "_law_sums" = some (some (.ref f32)))
    (l32 : K.lookup f32 = some ⟨oc32, od32, .func (PySem.W.fnOf "_law_sums" "_law_sums" (defArgs s__law_sums) (defBody s__law_sums) (defScope s__law_sums) .none kV32 dc32 pm32 an32 cd32 ct32), sl32⟩)
    (c32 : PySem.W.codeIn K cd32 "_law_sums" = true)
    (k32 : PySem.W.keepIn K (.ref f32) = true)
    (a33 : PySem.W.nsIn K mainGlobals "_law_call" = some (some (.ref f33)))
    (l33 : K.lookup f33 = some ⟨oc33, od33, .func (PySem.W.fnOf "_law_call" "_law_call" (defArgs s__law_call) (defBody s__law_call) (defScope s__law_call) .none kV33 dc33 pm33 an33 cd33 ct33), sl33⟩)
    (c33 : PySem.W.codeIn K cd33 "_law_call" = true)
    (k33 : PySem.W.keepIn K (.ref f33) = true)
    (a34 : PySem.W.nsIn K mainGlobals "_law_asked" = some (some (.ref f34)))
    (l34 : K.lookup f34 = some ⟨oc34, od34, .func (PySem.W.fnOf "_law_asked" "_law_asked" (defArgs s__law_asked) (defBody s__law_asked) (defScope s__law_asked) .none kV34 dc34 pm34 an34 cd34 ct34), sl34⟩)
    (c34 : PySem.W.codeIn K cd34 "_law_asked" = true)
    (k34 : PySem.W.keepIn K (.ref f34) = true)
    (a35 : PySem.W.nsIn K mainGlobals "_law_unlike" = some (some (.ref f35)))
    (l35 : K.lookup f35 = some ⟨oc35, od35, .func (PySem.W.fnOf "_law_unlike" "_law_unlike" (defArgs s__law_unlike) (defBody s__law_unlike) (defScope s__law_unlike) .none kV35 dc35 pm35 an35 cd35 ct35), sl35⟩)
    (c35 : PySem.W.codeIn K cd35 "_law_unlike" = true)
    (k35 : PySem.W.keepIn K (.ref f35) = true)
    (a36 : PySem.W.nsIn K mainGlobals "_law_ends" = some (some (.ref f36)))
    (l36 : K.lookup f36 = some ⟨oc36, od36, .func (PySem.W.fnOf "_law_ends" "_law_ends" (defArgs s__law_ends) (defBody s__law_ends) (defScope s__law_ends) .none kV36 dc36 pm36 an36 cd36 ct36), sl36⟩)
    (c36 : PySem.W.codeIn K cd36 "_law_ends" = true)
    (k36 : PySem.W.keepIn K (.ref f36) = true)
    (a37 : PySem.W.nsIn K mainGlobals "law" = some (some (.ref f37)))
    (l37 : K.lookup f37 = some ⟨oc37, od37, .func (PySem.W.fnOf "law" "law" (defArgs s_law) (defBody s_law) (defScope s_law) .none kV37 dc37 pm37 an37 cd37 ct37), sl37⟩)
    (c37 : PySem.W.codeIn K cd37 "law" = true)
    (k37 : PySem.W.keepIn K (.ref f37) = true)
    : ∃ fd : FuncData, (∀ (s : Shared) (v : Value), BindsTo s fd ⟨[v], []⟩ [("_law_script", v)]) ∧ ∀ base : Heap, K.In base → base.Ns mainGlobals mg → FnOk l.prog w K mg base CX0 12 fa fd ["_law_script"] (spLaw K) := by
  have e := hfa.symm.trans (PySem.W.mg_of X G a37)
  cases e
  have FI14 := fun_mk (st := s_Span_init) lI14 cI14 kI14
  have bI14 := FI14.binds (ps := ["self", "least", "most"]) fun _ _ _ _ _ _ us hl => match us, hl with | [_, _, _], _ => rfl
  have cl14 : Cls K C14 := ⟨pg14, hd14, po14, sa14⟩
  have y_ValueError := PySem.W.mg_none_of X G z_ValueError
  have y_abs := PySem.W.mg_none_of X G z_abs
  have y_all := PySem.W.mg_none_of X G z_all
  have y_bool := PySem.W.mg_none_of X G z_bool
  have y_enumerate := PySem.W.mg_none_of X G z_enumerate
  have y_int := PySem.W.mg_none_of X G z_int
  have y_isinstance := PySem.W.mg_none_of X G z_isinstance
  have y_len := PySem.W.mg_none_of X G z_len
  have y_list := PySem.W.mg_none_of X G z_list
  have y_max := PySem.W.mg_none_of X G z_max
  have y_min := PySem.W.mg_none_of X G z_min
  have y_range := PySem.W.mg_none_of X G z_range
  have y_sorted := PySem.W.mg_none_of X G z_sorted
  have y_sum := PySem.W.mg_none_of X G z_sum
  have y_super := PySem.W.mg_none_of X G z_super
  have y_zip := PySem.W.mg_none_of X G z_zip
  have bX1 : Binds K (PySem.W.ksFn "__init__" "BadHands.__init__" (defArgs s_BadHands_init) (defBody s_BadHands_init) (defScope s_BadHands_init) .none kVX1 dcX1 pmX1 anX1 (.ref cda1) ctX1 cc1) ["self", "mine_count", "theirs_count"] [] := .all fun us hl => match us, hl with | [_, _, _], _ => rfl
  have oc1 : OexC K C1 := ⟨⟨_, _, _, _, _, _, _, _, _, _, _, _, _, _, _, xL1, by first | rfl | decide +kernel⟩, sa1, eC1, tC1, kk1⟩
  have sf1 : SupFacts l.prog K mg (defScope s_BadHands_init) (defArgs s_BadHands_init) cda1 cc1 C1 C1 "self" "ValueError.__init__" := ⟨⟨_, rfl, rfl⟩, ⟨_, _, _, _, _, _, lcd1, hvs1, hfi1⟩, ⟨_, _, _, lce1⟩, ⟨_, hcl1⟩, hms1, y_super, by decide +kernel, by decide +kernel, htop, hopq, hup1, hbs1⟩
  have bX5 : Binds K (PySem.W.ksFn "__init__" "BadPlace.__init__" (defArgs s_BadPlace_init) (defBody s_BadPlace_init) (defScope s_BadPlace_init) .none kVX5 dcX5 pmX5 anX5 (.ref cda5) ctX5 cc5) ["self", "place"] [] := .all fun us hl => match us, hl with | [_, _], _ => rfl
  have oc5 : OexC K C5 := ⟨⟨_, _, _, _, _, _, _, _, _, _, _, _, _, _, _, xL5, by first | rfl | decide +kernel⟩, sa5, eC5, tC5, kk5⟩
  have sf5 : SupFacts l.prog K mg (defScope s_BadPlace_init) (defArgs s_BadPlace_init) cda5 cc5 C5 C5 "self" "ValueError.__init__" := ⟨⟨_, rfl, rfl⟩, ⟨_, _, _, _, _, _, lcd5, hvs5, hfi5⟩, ⟨_, _, _, lce5⟩, ⟨_, hcl5⟩, hms5, y_super, by decide +kernel, by decide +kernel, htop, hopq, hup5, hbs5⟩
  have bX7 : Binds K (PySem.W.ksFn "__init__" "Unreachable.__init__" (defArgs s_Unreachable_init) (defBody s_Unreachable_init) (defScope s_Unreachable_init) .none kVX7 dcX7 pmX7 anX7 (.ref cda7) ctX7 cc7) ["self", "wanted", "lowest", "highest"] [] := .all fun us hl => match us, hl with | [_, _, _, _], _ => rfl
  have oc7 : OexC K C7 := ⟨⟨_, _, _, _, _, _, _, _, _, _, _, _, _, _, _, xL7, by first | rfl | decide +kernel⟩, sa7, eC7, tC7, kk7⟩
  have sf7 : SupFacts l.prog K mg (defScope s_Unreachable_init) (defArgs s_Unreachable_init) cda7 cc7 C7 C7 "self" "ValueError.__init__" := ⟨⟨_, rfl, rfl⟩, ⟨_, _, _, _, _, _, lcd7, hvs7, hfi7⟩, ⟨_, _, _, lce7⟩, ⟨_, hcl7⟩, hms7, y_super, by decide +kernel, by decide +kernel, htop, hopq, hup7, hbs7⟩
  have F1 := fun_mk (st := s_Span__add__) l1 c1 k1
  have b1 := F1.binds (ps := ["self", "other"]) fun _ _ _ _ _ _ us hl => match us, hl with | [_, _], _ => rfl
  have F2 := fun_mk (st := s_Span__contains__) l2 c2 k2
  have b2 := F2.binds (ps := ["self", "number"]) fun _ _ _ _ _ _ us hl => match us, hl with | [_, _], _ => rfl
  have F3 := fun_mk (st := s_check_hands) l3 c3 k3
  have b3 := F3.binds (ps := ["mine", "theirs"]) fun _ _ _ _ _ _ us hl => match us, hl with | [_, _], _ => rfl
  have F4 := fun_mk (st := s_check_place) l4 c4 k4
  have b4 := F4.binds (ps := ["place", "lowest", "highest"]) fun _ _ _ _ _ _ us hl => match us, hl with | [_, _, _], _ => rfl
  have F5 := fun_mk (st := s_deck) l5 c5 k5
  have b5 := F5.binds (ps := ["mine", "theirs"]) fun _ _ _ _ _ _ us hl => match us, hl with | [_, _], _ => rfl
  have F6 := fun_mk (st := s_side_order) l6 c6 k6
  have b6 := F6.binds (ps := ["mine", "theirs", "side"]) fun _ _ _ _ _ _ us hl => match us, hl with | [_, _, _], _ => rfl
  have F7 := fun_mk (st := s_rotation) l7 c7 k7
  have b7 := F7.binds (ps := ["mine", "theirs", "r"]) fun _ _ _ _ _ _ us hl => match us, hl with | [_, _, _], _ => rfl
  have F8 := fun_mk (st := s_heights) l8 c8 k8
  have b8 := F8.binds (ps := ["mine", "theirs"]) fun _ _ _ _ _ _ us hl => match us, hl with | [_, _], _ => rfl
  have F9 := fun_mk (st := s_peak) l9 c9 k9
  have b9 := F9.binds (ps := ["mine", "theirs"]) fun _ _ _ _ _ _ us hl => match us, hl with | [_, _], _ => rfl
  have F10 := fun_mk (st := s_valley) l10 c10 k10
  have b10 := F10.binds (ps := ["mine", "theirs"]) fun _ _ _ _ _ _ us hl => match us, hl with | [_, _], _ => rfl
  have F11 := fun_mk (st := s_least) l11 c11 k11
  have b11 := F11.binds (ps := ["mine", "theirs"]) fun _ _ _ _ _ _ us hl => match us, hl with | [_, _], _ => rfl
  have F12 := fun_mk (st := s_most) l12 c12 k12
  have b12 := F12.binds (ps := ["mine", "theirs"]) fun _ _ _ _ _ _ us hl => match us, hl with | [_, _], _ => rfl
  have F13 := fun_mk (st := s_span_of) l13 c13 k13
  have b13 := F13.binds (ps := ["mine", "theirs"]) fun _ _ _ _ _ _ us hl => match us, hl with | [_, _], _ => rfl
  have F14 := fun_mk (st := s_pairing_with) l14 c14 k14
  have b14 := F14.binds (ps := ["mine", "theirs", "wanted"]) fun _ _ _ _ _ _ us hl => match us, hl with | [_, _, _], _ => rfl
  have F15 := fun_mk (st := s__law_cell) l15 c15 k15
  have b15 := F15.binds (ps := ["_law_script", "_law_k"]) fun _ _ _ _ _ _ us hl => match us, hl with | [_, _], _ => rfl
  have F16 := fun_mk (st := s__law_draws) l16 c16 k16
  have b16 := F16.binds (ps := ["_law_cell_here", "_law_sizes"]) fun _ _ _ _ _ _ us hl => match us, hl with | [_, _], _ => rfl
  have F17 := fun_mk (st := s__law_hand) l17 c17 k17
  have b17 := F17.binds (ps := ["_law_cell_here", "_law_count", "_law_kind"]) fun _ _ _ _ _ _ us hl => match us, hl with | [_, _, _], _ => rfl
  have F18 := fun_mk (st := s__law_hands) l18 c18 k18
  have b18 := F18.binds (ps := ["_law_script", "_law_at", "_law_count"]) fun _ _ _ _ _ _ us hl => match us, hl with | [_, _, _], _ => rfl
  have F19 := fun_mk (st := s__law_pairing) l19 c19 k19
  have b19 := F19.binds (ps := ["_law_cell_here", "_law_count"]) fun _ _ _ _ _ _ us hl => match us, hl with | [_, _], _ => rfl
  have F20 := fun_mk (st := s__law_is_int) l20 c20 k20
  have b20 := F20.binds (ps := ["_law_x"]) fun _ _ _ _ _ _ us hl => match us, hl with | [_], _ => rfl
  have F21 := fun_mk (st := s__law_is_ints) l21 c21 k21
  have b21 := F21.binds (ps := ["_law_xs"]) fun _ _ _ _ _ _ us hl => match us, hl with | [_], _ => rfl
  have F22 := fun_mk (st := s__law_is_pairing) l22 c22 k22
  have b22 := F22.binds (ps := ["_law_xs", "_law_count"]) fun _ _ _ _ _ _ us hl => match us, hl with | [_, _], _ => rfl
  have F23 := fun_mk (st := s__law_result) l23 c23 k23
  have b23 := F23.binds (ps := ["_law_mine", "_law_theirs", "_law_pairing_here"]) fun _ _ _ _ _ _ us hl => match us, hl with | [_, _, _], _ => rfl
  have F24 := fun_mk (st := s__law_least) l24 c24 k24
  have b24 := F24.binds (ps := ["_law_mine", "_law_theirs"]) fun _ _ _ _ _ _ us hl => match us, hl with | [_, _], _ => rfl
  have F25 := fun_mk (st := s__law_most) l25 c25 k25
  have b25 := F25.binds (ps := ["_law_mine", "_law_theirs"]) fun _ _ _ _ _ _ us hl => match us, hl with | [_, _], _ => rfl
  have F26 := fun_mk (st := s__law_unrank) l26 c26 k26
  have b26 := F26.binds (ps := ["_law_number", "_law_count"]) fun _ _ _ _ _ _ us hl => match us, hl with | [_, _], _ => rfl
  have F27 := fun_mk (st := s__law_factorial) l27 c27 k27
  have b27 := F27.binds (ps := ["_law_count"]) fun _ _ _ _ _ _ us hl => match us, hl with | [_], _ => rfl
  have F28 := fun_mk (st := s__law_game) l28 c28 k28
  have b28 := F28.binds (ps := ["_law_script", "_law_at", "_law_count", "_law_edge"]) fun _ _ _ _ _ _ us hl => match us, hl with | [_, _, _, _], _ => rfl
  have F29 := fun_mk (st := s__law_reached) l29 c29 k29
  have b29 := F29.binds (ps := ["_law_mine", "_law_theirs"]) fun _ _ _ _ _ _ us hl => match us, hl with | [_, _], _ => rfl
  have F30 := fun_mk (st := s_Span_width) l30 c30 k30
  have b30 := F30.binds (ps := ["self"]) fun _ _ _ _ _ _ us hl => match us, hl with | [_], _ => rfl
  have F31 := fun_mk (st := s__law_fits) l31 c31 k31
  have b31 := F31.binds (ps := ["_law_span", "_law_lowest", "_law_highest"]) fun _ _ _ _ _ _ us hl => match us, hl with | [_, _, _], _ => rfl
  have F32 := fun_mk (st := s__law_sums) l32 c32 k32
  have b32 := F32.binds (ps := ["_law_span", "_law_lowest", "_law_highest", "_law_picks"]) fun _ _ _ _ _ _ us hl => match us, hl with | [_, _, _, _], _ => rfl
  have F33 := fun_mk (st := s__law_call) l33 c33 k33
  have b33 := F33.binds (ps := ["_law_way", "_law_a", "_law_b"]) fun _ _ _ _ _ _ us hl => match us, hl with | [_, _, _], _ => rfl
  have F34 := fun_mk (st := s__law_asked) l34 c34 k34
  have b34 := F34.binds (ps := ["_law_a", "_law_b"]) fun _ _ _ _ _ _ us hl => match us, hl with | [_, _], _ => rfl
  have F35 := fun_mk (st := s__law_unlike) l35 c35 k35
  have b35 := F35.binds (ps := ["_law_way", "_law_mine", "_law_theirs"]) fun _ _ _ _ _ _ us hl => match us, hl with | [_, _, _], _ => rfl
  have F36 := fun_mk (st := s__law_ends) l36 c36 k36
  have b36 := F36.binds (ps := ["_law_mine", "_law_theirs", "_law_lowest", "_law_highest"]) fun _ _ _ _ _ _ us hl => match us, hl with | [_, _, _, _], _ => rfl
  have F37 := fun_mk (st := s_law) l37 c37 k37
  refine ⟨PySem.W.fnOf "law" "law" (defArgs s_law) (defBody s_law) (defScope s_law) .none kV37 dc37 pm37 an37 cd37 ct37, fun s v => .of_eq rfl, fun base _ _ => ?_⟩
  let T : CT := ⟨K, fun c => match c with | 14 => C14 | 0 => C0 | 1 => C1 | 2 => C2 | 3 => C3 | 4 => C4 | 5 => C5 | 6 => C6 | 7 => C7 | 8 => C8 | 9 => C9 | 10 => C10 | 11 => C11 | 12 => C12 | 13 => C13 | _ => 0, fun c => match c with | 14 => ["least", "most"] | 0 => [] | 1 => ["theirs_count", "mine_count"] | 2 => ["position"] | 3 => ["index", "side"] | 4 => ["index"] | 5 => ["place"] | 6 => [] | 7 => ["highest", "lowest", "wanted"] | 8 => [] | 9 => ["index"] | 10 => ["position"] | 11 => ["position"] | 12 => ["name"] | 13 => ["name"] | _ => []⟩
  have y_Span : KdC l.prog w K mg base T 14 "Span" ["least", "most"] ["self", "least", "most"] 1 := ⟨rfl, by decide, cl14, (fun f hf => by simp only [List.mem_cons, List.not_mem_nil, or_false] at hf; rcases hf with rfl | rfl <;> assumption), PySem.W.mg_of X G aC14, ⟨_, _, ⟨mk14, ai14, ii14, kc14⟩, bI14, init_two FI14 sc_Span_init (by decide) cl14 n14_0 n14_1 fun cdv A outer s H E => pss_cons (ps_fld (pv 0) (pv 1) rfl) (pss_cons (ps_fld (pv 0) (pv 2) rfl) pss_nil)⟩, ⟨cl14, ha14, hn14, ht14, hm14, if_pos (beq_self_eq_true _)⟩⟩
  have y_BadHands : KdX l.prog w K mg base T 1 "BadHands" ["mine_count", "theirs_count"] ["self", "mine_count", "theirs_count"] := by
    refine ⟨rfl, oc1, PySem.W.mg_of X G aC1, ⟨_, _, ai1, ti1, bX1, FnOk.mono (j := 1) ?_ (by decide)⟩⟩
    refine fn_exi (fs := ["mine_count", "theirs_count"]) (P := l.prog) sc_BadHands_init lX1 cX1 sf1 oc1 rfl (by decide) (by decide) (fun f hf => by simp only [List.mem_cons, List.not_mem_nil, or_false] at hf; rcases hf with rfl | rfl; exact nf1_mine_count; exact nf1_theirs_count) (fun A outer s H E => pa_cons (pe_joined (.cons pe_str (.cons (pe_fmt (pv 1)) (.cons pe_str (.cons (pe_fmt (pv 2)) (.cons pe_str .nil)))))) pa_nil) (fun A outer s H E => (pss_cons (ps_ost (pv 0) (pv 1)) (pss_cons (ps_ost (pv 0) (pv 2)) pss_nil))) ?_ (fun _ => rfl) (fun _ => rfl) (fun _ => rfl) (fun _ => rfl)
    intro v us H Q hl hp q
    refine sup_text (by show (5 : Nat) ≤ 40; decide) (fun t ht => ?_) q
    simp only [List.mem_cons, List.not_mem_nil, or_false] at ht
    rcases ht with rfl | rfl | rfl | rfl | rfl
    · exact prt_c
    · exact prt_at hp (by rw [hl]; decide)
    · exact prt_c
    · exact prt_at hp (by rw [hl]; decide)
    · exact prt_c
  have y_BadPlace : KdX l.prog w K mg base T 5 "BadPlace" ["place"] ["self", "place"] := by
    refine ⟨rfl, oc5, PySem.W.mg_of X G aC5, ⟨_, _, ai5, ti5, bX5, FnOk.mono (j := 1) ?_ (by decide)⟩⟩
    refine fn_exi (fs := ["place"]) (P := l.prog) sc_BadPlace_init lX5 cX5 sf5 oc5 rfl (by decide) (by decide) (fun f hf => by simp only [List.mem_cons, List.not_mem_nil, or_false] at hf; subst hf; exact nf5_place) (fun A outer s H E => pa_cons (pe_joined (.cons pe_str (.cons (pe_fmt (pv 1)) (.cons pe_str .nil)))) pa_nil) (fun A outer s H E => (pss_cons (ps_ost (pv 0) (pv 1)) pss_nil)) ?_ (fun _ => rfl) (fun _ => rfl) (fun _ => rfl) (fun _ => rfl)
    intro v us H Q hl hp q
    refine sup_text (by show (3 : Nat) ≤ 40; decide) (fun t ht => ?_) q
    simp only [List.mem_cons, List.not_mem_nil, or_false] at ht
    rcases ht with rfl | rfl | rfl
    · exact prt_c
    · exact prt_at hp (by rw [hl]; decide)
    · exact prt_c
  have y_Unreachable : KdX l.prog w K mg base T 7 "Unreachable" ["wanted", "lowest", "highest"] ["self", "wanted", "lowest", "highest"] := by
    refine ⟨rfl, oc7, PySem.W.mg_of X G aC7, ⟨_, _, ai7, ti7, bX7, FnOk.mono (j := 1) ?_ (by decide)⟩⟩
    refine fn_exi (fs := ["wanted", "lowest", "highest"]) (P := l.prog) sc_Unreachable_init lX7 cX7 sf7 oc7 rfl (by decide) (by decide) (fun f hf => by simp only [List.mem_cons, List.not_mem_nil, or_false] at hf; rcases hf with rfl | rfl | rfl; exact nf7_wanted; exact nf7_lowest; exact nf7_highest) (fun A outer s H E => pa_cons (pe_joined (.cons (pe_fmt (pv 1)) (.cons pe_str (.cons (pe_fmt (pv 2)) (.cons pe_str (.cons (pe_fmt (pv 3)) .nil)))))) pa_nil) (fun A outer s H E => (pss_cons (ps_ost (pv 0) (pv 1)) (pss_cons (ps_ost (pv 0) (pv 2)) (pss_cons (ps_ost (pv 0) (pv 3)) pss_nil)))) ?_ (fun _ => rfl) (fun _ => rfl) (fun _ => rfl) (fun _ => rfl)
    intro v us H Q hl hp q
    refine sup_text (by show (5 : Nat) ≤ 40; decide) (fun t ht => ?_) q
    simp only [List.mem_cons, List.not_mem_nil, or_false] at ht
    rcases ht with rfl | rfl | rfl | rfl | rfl
    · exact prt_at hp (by rw [hl]; decide)
    · exact prt_c
    · exact prt_at hp (by rw [hl]; decide)
    · exact prt_c
    · exact prt_at hp (by rw [hl]; decide)
  have w_ClimbrowError : mg "ClimbrowError" = some (.ref (T.addr 0)) := PySem.W.mg_of X G aC0
  have w_BadHands : mg "BadHands" = some (.ref (T.addr 1)) := PySem.W.mg_of X G aC1
  have w_BadWord : mg "BadWord" = some (.ref (T.addr 2)) := PySem.W.mg_of X G aC2
  have w_BadCard : mg "BadCard" = some (.ref (T.addr 3)) := PySem.W.mg_of X G aC3
  have w_BadPairing : mg "BadPairing" = some (.ref (T.addr 4)) := PySem.W.mg_of X G aC4
  have w_BadPlace : mg "BadPlace" = some (.ref (T.addr 5)) := PySem.W.mg_of X G aC5
  have w_OutOfTurn : mg "OutOfTurn" = some (.ref (T.addr 6)) := PySem.W.mg_of X G aC6
  have w_Unreachable : mg "Unreachable" = some (.ref (T.addr 7)) := PySem.W.mg_of X G aC7
  have w_Contradiction : mg "Contradiction" = some (.ref (T.addr 8)) := PySem.W.mg_of X G aC8
  have w_BadBounds : mg "BadBounds" = some (.ref (T.addr 9)) := PySem.W.mg_of X G aC9
  have w_BadSchedule : mg "BadSchedule" = some (.ref (T.addr 10)) := PySem.W.mg_of X G aC10
  have w_BadText : mg "BadText" = some (.ref (T.addr 11)) := PySem.W.mg_of X G aC11
  have w_UnknownName : mg "UnknownName" = some (.ref (T.addr 12)) := PySem.W.mg_of X G aC12
  have w_DuplicateName : mg "DuplicateName" = some (.ref (T.addr 13)) := PySem.W.mg_of X G aC13
  have v_BadHands : ExcC K (T.addr 1) := ⟨ga1, gg1, eC1, hC1, hx1, gc1, gc2, mo1⟩
  have m_BadHands_BadHands__y : PySem.W.exmOne K (.ref (T.addr 1)) (.ref (T.addr 1)) = some true := PySem.W.exm_ref eC1 hC1 tC1 sb_BadHands_BadHands_y
  have xf_BadHands : XfC K (T.addr 1) := ⟨ga1, gg1, eC1, hC1⟩
  have xn_BadHands_mine_count := nf1_mine_count
  have xn_BadHands_theirs_count := nf1_theirs_count
  have k_Span__add__ : KdM l.prog w K mg base C14 "__add__" ["self", "other"] 3 (Pm T (.val .fr) (fun b : O_Span × O_Span × Unit => m_Span__add__ b.1 b.2.1)) := ⟨_, _, ma1, mi1, ms1, b1, ok_Span__add__ F1 rfl y_Span⟩
  have k_Span__contains__ : KdM l.prog w K mg base C14 "__contains__" ["self", "number"] 3 (Pm T (.val .fr) (fun b : O_Span × Int × Unit => m_Span__contains__ b.1 b.2.1)) := ⟨_, _, ma2, mi2, ms2, b2, ok_Span__contains__ F2 rfl y_Span⟩
  have k_check_hands : KdR l.prog w K mg base "check_hands" ["mine", "theirs"] 5 (PmX T (.val .fr) (fun b : (List Int) × (List Int) × Unit => m_check_hands b.1 b.2.1)) := ⟨_, _, PySem.W.mg_of X G a3, k3, b3, ok_check_hands F3 rfl y_BadHands y_len⟩
  have k_check_place : KdR l.prog w K mg base "check_place" ["place", "lowest", "highest"] 5 (PmX T (.val .fr) (fun b : Int × Int × Int × Unit => m_check_place b.1 b.2.1 b.2.2.1)) := ⟨_, _, PySem.W.mg_of X G a4, k4, b4, ok_check_place F4 rfl y_BadPlace⟩
  have k_deck : Kd l.prog w K mg base CX0 "deck" ["mine", "theirs"] 1 (Pm T (.nw .fr) (fun b : (List Int) × (List Int) × Unit => m_deck b.1 b.2.1)) := ⟨_, _, PySem.W.mg_of X G a5, k5, b5, ok_deck F5 rfl y_enumerate y_sorted⟩
  have k_side_order : Kd l.prog w K mg base CX0 "side_order" ["mine", "theirs", "side"] 2 (Pm T (.nw .fr) (fun b : (List Int) × (List Int) × Str × Unit => m_side_order b.1 b.2.1 b.2.2.1)) := ⟨_, _, PySem.W.mg_of X G a6, k6, b6, ok_side_order F6 rfl k_deck⟩
  have k_rotation : KdR l.prog w K mg base "rotation" ["mine", "theirs", "r"] 6 (PmX T (.nw .fr) (fun b : (List Int) × (List Int) × Int × Unit => m_rotation b.1 b.2.1 b.2.2.1)) := ⟨_, _, PySem.W.mg_of X G a7, k7, b7, ok_rotation F7 rfl k_check_hands k_check_place k_side_order y_len y_zip⟩
  have k_heights : KdR l.prog w K mg base "heights" ["mine", "theirs"] 6 (PmX T (.nw .fr) (fun b : (List Int) × (List Int) × Unit => m_heights b.1 b.2.1)) := ⟨_, _, PySem.W.mg_of X G a8, k8, b8, ok_heights F8 rfl k_check_hands k_deck⟩
  have k_peak : KdR l.prog w K mg base "peak" ["mine", "theirs"] 7 (PmX T (.val .fr) (fun b : (List Int) × (List Int) × Unit => m_peak b.1 b.2.1)) := ⟨_, _, PySem.W.mg_of X G a9, k9, b9, ok_peak F9 rfl k_heights y_max⟩
  have k_valley : KdR l.prog w K mg base "valley" ["mine", "theirs"] 7 (PmX T (.val .fr) (fun b : (List Int) × (List Int) × Unit => m_valley b.1 b.2.1)) := ⟨_, _, PySem.W.mg_of X G a10, k10, b10, ok_valley F10 rfl k_heights y_min⟩
  have k_least : KdR l.prog w K mg base "least" ["mine", "theirs"] 8 (PmX T (.val .fr) (fun b : (List Int) × (List Int) × Unit => m_least b.1 b.2.1)) := ⟨_, _, PySem.W.mg_of X G a11, k11, b11, ok_least F11 rfl k_peak⟩
  have k_most : KdR l.prog w K mg base "most" ["mine", "theirs"] 8 (PmX T (.val .fr) (fun b : (List Int) × (List Int) × Unit => m_most b.1 b.2.1)) := ⟨_, _, PySem.W.mg_of X G a12, k12, b12, ok_most F12 rfl k_valley y_len⟩
  have k_span_of : KdR l.prog w K mg base "span_of" ["mine", "theirs"] 9 (PmX T (.val .fr) (fun b : (List Int) × (List Int) × Unit => m_span_of b.1 b.2.1)) := ⟨_, _, PySem.W.mg_of X G a13, k13, b13, ok_span_of F13 rfl k_least k_most y_Span⟩
  have k_pairing_with : KdR l.prog w K mg base "pairing_with" ["mine", "theirs", "wanted"] 10 (PmX T (.nw .fr) (fun b : (List Int) × (List Int) × Int × Unit => m_pairing_with b.1 b.2.1 b.2.2.1)) := ⟨_, _, PySem.W.mg_of X G a14, k14, b14, ok_pairing_with F14 rfl k_Span__contains__ k_rotation k_span_of y_Span y_Unreachable⟩
  have k__law_cell : Kd l.prog w K mg base CX0 "_law_cell" ["_law_script", "_law_k"] 1 (Pm T (.val .fr) (fun b : Scr × Int × Unit => m__law_cell b.1 b.2.1)) := ⟨_, _, PySem.W.mg_of X G a15, k15, b15, ok__law_cell F15 rfl y_int y_len⟩
  have k__law_draws : Kd l.prog w K mg base CX0 "_law_draws" ["_law_cell_here", "_law_sizes"] 1 (Pm T (.nw .fr) (fun b : Int × (List Int) × Unit => m__law_draws b.1 b.2.1)) := ⟨_, _, PySem.W.mg_of X G a16, k16, b16, ok__law_draws F16 rfl y_abs y_int y_len y_range⟩
  have k__law_hand : Kd l.prog w K mg base CX0 "_law_hand" ["_law_cell_here", "_law_count", "_law_kind"] 2 (Pm T (.nw .fr) (fun b : Int × Int × Int × Unit => m__law_hand b.1 b.2.1 b.2.2.1)) := ⟨_, _, PySem.W.mg_of X G a17, k17, b17, ok__law_hand F17 rfl k__law_draws y_range⟩
  have k__law_hands : Kd l.prog w K mg base CX0 "_law_hands" ["_law_script", "_law_at", "_law_count"] 3 (Pm T (.val .fr) (fun b : Scr × Int × Int × Unit => m__law_hands b.1 b.2.1 b.2.2.1)) := ⟨_, _, PySem.W.mg_of X G a18, k18, b18, ok__law_hands F18 rfl k__law_cell k__law_draws k__law_hand y_list⟩
  have k__law_pairing : Kd l.prog w K mg base CX0 "_law_pairing" ["_law_cell_here", "_law_count"] 2 (Pm T (.nw .fr) (fun b : Int × Int × Unit => m__law_pairing b.1 b.2.1)) := ⟨_, _, PySem.W.mg_of X G a19, k19, b19, ok__law_pairing F19 rfl k__law_draws y_range⟩
  have k__law_is_int : Kd l.prog w K mg base CX0 "_law_is_int" ["_law_x"] 1 (Pm T (.val .fr) (fun b : PV × Unit => m__law_is_int b.1)) := ⟨_, _, PySem.W.mg_of X G a20, k20, b20, ok__law_is_int F20 rfl y_bool y_int y_isinstance⟩
  have q__law_is_int : KdQ l.prog w K mg base "_law_is_int" ["_law_x"] 1 (Pm T (.val .fr) (fun b : PV × Unit => m__law_is_int b.1)) := ⟨_, _, PySem.W.mg_of X G a20, k20, b20, okq__law_is_int F20 rfl y_bool y_int y_isinstance⟩
  have k__law_is_ints : Kd l.prog w K mg base CX0 "_law_is_ints" ["_law_xs"] 2 (Pm T (.val .fr) (fun b : (List Int) × Unit => m__law_is_ints b.1)) := ⟨_, _, PySem.W.mg_of X G a21, k21, b21, ok__law_is_ints F21 rfl k__law_is_int y_all y_isinstance y_list⟩
  have k__law_is_pairing : Kd l.prog w K mg base CX0 "_law_is_pairing" ["_law_xs", "_law_count"] 3 (Pm T (.val .fr) (fun b : (List Int) × Int × Unit => m__law_is_pairing b.1 b.2.1)) := ⟨_, _, PySem.W.mg_of X G a22, k22, b22, ok__law_is_pairing F22 rfl k__law_is_ints y_range y_sorted⟩
  have k__law_result : Kd l.prog w K mg base CX0 "_law_result" ["_law_mine", "_law_theirs", "_law_pairing_here"] 1 (Pm T (.val .fr) (fun b : (List Int) × (List Int) × (List Int) × Unit => m__law_result b.1 b.2.1 b.2.2.1)) := ⟨_, _, PySem.W.mg_of X G a23, k23, b23, ok__law_result F23 rfl y_int y_len y_range y_sum⟩
  have k__law_least : Kd l.prog w K mg base CX0 "_law_least" ["_law_mine", "_law_theirs"] 1 (Pm T (.val .fr) (fun b : (List Int) × (List Int) × Unit => m__law_least b.1 b.2.1)) := ⟨_, _, PySem.W.mg_of X G a24, k24, b24, ok__law_least F24 rfl y_len y_max⟩
  have k__law_most : Kd l.prog w K mg base CX0 "_law_most" ["_law_mine", "_law_theirs"] 1 (Pm T (.val .fr) (fun b : (List Int) × (List Int) × Unit => m__law_most b.1 b.2.1)) := ⟨_, _, PySem.W.mg_of X G a25, k25, b25, ok__law_most F25 rfl y_len y_min⟩
  have k__law_unrank : Kd l.prog w K mg base CX0 "_law_unrank" ["_law_number", "_law_count"] 1 (Pm T (.nw .fr) (fun b : Int × Int × Unit => m__law_unrank b.1 b.2.1)) := ⟨_, _, PySem.W.mg_of X G a26, k26, b26, ok__law_unrank F26 rfl y_int y_len y_range⟩
  have k__law_factorial : Kd l.prog w K mg base CX0 "_law_factorial" ["_law_count"] 1 (Pm T (.val .fr) (fun b : Int × Unit => m__law_factorial b.1)) := ⟨_, _, PySem.W.mg_of X G a27, k27, b27, ok__law_factorial F27 rfl y_range⟩
  have k__law_game : Kd l.prog w K mg base CX0 "_law_game" ["_law_script", "_law_at", "_law_count", "_law_edge"] 4 (Pm T (.val .fr) (fun b : Scr × Int × Int × Int × Unit => m__law_game b.1 b.2.1 b.2.2.1 b.2.2.2.1)) := ⟨_, _, PySem.W.mg_of X G a28, k28, b28, ok__law_game F28 rfl k__law_hands y_int⟩
  have k__law_reached : Kd l.prog w K mg base CX0 "_law_reached" ["_law_mine", "_law_theirs"] 2 (Pm T (.nw .fr) (fun b : (List Int) × (List Int) × Unit => m__law_reached b.1 b.2.1)) := ⟨_, _, PySem.W.mg_of X G a29, k29, b29, ok__law_reached F29 rfl k__law_factorial k__law_result k__law_unrank y_len y_range y_sorted⟩
  have k_Span_width : ∃ p a fd, PropOf K C14 "width" p a ∧ Binds K fd ["self"] [] ∧ FnOk l.prog w K mg base CX0 3 a fd ["self"] (Pm T (.val .fr) (fun b : O_Span × Unit => m_Span_width b.1)) := ⟨_, _, _, ⟨pa30, pb30, pc30, ⟨_, pd30⟩⟩, b30, ok_Span_width F30 rfl y_Span⟩
  have k__law_fits : Kd l.prog w K mg base CX0 "_law_fits" ["_law_span", "_law_lowest", "_law_highest"] 5 (Pm T (.val .fr) (fun b : O_Span × Int × Int × Unit => m__law_fits b.1 b.2.1 b.2.2.1)) := ⟨_, _, PySem.W.mg_of X G a31, k31, b31, ok__law_fits F31 rfl k_Span__contains__ k_Span_width k__law_is_int y_Span y_isinstance⟩
  have k__law_sums : Kd l.prog w K mg base CX0 "_law_sums" ["_law_span", "_law_lowest", "_law_highest", "_law_picks"] 6 (Pm T (.val .fr) (fun b : O_Span × Int × Int × (List Int) × Unit => m__law_sums b.1 b.2.1 b.2.2.1 b.2.2.2.1)) := ⟨_, _, PySem.W.mg_of X G a32, k32, b32, ok__law_sums F32 rfl k_Span__add__ k__law_fits y_Span⟩
  have k__law_call : KdR l.prog w K mg base "_law_call" ["_law_way", "_law_a", "_law_b"] 10 (PmX T (.val .fr) (fun b : Int × (List Int) × (List Int) × Unit => m__law_call b.1 b.2.1 b.2.2.1)) := ⟨_, _, PySem.W.mg_of X G a33, k33, b33, ok__law_call F33 rfl k_least k_most k_span_of⟩
  have k__law_asked : Kd l.prog w K mg base CX0 "_law_asked" ["_law_a", "_law_b"] 11 (Pm T (.val .fr) (fun b : (List Int) × (List Int) × Unit => m__law_asked b.1 b.2.1)) := ⟨_, _, PySem.W.mg_of X G a34, k34, b34, ok__law_asked F34 rfl k__law_call k__law_fits k__law_is_int k__law_least k__law_most k_span_of y_list y_range⟩
  have k__law_unlike : Kd l.prog w K mg base CX0 "_law_unlike" ["_law_way", "_law_mine", "_law_theirs"] 11 (Pm T (.val .fr) (fun b : Int × (List Int) × (List Int) × Unit => m__law_unlike b.1 b.2.1 b.2.2.1)) := ⟨_, _, PySem.W.mg_of X G a35, k35, b35, ok__law_unlike F35 rfl k__law_call y_BadHands q__law_is_int w_BadBounds w_BadCard w_BadHands w_BadPairing w_BadPlace w_BadSchedule w_BadText w_BadWord w_ClimbrowError w_Contradiction w_DuplicateName w_OutOfTurn w_UnknownName w_Unreachable v_BadHands t_BadHands_BadBounds t_BadHands_BadCard t_BadHands_BadPairing t_BadHands_BadPlace t_BadHands_BadSchedule t_BadHands_BadText t_BadHands_BadWord t_BadHands_ClimbrowError t_BadHands_Contradiction t_BadHands_DuplicateName t_BadHands_OutOfTurn t_BadHands_UnknownName t_BadHands_Unreachable t_BadHands_ValueError m_BadHands_BadHands__y xf_BadHands xn_BadHands_mine_count xn_BadHands_theirs_count y_ValueError y_isinstance y_len y_list⟩
  have k__law_ends : Kd l.prog w K mg base CX0 "_law_ends" ["_law_mine", "_law_theirs", "_law_lowest", "_law_highest"] 11 (Pm T (.val .fr) (fun b : (List Int) × (List Int) × Int × Int × Unit => m__law_ends b.1 b.2.1 b.2.2.1 b.2.2.2.1)) := ⟨_, _, PySem.W.mg_of X G a36, k36, b36, ok__law_ends F36 rfl k__law_is_pairing k__law_result k_pairing_with y_len y_list⟩
  exact law_pm (T := T) rfl (ok_law F37 rfl k__law_asked k__law_cell k__law_draws k__law_ends k__law_game k__law_least k__law_most k__law_pairing k__law_reached k__law_result k__law_sums k__law_unlike k_span_of y_int y_len y_list y_range) (fun ns hl => law_true ns hl)
end
end K16
open PySem PySem.W PyProof.Rows
set_option maxRecDepth 100000 in
set_option maxHeartbeats 0 in
theorem PySem.Challenge.cw_climbrow_k16_whole_span_of_all_pairings_holds : PySem.Challenge.rw_climbrow_k16_whole_span_of_all_pairings.Holds := by
  w_on; o_law; k_head; (case hw => w_witness2)
  k_fill
  refine L2.walk_of (l := PySem.Challenge.rw_climbrow_k16_whole_span_of_all_pairings) (n := 63) (k := 12) (x := "_law_script") (CX := fun _ => L2.CX0) (sp := fun w => Pv.spLaw _) rfl (by decide) rfl ⟨rfl, by decide, by decide⟩ (fun w h Y => PySem.W.kIn_of Y) ?F (fun _ _ a ns hl _ hS => ⟨a, ns, rfl, hS, hl, fun _ => rfl⟩) (fun _ _ _ _ _ h => h)
  case F =>
    intro w mg fa h KX G hmg
    refine' K16.all_mk KX G hmg ?aC14 ?ai14 ?ii14 ?lI14 ?cI14 ?kI14 ?pg14 ?hd14 ?po14 ?sa14 ?mk14 ?kc14 ?n14_0 ?n14_1 ?ha14 ?hn14 ?ht14 ?hm14 ?z_ValueError ?z_abs ?z_all ?z_bool ?z_enumerate ?z_int ?z_isinstance ?z_len ?z_list ?z_max ?z_min ?z_range ?z_sorted ?z_sum ?z_super ?z_zip ?aC0 ?aC1 ?aC2 ?aC3 ?aC4 ?aC5 ?aC6 ?aC7 ?aC8 ?aC9 ?aC10 ?aC11 ?aC12 ?aC13 ?eC1 ?tC1 ?hC1 ?eC5 ?tC5 ?hC5 ?eC7 ?tC7 ?hC7 ?xL1 ?sa1 ?kk1 ?ai1 ?ti1 ?lX1 ?cX1 ?lcd1 ?hvs1 ?hfi1 ?lce1 ?hcl1 ?hms1 ?hup1 ?hbs1 ?nf1_mine_count ?nf1_theirs_count ?xL5 ?sa5 ?kk5 ?ai5 ?ti5 ?lX5 ?cX5 ?lcd5 ?hvs5 ?hfi5 ?lce5 ?hcl5 ?hms5 ?hup5 ?hbs5 ?nf5_place ?xL7 ?sa7 ?kk7 ?ai7 ?ti7 ?lX7 ?cX7 ?lcd7 ?hvs7 ?hfi7 ?lce7 ?hcl7 ?hms7 ?hup7 ?hbs7 ?nf7_wanted ?nf7_lowest ?nf7_highest ?htop ?hopq ?ga1 ?gg1 ?hx1 ?mo1 ?gc1 ?gc2 ?t_BadHands_BadBounds ?t_BadHands_BadCard ?t_BadHands_BadPairing ?t_BadHands_BadPlace ?t_BadHands_BadSchedule ?t_BadHands_BadText ?t_BadHands_BadWord ?t_BadHands_ClimbrowError ?t_BadHands_Contradiction ?t_BadHands_DuplicateName ?t_BadHands_OutOfTurn ?t_BadHands_UnknownName ?t_BadHands_Unreachable ?t_BadHands_ValueError ?sb_BadHands_BadHands_y ?ma1 ?mi1 ?ms1 ?l1 ?c1 ?k1 ?ma2 ?mi2 ?ms2 ?l2 ?c2 ?k2 ?a3 ?l3 ?c3 ?k3 ?a4 ?l4 ?c4 ?k4 ?a5 ?l5 ?c5 ?k5 ?a6 ?l6 ?c6 ?k6 ?a7 ?l7 ?c7 ?k7 ?a8 ?l8 ?c8 ?k8 ?a9 ?l9 ?c9 ?k9 ?a10 ?l10 ?c10 ?k10 ?a11 ?l11 ?c11 ?k11 ?a12 ?l12 ?c12 ?k12 ?a13 ?l13 ?c13 ?k13 ?a14 ?l14 ?c14 ?k14 ?a15 ?l15 ?c15 ?k15 ?a16 ?l16 ?c16 ?k16 ?a17 ?l17 ?c17 ?k17 ?a18 ?l18 ?c18 ?k18 ?a19 ?l19 ?c19 ?k19 ?a20 ?l20 ?c20 ?k20 ?a21 ?l21 ?c21 ?k21 ?a22 ?l22 ?c22 ?k22 ?a23 ?l23 ?c23 ?k23 ?a24 ?l24 ?c24 ?k24 ?a25 ?l25 ?c25 ?k25 ?a26 ?l26 ?c26 ?k26 ?a27 ?l27 ?c27 ?k27 ?a28 ?l28 ?c28 ?k28 ?a29 ?l29 ?c29 ?k29 ?pa30 ?pb30 ?pc30 ?pd30 ?l30 ?c30 ?k30 ?a31 ?l31 ?c31 ?k31 ?a32 ?l32 ?c32 ?k32 ?a33 ?l33 ?c33 ?k33 ?a34 ?l34 ?c34 ?k34 ?a35 ?l35 ?c35 ?k35 ?a36 ?l36 ?c36 ?k36 ?a37 ?l37 ?c37 ?k37
    (case aC14 => k_is)
    (case ai14 => k_is)
    (case ii14 => k_is)
    (case lI14 => k_is)
    (case cI14 => k_is)
    (case kI14 => k_is)
    (case pg14 => k_is)
    (case hd14 => k_is)
    (case po14 => k_is)
    (case sa14 => k_is)
    (case mk14 => k_is)
    (case kc14 => k_is)
    (case n14_0 => k_is)
    (case n14_1 => k_is)
    (case ha14 => k_is)
    (case hn14 => k_is)
    (case ht14 => k_is)
    (case hm14 => k_is)
    (case z_ValueError => k_is)
    (case z_abs => k_is)
    (case z_all => k_is)
    (case z_bool => k_is)
    (case z_enumerate => k_is)
    (case z_int => k_is)
    (case z_isinstance => k_is)
    (case z_len => k_is)
    (case z_list => k_is)
    (case z_max => k_is)
    (case z_min => k_is)
    (case z_range => k_is)
    (case z_sorted => k_is)
    (case z_sum => k_is)
    (case z_super => k_is)
    (case z_zip => k_is)
    (case aC0 => k_is)
    (case aC1 => k_is)
    (case aC2 => k_is)
    (case aC3 => k_is)
    (case aC4 => k_is)
    (case aC5 => k_is)
    (case aC6 => k_is)
    (case aC7 => k_is)
    (case aC8 => k_is)
    (case aC9 => k_is)
    (case aC10 => k_is)
    (case aC11 => k_is)
    (case aC12 => k_is)
    (case aC13 => k_is)
    (case eC1 => k_is)
    (case tC1 => k_is)
    (case hC1 => k_is)
    (case eC5 => k_is)
    (case tC5 => k_is)
    (case hC5 => k_is)
    (case eC7 => k_is)
    (case tC7 => k_is)
    (case hC7 => k_is)
    (case xL1 => k_is)
    (case sa1 => k_is)
    (case kk1 => k_is)
    (case ai1 => k_is)
    (case ti1 => k_is)
    (case lX1 => k_is)
    (case cX1 => k_is)
    (case lcd1 => k_is)
    (case hvs1 => rfl)
    (case hfi1 => decide +kernel)
    (case lce1 => k_is)
    (case hcl1 => k_is)
    (case hms1 => k_is)
    (case hup1 => ks_is)
    (case hbs1 => k_is)
    (case nf1_mine_count => k_is)
    (case nf1_theirs_count => k_is)
    (case xL5 => k_is)
    (case sa5 => k_is)
    (case kk5 => k_is)
    (case ai5 => k_is)
    (case ti5 => k_is)
    (case lX5 => k_is)
    (case cX5 => k_is)
    (case lcd5 => k_is)
    (case hvs5 => rfl)
    (case hfi5 => decide +kernel)
    (case lce5 => k_is)
    (case hcl5 => k_is)
    (case hms5 => k_is)
    (case hup5 => ks_is)
    (case hbs5 => k_is)
    (case nf5_place => k_is)
    (case xL7 => k_is)
    (case sa7 => k_is)
    (case kk7 => k_is)
    (case ai7 => k_is)
    (case ti7 => k_is)
    (case lX7 => k_is)
    (case cX7 => k_is)
    (case lcd7 => k_is)
    (case hvs7 => rfl)
    (case hfi7 => decide +kernel)
    (case lce7 => k_is)
    (case hcl7 => k_is)
    (case hms7 => k_is)
    (case hup7 => ks_is)
    (case hbs7 => k_is)
    (case nf7_wanted => k_is)
    (case nf7_lowest => k_is)
    (case nf7_highest => k_is)
    (case htop => decide +kernel)
    (case hopq => k_is)
    (case ga1 => k_is)
    (case gg1 => k_is)
    (case hx1 => k_is)
    (case mo1 => k_is)
    (case gc1 => k_is)
    (case gc2 => k_is)
    (case t_BadHands_BadBounds => kit_is)
    (case t_BadHands_BadCard => kit_is)
    (case t_BadHands_BadPairing => kit_is)
    (case t_BadHands_BadPlace => kit_is)
    (case t_BadHands_BadSchedule => kit_is)
    (case t_BadHands_BadText => kit_is)
    (case t_BadHands_BadWord => kit_is)
    (case t_BadHands_ClimbrowError => kit_is)
    (case t_BadHands_Contradiction => kit_is)
    (case t_BadHands_DuplicateName => kit_is)
    (case t_BadHands_OutOfTurn => kit_is)
    (case t_BadHands_UnknownName => kit_is)
    (case t_BadHands_Unreachable => kit_is)
    (case t_BadHands_ValueError => kit_is)
    (case sb_BadHands_BadHands_y => k_is)
    (case ma1 => k_is)
    (case mi1 => k_is)
    (case ms1 => k_is)
    (case l1 => k_is)
    (case c1 => k_is)
    (case k1 => k_is)
    (case ma2 => k_is)
    (case mi2 => k_is)
    (case ms2 => k_is)
    (case l2 => k_is)
    (case c2 => k_is)
    (case k2 => k_is)
    (case a3 => k_is)
    (case l3 => k_is)
    (case c3 => k_is)
    (case k3 => k_is)
    (case a4 => k_is)
    (case l4 => k_is)
    (case c4 => k_is)
    (case k4 => k_is)
    (case a5 => k_is)
    (case l5 => k_is)
    (case c5 => k_is)
    (case k5 => k_is)
    (case a6 => k_is)
    (case l6 => k_is)
    (case c6 => k_is)
    (case k6 => k_is)
    (case a7 => k_is)
    (case l7 => k_is)
    (case c7 => k_is)
    (case k7 => k_is)
    (case a8 => k_is)
    (case l8 => k_is)
    (case c8 => k_is)
    (case k8 => k_is)
    (case a9 => k_is)
    (case l9 => k_is)
    (case c9 => k_is)
    (case k9 => k_is)
    (case a10 => k_is)
    (case l10 => k_is)
    (case c10 => k_is)
    (case k10 => k_is)
    (case a11 => k_is)
    (case l11 => k_is)
    (case c11 => k_is)
    (case k11 => k_is)
    (case a12 => k_is)
    (case l12 => k_is)
    (case c12 => k_is)
    (case k12 => k_is)
    (case a13 => k_is)
    (case l13 => k_is)
    (case c13 => k_is)
    (case k13 => k_is)
    (case a14 => k_is)
    (case l14 => k_is)
    (case c14 => k_is)
    (case k14 => k_is)
    (case a15 => k_is)
    (case l15 => k_is)
    (case c15 => k_is)
    (case k15 => k_is)
    (case a16 => k_is)
    (case l16 => k_is)
    (case c16 => k_is)
    (case k16 => k_is)
    (case a17 => k_is)
    (case l17 => k_is)
    (case c17 => k_is)
    (case k17 => k_is)
    (case a18 => k_is)
    (case l18 => k_is)
    (case c18 => k_is)
    (case k18 => k_is)
    (case a19 => k_is)
    (case l19 => k_is)
    (case c19 => k_is)
    (case k19 => k_is)
    (case a20 => k_is)
    (case l20 => k_is)
    (case c20 => k_is)
    (case k20 => k_is)
    (case a21 => k_is)
    (case l21 => k_is)
    (case c21 => k_is)
    (case k21 => k_is)
    (case a22 => k_is)
    (case l22 => k_is)
    (case c22 => k_is)
    (case k22 => k_is)
    (case a23 => k_is)
    (case l23 => k_is)
    (case c23 => k_is)
    (case k23 => k_is)
    (case a24 => k_is)
    (case l24 => k_is)
    (case c24 => k_is)
    (case k24 => k_is)
    (case a25 => k_is)
    (case l25 => k_is)
    (case c25 => k_is)
    (case k25 => k_is)
    (case a26 => k_is)
    (case l26 => k_is)
    (case c26 => k_is)
    (case k26 => k_is)
    (case a27 => k_is)
    (case l27 => k_is)
    (case c27 => k_is)
    (case k27 => k_is)
    (case a28 => k_is)
    (case l28 => k_is)
    (case c28 => k_is)
    (case k28 => k_is)
    (case a29 => k_is)
    (case l29 => k_is)
    (case c29 => k_is)
    (case k29 => k_is)
    (case pa30 => k_is)
    (case pb30 => k_is)
    (case pc30 => k_is)
    (case pd30 => k_is)
    (case l30 => k_is)
    (case c30 => k_is)
    (case k30 => k_is)
    (case a31 => k_is)
    (case l31 => k_is)
    (case c31 => k_is)
    (case k31 => k_is)
    (case a32 => k_is)
    (case l32 => k_is)
    (case c32 => k_is)
    (case k32 => k_is)
    (case a33 => k_is)
    (case l33 => k_is)
    (case c33 => k_is)
    (case k33 => k_is)
    (case a34 => k_is)
    (case l34 => k_is)
    (case c34 => k_is)
    (case k34 => k_is)
    (case a35 => k_is)
    (case l35 => k_is)
    (case c35 => k_is)
    (case k35 => k_is)
    (case a36 => k_is)
    (case l36 => k_is)
    (case c36 => k_is)
    (case k36 => k_is)
    (case a37 => k_is)
    (case l37 => k_is)
    (case c37 => k_is)
    (case k37 => k_is)

