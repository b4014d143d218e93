import PyProof.Rows.All
import Wide.All
import OpenK.AllK
import Wide.FinOn
import HandS.ForMost
import HandS.ForExc
import HandS.IsInst
import HandS.Wide
import HandS.Deep
import HandS.SetFor
import HandS.SortInts
import HandS.EndBits
import HandS.Property
import HandS.Codes
import HandS.Strs
import PySem.Challenge.RW_climbrow_k05_row_or_not
set_option Elab.async false
set_option linter.all false
set_option maxRecDepth 100000
/-! A pure layer over the hand layer: values without addresses, what represents them, states of slots. -/
namespace Pv
open PySem PySem.Spec PyProof.Rows L2

/-- a pure value -/
inductive PV where
  | non | bl (b : Bool) | int (i : Int) | str (x : Str)
  | lst (xs : List PV) | tup (xs : List PV)
  | obj (c : Nat) (vs : List PV)
  | scr (xs : List Int)

/-- own classes: where they stand, their fields -/
structure CT where
  K : PySem.W.Frag
  addr : Nat → Addr
  fld : Nat → List Str

def LIM : Nat := 1000000
theorem lim_size {n : Nat} (h : n ≤ LIM) : n < sizeLine := Nat.lt_of_le_of_lt h (by decide)

mutual
def Rep (T : CT) (H : Hp) (G : Addr → Prop) : PV → V → Prop
  | .non, v => v = .non
  | .bl b, v => v = .bl b
  | .int i, v => v = .int i
  | .str x, v => v = .str x ∧ x.length ≤ LIM ∧ PyData.canLay0 (.str x) = true
  | .lst xs, v => ∃ a vs, v = .ref a ∧ ¬ G a ∧ H a = some (.lst vs) ∧ vs.length ≤ LIM ∧ Reps T H G xs vs
  | .tup xs, v => ∃ a vs, v = .ref a ∧ ¬ G a ∧ H a = some (.tup vs) ∧ vs.length ≤ LIM ∧ Reps T H G xs vs
  | .obj c xs, v => ∃ a dx vs, v = .ref a ∧ ¬ G a ∧ H a = some (.ins (T.addr c) dx ((T.fld c).zip vs)) ∧ (T.fld c).length = vs.length ∧ Reps T H G xs vs
  | .scr ns, v => ∃ a, v = .ref a ∧ ((Rd H a (.lst (ns.map V.int)) ∧ ¬ G a) ∨ SqL T.K (fun _ => none) a (ns.map V.int))
def Reps (T : CT) (H : Hp) (G : Addr → Prop) : List PV → List V → Prop
  | [], vs => vs = []
  | x :: xs, vs => ∃ v r, vs = v :: r ∧ Rep T H G x v ∧ Reps T H G xs r
end

theorem rd_same {H H' : Hp} (e : Same H H') {a : Addr} {u : HO} (h : Rd H a u) : Rd H' a u := by
  rcases h with h | ⟨o, h⟩
  · exact .inl (e _ _ h)
  · exact .inr ⟨o, e _ _ h⟩
theorem rd_dom {H : Hp} {a : Addr} {u : HO} (h : Rd H a u) : H a ≠ none := by
  rcases h with h | ⟨o, h⟩ <;> rw [h] <;> exact fun z => nomatch z
theorem rd_upd {H : Hp} {p a : Addr} {o u : HO} (n : a ≠ p) (h : Rd H a u) : Rd (upd H p o) a u := by
  rcases h with h | ⟨o, h⟩
  · exact .inl (by rw [upd_ne n]; exact h)
  · exact .inr ⟨o, by rw [upd_ne n]; exact h⟩

/-! one lemma for all changes of the heap and of what is avoided -/
mutual
theorem Rep.move {T : CT} {H H' : Hp} {G G' : Addr → Prop} (k : ∀ a u, H a = some u → ¬ G a → H' a = some u ∧ ¬ G' a) : ∀ (p : PV) (v : V), Rep T H G p v → Rep T H' G' p v
  | .non, _, h => h
  | .bl _, _, h => h
  | .int _, _, h => h
  | .str _, _, h => h
  | .lst xs, v, h => by
    unfold Rep at h ⊢
    obtain ⟨a, vs, e, g, r, l, q⟩ := h
    exact ⟨a, vs, e, (k _ _ r g).2, (k _ _ r g).1, l, Reps.move k xs vs q⟩
  | .tup xs, v, h => by
    unfold Rep at h ⊢
    obtain ⟨a, vs, e, g, r, l, q⟩ := h
    exact ⟨a, vs, e, (k _ _ r g).2, (k _ _ r g).1, l, Reps.move k xs vs q⟩
  | .obj c xs, v, h => by
    unfold Rep at h ⊢
    obtain ⟨a, dx, vs, e, g, r, l, q⟩ := h
    exact ⟨a, dx, vs, e, (k _ _ r g).2, (k _ _ r g).1, l, Reps.move k xs vs q⟩
  | .scr ns, v, h => by
    unfold Rep at h ⊢
    obtain ⟨a, e, h⟩ := h
    refine ⟨a, e, ?_⟩
    rcases h with ⟨r | ⟨o, r⟩, g⟩ | h
    · exact .inl ⟨.inl (k _ _ r g).1, (k _ _ r g).2⟩
    · exact .inl ⟨.inr ⟨o, (k _ _ r g).1⟩, (k _ _ r g).2⟩
    · exact .inr h
theorem Reps.move {T : CT} {H H' : Hp} {G G' : Addr → Prop} (k : ∀ a u, H a = some u → ¬ G a → H' a = some u ∧ ¬ G' a) : ∀ (ps : List PV) (vs : List V), Reps T H G ps vs → Reps T H' G' ps vs
  | [], _, h => h
  | x :: xs, vs, h => by
    unfold Reps at h ⊢
    obtain ⟨v, r, e, h1, h2⟩ := h
    exact ⟨v, r, e, Rep.move k x v h1, Reps.move k xs r h2⟩
end
section
variable {T : CT} {H H' : Hp} {G G' : Addr → Prop} {p : PV} {v : V} {ps : List PV} {vs : List V}
theorem Rep.same (e : Same H H') (h : Rep T H G p v) : Rep T H' G p v := Rep.move (fun a u r g => ⟨e _ _ r, g⟩) _ _ h
theorem Reps.same (e : Same H H') (h : Reps T H G ps vs) : Reps T H' G ps vs := Reps.move (fun a u r g => ⟨e _ _ r, g⟩) _ _ h
theorem Rep.weak (e : ∀ a, G' a → G a) (h : Rep T H G p v) : Rep T H G' p v := Rep.move (fun a u r g => ⟨r, fun z => g (e a z)⟩) _ _ h
theorem Reps.weak (e : ∀ a, G' a → G a) (h : Reps T H G ps vs) : Reps T H G' ps vs := Reps.move (fun a u r g => ⟨r, fun z => g (e a z)⟩) _ _ h
theorem Rep.upd {a : Addr} {o : HO} (g : G a) (h : Rep T H G p v) : Rep T (upd H a o) G p v := Rep.move (fun b u r gb => ⟨by rw [upd_ne (fun z : b = a => gb (by rw [z]; exact g))]; exact r, gb⟩) _ _ h
theorem Reps.upd {a : Addr} {o : HO} (g : G a) (h : Reps T H G ps vs) : Reps T (upd H a o) G ps vs := Reps.move (fun b u r gb => ⟨by rw [upd_ne (fun z : b = a => gb (by rw [z]; exact g))]; exact r, gb⟩) _ _ h
/-- what stood before knows nothing of an address that was free -/
theorem Rep.free {a : Addr} (n : H a = none) (h : Rep T H G p v) : Rep T H (fun b => G b ∨ b = a) p v := Rep.move (fun b u r gb => ⟨r, fun z => z.elim gb fun e => by rw [e, n] at r; cases r⟩) _ _ h
theorem Reps.free {a : Addr} (n : H a = none) (h : Reps T H G ps vs) : Reps T H (fun b => G b ∨ b = a) ps vs := Reps.move (fun b u r gb => ⟨r, fun z => z.elim gb fun e => by rw [e, n] at r; cases r⟩) _ _ h
theorem Reps.len : ∀ {ps : List PV} {vs : List V}, Reps T H G ps vs → ps.length = vs.length
  | [], _, h => by unfold Reps at h; rw [h]; rfl
  | _ :: xs, _, h => by
    unfold Reps at h
    obtain ⟨v, r, e, _, h2⟩ := h
    rw [e, List.length_cons, List.length_cons, Reps.len h2]
theorem reps_nil : Reps T H G [] [] := by unfold Reps; rfl
theorem reps_cons (h : Rep T H G p v) (k : Reps T H G ps vs) : Reps T H G (p :: ps) (v :: vs) := by unfold Reps; exact ⟨_, _, rfl, h, k⟩
theorem Reps.app : ∀ {ps qs : List PV} {vs us : List V}, Reps T H G ps vs → Reps T H G qs us → Reps T H G (ps ++ qs) (vs ++ us)
  | [], _, _, _, h, k => by unfold Reps at h; rw [h]; exact k
  | x :: xs, _, _, _, h, k => by
    unfold Reps at h
    obtain ⟨v, r, e, h1, h2⟩ := h
    rw [e]
    exact reps_cons h1 (Reps.app h2 k)
theorem Reps.get : ∀ {ps : List PV} {vs : List V} {i : Nat} {p : PV}, Reps T H G ps vs → ps[i]? = some p → ∃ v, vs[i]? = some v ∧ Rep T H G p v
  | [], _, _, _, _, e => by simp at e
  | x :: xs, _, 0, _, h, e => by
    unfold Reps at h
    obtain ⟨v, r, e1, h1, h2⟩ := h
    rw [e1]
    have e2 := Option.some.inj (show some x = some _ from e)
    rw [← e2]
    exact ⟨v, rfl, h1⟩
  | x :: xs, _, i + 1, _, h, e => by
    unfold Reps at h
    obtain ⟨v, r, e1, h1, h2⟩ := h
    rw [e1]
    exact Reps.get (i := i) h2 (by simpa using e)
theorem Reps.set : ∀ {ps : List PV} {vs : List V} {p : PV} {v : V} (i : Nat), Reps T H G ps vs → Rep T H G p v → Reps T H G (ps.set i p) (vs.set i v)
  | [], _, _, _, _, h, _ => by unfold Reps at h; rw [h]; exact reps_nil
  | x :: xs, _, _, _, 0, h, k => by
    unfold Reps at h
    obtain ⟨v, r, e1, h1, h2⟩ := h
    rw [e1]
    exact reps_cons k h2
  | x :: xs, _, _, _, i + 1, h, k => by
    unfold Reps at h
    obtain ⟨v, r, e1, h1, h2⟩ := h
    rw [e1]
    exact reps_cons h1 (Reps.set i h2 k)
theorem Reps.take : ∀ {ps : List PV} {vs : List V} (n : Nat), Reps T H G ps vs → Reps T H G (ps.take n) (vs.take n)
  | [], _, n, h => by unfold Reps at h; rw [h]; simp; exact reps_nil
  | x :: xs, _, 0, h => by simp; exact reps_nil
  | x :: xs, _, n + 1, h => by
    unfold Reps at h
    obtain ⟨v, r, e1, h1, h2⟩ := h
    rw [e1]
    exact reps_cons h1 (Reps.take n h2)
theorem Reps.drop : ∀ {ps : List PV} {vs : List V} (n : Nat), Reps T H G ps vs → Reps T H G (ps.drop n) (vs.drop n)
  | [], _, n, h => by unfold Reps at h; rw [h]; simp; exact reps_nil
  | x :: xs, _, 0, h => by simpa using h
  | x :: xs, _, n + 1, h => by
    unfold Reps at h
    obtain ⟨v, r, e1, h1, h2⟩ := h
    rw [e1]
    exact Reps.drop n h2
theorem Reps.rev : ∀ {ps : List PV} {vs : List V}, Reps T H G ps vs → Reps T H G ps.reverse vs.reverse
  | [], _, h => by unfold Reps at h; rw [h]; exact reps_nil
  | x :: xs, _, h => by
    unfold Reps at h
    obtain ⟨v, r, e1, h1, h2⟩ := h
    rw [e1, List.reverse_cons, List.reverse_cons]
    exact (Reps.rev h2).app (reps_cons h1 reps_nil)
end

/-! ### typed values -/
class Enc (α : Type) where
  enc : α → PV
open Enc (enc)
instance : Enc PV := ⟨id⟩
instance : Enc Int := ⟨.int⟩
instance : Enc Bool := ⟨.bl⟩
instance : Enc Str := ⟨.str⟩
instance : Enc Unit := ⟨fun _ => .non⟩
instance {α : Type} [Enc α] : Enc (List α) := ⟨fun xs => .lst (xs.map enc)⟩
instance {α : Type} [Enc α] : Enc (Option α) := ⟨fun x => match x with | none => .non | some a => enc a⟩
/-- the script as it comes -/
structure Scr where
  xs : List Int
instance : Enc Scr := ⟨fun s => .scr s.xs⟩
/-- a tuple (its places as a nested pair) -/
structure Tp (α : Type) where
  t : α
class Encs (α : Type) where
  encs : α → List PV
open Encs (encs)
instance : Encs Unit := ⟨fun _ => []⟩
instance {α β : Type} [Enc α] [Encs β] : Encs (α × β) := ⟨fun x => enc x.1 :: encs x.2⟩
instance {α : Type} [Encs α] : Enc (Tp α) := ⟨fun x => .tup (encs x.t)⟩

/-- no address in it -/
class Flat (α : Type) [Enc α] : Prop where
  flat : ∀ a : α, (∃ i, enc a = .int i) ∨ (∃ b, enc a = .bl b) ∨ (∃ x, enc a = .str x) ∨ enc a = .non
instance : Flat Int := ⟨fun i => .inl ⟨i, rfl⟩⟩
instance : Flat Bool := ⟨fun b => .inr (.inl ⟨b, rfl⟩)⟩
instance : Flat Str := ⟨fun x => .inr (.inr (.inl ⟨x, rfl⟩))⟩
instance : Flat Unit := ⟨fun _ => .inr (.inr (.inr rfl))⟩
instance {α : Type} [Enc α] [Flat α] : Flat (Option α) := ⟨fun x => match x with
  | none => .inr (.inr (.inr rfl))
  | some a => Flat.flat a⟩
theorem Rep.flat {T : CT} {H H' : Hp} {G G' : Addr → Prop} {α : Type} [Enc α] [Flat α] {a : α} {v : V} (h : Rep T H G (enc a) v) : Rep T H' G' (enc a) v := by
  rcases Flat.flat a with ⟨i, e⟩ | ⟨i, e⟩ | ⟨i, e⟩ | e <;> rw [e] at h ⊢ <;> exact h
theorem Reps.flat {T : CT} {H H' : Hp} {G G' : Addr → Prop} {α : Type} [Enc α] [Flat α] : ∀ {xs : List α} {vs : List V}, Reps T H G (xs.map enc) vs → Reps T H' G' (xs.map enc) vs
  | [], _, h => h
  | x :: xs, _, h => by
    rw [List.map_cons] at h ⊢
    unfold Reps at h
    obtain ⟨v, r, e1, h1, h2⟩ := h
    rw [e1]
    exact reps_cons (Rep.flat h1) (Reps.flat h2)

/-! ### outcomes -/
/-- how a def hands back: any value, or a list that it made -/
inductive Lv where | raw | pa | fr
inductive RM where
  | val (l : Lv) | nw (l : Lv)
structure Exc where
  c : Nat
  vs : List PV
inductive R (α : Type) where
  | ok (a : α) | ex (x : Exc) | bad
def R.bind {α β : Type} (m : R α) (k : α → R β) : R β := match m with
  | .ok a => k a
  | .ex x => .ex x
  | .bad => .bad
def R.of {α : Type} (o : Option α) : R α := match o with
  | some a => .ok a
  | none => .bad
@[simp] theorem R.of_some {α : Type} (a : α) : R.of (some a) = .ok a := rfl
@[simp] theorem R.of_none {α : Type} : R.of (none : Option α) = .bad := rfl
def R.lt {α β : Type} (a : α) (k : α → R β) : R β := k a
def R.ite {α : Type} (b : Bool) (m n : R α) : R α := match b with
  | true => m
  | false => n
def R.ifm {α : Type} (c : R Bool) (m n : R α) : R α := c.bind fun b => R.ite b m n
/-- no exception -/
def R.nox {α : Type} : R α → R α
  | .ok a => .ok a
  | _ => .bad
@[simp] theorem R.bind_ok {α β : Type} (a : α) (k : α → R β) : (R.ok a).bind k = k a := rfl
@[simp] theorem R.bind_bad {α β : Type} (k : α → R β) : (R.bad).bind k = .bad := rfl
@[simp] theorem R.bind_ex {α β : Type} (x : Exc) (k : α → R β) : (R.ex x).bind k = .ex x := rfl
@[simp] theorem R.lt_eq {α β : Type} (a : α) (k : α → R β) : R.lt a k = k a := rfl
@[simp] theorem R.ite_t {α : Type} (m n : R α) : R.ite true m n = m := rfl
@[simp] theorem R.ite_f {α : Type} (m n : R α) : R.ite false m n = n := rfl
@[simp] theorem R.nox_ok {α : Type} (a : α) : (R.ok a).nox = .ok a := rfl
theorem R.bind_assoc {α β γ : Type} (m : R α) (k : α → R β) (l : β → R γ) : (m.bind k).bind l = m.bind fun a => (k a).bind l := by cases m <;> rfl
end Pv

set_option Elab.async false
set_option linter.all false
set_option maxRecDepth 100000
namespace Pv
open PySem PySem.Spec L2
open Enc (enc)
open Encs (encs)

/-- a slot: nothing is known; a value that is not changed any more; a list that only this slot has -/
inductive Sl where
  | un | sh (l : Lv) (p : PV) | ow (l : Lv) (xs : List PV)
/-- what stands around: the classes, the heap at the entry, the wish about exceptions -/
structure Cn where
  T : CT
  H0 : Hp
  W : Option WX
  M : RM

/-- what a value of this sort has nothing to do with -/
def av (l : Lv) (H0 : Hp) (G : Addr → Prop) (os : List (Option Addr)) (a : Addr) : Prop := match l with
  | .raw => False
  | .pa => G a ∨ some a ∈ os
  | .fr => H0 a ≠ none ∨ G a ∨ some a ∈ os
def Lv.st : Lv → Prop
  | .raw => False
  | _ => True

def SlOk (C : Cn) (G : Addr → Prop) (os : List (Option Addr)) (H : Hp) (i : Nat) (σ : St) : Sl → Prop
  | .un => os[i]? = some none
  | .sh l p => l.st ∧ os[i]? = some none ∧ ∃ v, σ[i]? = some (some v) ∧ Rep C.T H (av l C.H0 G os) p v
  | .ow l xs => l.st ∧ ∃ a vs, os[i]? = some (some a) ∧ σ[i]? = some (some (.ref a)) ∧ H a = some (.lst vs) ∧ vs.length ≤ LIM ∧ Reps C.T H (av l C.H0 G os) xs vs

/-- values that lie about: they stay what they are -/
abbrev Hid := List (Lv × PV × V)
structure OkW (C : Cn) (G : Addr → Prop) (Γ : List Sl) (hid : Hid) (os : List (Option Addr)) (σ : St) (H : Hp) : Prop where
  lo : os.length = Γ.length
  ls : σ.length = Γ.length
  ext : Same C.H0 H
  dom : ∀ a, G a → H a ≠ none
  new : ∀ a : Addr, some a ∈ os → C.H0 a = none ∧ H a ≠ none ∧ ¬ G a
  inj : ∀ (i j : Nat) (a : Addr), os[i]? = some (some a) → os[j]? = some (some a) → i = j
  sl : ∀ (i : Nat) (s : Sl), Γ[i]? = some s → SlOk C G os H i σ s
  hd : ∀ q ∈ hid, q.1.st ∧ Rep C.T H (av q.1 C.H0 G os) q.2.1 q.2.2

section
variable {C : Cn} {G : Addr → Prop} {Γ : List Sl} {hid : Hid} {os : List (Option Addr)} {σ : St} {H H' : Hp} {l : Lv} {p : PV} {v : V} {a : Addr} {i : Nat}

theorem OkW.avdom (K : OkW C G Γ hid os σ H) (l : Lv) (a : Addr) (h : av l C.H0 G os a) : H a ≠ none := by
  cases l with
  | raw => exact h.elim
  | pa => exact h.elim (K.dom a) fun h => (K.new a h).2.1
  | fr =>
    rcases h with h | h | h
    · intro z
      cases e : C.H0 a with
      | none => exact h e
      | some o => rw [K.ext a o e] at z; cases z
    · exact K.dom a h
    · exact (K.new a h).2.1
theorem OkW.fresh (K : OkW C G Γ hid os σ H) (n : H a = none) (l : Lv) : ¬ av l C.H0 G os a := fun z => K.avdom l a z n
theorem same_ne {H H' : Hp} (e : Same H H') {a : Addr} (h : H a ≠ none) : H' a ≠ none := by
  cases q : H a with
  | none => exact absurd q h
  | some o => rw [e a o q]; exact fun z => nomatch z
theorem OkW.same (K : OkW C G Γ hid os σ H) (e : Same H H') : OkW C G Γ hid os σ H' := by
  refine ⟨K.lo, K.ls, K.ext.trans e, fun a g => same_ne e (K.dom a g), fun a h => ?_, K.inj, fun i s h => ?_, fun q hq => ⟨(K.hd q hq).1, (K.hd q hq).2.same e⟩⟩
  · obtain ⟨h1, h2, h3⟩ := K.new a h
    exact ⟨h1, same_ne e h2, h3⟩
  · have q := K.sl i s h
    cases s with
    | un => exact (show os[i]? = some none from q)
    | sh l p => obtain ⟨q1, q2, v, q3, q4⟩ := q; exact ⟨q1, q2, v, q3, q4.same e⟩
    | ow l xs => obtain ⟨q1, a, vs, q2, q3, q4, q5, q6⟩ := q; exact ⟨q1, a, vs, q2, q3, e _ _ q4, q5, q6.same e⟩
theorem av_less {os os' : List (Option Addr)} (h : ∀ a : Addr, some a ∈ os' → some a ∈ os) (l : Lv) (a : Addr) : av l C.H0 G os' a → av l C.H0 G os a := by
  cases l with
  | raw => exact id
  | pa => exact fun z => z.imp id (h a)
  | fr => exact fun z => z.imp id fun z => z.imp id (h a)
theorem mem_set_none {os : List (Option Addr)} {i : Nat} {a : Addr} (h : some a ∈ os.set i none) : some a ∈ os := by
  rcases List.mem_or_eq_of_mem_set h with h | h
  · exact h
  · cases h
theorem get_set_none {os : List (Option Addr)} {i j : Nat} {a : Addr} (h : (os.set i none)[j]? = some (some a)) : os[j]? = some (some a) ∧ j ≠ i := by
  by_cases e : i = j
  · subst e
    rw [List.getElem?_set] at h
    simp at h
  · rw [List.getElem?_set_ne e] at h
    exact ⟨h, fun z => e z.symm⟩
/-- the state with a slot forgotten -/
theorem OkW.clear (K : OkW C G Γ hid os σ H) (i : Nat) (hi : i < Γ.length) (x : Option V) : OkW C G (Γ.set i .un) hid (os.set i none) (σ.set i x) H := by
  refine ⟨by simp [K.lo], by simp [K.ls], K.ext, K.dom, fun a h => K.new a (mem_set_none h), fun m n a h h' => K.inj m n a (get_set_none h).1 (get_set_none h').1, fun j s h => ?_, fun q hq => ⟨(K.hd q hq).1, (K.hd q hq).2.weak (av_less (fun a z => mem_set_none z) q.1)⟩⟩
  by_cases e : i = j
  · subst e
    rw [List.getElem?_set_self hi] at h
    cases h
    show (os.set i none)[i]? = some none
    rw [List.getElem?_set_self (by rw [K.lo]; exact hi)]
  · rw [List.getElem?_set_ne e] at h
    have q := K.sl j s h
    cases s with
    | un => show (os.set i none)[j]? = some none; rw [List.getElem?_set_ne e]; exact q
    | sh l p =>
      obtain ⟨q1, q2, v, q3, q4⟩ := q
      refine ⟨q1, by rw [List.getElem?_set_ne e]; exact q2, v, by rw [List.getElem?_set_ne e]; exact q3, q4.weak (av_less (fun a z => mem_set_none z) l)⟩
    | ow l xs =>
      obtain ⟨q1, a, vs, q2, q3, q4, q5, q6⟩ := q
      refine ⟨q1, a, vs, by rw [List.getElem?_set_ne e]; exact q2, by rw [List.getElem?_set_ne e]; exact q3, q4, q5, q6.weak (av_less (fun a z => mem_set_none z) l)⟩
theorem set_set' {α : Type} {xs : List α} {i : Nat} {x y : α} : (xs.set i x).set i y = xs.set i y := by simp
/-- a slot takes a value -/
theorem OkW.put (K : OkW C G Γ hid os σ H) (hi : i < Γ.length) (hl : l.st) (r : Rep C.T H (av l C.H0 G os) p v) : OkW C G (Γ.set i (.sh l p)) hid (os.set i none) (σ.set i (some v)) H := by
  have K1 := K.clear i hi (some v)
  refine ⟨by simp [K.lo], by simp [K.ls], K1.ext, K1.dom, K1.new, K1.inj, fun j s h => ?_, K1.hd⟩
  by_cases e : i = j
  · subst e
    rw [List.getElem?_set_self hi] at h
    cases h
    exact ⟨hl, by rw [List.getElem?_set_self (by rw [K.lo]; exact hi)], v, by rw [List.getElem?_set_self (by rw [K.ls]; exact hi)], r.weak (av_less (fun a z => mem_set_none z) l)⟩
  · refine K1.sl j s ?_
    rw [List.getElem?_set_ne e] at h ⊢
    exact h
theorem mem_set_some {os : List (Option Addr)} {i : Nat} {a b : Addr} (h : some b ∈ os.set i (some a)) : some b ∈ os ∨ b = a := by
  rcases List.mem_or_eq_of_mem_set h with h | h
  · exact .inl h
  · exact .inr (Option.some.inj h)
theorem av_more {os : List (Option Addr)} {i : Nat} {a : Addr} (l : Lv) (hr : l.st) (b : Addr) (h : av l C.H0 G (os.set i (some a)) b) : av l C.H0 G (os.set i none) b ∨ b = a := by
  have m : ∀ b, some b ∈ os.set i (some a) → some b ∈ os.set i none ∨ b = a := fun b h => by
    by_cases e : b = a
    · exact .inr e
    · obtain ⟨j, hj⟩ := List.getElem?_of_mem h
      by_cases ij : i = j
      · subst ij
        by_cases hlt : i < os.length
        · rw [List.getElem?_set_self hlt] at hj
          exact absurd (Option.some.inj (Option.some.inj hj)).symm e
        · rw [List.getElem?_eq_none (by simp; omega)] at hj
          cases hj
      · rw [List.getElem?_set_ne ij] at hj
        refine .inl (List.mem_of_getElem? (i := j) ?_)
        rw [List.getElem?_set_ne ij]
        exact hj
  cases l with
  | raw => exact h.elim
  | pa =>
    rcases h with h | h
    · exact .inl (.inl h)
    · exact (m b h).imp .inr id
  | fr =>
    rcases h with h | h | h
    · exact .inl (.inl h)
    · exact .inl (.inr (.inl h))
    · exact (m b h).imp (fun z => .inr (.inr z)) id
/-- a slot takes a new list -/
theorem OkW.own {H1 : Hp} {xs : List PV} {vs : List V} (K : OkW C G Γ hid os σ H1) (hi : i < Γ.length) (hl : l.st) (e : Same H1 H) (n : H1 a = none) (ha : H a = some (.lst vs)) (hv : vs.length ≤ LIM)
    (r : Reps C.T H (fun b => av l C.H0 G os b ∨ b = a) xs vs) : OkW C G (Γ.set i (.ow l xs)) hid (os.set i (some a)) (σ.set i (some (.ref a))) H := by
  have K1 := K.clear i hi (some (.ref a))
  have nos : some a ∉ os := fun z => (K.new a z).2.1 n
  have h0 : C.H0 a = none := by
    cases q : C.H0 a with
    | none => rfl
    | some o => rw [K.ext a o q] at n; cases n
  have hos : i < os.length := by rw [K.lo]; exact hi
  have mv : ∀ (l : Lv), l.st → ∀ p v, Rep C.T H1 (av l C.H0 G (os.set i none)) p v → Rep C.T H (av l C.H0 G (os.set i (some a))) p v := fun l hl p v h =>
    ((h.free n).same e).weak fun b z => av_more l hl b z
  have mvs : ∀ (l : Lv), l.st → ∀ p v, Reps C.T H1 (av l C.H0 G (os.set i none)) p v → Reps C.T H (av l C.H0 G (os.set i (some a))) p v := fun l hl p v h =>
    ((h.free n).same e).weak fun b z => av_more l hl b z
  refine ⟨by simp [K.lo], by simp [K.ls], K.ext.trans e, fun a g => same_ne e (K.dom a g), fun b hb => ?_, fun m n' b h h' => ?_, fun j s h => ?_, fun q hq => ⟨(K1.hd q hq).1, mv q.1 (K1.hd q hq).1 _ _ (K1.hd q hq).2⟩⟩
  · rcases mem_set_some hb with hb | hb
    · obtain ⟨q1, q2, q3⟩ := K.new b hb
      exact ⟨q1, same_ne e q2, q3⟩
    · rw [hb]
      exact ⟨h0, by rw [ha]; exact (fun z => nomatch z), fun g => K.dom a g n⟩
  · by_cases em : i = m
    · by_cases en : i = n'
      · rw [← em, en]
      · rw [← em, List.getElem?_set_self hos] at h
        rw [List.getElem?_set_ne en] at h'
        have e1 : a = b := Option.some.inj (Option.some.inj h)
        exact absurd (List.mem_of_getElem? h') (e1 ▸ nos)
    · by_cases en : i = n'
      · rw [← en, List.getElem?_set_self hos] at h'
        rw [List.getElem?_set_ne em] at h
        have e1 : a = b := Option.some.inj (Option.some.inj h')
        exact absurd (List.mem_of_getElem? h) (e1 ▸ nos)
      · rw [List.getElem?_set_ne em] at h
        rw [List.getElem?_set_ne en] at h'
        exact K.inj m n' b h h'
  · by_cases ej : i = j
    · subst ej
      rw [List.getElem?_set_self hi] at h
      cases h
      refine ⟨hl, a, vs, by rw [List.getElem?_set_self hos], by rw [List.getElem?_set_self (by rw [K.ls]; exact hi)], ha, hv, r.weak fun b z => ?_⟩
      exact (av_more l hl b z).imp (av_less (fun a z => mem_set_none z) l b) id
    · have q := K1.sl j s (by rw [List.getElem?_set_ne ej] at h ⊢; exact h)
      cases s with
      | un => show (os.set i (some a))[j]? = some none; rw [List.getElem?_set_ne ej]; have q' : (os.set i none)[j]? = some none := q; rw [List.getElem?_set_ne ej] at q'; exact q'
      | sh l p =>
        obtain ⟨q1, q2, v, q3, q4⟩ := q
        rw [List.getElem?_set_ne ej] at q2
        exact ⟨q1, by rw [List.getElem?_set_ne ej]; exact q2, v, q3, mv l q1 _ _ q4⟩
      | ow l xs =>
        obtain ⟨q1, b, us, q2, q3, q4, q5, q6⟩ := q
        rw [List.getElem?_set_ne ej] at q2
        exact ⟨q1, b, us, by rw [List.getElem?_set_ne ej]; exact q2, q3, e _ _ q4, q5, mvs l q1 _ _ q6⟩
/-- a slot's list is changed -/
theorem OkW.chg {xs xs' : List PV} {vs' : List V} {l' : Lv} (K : OkW C G Γ hid os σ H) (h : Γ[i]? = some (.ow l xs)) (ha : os[i]? = some (some a)) (hl' : l'.st) (hv : vs'.length ≤ LIM) (r : Reps C.T H (av l' C.H0 G os) xs' vs') :
    OkW C G (Γ.set i (.ow l' xs')) hid os σ (upd H a (.lst vs')) := by
  obtain ⟨hl, a', vs, q2, q3, q4, q5, q6⟩ := K.sl i _ h
  obtain rfl : a' = a := Option.some.inj (Option.some.inj (q2.symm.trans ha))
  have hi : i < Γ.length := (List.getElem?_eq_some_iff.mp h).1
  have ma : some a' ∈ os := List.mem_of_getElem? ha
  have inav : ∀ l : Lv, l.st → av l C.H0 G os a' := fun l hl => by
    cases l with
    | raw => exact hl.elim
    | pa => exact .inr ma
    | fr => exact .inr (.inr ma)
  have hne : ∀ b, H b ≠ none → upd H a' (.lst vs') b ≠ none := fun b hb => by
    by_cases e : b = a'
    · rw [e, upd_same]; exact fun z => nomatch z
    · rw [upd_ne e]; exact hb
  refine ⟨by simp [K.lo], by simp [K.ls], fun b o e => ?_, fun b g => hne b (K.dom b g), fun b hb => ?_, K.inj, fun j s hj => ?_, fun q hq => ⟨(K.hd q hq).1, (K.hd q hq).2.upd (inav q.1 (K.hd q hq).1)⟩⟩
  · rw [upd_ne (fun z : b = a' => by rw [z, (K.new a' ma).1] at e; cases e)]
    exact K.ext b o e
  · obtain ⟨q1, q2, q3⟩ := K.new b hb
    exact ⟨q1, hne b q2, q3⟩
  · by_cases ej : i = j
    · subst ej
      rw [List.getElem?_set_self hi] at hj
      cases hj
      exact ⟨hl', a', vs', ha, q3, upd_same, hv, r.upd (inav l' hl')⟩
    · rw [List.getElem?_set_ne ej] at hj
      have q := K.sl j s hj
      cases s with
      | un => exact q
      | sh l p => obtain ⟨q1, q2, v, q3, q4⟩ := q; exact ⟨q1, q2, v, q3, q4.upd (inav l q1)⟩
      | ow l ys =>
        obtain ⟨q1, b, us, q2, q3, q4, q5, q6⟩ := q
        have nb : b ≠ a' := fun z => ej (K.inj i j a' ha (z ▸ q2))
        exact ⟨q1, b, us, q2, q3, by rw [upd_ne nb]; exact q4, q5, q6.upd (inav l q1)⟩
/-- a slot's list is given up: it is not changed any more -/
theorem OkW.share {xs : List PV} (K : OkW C G Γ hid os σ H) (h : Γ[i]? = some (.ow l xs)) : OkW C G (Γ.set i (.sh l (.lst xs))) hid (os.set i none) σ H := by
  obtain ⟨hl, a, vs, q2, q3, q4, q5, q6⟩ := K.sl i _ h
  have hi : i < Γ.length := (List.getElem?_eq_some_iff.mp h).1
  have ma : some a ∈ os := List.mem_of_getElem? q2
  have e1 : σ.set i (some (.ref a)) = σ := by
    apply List.ext_getElem?
    intro j
    by_cases e : i = j
    · subst e
      rw [List.getElem?_set_self (by rw [K.ls]; exact hi), q3]
    · rw [List.getElem?_set_ne e]
  have K1 := K.clear i hi (some (.ref a))
  rw [e1] at K1
  refine ⟨by simp [K.lo], by simp [K.ls], K1.ext, K1.dom, K1.new, K1.inj, fun j s hj => ?_, K1.hd⟩
  by_cases e : i = j
  · subst e
    rw [List.getElem?_set_self hi] at hj
    cases hj
    refine ⟨hl, by rw [List.getElem?_set_self (by rw [K.lo]; exact hi)], .ref a, q3, ?_⟩
    unfold Rep
    refine ⟨a, vs, rfl, ?_, q4, q5, q6.weak (av_less (fun a z => mem_set_none z) l)⟩
    have nm : some a ∉ os.set i none := fun z => by
      obtain ⟨j, hj⟩ := List.getElem?_of_mem z
      obtain ⟨h1, h2⟩ := get_set_none hj
      exact h2 (K.inj j i a h1 q2)
    obtain ⟨n1, n2, n3⟩ := K.new a ma
    cases l with
    | raw => exact hl.elim
    | pa => exact fun z => z.elim n3 nm
    | fr => exact fun z => z.elim (fun z => z n1) fun z => z.elim n3 nm
  · refine K1.sl j s ?_
    rw [List.getElem?_set_ne e] at hj ⊢
    exact hj
/-- less is known of a slot -/
theorem OkW.lose (K : OkW C G Γ hid os σ H) (i : Nat) (hi : i < Γ.length) : OkW C G (Γ.set i .un) hid (os.set i none) σ H := by
  have h : σ.set i (σ[i]'(by rw [K.ls]; exact hi)) = σ := by simp
  have := K.clear i hi (σ[i]'(by rw [K.ls]; exact hi))
  rwa [h] at this
theorem OkW.hide {pins : Hid} (K : OkW C G Γ hid os σ H) (r : ∀ q ∈ pins, q.1.st ∧ Rep C.T H (av q.1 C.H0 G os) q.2.1 q.2.2) : OkW C G Γ (pins ++ hid) os σ H :=
  ⟨K.lo, K.ls, K.ext, K.dom, K.new, K.inj, K.sl, fun q hq => by
    rcases List.mem_append.mp hq with h | h
    · exact r q h
    · exact K.hd q h⟩
theorem OkW.bare {pins : Hid} (K : OkW C G Γ (pins ++ hid) os σ H) : OkW C G Γ hid os σ H :=
  ⟨K.lo, K.ls, K.ext, K.dom, K.new, K.inj, K.sl, fun q hq => K.hd q (List.mem_append_right _ hq)⟩
theorem OkW.pins {pins : Hid} (K : OkW C G Γ (pins ++ hid) os σ H) : ∀ q ∈ pins, q.1.st ∧ Rep C.T H (av q.1 C.H0 G os) q.2.1 q.2.2 := fun q hq => K.hd q (List.mem_append_left _ hq)
/-- weaker knowledge, slot by slot -/
inductive Wk : List Sl → List Sl → Prop
  | nil : Wk [] []
  | keep {s : Sl} {a b : List Sl} : Wk a b → Wk (s :: a) (s :: b)
  | lose {s : Sl} {a b : List Sl} : Wk a b → Wk (s :: a) (.un :: b)
  | share {l : Lv} {xs : List PV} {a b : List Sl} : Wk a b → Wk (.ow l xs :: a) (.sh l (.lst xs) :: b)
  | low {p : PV} {a b : List Sl} : Wk a b → Wk (.sh .fr p :: a) (.sh .pa p :: b)
  | lowo {xs : List PV} {a b : List Sl} : Wk a b → Wk (.ow .fr xs :: a) (.ow .pa xs :: b)
theorem OkW.lower {f g : Sl} (K : OkW C G Γ hid os σ H) (h : Γ[i]? = some f) (fg : ∀ os σ H, SlOk C G os H i σ f → SlOk C G os H i σ g) : OkW C G (Γ.set i g) hid os σ H := by
  have hi : i < Γ.length := (List.getElem?_eq_some_iff.mp h).1
  refine ⟨by simp [K.lo], by simp [K.ls], K.ext, K.dom, K.new, K.inj, fun j s hj => ?_, K.hd⟩
  by_cases e : i = j
  · subst e
    rw [List.getElem?_set_self hi] at hj
    cases hj
    exact fg _ _ _ (K.sl i _ h)
  · rw [List.getElem?_set_ne e] at hj
    exact K.sl j s hj
theorem lv_less' {os : List (Option Addr)} (h : Rep C.T H (av .fr C.H0 G os) p v) : Rep C.T H (av .pa C.H0 G os) p v := h.weak fun a z => .inr z
theorem Wk.ok : ∀ {a b : List Sl}, Wk a b → ∀ {pre : List Sl} {os : List (Option Addr)}, OkW C G (pre ++ a) hid os σ H → ∃ os', OkW C G (pre ++ b) hid os' σ H
  | _, _, .nil, pre, os, K => ⟨os, K⟩
  | _, _, .keep (s := s) (a := a) (b := b) w, pre, os, K => by
    have := w.ok (pre := pre ++ [s]) (os := os) (by simpa using K)
    simpa using this
  | _, _, .lose (s := s) (a := a) (b := b) w, pre, os, K => by
    have K1 := K.lose pre.length (by simp)
    have e : (pre ++ s :: a).set pre.length .un = (pre ++ [.un]) ++ a := by simp
    rw [e] at K1
    have := w.ok K1
    simpa using this
  | _, _, .share (l := l) (xs := xs) (a := a) (b := b) w, pre, os, K => by
    have K1 := K.share (i := pre.length) (l := l) (xs := xs) (by simp)
    have e : (pre ++ .ow l xs :: a).set pre.length (.sh l (.lst xs)) = (pre ++ [.sh l (.lst xs)]) ++ a := by simp
    rw [e] at K1
    have := w.ok K1
    simpa using this
  | _, _, .low (p := p) (a := a) (b := b) w, pre, os, K => by
    have K1 := K.lower (i := pre.length) (f := .sh .fr p) (g := .sh .pa p) (by simp) (fun os σ H h => by
      obtain ⟨q1, q2, v, q3, q4⟩ := h
      exact ⟨trivial, q2, v, q3, lv_less' q4⟩)
    have e : (pre ++ .sh .fr p :: a).set pre.length (.sh .pa p) = (pre ++ [.sh .pa p]) ++ a := by simp
    rw [e] at K1
    have := w.ok K1
    simpa using this
  | _, _, .lowo (xs := xs) (a := a) (b := b) w, pre, os, K => by
    have K1 := K.lower (i := pre.length) (f := .ow .fr xs) (g := .ow .pa xs) (by simp) (fun os σ H h => by
      obtain ⟨q1, a, vs, q2, q3, q4, q5, q6⟩ := h
      exact ⟨trivial, a, vs, q2, q3, q4, q5, q6.weak fun a z => .inr z⟩)
    have e : (pre ++ .ow .fr xs :: a).set pre.length (.ow .pa xs) = (pre ++ [.ow .pa xs]) ++ a := by simp
    rw [e] at K1
    have := w.ok K1
    simpa using this
theorem Wk.okw {a b : List Sl} (w : Wk a b) (K : OkW C G a hid os σ H) : ∃ os', OkW C G b hid os' σ H := w.ok (pre := []) K
theorem lv_less {os : List (Option Addr)} (h : Rep C.T H (av .fr C.H0 G os) p v) : Rep C.T H (av .pa C.H0 G os) p v := h.weak fun a z => .inr z
theorem lv_raw {os : List (Option Addr)} {l : Lv} (h : Rep C.T H (av l C.H0 G os) p v) : Rep C.T H (av .raw C.H0 G os) p v := h.weak fun a z => z.elim
end
end Pv

set_option Elab.async false
set_option linter.all false
set_option maxRecDepth 100000
namespace Pv
open PySem PySem.Spec L2
open Enc (enc)
open Encs (encs)

/-! ### what is wanted of an outcome -/
def ExRep (T : CT) (H : Hp) (x : Exc) (cls : Value) (d : Option Addr) : Prop :=
  cls = .ref (T.addr x.c) ∧ ((d = none ∧ x.vs = []) ∨ ∃ dx us, d = some dx ∧ H dx = some (.xd ((T.fld x.c).zip us)) ∧ (T.fld x.c).length = us.length ∧ Reps T H (fun _ => False) x.vs us)
def PoX (C : Cn) (σ : L2.St) (H : Hp) (x : Exc) : Prop := match C.W with
  | none => False
  | some W => ∀ cls d H', Same H H' → ExRep C.T H' x cls d → W cls d σ H'
def PoV {α : Type} [Enc α] (C : Cn) (l : Lv) (G : Addr → Prop) (os : List (Option Addr)) (σ : L2.St) (H : Hp) (Q : VK) : R α → Prop
  | .ok a => ∀ v H', Same H H' → Rep C.T H' (av l C.H0 G os) (enc a) v → Q v H'
  | .ex x => PoX C σ H x
  | .bad => False
def PoN {α : Type} [Enc α] (C : Cn) (l : Lv) (G : Addr → Prop) (os : List (Option Addr)) (σ : L2.St) (H : Hp) (Q : VK) : R (List α) → Prop
  | .ok xs => ∀ p vs H', Same H H' → H p = none → H' p = some (.lst vs) → vs.length ≤ LIM → Reps C.T H' (fun b => av l C.H0 G os b ∨ b = p) (xs.map enc) vs → Q (.ref p) H'
  | .ex x => PoX C σ H x
  | .bad => False
def PoT (C : Cn) (σ : L2.St) (H : Hp) (Q : Bool → Hp → Prop) : R Bool → Prop
  | .ok b => ∀ H', Same H H' → Q b H'
  | .ex x => PoX C σ H x
  | .bad => False
def PoA {β : Type} [Encs β] (C : Cn) (l : Lv) (G : Addr → Prop) (os : List (Option Addr)) (σ : L2.St) (H : Hp) (Q : List V → Hp → Prop) : R β → Prop
  | .ok b => ∀ vs H', Same H H' → Reps C.T H' (av l C.H0 G os) (encs b) vs → Q vs H'
  | .ex x => PoX C σ H x
  | .bad => False

def Evm {α : Type} [Enc α] (C : Cn) (Γ : List Sl) (l : Lv) (t : TE) (m : R α) : Prop := ∀ G hid os σ H Q, OkW C G Γ hid os σ H → PoV C l G os σ H Q m → t σ H Q
def EvN {α : Type} [Enc α] (C : Cn) (Γ : List Sl) (l : Lv) (t : TE) (m : R (List α)) : Prop := ∀ G hid os σ H Q, OkW C G Γ hid os σ H → PoN C l G os σ H Q m → t σ H Q
def EvT (C : Cn) (Γ : List Sl) (t : TT) (m : R Bool) : Prop := ∀ G hid os σ H Q, OkW C G Γ hid os σ H → PoT C σ H Q m → t σ H Q
def EvA {β : Type} [Encs β] (C : Cn) (Γ : List Sl) (l : Lv) (t : TA) (m : R β) : Prop := ∀ G hid os σ H Q, OkW C G Γ hid os σ H → PoA C l G os σ H Q m → t σ H Q

section
variable {C : Cn} {Γ : List Sl} {l l1 l2 : Lv} {α β γ : Type} [Enc α] [Enc β] [Enc γ] {ta tb tc t : TE} {G : Addr → Prop} {os : List (Option Addr)} {σ : L2.St} {H H' : Hp} {x : Exc}
theorem PoX.back (e : Same H H') (h : PoX C σ H x) : PoX C σ H' x := by
  unfold PoX at h ⊢
  cases hw : C.W with
  | none => rw [hw] at h; exact h
  | some W =>
    rw [hw] at h
    exact fun cls d H2 e2 r => h cls d H2 (e.trans e2) r

/-! ### sorts of values -/
theorem evm_pa {m : R α} (h : Evm C Γ .fr t m) : Evm C Γ .pa t m := fun G hid os σ H Q K q => h G hid os σ H Q K (by
  cases m with
  | ok a => exact fun v H' e r => q v H' e (lv_less r)
  | ex x => exact q
  | bad => exact q)
theorem evm_raw {m : R α} (h : Evm C Γ l t m) : Evm C Γ .raw t m := fun G hid os σ H Q K q => h G hid os σ H Q K (by
  cases m with
  | ok a => exact fun v H' e r => q v H' e (lv_raw r)
  | ex x => exact q
  | bad => exact q)
theorem evm_flat [Flat α] {m : R α} (h : Evm C Γ l t m) : Evm C Γ l2 t m := fun G hid os σ H Q K q => h G hid os σ H Q K (by
  cases m with
  | ok a => exact fun v H' e r => q v H' e r.flat
  | ex x => exact q
  | bad => exact q)
theorem evn_pa {m : R (List α)} (h : EvN C Γ .fr t m) : EvN C Γ .pa t m := fun G hid os σ H Q K q => h G hid os σ H Q K (by
  cases m with
  | ok a => exact fun p vs H' e n hp hz r => q p vs H' e n hp hz (r.weak fun a z => z.imp .inr id)
  | ex x => exact q
  | bad => exact q)
theorem evn_flat [Flat α] {m : R (List α)} (h : EvN C Γ l t m) : EvN C Γ l2 t m := fun G hid os σ H Q K q => h G hid os σ H Q K (by
  cases m with
  | ok a => exact fun p vs H' e n hp hz r => q p vs H' e n hp hz r.flat
  | ex x => exact q
  | bad => exact q)
theorem rep_lst {T : CT} {xs : List α} {p : Addr} {vs : List V} (g : ¬ G p) (h : H p = some (.lst vs)) (hz : vs.length ≤ LIM) (r : Reps T H G (xs.map enc) vs) : Rep T H G (enc xs) (.ref p) := by
  show Rep T H G (.lst (xs.map enc)) (.ref p)
  unfold Rep
  exact ⟨p, vs, rfl, g, h, hz, r⟩
theorem evn_ev {m : R (List α)} (h : EvN C Γ l t m) : Evm C Γ l t m := fun G hid os σ H Q K q => h G hid os σ H Q K (by
  cases m with
  | ok a => exact fun p vs H' e n hp hz r => q _ H' e (rep_lst (fun z => (K.fresh n l) z) hp hz (r.weak fun a z => .inl z))
  | ex x => exact q
  | bad => exact q)
theorem lst_rep {T : CT} {xs : List α} {v : V} (r : Rep T H G (enc xs) v) : ∃ p vs, v = .ref p ∧ ¬ G p ∧ H p = some (.lst vs) ∧ vs.length ≤ LIM ∧ Reps T H G (xs.map enc) vs := by
  have r : Rep T H G (.lst (xs.map enc)) v := r
  unfold Rep at r
  exact r
theorem int_rep {T : CT} {i : Int} {v : V} (r : Rep T H G (enc i) v) : v = .int i := r
theorem bl_rep {T : CT} {b : Bool} {v : V} (r : Rep T H G (enc b) v) : v = .bl b := r
theorem str_rep {T : CT} {x : Str} {v : V} (r : Rep T H G (enc x) v) : v = .str x ∧ x.length ≤ LIM ∧ PyData.canLay0 (.str x) = true := r

/-! ### names, constants -/
theorem evm_var {i : Nat} {a : α} (h : Γ[i]? = some (.sh l (enc a))) : Evm C Γ l (tVar i) (.ok a) := fun G hid os σ H Q K q => by
  obtain ⟨_, _, v, e, r⟩ := K.sl i _ h
  exact ⟨v, e, q v H (Same.refl H) r⟩
theorem evm_own {i : Nat} {xs : List α} (h : Γ[i]? = some (.ow l (xs.map enc))) : Evm C Γ .raw (tVar i) (.ok xs) := fun G hid os σ H Q K q => by
  obtain ⟨_, a, vs, _, e, ha, hz, r⟩ := K.sl i _ h
  exact ⟨_, e, q _ H (Same.refl H) (rep_lst id ha hz (r.weak fun a z => z.elim))⟩
theorem evm_int {i : Int} : Evm C Γ .fr (tC (.int i)) (.ok i) := fun G hid os σ H Q K q => q _ H (Same.refl H) (by rfl)
theorem evm_bl {i : Bool} : Evm C Γ .fr (tC (.bl i)) (.ok i) := fun G hid os σ H Q K q => q _ H (Same.refl H) (by rfl)
theorem evm_non : Evm C Γ .fr (tC .non) (.ok ()) := fun G hid os σ H Q K q => q _ H (Same.refl H) (by rfl)
theorem evm_str {x : Str} (hx : x.length ≤ LIM := by decide +kernel) (ho : PyData.canLay0 (.str x) = true := by decide +kernel) : Evm C Γ .fr (tC (.str x)) (.ok x) := fun G hid os σ H Q K q => q _ H (Same.refl H) ⟨rfl, hx, ho⟩

/-! ### operations by values: flat results -/
theorem raw_rep {T : CT} {p : PV} {v : V} (r : Rep T H G p v) : Rep T H (fun _ => False) p v := r.weak fun a z => z.elim
/-- r, asked for values that stand for a and b, gives what o says, a flat value; it changes nothing -/
def RvF (T : CT) (r : R2) (a : α) (b : β) (o : Option γ) : Prop := ∀ H x y Q c, Rep T H (fun _ => False) (enc a) x → Rep T H (fun _ => False) (enc b) y → o = some c →
  (∀ v, Rep T H (fun _ => False) (enc c) v → Q v H) → r x y H Q
theorem evm_op [Flat γ] {r : R2} {m1 : R α} {m2 : R β} {f : α → β → Option γ} (ha : Evm C Γ l1 ta m1) (hb : Evm C Γ l2 tb m2) (hr : ∀ a b, m1 = .ok a → m2 = .ok b → RvF C.T r a b (f a b)) :
    Evm C Γ .fr (tOp r ta tb) (m1.bind fun a => m2.bind fun b => R.of (f a b)) := fun G hid os σ H Q K q => by
  refine ha G hid os σ H _ K ?_
  cases e1 : m1 with
  | bad => rw [e1] at q; exact q
  | ex x => rw [e1] at q; exact q
  | ok a =>
    rw [e1] at q
    intro x H1 s1 r1
    refine hb G hid os σ H1 _ (K.same s1) ?_
    cases e2 : m2 with
    | bad => rw [e2] at q; exact q
    | ex x => rw [e2] at q; exact PoX.back s1 q
    | ok b =>
      rw [e2] at q
      intro y H2 s2 r2
      have q : PoV C .fr G os σ H Q (R.of (f a b)) := q
      cases e3 : f a b with
      | none => rw [e3] at q; exact q.elim
      | some c =>
        rw [e3] at q
        exact hr a b e1 e2 H2 x y Q c (raw_rep (r1.same s2)) (raw_rep r2) e3 fun v r => q v H2 (s1.trans s2) r.flat
theorem evm_opT [Flat γ] {r : R2} {m1 : R α} {m2 : R β} {f : α → β → γ} (ha : Evm C Γ l1 ta m1) (hb : Evm C Γ l2 tb m2) (hr : ∀ a b, RvF C.T r a b (some (f a b))) :
    Evm C Γ .fr (tOp r ta tb) (m1.bind fun a => m2.bind fun b => .ok (f a b)) := evm_op (f := fun a b => some (f a b)) ha hb fun a b _ _ => hr a b
/-- the same where both sides are known -/
theorem evp_op [Flat γ] {r : R2} {a : α} {b : β} {o : Option γ} (ha : Evm C Γ l1 ta (.ok a)) (hb : Evm C Γ l2 tb (.ok b)) (hr : RvF C.T r a b o) : Evm C Γ .fr (tOp r ta tb) (R.of o) :=
  evm_op (f := fun _ _ => o) ha hb fun a' b' e1 e2 => by cases e1; cases e2; exact hr
theorem evp_opT [Flat γ] {r : R2} {a : α} {b : β} {c : γ} (ha : Evm C Γ l1 ta (.ok a)) (hb : Evm C Γ l2 tb (.ok b)) (hr : RvF C.T r a b (some c)) : Evm C Γ .fr (tOp r ta tb) (.ok c) := evp_op (o := some c) ha hb hr

section
variable {T : CT}
theorem rv_II {f : Int → Int → Int} {a b : Int} : RvF T (rI0 fun i j => .int (f i j)) a b (some (f a b)) := fun H x y Q c hx hy e q => by
  cases e
  exact ⟨a, b, hx, hy, q _ rfl⟩
theorem rv_IB {f : Int → Int → Bool} {a b : Int} : RvF T (rI0 fun i j => .bl (f i j)) a b (some (f a b)) := fun H x y Q c hx hy e q => by
  cases e
  exact ⟨a, b, hx, hy, q _ rfl⟩
def optIf {α : Type} (c : Prop) [Decidable c] (a : α) : Option α := if c then some a else none
theorem optIf_some {α : Type} {c : Prop} [Decidable c] {a b : α} (h : optIf c a = some b) : c ∧ a = b := by
  unfold optIf at h
  split at h
  · exact ⟨by assumption, Option.some.inj h⟩
  · cases h
theorem optIf_pos {α : Type} {c : Prop} [Decidable c] {a : α} (h : c) : optIf c a = some a := if_pos h
theorem rv_IIc {f : Int → Int → Int} {P : Int → Int → Prop} {a b : Int} [d : Decidable (P a b)] : RvF T (rI P fun i j => .int (f i j)) a b (optIf (P a b) (f a b)) := fun H x y Q c hx hy e q => by
  obtain ⟨e1, e2⟩ := optIf_some e
  subst e2
  exact ⟨a, b, hx, hy, e1, q _ rfl⟩
end
end
end Pv

set_option Elab.async false
set_option linter.all false
set_option maxRecDepth 100000
namespace Pv
open PySem PySem.Spec L2
open Enc (enc)
open Encs (encs)

/-! ### data -/
mutual
def okD : PV → Bool
  | .non => true | .bl _ => true | .int _ => true | .str _ => true
  | .lst xs => okDs xs | .tup xs => okDs xs
  | .obj _ _ => false | .scr _ => false
def okDs : List PV → Bool
  | [] => true
  | x :: xs => okD x && okDs xs
end
mutual
def toD : PV → PyData
  | .non => .none | .bl b => .bool b | .int i => .int i | .str x => .str x
  | .lst xs => .list (toDs xs) | .tup xs => .tuple (toDs xs)
  | .obj _ _ => .none | .scr _ => .none
def toDs : List PV → List PyData
  | [] => []
  | x :: xs => toD x :: toDs xs
end
mutual
def dep : PV → Nat
  | .lst xs => deps xs + 1 | .tup xs => deps xs + 1
  | _ => 0
def deps : List PV → Nat
  | [] => 0
  | x :: xs => max (dep x) (deps xs)
end
mutual
theorem lay_of {T : CT} {H : Hp} {G : Addr → Prop} : ∀ (p : PV) (v : V), okD p = true → Rep T H G p v → (toD p).canLay0 = true ∧ (toD p).depth = dep p
  | .non, _, _, _ => ⟨rfl, rfl⟩
  | .bl _, _, _, _ => ⟨rfl, rfl⟩
  | .int _, _, _, _ => ⟨rfl, rfl⟩
  | .str x, _, _, h => ⟨h.2.2, rfl⟩
  | .lst xs, v, o, h => by
    unfold Rep at h
    obtain ⟨a, vs, e, _, r, _, q⟩ := h
    have h := lays_of xs vs o q
    simp only [toD, PyData.canLay0, PyData.depth, dep]
    exact ⟨h.1, by rw [h.2]⟩
  | .tup xs, v, o, h => by
    unfold Rep at h
    obtain ⟨a, vs, e, _, r, _, q⟩ := h
    have h := lays_of xs vs o q
    simp only [toD, PyData.canLay0, PyData.depth, dep]
    exact ⟨h.1, by rw [h.2]⟩
theorem lays_of {T : CT} {H : Hp} {G : Addr → Prop} : ∀ (ps : List PV) (vs : List V), okDs ps = true → Reps T H G ps vs → PyData.canLayAll0 (toDs ps) = true ∧ PyData.depthAll (toDs ps) = deps ps
  | [], _, _, _ => ⟨rfl, rfl⟩
  | x :: xs, vs, o, h => by
    unfold Reps at h
    obtain ⟨v, r, e, h1, h2⟩ := h
    simp only [okDs, Bool.and_eq_true] at o
    have h1 := lay_of x v o.1 h1
    have h2 := lays_of xs r o.2 h2
    simp only [toDs, PyData.canLayAll0, PyData.depthAll, deps, Bool.and_eq_true]
    exact ⟨⟨h1.1, h2.1⟩, by rw [h1.2, h2.2]⟩
end
mutual
theorem dp_of {T : CT} {K : PySem.W.Frag} {H : Hp} {G : Addr → Prop} : ∀ (p : PV) (v : V), okD p = true → Rep T H G p v → Dp K H v (toD p)
  | .non, v, _, h => by have h : v = .non := h; rw [h]; exact .non
  | .bl b, v, _, h => by have h : v = .bl b := h; rw [h]; exact .bl b
  | .int i, v, _, h => by have h : v = .int i := h; rw [h]; exact .int i
  | .str x, v, _, h => by have h := h.1; rw [h]; exact .str x
  | .lst xs, v, o, h => by
    unfold Rep at h
    obtain ⟨a, vs, e, _, r, _, q⟩ := h
    rw [e]
    exact .lst (.inl (.inl r)) (dps_of xs vs o q)
  | .tup xs, v, o, h => by
    unfold Rep at h
    obtain ⟨a, vs, e, _, r, _, q⟩ := h
    rw [e]
    exact .tup (.inl (.inl r)) (dps_of xs vs o q)
theorem dps_of {T : CT} {K : PySem.W.Frag} {H : Hp} {G : Addr → Prop} : ∀ (ps : List PV) (vs : List V), okDs ps = true → Reps T H G ps vs → DpAll K H vs (toDs ps)
  | [], vs, _, h => by unfold Reps at h; rw [h]; exact .nil
  | x :: xs, vs, o, h => by
    unfold Reps at h
    obtain ⟨v, r, e, h1, h2⟩ := h
    simp only [okDs, Bool.and_eq_true] at o
    rw [e]
    exact .cons (dp_of x v o.1 h1) (dps_of xs r o.2 h2)
end
theorem shaped_of {T : CT} {H : Hp} {G : Addr → Prop} {p : PV} {v : V} (o : okD p = true) (d : dep p ≤ 64) (r : Rep T H G p v) : SeqAt.shaped (toD p) = true := by
  have h := lay_of p v o r
  show ((toD p).canLay0 && decide ((toD p).depth ≤ 64)) = true
  rw [Bool.and_eq_true]
  exact ⟨h.1, decide_eq_true (by rw [h.2]; exact d)⟩
/-- what == tells of two values -/
def eqP (p q : PV) : Bool := PyData.eqv (toD p) (toD q)
/-- values that == may look into -/
class Dta (α : Type) [Enc α] where
  n : Nat
  ok : ∀ a : α, okD (enc a) = true
  dp : ∀ a : α, dep (enc a) ≤ n
class Dtas (α : Type) [Encs α] where
  n : Nat
  ok : ∀ a : α, okDs (encs a) = true
  dp : ∀ a : α, deps (encs a) ≤ n
instance : Dta Int := ⟨0, fun _ => rfl, fun _ => Nat.le_refl _⟩
instance : Dta Bool := ⟨0, fun _ => rfl, fun _ => Nat.le_refl _⟩
instance : Dta Unit := ⟨0, fun _ => rfl, fun _ => Nat.le_refl _⟩
instance : Dta Str := ⟨0, fun _ => rfl, fun _ => Nat.le_refl _⟩
instance {α : Type} [Enc α] [Dta α] : Dta (Option α) := ⟨Dta.n α, fun a => by cases a with
  | none => rfl
  | some a => exact Dta.ok a, fun a => by cases a with
  | none => exact Nat.zero_le _
  | some a => exact Dta.dp a⟩
theorem okDs_map {α : Type} [Enc α] [Dta α] : ∀ xs : List α, okDs (xs.map enc) = true
  | [] => rfl
  | x :: xs => by rw [List.map_cons]; simp only [okDs, Bool.and_eq_true]; exact ⟨Dta.ok x, okDs_map xs⟩
theorem deps_map {α : Type} [Enc α] [Dta α] : ∀ xs : List α, deps (xs.map enc) ≤ Dta.n α
  | [] => Nat.zero_le _
  | x :: xs => by rw [List.map_cons]; exact Nat.max_le.mpr ⟨Dta.dp x, deps_map xs⟩
instance {α : Type} [Enc α] [Dta α] : Dta (List α) := ⟨Dta.n α + 1, fun xs => okDs_map xs, fun xs => Nat.succ_le_succ (deps_map xs)⟩
instance : Dtas Unit := ⟨0, fun _ => rfl, fun _ => Nat.le_refl _⟩
instance {α β : Type} [Enc α] [Encs β] [Dta α] [Dtas β] : Dtas (α × β) := ⟨max (Dta.n α) (Dtas.n β), fun x => by
  show (okD (enc x.1) && okDs (encs x.2)) = true
  rw [Bool.and_eq_true]
  exact ⟨Dta.ok x.1, Dtas.ok x.2⟩, fun x => by
  show max (dep (enc x.1)) (deps (encs x.2)) ≤ _
  have h1 := Dta.dp x.1
  have h2 := Dtas.dp x.2
  omega⟩
instance {α : Type} [Encs α] [Dtas α] : Dta (Tp α) := ⟨Dtas.n α + 1, fun x => Dtas.ok x.t, fun x => Nat.succ_le_succ (Dtas.dp x.t)⟩

section
variable {T : CT} {α β γ : Type} [Enc α] [Enc β] [Enc γ] {K : PySem.W.Frag}
theorem rv_eqI {a b : Int} : RvF T rEq a b (some (decide (a = b))) := fun H x y Q c hx hy e q => by
  cases e
  rw [int_rep hx, int_rep hy]
  refine ⟨rfl, q _ ?_⟩
  show V.bl _ = V.bl _
  simp
theorem rv_neI {a b : Int} : RvF T rNe a b (some (!decide (a = b))) := fun H x y Q c hx hy e q => by
  cases e
  rw [int_rep hx, int_rep hy]
  refine ⟨rfl, q _ ?_⟩
  show V.bl _ = V.bl _
  simp
theorem rv_eqB {a b : Bool} : RvF T rEq a b (some (decide (a = b))) := fun H x y Q c hx hy e q => by
  cases e
  rw [bl_rep hx, bl_rep hy]
  refine ⟨rfl, q _ ?_⟩
  show V.bl _ = V.bl _
  simp
theorem rv_neB {a b : Bool} : RvF T rNe a b (some (!decide (a = b))) := fun H x y Q c hx hy e q => by
  cases e
  rw [bl_rep hx, bl_rep hy]
  refine ⟨rfl, q _ ?_⟩
  show V.bl _ = V.bl _
  simp
theorem rv_eqS {a b : Str} : RvF T rEq a b (some (decide (a = b))) := fun H x y Q c hx hy e q => by
  cases e
  rw [(str_rep hx).1, (str_rep hy).1]
  refine ⟨rfl, q _ ?_⟩
  show V.bl _ = V.bl _
  simp
theorem rv_neS {a b : Str} : RvF T rNe a b (some (!decide (a = b))) := fun H x y Q c hx hy e q => by
  cases e
  rw [(str_rep hx).1, (str_rep hy).1]
  refine ⟨rfl, q _ ?_⟩
  show V.bl _ = V.bl _
  simp
theorem rv_eqD [Dta α] [Dta β] {a : α} {b : β} (h1 : Dta.n α ≤ 64 := by decide) (h2 : Dta.n β ≤ 64 := by decide) : RvF T (rEqD K) a b (some (eqP (enc a) (enc b))) := fun H x y Q c hx hy e q => by
  cases e
  exact ⟨_, _, dp_of _ _ (Dta.ok a) hx, dp_of _ _ (Dta.ok b) hy, shaped_of (Dta.ok a) (Nat.le_trans (Dta.dp a) h1) hx, shaped_of (Dta.ok b) (Nat.le_trans (Dta.dp b) h2) hy, q _ rfl⟩
theorem rv_neD [Dta α] [Dta β] {a : α} {b : β} (h1 : Dta.n α ≤ 64 := by decide) (h2 : Dta.n β ≤ 64 := by decide) : RvF T (rNeD K) a b (some (!eqP (enc a) (enc b))) := fun H x y Q c hx hy e q => by
  cases e
  exact ⟨_, _, dp_of _ _ (Dta.ok a) hx, dp_of _ _ (Dta.ok b) hy, shaped_of (Dta.ok a) (Nat.le_trans (Dta.dp a) h1) hx, shaped_of (Dta.ok b) (Nat.le_trans (Dta.dp b) h2) hy, q _ rfl⟩
theorem rv_inD [Dta α] [Dta β] {a : α} {b : List β} (h1 : Dta.n α ≤ 64 := by decide) (h2 : Dta.n (List β) ≤ 64 := by decide) : RvF T (rInD K) a b (some ((b.map enc).any fun z => eqP z (enc a))) := fun H x y Q c hx hy e q => by
  cases e
  have e2 : ∀ zs : List PV, ((toDs zs).any fun z => PyData.eqv z (toD (enc a))) = zs.any fun z => eqP z (enc a) := fun zs => by
    induction zs with
    | nil => rfl
    | cons z zs ih => simp only [toDs, List.any_cons, ih, eqP]
  refine ⟨_, _, dp_of _ _ (Dta.ok a) hx, dp_of (.lst (b.map enc)) _ (Dta.ok b) hy, shaped_of (Dta.ok a) (Nat.le_trans (Dta.dp a) h1) hx, shaped_of (p := .lst (b.map enc)) (Dta.ok b) (Nat.le_trans (Dta.dp b) h2) hy, ?_⟩
  rw [e2]
  exact q _ rfl
theorem rv_notInD [Dta α] [Dta β] {a : α} {b : List β} (h1 : Dta.n α ≤ 64 := by decide) (h2 : Dta.n (List β) ≤ 64 := by decide) : RvF T (rNotInD K) a b (some (!(b.map enc).any fun z => eqP z (enc a))) := fun H x y Q c hx hy e q => by
  cases e
  have e2 : ∀ zs : List PV, ((toDs zs).any fun z => PyData.eqv z (toD (enc a))) = zs.any fun z => eqP z (enc a) := fun zs => by
    induction zs with
    | nil => rfl
    | cons z zs ih => simp only [toDs, List.any_cons, ih, eqP]
  refine ⟨_, _, dp_of _ _ (Dta.ok a) hx, dp_of (.lst (b.map enc)) _ (Dta.ok b) hy, shaped_of (Dta.ok a) (Nat.le_trans (Dta.dp a) h1) hx, shaped_of (p := .lst (b.map enc)) (Dta.ok b) (Nat.le_trans (Dta.dp b) h2) hy, ?_⟩
  rw [e2]
  exact q _ rfl
end
end Pv

set_option Elab.async false
set_option linter.all false
set_option maxRecDepth 100000
namespace Pv
open PySem PySem.Spec L2
open Enc (enc)
open Encs (encs)

section
variable {C : Cn} {Γ : List Sl} {l l1 l2 : Lv} {α β γ : Type} [Enc α] [Enc β] [Enc γ] {ta tb tc t : TE} {G : Addr → Prop} {os : List (Option Addr)} {σ : L2.St} {H H' : Hp} {x : Exc} {K : PySem.W.Frag} {T : CT}
theorem rd_seqL {K : PySem.W.Frag} {a : Addr} {vs : List V} (h : H a = some (.lst vs)) : SqL K H a vs := .inl (.inl h)
theorem rd_seqT {K : PySem.W.Frag} {a : Addr} {vs : List V} (h : H a = some (.tup vs)) : SqT K H a vs := .inl (.inl h)

/-! ### one operand -/
/-- what follows an operand: from its value x (which stands for a) in a heap H -/
def RvU {β : Type} [Enc β] (C : Cn) (Γ : List Sl) (l l' : Lv) (r : V → Hp → VK → Prop) (a : α) (m : R β) : Prop :=
  ∀ G hid os σ H Q x, OkW C G Γ hid os σ H → Rep C.T H (av l C.H0 G os) (enc a) x → PoV C l' G os σ H Q m → r x H Q
theorem evm_un {r : V → Hp → VK → Prop} {m : R α} {k : α → R β} {l' : Lv} (ha : Evm C Γ l ta m) (hr : ∀ a, m = .ok a → RvU C Γ l l' r a (k a)) : Evm C Γ l' (tUn r ta) (m.bind k) := fun G hid os σ H Q Kw q => by
  refine ha G hid os σ H _ Kw ?_
  cases e : m with
  | bad => rw [e] at q; exact q
  | ex x => rw [e] at q; exact q
  | ok a =>
    rw [e] at q
    intro x H1 s1 r1
    have q : PoV C l' G os σ H Q (k a) := q
    refine hr a e G hid os σ H1 Q x (Kw.same s1) r1 ?_
    cases e2 : k a with
    | bad => rw [e2] at q; exact q
    | ex x => rw [e2] at q; exact PoX.back s1 q
    | ok b => rw [e2] at q; exact fun v H2 s2 r2 => q v H2 (s1.trans s2) r2
theorem ru_neg {a : Int} : RvU C Γ l .fr (rU fun i => .int (-i)) a (.ok (-a)) := fun G hid os σ H Q x Kw r q => ⟨a, r, q _ H (Same.refl H) rfl⟩

/-! ### an item: x[i] -/
theorem evm_op2 {r : R2} {m1 : R α} {m2 : R β} {k : α → β → R γ} {l' : Lv} (ha : Evm C Γ l1 ta m1) (hb : Evm C Γ l2 tb m2)
    (hr : ∀ a b, ∀ G hid os σ H Q x y, OkW C G Γ hid os σ H → Rep C.T H (av l1 C.H0 G os) (enc a) x → Rep C.T H (av l2 C.H0 G os) (enc b) y → PoV C l' G os σ H Q (k a b) → r x y H Q) :
    Evm C Γ l' (tOp r ta tb) (m1.bind fun a => m2.bind fun b => k a b) := fun G hid os σ H Q Kw q => by
  refine ha G hid os σ H _ Kw ?_
  cases e1 : m1 with
  | bad => rw [e1] at q; exact q
  | ex x => rw [e1] at q; exact q
  | ok a =>
    rw [e1] at q
    intro x H1 s1 r1
    refine hb G hid os σ H1 _ (Kw.same s1) ?_
    cases e2 : m2 with
    | bad => rw [e2] at q; exact q
    | ex x => rw [e2] at q; exact PoX.back s1 q
    | ok b =>
      rw [e2] at q
      intro y H2 s2 r2
      have q : PoV C l' G os σ H Q (k a b) := q
      refine hr a b G hid os σ H2 Q x y (Kw.same (s1.trans s2)) (r1.same s2) r2 ?_
      cases e3 : k a b with
      | bad => rw [e3] at q; exact q
      | ex x => rw [e3] at q; exact PoX.back (s1.trans s2) q
      | ok c => rw [e3] at q; exact fun v H3 s3 r3 => q v H3 ((s1.trans s2).trans s3) r3
theorem atI_map {xs : List α} {i : Int} {a : α} (h : atI xs i = some a) : atI (xs.map enc) i = some (enc a) := by
  unfold atI at h ⊢
  rw [List.length_map]
  cases e : ixN xs.length i with
  | none => rw [e] at h; cases h
  | some j =>
    rw [e] at h
    have h : xs[j]? = some a := h
    show (xs.map enc)[j]? = some (enc a)
    rw [List.getElem?_map, h]
    rfl
theorem Reps.atI {ps : List PV} {vs : List V} {i : Int} {p : PV} (r : Reps T H G ps vs) (h : atI ps i = some p) : ∃ v, L2.atI vs i = some v ∧ Rep T H G p v := by
  unfold L2.atI at h ⊢
  rw [← r.len]
  cases e : ixN ps.length i with
  | none => rw [e] at h; cases h
  | some j =>
    rw [e] at h
    exact r.get h
/-- the item of a list -/
theorem evm_ix {m1 : R (List α)} {m2 : R Int} (ha : Evm C Γ l ta m1) (hb : Evm C Γ l2 tb m2) : Evm C Γ l (tOp (rIxL K) ta tb) (m1.bind fun xs => m2.bind fun i => R.of (atI xs i)) :=
  evm_op2 ha hb fun xs i G hid os σ H Q x y Kw rx ry q => by
    obtain ⟨p, vs, e, _, hp, _, rs⟩ := lst_rep rx
    cases e1 : atI xs i with
    | none => rw [e1] at q; exact q.elim
    | some a =>
      rw [e1] at q
      obtain ⟨v, h1, h2⟩ := rs.atI (atI_map e1)
      exact ⟨p, vs, i, v, e, ry, rd_seqL hp, h1, q v H (Same.refl H) h2⟩
/-- the item of an own list -/
theorem evm_ixo {i : Nat} {xs : List α} {m2 : R Int} (h : Γ[i]? = some (.ow l (xs.map enc))) (hb : Evm C Γ l2 tb m2) : Evm C Γ l (tOp (rIxL K) (tVar i) tb) (m2.bind fun i => R.of (atI xs i)) := fun G hid os σ H Q Kw q => by
  obtain ⟨_, a, vs, _, e, ha, hz, r⟩ := Kw.sl i _ h
  refine ⟨_, e, hb G hid os σ H _ Kw ?_⟩
  cases e2 : m2 with
  | bad => rw [e2] at q; exact q
  | ex x => rw [e2] at q; exact q
  | ok b =>
    rw [e2] at q
    intro y H2 s2 r2
    have q : PoV C l G os σ H Q (R.of (atI xs b)) := q
    cases e1 : atI xs b with
    | none => rw [e1] at q; exact q.elim
    | some c =>
      rw [e1] at q
      obtain ⟨v, h1, h2⟩ := (r.same s2).atI (atI_map e1)
      exact ⟨a, vs, b, v, rfl, r2, rd_seqL (s2 _ _ ha), h1, q v H2 s2 h2⟩
/-- the item of the script -/
theorem evm_ixs {m1 : R Scr} {m2 : R Int} (ha : Evm C Γ l ta m1) (hb : Evm C Γ l2 tb m2) : Evm C Γ .fr (tOp (rIxL C.T.K) ta tb) (m1.bind fun s => m2.bind fun i => R.of (atI s.xs i)) :=
  evm_op2 ha hb fun s i G hid os σ H Q x y Kw rx ry q => by
    obtain ⟨p, e, h⟩ := rx
    have hs : SqL C.T.K H p (s.xs.map V.int) := by
      rcases h with ⟨h, _⟩ | h
      · exact .inl h
      · rcases h with (h | ⟨o, h⟩) | h
        · cases h
        · cases h
        · exact .inr h
    cases e1 : atI s.xs i with
    | none => rw [e1] at q; exact q.elim
    | some a =>
      rw [e1] at q
      refine ⟨p, _, i, .int a, e, ry, hs, ?_, q _ H (Same.refl H) rfl⟩
      unfold atI at e1 ⊢
      rw [List.length_map]
      cases e2 : ixN s.xs.length i with
      | none => rw [e2] at e1; cases e1
      | some j =>
        rw [e2] at e1
        have e1 : s.xs[j]? = some a := e1
        show (s.xs.map V.int)[j]? = _
        rw [List.getElem?_map, e1]
        rfl
/-- a place of a tuple, known -/
theorem evm_ixt {δ : Type} [Encs δ] {m1 : R (Tp δ)} {g : δ → α} {j : Nat} (ha : Evm C Γ l ta m1) (hj : ∀ d : δ, (encs d)[j]? = some (enc (g d))) : Evm C Γ l (tOp (rIxT K) ta (tC (.int (j : Int)))) (m1.bind fun s => .ok (g s.t)) := fun G hid os σ H Q Kw q => by
  refine ha G hid os σ H _ Kw ?_
  cases e1 : m1 with
  | bad => rw [e1] at q; exact q
  | ex x => rw [e1] at q; exact q
  | ok a =>
    rw [e1] at q
    intro x H1 s1 r1
    have r1 : Rep C.T H1 _ (.tup (encs a.t)) x := r1
    unfold Rep at r1
    obtain ⟨p, vs, e, _, hp, _, rs⟩ := r1
    obtain ⟨v, h1, h2⟩ := rs.get (hj a.t)
    exact ⟨p, vs, (j : Int), v, e, rfl, rd_seqT hp, atI_nat h1, q v H1 s1 h2⟩

/-! ### arguments -/
theorem eva_nil : EvA C Γ l tNil (.ok ()) := fun G hid os σ H Q Kw q => q [] H (Same.refl H) reps_nil
theorem eva_cons {β : Type} [Encs β] {ta : TE} {tr : TA} {m : R α} {m2 : R β} (h : Evm C Γ l ta m) (hr : EvA C Γ l tr m2) : EvA C Γ l (tCons ta tr) (m.bind fun a => m2.bind fun b => .ok (a, b)) := fun G hid os σ H Q Kw q => by
  refine h G hid os σ H _ Kw ?_
  cases e1 : m with
  | bad => rw [e1] at q; exact q
  | ex x => rw [e1] at q; exact q
  | ok a =>
    rw [e1] at q
    intro x H1 s1 r1
    refine hr G hid os σ H1 _ (Kw.same s1) ?_
    cases e2 : m2 with
    | bad => rw [e2] at q; exact q
    | ex x => rw [e2] at q; exact PoX.back s1 q
    | ok b =>
      rw [e2] at q
      intro vs H2 s2 r2
      exact q (x :: vs) H2 (s1.trans s2) (reps_cons (r1.same s2) r2)
/-- a call of a built-in whose result is flat and that changes nothing -/
def RaF {β : Type} [Encs β] (T : CT) (r : List V → Hp → VK → Prop) (b : β) (o : Option γ) : Prop := ∀ H xs Q c, Reps T H (fun _ => False) (encs b) xs → o = some c → (∀ v, Rep T H (fun _ => False) (enc c) v → Q v H) → r xs H Q
theorem evm_cb {β : Type} [Encs β] [Flat γ] {r : List V → Hp → VK → Prop} {ta : TA} {m : R β} {f : β → Option γ} (ha : EvA C Γ l ta m) (hr : ∀ b, RaF C.T r b (f b)) : Evm C Γ .fr (tCB r ta) (m.bind fun b => R.of (f b)) := fun G hid os σ H Q Kw q => by
  refine ha G hid os σ H _ Kw ?_
  cases e1 : m with
  | bad => rw [e1] at q; exact q
  | ex x => rw [e1] at q; exact q
  | ok b =>
    rw [e1] at q
    intro vs H1 s1 r1
    have q : PoV C .fr G os σ H Q (R.of (f b)) := q
    cases e2 : f b with
    | none => rw [e2] at q; exact q.elim
    | some c =>
      rw [e2] at q
      exact hr b H1 vs Q c (r1.weak fun a z => z.elim) e2 fun v r => q v H1 s1 r.flat
theorem evm_cbT {β : Type} [Encs β] [Flat γ] {r : List V → Hp → VK → Prop} {ta : TA} {m : R β} {f : β → γ} (ha : EvA C Γ l ta m) (hr : ∀ b, RaF C.T r b (some (f b))) : Evm C Γ .fr (tCB r ta) (m.bind fun b => .ok (f b)) := evm_cb (f := fun b => some (f b)) ha hr
theorem reps1 {vs : List V} (r : Reps T H G (encs ((a, ()) : α × Unit)) vs) : ∃ v, vs = [v] ∧ Rep T H G (enc a) v := by
  obtain ⟨v, rr, e, h1, h2⟩ := r
  have h2 : rr = [] := h2
  exact ⟨v, by rw [e, h2], h1⟩
theorem reps2 {a : α} {b : β} {vs : List V} (r : Reps T H G (encs ((a, b, ()) : α × β × Unit)) vs) : ∃ v u, vs = [v, u] ∧ Rep T H G (enc a) v ∧ Rep T H G (enc b) u := by
  obtain ⟨v, rr, e, h1, h2⟩ := r
  obtain ⟨u, e2, h3⟩ := reps1 (a := b) h2
  exact ⟨v, u, by rw [e, e2], h1, h3⟩
theorem ra_abs {b : Int × Unit} : RaF T (fun xs H Q => ∃ i, xs = [.int i] ∧ Q (.int (if i < 0 then -i else i)) H) b (some (if b.1 < 0 then -b.1 else b.1)) := fun H xs Q c r e q => by
  obtain ⟨v, e1, e2⟩ := reps1 (a := b.1) r
  cases e
  exact ⟨b.1, by rw [e1, int_rep e2], q _ rfl⟩
theorem ra_int {b : Int × Unit} : RaF T (fun xs H Q => (∃ i, xs = [.int i] ∧ Q (.int i) H) ∨ ∃ k, xs = [.bl k] ∧ Q (.int (if k then 1 else 0)) H) b (some b.1) := fun H xs Q c r e q => by
  obtain ⟨v, e1, e2⟩ := reps1 (a := b.1) r
  cases e
  exact .inl ⟨b.1, by rw [e1, int_rep e2], q _ rfl⟩
theorem ra_intB {b : Bool × Unit} : RaF T (fun xs H Q => (∃ i, xs = [.int i] ∧ Q (.int i) H) ∨ ∃ k, xs = [.bl k] ∧ Q (.int (if k then 1 else 0)) H) b (some (if b.1 then (1 : Int) else 0)) := fun H xs Q c r e q => by
  obtain ⟨v, e1, e2⟩ := reps1 (a := b.1) r
  cases e
  exact .inr ⟨b.1, by rw [e1, bl_rep e2], q _ rfl⟩
theorem ra_max2 {b : Int × Int × Unit} : RaF T (fun xs H Q => ∃ i j, xs = [.int i, .int j] ∧ Q (.int (if j > i then j else i)) H) b (some (if b.2.1 > b.1 then b.2.1 else b.1)) := fun H xs Q c r e q => by
  obtain ⟨v, u, e1, e2, e3⟩ := reps2 (a := b.1) (b := b.2.1) r
  cases e
  exact ⟨b.1, b.2.1, by rw [e1, int_rep e2, int_rep e3], q _ rfl⟩
theorem ra_min2 {b : Int × Int × Unit} : RaF T (fun xs H Q => ∃ i j, xs = [.int i, .int j] ∧ Q (.int (if j < i then j else i)) H) b (some (if b.2.1 < b.1 then b.2.1 else b.1)) := fun H xs Q c r e q => by
  obtain ⟨v, u, e1, e2, e3⟩ := reps2 (a := b.1) (b := b.2.1) r
  cases e
  exact ⟨b.1, b.2.1, by rw [e1, int_rep e2, int_rep e3], q _ rfl⟩
theorem ra_len {b : List α × Unit} : RaF T (fun xs H Q => ∃ p ys, xs = [.ref p] ∧ (SqL K H p ys ∨ SqT K H p ys) ∧ Q (.int ys.length) H) b (some (b.1.length : Int)) := fun H xs Q c r e q => by
  obtain ⟨v, e1, e2⟩ := reps1 (a := b.1) r
  obtain ⟨p, vs, e3, _, hp, _, rs⟩ := lst_rep e2
  cases e
  refine ⟨p, vs, by rw [e1, e3], .inl (rd_seqL hp), q _ ?_⟩
  have := rs.len
  rw [List.length_map] at this
  rw [this]
  rfl
theorem ra_lenS {b : Scr × Unit} : RaF T (fun xs H Q => ∃ p ys, xs = [.ref p] ∧ (SqL T.K H p ys ∨ SqT T.K H p ys) ∧ Q (.int ys.length) H) b (some (b.1.xs.length : Int)) := fun H xs Q c r e q => by
  obtain ⟨v, e1, p, e3, h⟩ := reps1 (a := b.1) r
  have hs : SqL T.K H p (b.1.xs.map V.int) := by
    rcases h with ⟨h, _⟩ | h
    · exact .inl h
    · rcases h with (h | ⟨o, h⟩) | h
      · cases h
      · cases h
      · exact .inr h
  cases e
  refine ⟨p, _, by rw [e1, e3], .inl hs, q _ ?_⟩
  rw [List.length_map]
  rfl
theorem ra_lenT {δ : Type} [Encs δ] {b : Tp δ × Unit} {n : Nat} (hn : ∀ d : δ, (encs d).length = n) : RaF T (fun xs H Q => ∃ p ys, xs = [.ref p] ∧ (SqL K H p ys ∨ SqT K H p ys) ∧ Q (.int ys.length) H) b (some (n : Int)) := fun H xs Q c r e q => by
  obtain ⟨v, e1, e2⟩ := reps1 (a := b.1) r
  have e2 : Rep T H _ (.tup (encs b.1.t)) v := e2
  unfold Rep at e2
  obtain ⟨p, vs, e3, _, hp, _, rs⟩ := e2
  cases e
  refine ⟨p, vs, by rw [e1, e3], .inr (rd_seqT hp), q _ ?_⟩
  rw [← rs.len, hn]
  rfl
theorem ints_of : ∀ {ns : List Int} {vs : List V}, Reps T H G (ns.map enc) vs → vs = ns.map V.int
  | [], _, h => h
  | n :: ns, _, h => by
    rw [List.map_cons] at h
    unfold Reps at h
    obtain ⟨v, r, e, h1, h2⟩ := h
    rw [e, int_rep h1, ints_of h2]
    rfl
theorem of_ints : ∀ {ns : List Int}, Reps T H G (ns.map enc) (ns.map V.int)
  | [] => reps_nil
  | n :: ns => reps_cons (by rfl) of_ints
theorem bls_of : ∀ {ns : List Bool} {vs : List V}, Reps T H G (ns.map enc) vs → vs = ns.map V.bl
  | [], _, h => h
  | n :: ns, _, h => by
    rw [List.map_cons] at h
    unfold Reps at h
    obtain ⟨v, r, e, h1, h2⟩ := h
    rw [e, bl_rep h1, bls_of h2]
    rfl
theorem ra_all {b : List Bool × Unit} : RaF T (rAll K) b (some (b.1.all id)) := fun H xs Q c r e q => by
  obtain ⟨v, e1, e2⟩ := reps1 (a := b.1) r
  obtain ⟨p, vs, e3, _, hp, _, rs⟩ := lst_rep e2
  cases e
  refine ⟨p, b.1, by rw [e1, e3], ?_, q _ rfl⟩
  rw [← bls_of rs]
  exact rd_seqL hp
theorem ra_any {b : List Bool × Unit} : RaF T (rAny K) b (some (b.1.any id)) := fun H xs Q c r e q => by
  obtain ⟨v, e1, e2⟩ := reps1 (a := b.1) r
  obtain ⟨p, vs, e3, _, hp, _, rs⟩ := lst_rep e2
  cases e
  refine ⟨p, b.1, by rw [e1, e3], ?_, q _ rfl⟩
  rw [← bls_of rs]
  exact rd_seqL hp
theorem ra_sum {b : List Int × Unit} : RaF T (rSum K) b (some b.1.sum) := fun H xs Q c r e q => by
  obtain ⟨v, e1, e2⟩ := reps1 (a := b.1) r
  obtain ⟨p, vs, e3, _, hp, _, rs⟩ := lst_rep e2
  cases e
  refine ⟨p, b.1, by rw [e1, e3], ?_, q _ rfl⟩
  rw [← ints_of rs]
  exact rd_seqL hp
theorem ra_maxL {b : List Int × Unit} : RaF T (rMax K) b b.1.max? := fun H xs Q c r e q => by
  obtain ⟨v, e1, e2⟩ := reps1 (a := b.1) r
  obtain ⟨p, vs, e3, _, hp, _, rs⟩ := lst_rep e2
  refine ⟨p, b.1, by rw [e1, e3], ?_, ?_, fun m hm hb => q _ ?_⟩
  · rw [← ints_of rs]
    exact rd_seqL hp
  · cases e4 : b.1 with
    | nil => rw [e4] at e; cases e
    | cons x xs => simp
  · have := (List.max?_eq_some_iff (xs := b.1) (a := c)).mp e
    have h1 := this.2 m hm
    have h2 := hb c this.1
    show V.int m = V.int c
    have : m = c := by omega
    rw [this]
theorem ra_minL {b : List Int × Unit} : RaF T (rMin K) b b.1.min? := fun H xs Q c r e q => by
  obtain ⟨v, e1, e2⟩ := reps1 (a := b.1) r
  obtain ⟨p, vs, e3, _, hp, _, rs⟩ := lst_rep e2
  refine ⟨p, b.1, by rw [e1, e3], ?_, ?_, fun m hm hb => q _ ?_⟩
  · rw [← ints_of rs]
    exact rd_seqL hp
  · cases e4 : b.1 with
    | nil => rw [e4] at e; cases e
    | cons x xs => simp
  · have := (List.min?_eq_some_iff (xs := b.1) (a := c)).mp e
    have h1 := this.2 m hm
    have h2 := hb c this.1
    show V.int m = V.int c
    have : m = c := by omega
    rw [this]
end
end Pv

set_option Elab.async false
set_option linter.all false
set_option maxRecDepth 100000
namespace Pv
open PySem PySem.Spec L2
open Enc (enc)
open Encs (encs)

section
variable {C : Cn} {Γ : List Sl} {l l1 l2 : Lv} {α β γ δ : Type} [Enc α] [Enc β] [Enc γ] [Encs δ] {ta tb tc te t : TE} {tt tu : TT} {G : Addr → Prop} {os : List (Option Addr)} {σ : L2.St} {H H' : Hp} {x : Exc} {K : PySem.W.Frag} {T : CT}

/-! ### displays -/
theorem same_new {H : Hp} {p : Addr} {o : HO} (n : H p = none) : Same H (upd H p o) := fun b u e => by
  rw [upd_ne (ne_of_none e n)]
  exact e
theorem evn_lst {ta : TA} {m : R δ} {f : δ → List α} (ha : EvA C Γ l ta m) (hf : ∀ b, encs b = (f b).map enc) (hn : ∀ b, (f b).length ≤ 1000) : EvN C Γ l (tLst ta) (m.bind fun b => .ok (f b)) := fun G hid os σ H Q Kw q => by
  refine ha G hid os σ H _ Kw ?_
  cases e1 : m with
  | bad => rw [e1] at q; exact q
  | ex x => rw [e1] at q; exact q
  | ok b =>
    rw [e1] at q
    intro vs H1 s1 r1
    rw [hf b] at r1
    have hl : vs.length ≤ 1000 := by
      have := r1.len
      rw [List.length_map] at this
      rw [← this]
      exact hn b
    exact ⟨Nat.le_of_lt (lim_size (Nat.le_trans hl (by decide))), fun p np => q p vs _ (s1.trans (same_new np)) (s1.free np) upd_same (Nat.le_trans hl (by decide)) ((r1.free np).same (same_new np))⟩
theorem evm_tup {ta : TA} {m : R δ} (ha : EvA C Γ l ta m) (hn : ∀ b : δ, (encs b).length ≤ 1000) : Evm C Γ l (tTup ta) (m.bind fun b => .ok (Tp.mk b)) := fun G hid os σ H Q Kw q => by
  refine ha G hid os σ H _ Kw ?_
  cases e1 : m with
  | bad => rw [e1] at q; exact q
  | ex x => rw [e1] at q; exact q
  | ok b =>
    rw [e1] at q
    intro vs H1 s1 r1
    have hl : vs.length ≤ 1000 := by rw [← r1.len]; exact hn b
    refine ⟨Nat.le_of_lt (lim_size (Nat.le_trans hl (by decide))), fun p np => q (.ref p) _ (s1.trans (same_new np)) ?_⟩
    show Rep C.T _ _ (.tup (encs b)) (.ref p)
    unfold Rep
    exact ⟨p, vs, rfl, (Kw.same s1).fresh np l, upd_same, Nat.le_trans hl (by decide), r1.same (same_new np)⟩
theorem evn_listof {m : R (List α)} (ha : Evm C Γ l ta m) :
    EvN C Γ l (tCB (fun xs H Q => ∃ p ys, xs = [.ref p] ∧ (SqL K H p ys ∨ SqT K H p ys) ∧ ∀ l, H l = none → Q (.ref l) (upd H l (.lst ys))) (tCons ta tNil)) m := fun G hid os σ H Q Kw q => by
  refine ha G hid os σ H _ Kw ?_
  cases e1 : m with
  | bad => rw [e1] at q; exact q
  | ex x => rw [e1] at q; exact q
  | ok xs =>
    rw [e1] at q
    intro x H1 s1 r1
    obtain ⟨p, vs, e, _, hp, hz, rs⟩ := lst_rep r1
    exact ⟨p, vs, by rw [e], .inl (rd_seqL hp), fun d nd => q d vs _ (s1.trans (same_new nd)) (s1.free nd) upd_same hz ((rs.free nd).same (same_new nd))⟩
/-- the same from an own list -/
theorem evn_listofo {i : Nat} {xs : List α} (h : Γ[i]? = some (.ow l (xs.map enc))) :
    EvN C Γ l (tCB (fun xs H Q => ∃ p ys, xs = [.ref p] ∧ (SqL K H p ys ∨ SqT K H p ys) ∧ ∀ l, H l = none → Q (.ref l) (upd H l (.lst ys))) (tCons (tVar i) tNil)) (.ok xs) := fun G hid os σ H Q Kw q => by
  obtain ⟨_, a, vs, _, e, ha, hz, r⟩ := Kw.sl i _ h
  exact ⟨_, e, a, vs, rfl, .inl (rd_seqL ha), fun d nd => q d vs _ (same_new nd) nd upd_same hz ((r.free nd).same (same_new nd))⟩

/-! ### slices -/
def EvO (C : Cn) (Γ : List Sl) (t : TO) (m : R (Option Int)) : Prop := ∀ G hid os σ H (Q : Option Int → Hp → Prop), OkW C G Γ hid os σ H → (match m with | .ok o => ∀ H', Same H H' → Q o H' | .ex x => PoX C σ H x | .bad => False) → t σ H Q
theorem evo_none : EvO C Γ tNoPart (.ok none) := fun G hid os σ H Q Kw q => q H (Same.refl H)
theorem evo_some {m : R Int} (h : Evm C Γ l t m) : EvO C Γ (tPart t) (m.bind fun i => .ok (some i)) := fun G hid os σ H Q Kw q => by
  refine h G hid os σ H _ Kw ?_
  cases e1 : m with
  | bad => rw [e1] at q; exact q
  | ex x => rw [e1] at q; exact q
  | ok i =>
    rw [e1] at q
    exact fun v H1 s1 r1 => ⟨i, r1, q H1 s1⟩
def cutL {α : Type} (xs : List α) (lo hi : Option Int) : List α := (xs.drop (HT.sIx xs.length 0 lo)).take (HT.sIx xs.length xs.length hi - HT.sIx xs.length 0 lo)
theorem cutL_map {xs : List α} {lo hi : Option Int} : (cutL xs lo hi).map enc = cutL (xs.map enc) lo hi := by
  unfold cutL
  rw [List.map_take, List.map_drop, List.length_map]
theorem Reps.cut {ps : List PV} {vs : List V} (lo hi : Option Int) (r : Reps T H G ps vs) : Reps T H G (cutL ps lo hi) (cutV vs lo hi) := by
  unfold cutL cutV
  rw [r.len]
  exact (r.drop _).take _
theorem cutV_len (vs : List V) (lo hi : Option Int) : (cutV vs lo hi).length ≤ vs.length := by
  unfold cutV
  rw [List.length_take, List.length_drop]
  omega
theorem evn_sl {to to2 : TO} {m1 : R (List α)} {m2 m3 : R (Option Int)} (ha : Evm C Γ l ta m1) (hb : EvO C Γ to m2) (hc : EvO C Γ to2 m3) : EvN C Γ l (tSl (rSlL K) ta to to2) (m1.bind fun xs => m2.bind fun a => m3.bind fun b => .ok (cutL xs a b)) := fun G hid os σ H Q Kw q => by
  refine ha G hid os σ H _ Kw ?_
  cases e1 : m1 with
  | bad => rw [e1] at q; exact q
  | ex x => rw [e1] at q; exact q
  | ok xs =>
    rw [e1] at q
    intro x H1 s1 r1
    refine hb G hid os σ H1 _ (Kw.same s1) ?_
    cases e2 : m2 with
    | bad => rw [e2] at q; exact q
    | ex x => rw [e2] at q; exact PoX.back s1 q
    | ok lo =>
      rw [e2] at q
      intro H2 s2
      refine hc G hid os σ H2 _ (Kw.same (s1.trans s2)) ?_
      cases e3 : m3 with
      | bad => rw [e3] at q; exact q
      | ex x => rw [e3] at q; exact PoX.back (s1.trans s2) q
      | ok hi =>
        rw [e3] at q
        intro H3 s3
        obtain ⟨p, vs, e, _, hp, hz, rs⟩ := lst_rep r1
        have s13 := s2.trans s3
        refine ⟨p, vs, e, rd_seqL (s13 _ _ hp), fun d nd => q d _ _ ((s1.trans s13).trans (same_new nd)) ((s1.trans s13).free nd) upd_same (Nat.le_trans (cutV_len _ _ _) hz) ?_⟩
        rw [cutL_map]
        exact (((rs.same s13).cut lo hi).free nd).same (same_new nd)
theorem evn_slo {i : Nat} {xs : List α} {to to2 : TO} {m2 m3 : R (Option Int)} (h : Γ[i]? = some (.ow l (xs.map enc))) (hb : EvO C Γ to m2) (hc : EvO C Γ to2 m3) : EvN C Γ l (tSl (rSlL K) (tVar i) to to2) (m2.bind fun a => m3.bind fun b => .ok (cutL xs a b)) := fun G hid os σ H Q Kw q => by
  obtain ⟨_, p, vs, _, e, hp, hz, rs⟩ := Kw.sl i _ h
  refine ⟨_, e, hb G hid os σ H _ Kw ?_⟩
  cases e2 : m2 with
  | bad => rw [e2] at q; exact q
  | ex x => rw [e2] at q; exact q
  | ok lo =>
    rw [e2] at q
    intro H2 s2
    refine hc G hid os σ H2 _ (Kw.same s2) ?_
    cases e3 : m3 with
    | bad => rw [e3] at q; exact q
    | ex x => rw [e3] at q; exact PoX.back s2 q
    | ok hi =>
      rw [e3] at q
      intro H3 s3
      have s13 := s2.trans s3
      refine ⟨p, vs, rfl, rd_seqL (s13 _ _ hp), fun d nd => q d _ _ (s13.trans (same_new nd)) (s13.free nd) upd_same (Nat.le_trans (cutV_len _ _ _) hz) ?_⟩
      rw [cutL_map]
      exact (((rs.same s13).cut lo hi).free nd).same (same_new nd)

/-! ### + and * of lists -/
def catL {α : Type} (xs ys : List α) : Option (List α) := optIf (xs.length + ys.length ≤ LIM) (xs ++ ys)
theorem evn_cat {m1 m2 : R (List α)} (ha : Evm C Γ l ta m1) (hb : Evm C Γ l tb m2) : EvN C Γ l (tOp rCat ta tb) (m1.bind fun xs => m2.bind fun ys => R.of (catL xs ys)) := fun G hid os σ H Q Kw q => by
  refine ha G hid os σ H _ Kw ?_
  cases e1 : m1 with
  | bad => rw [e1] at q; exact q
  | ex x => rw [e1] at q; exact q
  | ok xs =>
    rw [e1] at q
    intro x H1 s1 r1
    refine hb G hid os σ H1 _ (Kw.same s1) ?_
    cases e2 : m2 with
    | bad => rw [e2] at q; exact q
    | ex x => rw [e2] at q; exact PoX.back s1 q
    | ok ys =>
      rw [e2] at q
      intro y H2 s2 r2
      have q : PoN C l G os σ H Q (R.of (catL xs ys)) := q
      cases e3 : catL xs ys with
      | none => rw [e3] at q; exact q.elim
      | some zs =>
        rw [e3] at q
        obtain ⟨c, e4⟩ := optIf_some e3
        obtain ⟨p, vs, ex, _, hp, _, rs⟩ := lst_rep r1
        obtain ⟨p', us, ey, _, hp', _, rs'⟩ := lst_rep r2
        have l1 := rs.len
        have l2 := rs'.len
        rw [List.length_map] at l1 l2
        refine ⟨p, p', vs, us, ex, ey, s2 _ _ hp, hp', Nat.le_of_lt (lim_size (by omega)), fun d nd => q d _ _ ((s1.trans s2).trans (same_new nd)) ((s1.trans s2).free nd) upd_same (by rw [List.length_append]; omega) ?_⟩
        rw [← e4, List.map_append]
        exact (((rs.same s2).app rs').free nd).same (same_new nd)
def repL {α : Type} (xs : List α) (k : Int) : Option (List α) := optIf (-(2 ^ 63) ≤ k ∧ k < 2 ^ 63 ∧ xs.length * k.toNat ≤ LIM) (List.replicate k.toNat xs).flatten
theorem Reps.repl {ps : List PV} {vs : List V} (r : Reps T H G ps vs) : ∀ n : Nat, Reps T H G (List.replicate n ps).flatten (List.replicate n vs).flatten
  | 0 => by simp; exact reps_nil
  | n + 1 => by
    rw [List.replicate_succ, List.replicate_succ, List.flatten_cons, List.flatten_cons]
    exact r.app (Reps.repl r n)
theorem repl_len {α : Type} (xs : List α) (n : Nat) : (List.replicate n xs).flatten.length = xs.length * n := by
  induction n with
  | zero => simp
  | succ n ih => rw [List.replicate_succ, List.flatten_cons, List.length_append, ih, Nat.mul_succ]; omega
theorem evn_rep {m1 : R (List α)} {m2 : R Int} (ha : Evm C Γ l ta m1) (hb : Evm C Γ l2 tb m2) : EvN C Γ l (tOp rRep ta tb) (m1.bind fun xs => m2.bind fun k => R.of (repL xs k)) := fun G hid os σ H Q Kw q => by
  refine ha G hid os σ H _ Kw ?_
  cases e1 : m1 with
  | bad => rw [e1] at q; exact q
  | ex x => rw [e1] at q; exact q
  | ok xs =>
    rw [e1] at q
    intro x H1 s1 r1
    refine hb G hid os σ H1 _ (Kw.same s1) ?_
    cases e2 : m2 with
    | bad => rw [e2] at q; exact q
    | ex x => rw [e2] at q; exact PoX.back s1 q
    | ok k =>
      rw [e2] at q
      intro y H2 s2 r2
      have q : PoN C l G os σ H Q (R.of (repL xs k)) := q
      cases e3 : repL xs k with
      | none => rw [e3] at q; exact q.elim
      | some zs =>
        rw [e3] at q
        obtain ⟨⟨c1, c2, c3⟩, e4⟩ := optIf_some e3
        obtain ⟨p, vs, ex, _, hp, _, rs⟩ := lst_rep r1
        have l1 := rs.len
        rw [List.length_map] at l1
        refine ⟨p, k, vs, ex, r2, s2 _ _ hp, c1, c2, Nat.le_of_lt (lim_size (by rw [← l1]; exact c3)), fun d nd => q d _ _ ((s1.trans s2).trans (same_new nd)) ((s1.trans s2).free nd) upd_same (by rw [repl_len, ← l1]; exact c3) ?_⟩
        have e5 : (zs.map enc : List PV) = (List.replicate k.toNat (xs.map enc)).flatten := by
          rw [← e4, List.map_flatten, List.map_replicate]
        rw [e5]
        exact (((rs.same s2).repl k.toNat).free nd).same (same_new nd)

/-! ### sorted, of ints -/
def sortI (xs : List Int) : List Int := xs.mergeSort fun a b => decide (a ≤ b)
theorem sortI_perm (xs : List Int) : (sortI xs).Perm xs := List.mergeSort_perm _ _
theorem sortI_le (xs : List Int) : (sortI xs).Pairwise (· ≤ ·) := by
  have := List.pairwise_mergeSort (le := fun a b : Int => decide (a ≤ b)) (fun a b c h1 h2 => by simp at h1 h2 ⊢; omega) (fun a b => by simp; omega) xs
  exact this.imp fun h => by simpa using h
theorem sorted_one : ∀ {xs ys : List Int}, xs.Perm ys → xs.Pairwise (· ≤ ·) → ys.Pairwise (· ≤ ·) → xs = ys := fun h h1 h2 =>
  h.eq_of_pairwise (fun a b _ _ h1 h2 => Int.le_antisymm h1 h2) h1 h2
theorem evn_sorted {m : R (List Int)} (ha : Evm C Γ l ta m) : EvN C Γ .fr (tCB (rSortedI K) (tCons ta tNil)) (m.bind fun xs => .ok (sortI xs)) := fun G hid os σ H Q Kw q => by
  refine ha G hid os σ H _ Kw ?_
  cases e1 : m with
  | bad => rw [e1] at q; exact q
  | ex x => rw [e1] at q; exact q
  | ok xs =>
    rw [e1] at q
    intro x H1 s1 r1
    obtain ⟨p, vs, e, _, hp, hz, rs⟩ := lst_rep r1
    have hv := ints_of rs
    refine ⟨p, xs, by rw [e], by rw [← hv]; exact rd_seqL hp, fun ns d pm pw nd => ?_⟩
    have e2 : ns = sortI xs := sorted_one (pm.trans (sortI_perm xs).symm) pw (sortI_le xs)
    rw [e2]
    refine q d _ _ (s1.trans (same_new nd)) (s1.free nd) upd_same ?_ of_ints
    rw [List.length_map, (sortI_perm xs).length_eq]
    rw [hv, List.length_map] at hz
    exact hz
end
end Pv

set_option Elab.async false
set_option linter.all false
set_option maxRecDepth 100000
namespace Pv
open PySem PySem.Spec L2
open Enc (enc)
open Encs (encs)

section
variable {C : Cn} {Γ : List Sl} {l l1 l2 : Lv} {α β γ δ : Type} [Enc α] [Enc β] [Enc γ] [Encs δ] {ta tb tc te t : TE} {tt tu : TT} {G : Addr → Prop} {os : List (Option Addr)} {σ : L2.St} {H H' : Hp} {x : Exc} {K : PySem.W.Frag} {T : CT}

/-! ### tests -/
theorem evt_test {m : R Bool} (h : Evm C Γ l t m) : EvT C Γ (tTest t) m := fun G hid os σ H Q Kw q => h G hid os σ H _ Kw (by
  cases m with
  | bad => exact q
  | ex x => exact q
  | ok b => exact fun v H1 s1 r1 => ⟨b, r1, q H1 s1⟩)
theorem evt_B {m : R Bool} (h : Evm C Γ l t m) : EvT C Γ (tB t) m := fun G hid os σ H Q Kw q => h G hid os σ H _ Kw (by
  cases m with
  | bad => exact q
  | ex x => exact q
  | ok b => exact fun v H1 s1 r1 => ⟨b, r1, q H1 s1⟩)
theorem PoT.back {σ : L2.St} {Q : Bool → Hp → Prop} {m : R Bool} (e : Same H H') (q : PoT C σ H Q m) : PoT C σ H' Q m := by
  cases m with
  | bad => exact q
  | ex x => exact PoX.back e q
  | ok b => exact fun H2 s2 => q H2 (e.trans s2)
theorem PoV.back {σ : L2.St} {Q : VK} {m : R α} (e : Same H H') (q : PoV C l G os σ H Q m) : PoV C l G os σ H' Q m := by
  cases m with
  | bad => exact q
  | ex x => exact PoX.back e q
  | ok b => exact fun v H2 s2 r => q v H2 (e.trans s2) r
theorem evt_and {m1 m2 : R Bool} (h1 : EvT C Γ tt m1) (h2 : EvT C Γ tu m2) : EvT C Γ (tAnd tt tu) (m1.bind fun b => R.ite b m2 (.ok false)) := fun G hid os σ H Q Kw q => h1 G hid os σ H _ Kw (by
  cases m1 with
  | bad => exact q
  | ex x => exact q
  | ok b =>
    intro H1 s1
    cases b with
    | true => exact iteT (h2 G hid os σ H1 Q (Kw.same s1) (PoT.back s1 q))
    | false => exact iteF (q H1 s1))
theorem evt_or {m1 m2 : R Bool} (h1 : EvT C Γ tt m1) (h2 : EvT C Γ tu m2) : EvT C Γ (tOr tt tu) (m1.bind fun b => R.ite b (.ok true) m2) := fun G hid os σ H Q Kw q => h1 G hid os σ H _ Kw (by
  cases m1 with
  | bad => exact q
  | ex x => exact q
  | ok b =>
    intro H1 s1
    cases b with
    | true => exact iteT (q H1 s1)
    | false => exact iteF (h2 G hid os σ H1 Q (Kw.same s1) (PoT.back s1 q)))
theorem evt_not {m : R Bool} (h : EvT C Γ tt m) : EvT C Γ (tNot tt) (m.bind fun b => .ok (!b)) := fun G hid os σ H Q Kw q => h G hid os σ H _ Kw (by
  cases m with
  | bad => exact q
  | ex x => exact q
  | ok b => exact fun H1 s1 => q H1 s1)
/-- the truth of a value -/
class Tru (α : Type) [Enc α] where
  tru : α → Bool
  ok : ∀ (K : PySem.W.Frag) (T : CT) (H : Hp) (G : Addr → Prop) (a : α) (v : V), Rep T H G (enc a) v → TruV K v H (tru a)
instance : Tru Int := ⟨fun i => i != 0, fun K T H G a v r => by rw [int_rep r]; exact rfl⟩
instance : Tru Bool := ⟨id, fun K T H G a v r => by rw [bl_rep r]; exact rfl⟩
instance : Tru Str := ⟨fun x => (x.length : Int) != 0, fun K T H G a v r => by rw [(str_rep r).1]; exact ⟨Nat.le_of_lt (lim_size (str_rep r).2.1), rfl⟩⟩
instance {α : Type} [Enc α] : Tru (List α) := ⟨fun xs => !xs.isEmpty, fun K T H G a v r => by
  obtain ⟨p, vs, e, _, hp, _, rs⟩ := lst_rep r
  rw [e]
  refine .inl ⟨vs, rd_seqL hp, ?_⟩
  have := rs.len
  rw [List.length_map] at this
  cases a with
  | nil => cases vs with
    | nil => rfl
    | cons _ _ => simp at this
  | cons _ _ => cases vs with
    | nil => simp at this
    | cons _ _ => rfl⟩
theorem evt_tru [Tru α] {m : R α} (h : Evm C Γ l ta m) : EvT C Γ (fun σ H Q => ta σ H fun x H' => ∃ k, TruV K x H' k ∧ Q k H') (m.bind fun a => .ok (Tru.tru a)) := fun G hid os σ H Q Kw q => h G hid os σ H _ Kw (by
  cases m with
  | bad => exact q
  | ex x => exact q
  | ok a => exact fun v H1 s1 r1 => ⟨Tru.tru a, Tru.ok K C.T H1 _ a v r1, q H1 s1⟩)

/-! ### and, or, not, if as values -/
theorem evm_and {m1 m2 : R Bool} (h1 : Evm C Γ l1 ta m1) (h2 : Evm C Γ l2 tb m2) : Evm C Γ .fr (tAndV ta tb) (m1.bind fun b => R.ite b m2 (.ok false)) := fun G hid os σ H Q Kw q => h1 G hid os σ H _ Kw (by
  cases m1 with
  | bad => exact q
  | ex x => exact q
  | ok b =>
    intro v H1 s1 r1
    refine ⟨b, r1, ?_⟩
    cases b with
    | true => exact iteT ((evm_flat (l2 := .fr) h2) G hid os σ H1 Q (Kw.same s1) (PoV.back s1 q))
    | false => exact iteF (q _ H1 s1 (by rfl)))
theorem evm_or {m1 m2 : R Bool} (h1 : Evm C Γ l1 ta m1) (h2 : Evm C Γ l2 tb m2) : Evm C Γ .fr (tOrV ta tb) (m1.bind fun b => R.ite b (.ok true) m2) := fun G hid os σ H Q Kw q => h1 G hid os σ H _ Kw (by
  cases m1 with
  | bad => exact q
  | ex x => exact q
  | ok b =>
    intro v H1 s1 r1
    refine ⟨b, r1, ?_⟩
    cases b with
    | true => exact iteT (q _ H1 s1 (by rfl))
    | false => exact iteF ((evm_flat (l2 := .fr) h2) G hid os σ H1 Q (Kw.same s1) (PoV.back s1 q)))
theorem evm_not {m : R Bool} (h : Evm C Γ l ta m) : Evm C Γ .fr (tNotV ta) (m.bind fun b => .ok (!b)) := fun G hid os σ H Q Kw q => h G hid os σ H _ Kw (by
  cases m with
  | bad => exact q
  | ex x => exact q
  | ok b => exact fun v H1 s1 r1 => ⟨b, r1, q _ H1 s1 (by rfl)⟩)
theorem evm_if {m : R Bool} {m1 m2 : R α} (h : EvT C Γ tt m) (h1 : Evm C Γ l ta m1) (h2 : Evm C Γ l tb m2) : Evm C Γ l (tIf tt ta tb) (R.ifm m m1 m2) := fun G hid os σ H Q Kw q => h G hid os σ H _ Kw (by
  cases m with
  | bad => exact q
  | ex x => exact q
  | ok b =>
    intro H1 s1
    cases b with
    | true => exact iteT (h1 G hid os σ H1 Q (Kw.same s1) (PoV.back s1 q))
    | false => exact iteF (h2 G hid os σ H1 Q (Kw.same s1) (PoV.back s1 q)))
/-- a < b < c -/
theorem evm_chain {r r' : R2} {m1 : R α} {m2 : R β} {m3 : R γ} {f : α → β → Bool} {g : β → γ → Bool} (ha : Evm C Γ l ta m1) (hb : Evm C Γ l1 tb m2) (hc : Evm C Γ l2 tc m3) (hr : ∀ a b, RvF C.T r a b (some (f a b))) (hr' : ∀ b c, RvF C.T r' b c (some (g b c))) :
    Evm C Γ .fr (tChain r r' ta tb tc) (m1.bind fun a => m2.bind fun b => R.ite (f a b) (m3.bind fun c => .ok (g b c)) (.ok false)) := fun G hid os σ H Q Kw q => by
  refine ha G hid os σ H _ Kw ?_
  cases e1 : m1 with
  | bad => rw [e1] at q; exact q
  | ex x => rw [e1] at q; exact q
  | ok a =>
    rw [e1] at q
    intro x H1 s1 r1
    refine hb G hid os σ H1 _ (Kw.same s1) ?_
    cases e2 : m2 with
    | bad => rw [e2] at q; exact q
    | ex x => rw [e2] at q; exact PoX.back s1 q
    | ok b =>
      rw [e2] at q
      intro y H2 s2 r2
      have q : PoV C .fr G os σ H Q (R.ite (f a b) (m3.bind fun c => .ok (g b c)) (.ok false)) := q
      refine hr a b H2 x y _ (f a b) (raw_rep (r1.same s2)) (raw_rep r2) rfl fun v rv => ?_
      refine ⟨f a b, rv, ?_⟩
      cases e4 : f a b with
      | false =>
        rw [e4] at q
        exact iteF (q _ H2 (s1.trans s2) (by rfl))
      | true =>
        rw [e4] at q
        refine iteT (hc G hid os σ H2 _ (Kw.same (s1.trans s2)) ?_)
        cases e3 : m3 with
        | bad => rw [e3] at q; exact q
        | ex x => rw [e3] at q; exact PoX.back (s1.trans s2) q
        | ok c =>
          rw [e3] at q
          intro z H3 s3 r3
          exact hr' b c H3 y z _ (g b c) (raw_rep (r2.same s3)) (raw_rep r3) rfl fun v rv => q v H3 ((s1.trans s2).trans s3) rv
end
end Pv

set_option Elab.async false
set_option linter.all false
set_option maxRecDepth 100000
namespace Pv
open PySem PySem.Spec L2
open Enc (enc)
open Encs (encs)

/-! ### what a def promises -/
def avC (l : Lv) (G : Addr → Prop) (H : Hp) (a : Addr) : Prop := match l with
  | .raw => False
  | .pa => G a
  | .fr => H a ≠ none ∨ G a
def PoRet (T : CT) (M : RM) (G : Addr → Prop) (H : Hp) (Q : VK) (p : PV) : Prop := match M with
  | .val l => ∀ v H', Same H H' → Rep T H' (avC l G H) p v → Q v H'
  | .nw l => ∀ a vs H' xs, p = .lst xs → Same H H' → H a = none → H' a = some (.lst vs) → vs.length ≤ LIM → Reps T H' (fun b => avC l G H b ∨ b = a) xs vs → Q (.ref a) H'
def PoC {α : Type} [Enc α] (T : CT) (M : RM) (G : Addr → Prop) (H : Hp) (Q : VK) (E : XK) : R α → Prop
  | .ok a => PoRet T M G H Q (enc a)
  | .ex x => ∀ cls d H', Same H H' → ExRep T H' x cls d → E cls d H'
  | .bad => False
/-- a quiet def: no exception -/
def PoQ {α : Type} [Enc α] (T : CT) (M : RM) (G : Addr → Prop) (H : Hp) (Q : VK) : R α → Prop
  | .ok a => PoRet T M G H Q (enc a)
  | _ => False
/-- called with what stands for b it hands back what stands for f b -/
def Pm {β α : Type} [Encs β] [Enc α] (T : CT) (M : RM) (f : β → R α) : Sp := fun vs H Q _ => ∃ (b : β) (G : Addr → Prop), (∀ a, G a → H a ≠ none) ∧ Reps T H G (encs b) vs ∧ PoQ T M G H Q (f b)
def PmX {β α : Type} [Encs β] [Enc α] (T : CT) (M : RM) (f : β → R α) : Sp := fun vs H Q E => ∃ (b : β) (G : Addr → Prop), (∀ a, G a → H a ≠ none) ∧ Reps T H G (encs b) vs ∧ PoC T M G H Q E (f b)

section
variable {C : Cn} {Γ : List Sl} {l l1 l2 : Lv} {α : Type} [Enc α] {β : Type} [Encs β] {ta : TA} {E : XK}
theorem pm_at {T : CT} {M : RM} {f : β → R α} {b : β} {vs : List V} {H : Hp} {Q : VK} {G : Addr → Prop} (dom : ∀ a, G a → H a ≠ none) (r : Reps T H G (encs b) vs) (q : PoQ T M G H Q (f b)) : Pm T M f (vs ++ []) H Q E := by
  rw [List.append_nil]
  exact ⟨b, G, dom, r, q⟩
/-- the general step: from what the arguments are worth -/
theorem call_gen {m : R β} {f : β → R α} {M : RM} {P : (Addr → Prop) → List (Option Addr) → L2.St → Hp → VK → R α → Prop} (ha : EvA C Γ l ta m)
    (hb : ∀ G os σ H Q, ¬ P G os σ H Q .bad) (hx : ∀ G os σ H Q x, P G os σ H Q (.ex x) → False)
    (hm : ∀ G hid os σ H Q H1 a, OkW C G Γ hid os σ H → Same H H1 → P G os σ H Q (.ok a) → ∃ G' : Addr → Prop, (∀ b, G' b → H1 b ≠ none) ∧ (∀ b, G' b → av l C.H0 G os b) ∧ PoRet C.T M G' H1 Q (enc a)) :
    ∀ G hid os σ H Q, OkW C G Γ hid os σ H → (match m with | .ok b => P G os σ H Q (f b) | .ex x => PoX C σ H x | .bad => False) → tCall (Pm C.T M f) [] E ta σ H Q := fun G hid os σ H Q Kw q => by
  refine ha G hid os σ H _ Kw ?_
  cases e1 : m with
  | bad => rw [e1] at q; exact q
  | ex x => rw [e1] at q; exact q
  | ok b =>
    rw [e1] at q
    intro vs H1 s1 r1
    have q : P G os σ H Q (f b) := q
    cases e2 : f b with
    | bad => rw [e2] at q; exact absurd q (hb _ _ _ _ _)
    | ex x => rw [e2] at q; exact (hx _ _ _ _ _ _ q).elim
    | ok a =>
      rw [e2] at q
      obtain ⟨G', d, w, z⟩ := hm G hid os σ H Q H1 a Kw s1 q
      exact pm_at d (r1.weak w) (by rw [e2]; exact z)
theorem av_fr_of {G : Addr → Prop} {os : List (Option Addr)} {hid : Hid} {σ : L2.St} {H H1 : Hp} {G' : Addr → Prop} (Kw : OkW C G Γ hid os σ H) (s1 : Same H H1) (a : Addr) (h : av .fr C.H0 G os a) : avC .fr G' H1 a := .inl (by
  rcases h with h | h | h
  · exact same_ne (Kw.ext.trans s1) h
  · exact same_ne s1 (Kw.dom a h)
  · exact same_ne s1 (Kw.new a h).2.1)
/-- the result is made anew at every depth: whatever the arguments are -/
theorem evm_callF {m : R β} {f : β → R α} (hW : C.W = none) (ha : EvA C Γ .raw ta m) : Evm C Γ .fr (tCall (Pm C.T (.val .fr) f) [] E ta) (m.bind f) := fun G hid os σ H Q Kw q => by
  refine call_gen (M := .val .fr) (P := fun G os σ H Q r => PoV C .fr G os σ H Q r) ha (fun _ _ _ _ _ z => z) (fun _ _ _ _ _ x z => by have z : PoX C _ _ x := z; unfold PoX at z; rw [hW] at z; exact z) (fun G hid os σ H Q H1 a Kw s1 q => ⟨fun _ => False, fun _ z => z.elim, fun _ z => z.elim, fun v H2 s2 r => q v H2 (s1.trans s2) (r.weak fun a z => av_fr_of Kw s1 a z)⟩) G hid os σ H Q Kw ?_
  cases m with
  | bad => exact q
  | ex x => exact q
  | ok b => exact q
theorem evm_callP {m : R β} {f : β → R α} (hW : C.W = none) (ha : EvA C Γ .pa ta m) : Evm C Γ .pa (tCall (Pm C.T (.val .pa) f) [] E ta) (m.bind f) := fun G hid os σ H Q Kw q => by
  refine call_gen (M := .val .pa) (P := fun G os σ H Q r => PoV C .pa G os σ H Q r) ha (fun _ _ _ _ _ z => z) (fun _ _ _ _ _ x z => by have z : PoX C _ _ x := z; unfold PoX at z; rw [hW] at z; exact z) (fun G hid os σ H Q H1 a Kw s1 q => ⟨av .pa C.H0 G os, fun b z => same_ne s1 (Kw.avdom .pa b z), fun _ z => z, fun v H2 s2 r => q v H2 (s1.trans s2) r⟩) G hid os σ H Q Kw ?_
  cases m with
  | bad => exact q
  | ex x => exact q
  | ok b => exact q
theorem evm_callR {m : R β} {f : β → R α} (hW : C.W = none) (ha : EvA C Γ .raw ta m) : Evm C Γ .raw (tCall (Pm C.T (.val .pa) f) [] E ta) (m.bind f) := fun G hid os σ H Q Kw q => by
  refine call_gen (M := .val .pa) (P := fun G os σ H Q r => PoV C .raw G os σ H Q r) ha (fun _ _ _ _ _ z => z) (fun _ _ _ _ _ x z => by have z : PoX C _ _ x := z; unfold PoX at z; rw [hW] at z; exact z) (fun G hid os σ H Q H1 a Kw s1 q => ⟨fun _ => False, fun _ z => z.elim, fun _ z => z.elim, fun v H2 s2 r => q v H2 (s1.trans s2) (r.weak fun a z => z)⟩) G hid os σ H Q Kw ?_
  cases m with
  | bad => exact q
  | ex x => exact q
  | ok b => exact q
theorem evn_callF {m : R β} {f : β → R (List α)} (hW : C.W = none) (ha : EvA C Γ .raw ta m) : EvN C Γ .fr (tCall (Pm C.T (.nw .fr) f) [] E ta) (m.bind f) := fun G hid os σ H Q Kw q => by
  refine call_gen (M := .nw .fr) (P := fun G os σ H Q r => PoN C .fr G os σ H Q r) ha (fun _ _ _ _ _ z => z) (fun _ _ _ _ _ x z => by have z : PoX C _ _ x := z; unfold PoX at z; rw [hW] at z; exact z) (fun G hid os σ H Q H1 a Kw s1 q => ⟨fun _ => False, fun _ z => z.elim, fun _ z => z.elim, fun p vs H2 xs e s2 n hp hz r => q p vs H2 (s1.trans s2) (s1.free n) hp hz (by cases e; exact r.weak fun a z => z.imp (fun z => av_fr_of Kw s1 a z) id)⟩) G hid os σ H Q Kw ?_
  cases m with
  | bad => exact q
  | ex x => exact q
  | ok b => exact q
theorem evn_callP {m : R β} {f : β → R (List α)} (hW : C.W = none) (ha : EvA C Γ .pa ta m) : EvN C Γ .pa (tCall (Pm C.T (.nw .pa) f) [] E ta) (m.bind f) := fun G hid os σ H Q Kw q => by
  refine call_gen (M := .nw .pa) (P := fun G os σ H Q r => PoN C .pa G os σ H Q r) ha (fun _ _ _ _ _ z => z) (fun _ _ _ _ _ x z => by have z : PoX C _ _ x := z; unfold PoX at z; rw [hW] at z; exact z) (fun G hid os σ H Q H1 a Kw s1 q => ⟨av .pa C.H0 G os, fun b z => same_ne s1 (Kw.avdom .pa b z), fun _ z => z, fun p vs H2 xs e s2 n hp hz r => q p vs H2 (s1.trans s2) (s1.free n) hp hz (by cases e; exact r)⟩) G hid os σ H Q Kw ?_
  cases m with
  | bad => exact q
  | ex x => exact q
  | ok b => exact q
theorem eva_pa {m : R β} (h : EvA C Γ .fr ta m) : EvA C Γ .pa ta m := fun G hid os σ H Q K q => h G hid os σ H Q K (by
  cases m with
  | ok a => exact fun v H' e r => q v H' e (r.weak fun a z => .inr z)
  | ex x => exact q
  | bad => exact q)
theorem eva_raw {m : R β} (h : EvA C Γ l ta m) : EvA C Γ .raw ta m := fun G hid os σ H Q K q => h G hid os σ H Q K (by
  cases m with
  | ok a => exact fun v H' e r => q v H' e (r.weak fun a z => z.elim)
  | ex x => exact q
  | bad => exact q)
end

/-! ### what is walked -/
/-- an iterator over what stands for xs, as long as the pins are what they are -/
structure ItOv {α : Type} [Enc α] (T : CT) (J : It) (l : Lv) (pins : List (PV × V)) (xs : List α) : Prop where
  go : ∀ (i : Nat) (a : α) (H : Hp) (A : Addr → Prop), xs[i]? = some a → (∀ b, A b → H b ≠ none) → (∀ q ∈ pins, Rep T H A q.1 q.2) → J.go i H ∧ ∀ x H3, J.yld i H x H3 → Same H H3 ∧ Rep T H3 A (enc a) x
  stop : ∀ (i : Nat) (H : Hp) (A : Addr → Prop), xs.length ≤ i → (∀ q ∈ pins, Rep T H A q.1 q.2) → J.stop i H
def PoI {α : Type} [Enc α] (C : Cn) (l : Lv) (G : Addr → Prop) (os : List (Option Addr)) (σ : L2.St) (H : Hp) (Q : It → Hp → Prop) : R (List α) → Prop
  | .ok xs => ∀ J pins H', Same H H' → (∀ q ∈ pins, Rep C.T H' (av l C.H0 G os) q.1 q.2) → xs.length ≤ LIM → ItOv C.T J l pins xs → Q J H'
  | .ex x => PoX C σ H x
  | .bad => False
def EvI {α : Type} [Enc α] (C : Cn) (Γ : List Sl) (l : Lv) (t : TI) (m : R (List α)) : Prop := ∀ G hid os σ H Q, OkW C G Γ hid os σ H → PoI C l G os σ H Q m → t σ H Q
section
variable {C : Cn} {Γ : List Sl} {l l1 l2 : Lv} {α β : Type} [Enc α] [Enc β] {tl t : TE} {ta : TA} {K : PySem.W.Frag}
theorem evi_list {m : R (List α)} (h : Evm C Γ l tl m) : EvI C Γ l (iList K tl) m := fun G hid os σ H Q Kw q => by
  refine h G hid os σ H _ Kw ?_
  cases e1 : m with
  | bad => rw [e1] at q; exact q
  | ex x => rw [e1] at q; exact q
  | ok xs =>
    rw [e1] at q
    intro v H1 s1 r1
    obtain ⟨p, vs, e, _, hp, hz, rs⟩ := lst_rep r1
    have hl := rs.len
    rw [List.length_map] at hl
    refine ⟨p, e, ⟨vs, rd_seqL hp⟩, q _ [(enc xs, v)] H1 s1 (fun z hz => ?_) (by rw [hl]; exact hz) ⟨fun i a H2 A ha hd hpin => ?_, fun i H2 A hi hpin => ?_⟩⟩
    · rw [List.mem_singleton.mp hz]
      exact r1
    · obtain ⟨p2, us, e2, _, hp2, _, rs2⟩ := lst_rep (hpin _ (List.mem_singleton.mpr rfl))
      have e3 : p2 = p := by
        have : V.ref p2 = V.ref p := e2.symm.trans e
        injection this
      rw [e3] at hp2
      obtain ⟨w, hw, rw'⟩ := rs2.get (show (xs.map enc)[i]? = some (enc a) by rw [List.getElem?_map, ha]; rfl)
      refine ⟨⟨us, w, rd_seqL hp2, hw⟩, fun x H3 hy => ?_⟩
      obtain ⟨eH, hx⟩ := hy
      rw [eH]
      have e4 := hx us (rd_seqL hp2)
      rw [hw] at e4
      cases e4
      exact ⟨Same.refl _, rw'⟩
    · obtain ⟨p2, us, e2, _, hp2, _, rs2⟩ := lst_rep (hpin _ (List.mem_singleton.mpr rfl))
      have e3 : p2 = p := by
        have : V.ref p2 = V.ref p := e2.symm.trans e
        injection this
      rw [e3] at hp2
      have := rs2.len
      rw [List.length_map] at this
      exact ⟨us, rd_seqL hp2, by omega⟩
theorem int_rng (lo : Int) (n : Nat) (T : CT) : ItOv T (Itr lo n) l [] ((List.range n).map fun k : Nat => lo + (k : Int)) :=
  ⟨fun i a H A ha hd _ => by
    rw [List.getElem?_map] at ha
    have hi : i < n := by
      by_cases h : i < n
      · exact h
      · rw [List.getElem?_eq_none (by simp; omega)] at ha
        cases ha
    rw [List.getElem?_range hi] at ha
    cases ha
    exact ⟨hi, fun x H3 hy => by
      obtain ⟨e1, e2⟩ := hy
      rw [e1, e2]
      exact ⟨Same.refl _, rfl⟩⟩, fun i H A hi _ => by
    rw [List.length_map, List.length_range] at hi
    exact hi⟩
def rng (lo hi : Int) : List Int := (List.range (hi - lo).toNat).map fun k : Nat => lo + (k : Int)
def rngO (lo hi : Int) : Option (List Int) := optIf (-1000000 ≤ lo ∧ lo ≤ 1000000 ∧ -1000000 ≤ hi ∧ hi ≤ 1000000 ∧ hi - lo ≤ 1000000) (rng lo hi)
theorem evi_rng1 {m : R Int} (h : Evm C Γ l2 t m) : EvI C Γ l (iRng1 (tCons t tNil)) (m.bind fun n => R.of (rngO 0 n)) := fun G hid os σ H Q Kw q => by
  refine h G hid os σ H _ Kw ?_
  cases e1 : m with
  | bad => rw [e1] at q; exact q
  | ex x => rw [e1] at q; exact q
  | ok n =>
    rw [e1] at q
    intro v H1 s1 r1
    have q : PoI C l G os σ H Q (R.of (rngO 0 n)) := q
    cases e2 : rngO 0 n with
    | none => rw [e2] at q; exact q.elim
    | some xs =>
      rw [e2] at q
      obtain ⟨c, e3⟩ := optIf_some e2
      refine ⟨n, by rw [int_rep r1], by omega, by omega, q _ [] H1 s1 (fun z hz => by cases hz) ?_ ?_⟩
      · rw [← e3]
        simp only [rng, List.length_map, List.length_range]
        show _ ≤ 1000000
        omega
      · rw [← e3]
        have := int_rng (l := l) 0 n.toNat C.T
        simpa [rng] using this
theorem evi_rng2 {m1 m2 : R Int} {t1 t2 : TE} (h1 : Evm C Γ l1 t1 m1) (h2 : Evm C Γ l2 t2 m2) : EvI C Γ l (iRng2 (tCons t1 (tCons t2 tNil))) (m1.bind fun a => m2.bind fun b => R.of (rngO a b)) := fun G hid os σ H Q Kw q => by
  refine h1 G hid os σ H _ Kw ?_
  cases e1 : m1 with
  | bad => rw [e1] at q; exact q
  | ex x => rw [e1] at q; exact q
  | ok n =>
    rw [e1] at q
    intro v H1 s1 r1
    refine h2 G hid os σ H1 _ (Kw.same s1) ?_
    cases e2 : m2 with
    | bad => rw [e2] at q; exact q
    | ex x => rw [e2] at q; exact PoX.back s1 q
    | ok m =>
      rw [e2] at q
      intro u H2 s2 r2
      have q : PoI C l G os σ H Q (R.of (rngO n m)) := q
      cases e3 : rngO n m with
      | none => rw [e3] at q; exact q.elim
      | some xs =>
        rw [e3] at q
        obtain ⟨c, e4⟩ := optIf_some e3
        refine ⟨n, m, by rw [int_rep r1, int_rep r2], ⟨by omega, by omega, by omega, by omega⟩, q _ [] H2 (s1.trans s2) (fun z hz => by cases hz) ?_ ?_⟩
        · rw [← e4]
          simp only [rng, List.length_map, List.length_range]
          show _ ≤ 1000000
          omega
        · rw [← e4]
          exact int_rng (l := l) n (m - n).toNat C.T
def enumF {α : Type} (xs : List α) : List (Tp (Int × α × Unit)) := xs.mapIdx fun i a => ⟨((i : Int), a, ())⟩
theorem evi_enum {m : R (List α)} (h : Evm C Γ l tl m) : EvI C Γ l (iEnum K (tCons tl tNil)) (m.bind fun xs => .ok (enumF xs)) := fun G hid os σ H Q Kw q => by
  refine h G hid os σ H _ Kw ?_
  cases e1 : m with
  | bad => rw [e1] at q; exact q
  | ex x => rw [e1] at q; exact q
  | ok xs =>
    rw [e1] at q
    intro v H1 s1 r1
    obtain ⟨p, vs, e, _, hp, hz, rs⟩ := lst_rep r1
    have hl := rs.len
    rw [List.length_map] at hl
    refine ⟨p, vs, by rw [e], rd_seqL hp, q _ [(enc xs, v)] H1 s1 (fun z hz => ?_) (by simp [enumF, hl, hz]) ⟨fun i a H2 A ha hd hpin => ?_, fun i H2 A hi hpin => ?_⟩⟩
    · rw [List.mem_singleton.mp hz]
      exact r1
    · obtain ⟨p2, us, e2, _, hp2, _, rs2⟩ := lst_rep (hpin _ (List.mem_singleton.mpr rfl))
      have e3 : p2 = p := by
        have : V.ref p2 = V.ref p := e2.symm.trans e
        injection this
      rw [e3] at hp2
      obtain ⟨b, hb, eb⟩ : ∃ b, xs[i]? = some b ∧ a = ⟨((i : Int), b, ())⟩ := by
        simp only [enumF, List.getElem?_mapIdx] at ha
        cases hx : xs[i]? with
        | none => rw [hx] at ha; cases ha
        | some b => rw [hx] at ha; exact ⟨b, rfl, (Option.some.inj ha).symm⟩
      obtain ⟨w, hw, rw'⟩ := rs2.get (show (xs.map enc)[i]? = some (enc b) by rw [List.getElem?_map, hb]; rfl)
      refine ⟨⟨us, w, rd_seqL hp2, hw⟩, fun x H3 hy => ?_⟩
      obtain ⟨d, y, ex, nd, eH, hx⟩ := hy
      have e4 := hx us (rd_seqL hp2)
      rw [hw] at e4
      cases e4
      rw [eH, eb, ex]
      refine ⟨same_new nd, ?_⟩
      show Rep C.T _ _ (.tup (encs ((i : Int), b, ()))) _
      unfold Rep
      exact ⟨d, _, rfl, fun z => hd d z nd, upd_same, (show 2 ≤ LIM by decide), reps_cons (by rfl) (reps_cons (rw'.same (same_new nd)) reps_nil)⟩
    · obtain ⟨p2, us, e2, _, hp2, _, rs2⟩ := lst_rep (hpin _ (List.mem_singleton.mpr rfl))
      have e3 : p2 = p := by
        have : V.ref p2 = V.ref p := e2.symm.trans e
        injection this
      rw [e3] at hp2
      have := rs2.len
      rw [List.length_map] at this
      simp only [enumF, List.length_mapIdx] at hi
      exact ⟨us, rd_seqL hp2, by omega⟩
def zipF {α β : Type} (xs : List α) (ys : List β) : List (Tp (α × β × Unit)) := List.zipWith (fun a b => ⟨(a, b, ())⟩) xs ys
theorem evi_zip {m1 : R (List α)} {m2 : R (List β)} {t1 t2 : TE} (h1 : Evm C Γ l t1 m1) (h2 : Evm C Γ l t2 m2) : EvI C Γ l (iZip K (tCons t1 (tCons t2 tNil))) (m1.bind fun xs => m2.bind fun ys => .ok (zipF xs ys)) := fun G hid os σ H Q Kw q => by
  refine h1 G hid os σ H _ Kw ?_
  cases e1 : m1 with
  | bad => rw [e1] at q; exact q
  | ex x => rw [e1] at q; exact q
  | ok xs =>
    rw [e1] at q
    intro v H1 s1 r1
    refine h2 G hid os σ H1 _ (Kw.same s1) ?_
    cases e2 : m2 with
    | bad => rw [e2] at q; exact q
    | ex x => rw [e2] at q; exact PoX.back s1 q
    | ok ys =>
      rw [e2] at q
      intro u H2 s2 r2
      obtain ⟨p, vs, e, _, hp, hz, rs⟩ := lst_rep (r1.same s2)
      obtain ⟨p', us, e', _, hp', hz', rs'⟩ := lst_rep r2
      have hl := rs.len
      have hl' := rs'.len
      rw [List.length_map] at hl hl'
      have same_at : ∀ {p2 p : Addr} {v : V}, v = .ref p2 → v = .ref p → p2 = p := fun e1 e2 => by
        have := e1.symm.trans e2
        injection this
      refine ⟨p, p', vs, us, by rw [e, e'], rd_seqL hp, rd_seqL hp', q _ [(enc xs, v), (enc ys, u)] H2 (s1.trans s2) (fun z hz => ?_) (by simp only [zipF, List.length_zipWith]; omega) ⟨fun i a H3 A ha hd hpin => ?_, fun i H3 A hi hpin => ?_⟩⟩
      · rcases List.mem_cons.mp hz with hz | hz
        · rw [hz]; exact r1.same s2
        · rw [List.mem_singleton.mp hz]; exact r2
      · obtain ⟨q1, ws, f1, _, g1, _, k1⟩ := lst_rep (hpin (enc xs, v) (by simp))
        obtain ⟨q2, zs, f2, _, g2, _, k2⟩ := lst_rep (hpin (enc ys, u) (by simp))
        rw [same_at f1 e] at g1
        rw [same_at f2 e'] at g2
        obtain ⟨b, c, hb, hc, ea⟩ : ∃ b c, xs[i]? = some b ∧ ys[i]? = some c ∧ a = ⟨(b, c, ())⟩ := by
          simp only [zipF, List.getElem?_zipWith] at ha
          cases hx : xs[i]? with
          | none => rw [hx] at ha; cases ha
          | some b =>
            cases hy : ys[i]? with
            | none => rw [hx, hy] at ha; cases ha
            | some c => rw [hx, hy] at ha; exact ⟨b, c, rfl, rfl, (Option.some.inj ha).symm⟩
        obtain ⟨w, hw, rw'⟩ := k1.get (show (xs.map enc)[i]? = some (enc b) by rw [List.getElem?_map, hb]; rfl)
        obtain ⟨z, hz, rz⟩ := k2.get (show (ys.map enc)[i]? = some (enc c) by rw [List.getElem?_map, hc]; rfl)
        refine ⟨⟨ws, zs, w, z, rd_seqL g1, rd_seqL g2, hw, hz⟩, fun x H4 hy => ?_⟩
        obtain ⟨d, y1, y2, ex, nd, eH, hx1, hx2⟩ := hy
        have e4 := hx1 ws (rd_seqL g1)
        have e5 := hx2 zs (rd_seqL g2)
        rw [hw] at e4
        rw [hz] at e5
        cases e4
        cases e5
        rw [eH, ea, ex]
        refine ⟨same_new nd, ?_⟩
        show Rep C.T _ _ (.tup (encs (b, c, ()))) _
        unfold Rep
        exact ⟨d, _, rfl, fun z => hd d z nd, upd_same, (show 2 ≤ LIM by decide), reps_cons (rw'.same (same_new nd)) (reps_cons (rz.same (same_new nd)) reps_nil)⟩
      · obtain ⟨q1, ws, f1, _, g1, _, k1⟩ := lst_rep (hpin (enc xs, v) (by simp))
        obtain ⟨q2, zs, f2, _, g2, _, k2⟩ := lst_rep (hpin (enc ys, u) (by simp))
        rw [same_at f1 e] at g1
        rw [same_at f2 e'] at g2
        have l1 := k1.len
        have l2 := k2.len
        rw [List.length_map] at l1 l2
        simp only [zipF, List.length_zipWith] at hi
        exact ⟨ws, zs, rd_seqL g1, rd_seqL g2, by omega⟩
end
end Pv

set_option Elab.async false
set_option linter.all false
set_option maxRecDepth 100000
namespace Pv
open PySem PySem.Spec L2
open Enc (enc)
open Encs (encs)

/-! ### targets -/
theorem wipe_len (σ : L2.St) (vs : List Nat) : (wipe σ vs).length = σ.length := wipe_length σ vs
theorem wipe_get (σ : L2.St) : ∀ (vs : List Nat) (i : Nat), (wipe σ vs)[i]? = if i ∈ vs ∧ i < σ.length then some none else σ[i]?
  | [], i => by simp [wipe]
  | v :: vs, i => by
    unfold wipe
    by_cases h : v = i
    · subst h
      by_cases hl : v < σ.length
      · rw [List.getElem?_set_self (by rw [wipe_len]; exact hl)]
        simp [hl]
      · rw [List.getElem?_eq_none (by simp [wipe_len]; omega)]
        simp [hl]
    · rw [List.getElem?_set_ne h, wipe_get σ vs i]
      have h' : ¬ i = v := fun z => h z.symm
      simp [h']
theorem wipe_ext {σ τ : L2.St} {vs : List Nat} (hl : σ.length = τ.length) (h : ∀ i, i ∉ vs → σ[i]? = τ[i]?) : wipe σ vs = wipe τ vs := by
  apply List.ext_getElem?
  intro i
  rw [wipe_get, wipe_get, hl]
  by_cases hi : i ∈ vs
  · by_cases h2 : i < τ.length
    · simp [hi, h2]
    · simp only [hi, h2, and_false, if_false]
      rw [List.getElem?_eq_none (by omega), List.getElem?_eq_none (by omega)]
  · simp only [hi, false_and, if_false]
    exact h i hi
theorem wipe_out {σ : L2.St} {vs : List Nat} {i : Nat} (h : i ∉ vs) : (wipe σ vs)[i]? = σ[i]? := by
  rw [wipe_get]
  simp [h]

section
variable {C : Cn} {Γ : List Sl} {l l1 l2 : Lv} {α β γ : Type} [Enc α] [Enc β] [Enc γ] {K : PySem.W.Frag}
/-- slots as they were but for vs -/
def Bar (vs : List Nat) (σ σ' : L2.St) : Prop := σ.length = σ'.length ∧ ∀ i, i ∉ vs → σ[i]? = σ'[i]?
theorem Bar.refl (vs : List Nat) (σ : L2.St) : Bar vs σ σ := ⟨rfl, fun _ _ => rfl⟩
theorem Bar.set {vs : List Nat} {σ : L2.St} {j : Nat} {x : Option V} (h : j ∈ vs) : Bar vs σ (σ.set j x) := ⟨by simp, fun i hi => by
  rw [List.getElem?_set_ne (fun z : j = i => hi (by rw [← z]; exact h))]⟩
theorem Bar.trans {vs : List Nat} {σ σ1 σ2 : L2.St} (a : Bar vs σ σ1) (b : Bar vs σ1 σ2) : Bar vs σ σ2 := ⟨a.1.trans b.1, fun i hi => (a.2 i hi).trans (b.2 i hi)⟩
def TgB (C : Cn) (l : Lv) (g : TG) (vs : List Nat) (f : List Sl → α → List Sl) : Prop :=
  ∀ G hid os σ H Q v a Γ, OkW C G Γ hid os σ H → (∀ j ∈ vs, os[j]? = some none) → Rep C.T H (av l C.H0 G os) (enc a) v → (∀ os' σ', OkW C G (f Γ a) hid os' σ' H → Bar vs σ σ' → (∀ b : Addr, some b ∈ os → some b ∈ os') → Q σ' H) → g v σ H Q
theorem lt_of_some {os : List (Option Addr)} {j : Nat} (h : os[j]? = some none) : j < os.length := (List.getElem?_eq_some_iff.mp h).1
theorem keep_none {os : List (Option Addr)} {j : Nat} (h : os[j]? = some none) (b : Addr) (hb : some b ∈ os) : some b ∈ os.set j none := by
  obtain ⟨i, hi⟩ := List.getElem?_of_mem hb
  refine List.mem_of_getElem? (i := i) ?_
  by_cases e : j = i
  · rw [e, hi] at h; cases h
  · rw [List.getElem?_set_ne e]; exact hi
theorem none_set {os : List (Option Addr)} {j k : Nat} (h : os[k]? = some none) : (os.set j none)[k]? = some none := by
  by_cases e : j = k
  · rw [e, List.getElem?_set_self (lt_of_some h)]
  · rw [List.getElem?_set_ne e]; exact h
theorem tg_name {j : Nat} (hl : l.st) : TgB C l (gName j) [j] (fun Γ (a : α) => Γ.set j (.sh l (enc a))) := fun G hid os σ H Q v a Γ Kw hj r q =>
  q _ _ (Kw.put (by rw [← Kw.lo]; exact lt_of_some (hj j (by simp))) hl r) (Bar.set (by simp)) (keep_none (hj j (by simp)))
theorem tg_two {j k : Nat} (hl : l.st) : TgB C l (gTup K 2 (gCons (gName j) (gCons (gName k) gNil))) [j, k] (fun Γ (a : Tp (α × β × Unit)) => (Γ.set j (.sh l (enc a.t.1))).set k (.sh l (enc a.t.2.1))) := fun G hid os σ H Q v a Γ Kw hj r q => by
  have r : Rep C.T H _ (.tup (encs a.t)) v := r
  unfold Rep at r
  obtain ⟨p, vs, e, _, hp, _, rs⟩ := r
  obtain ⟨v1, v2, e2, r1, r2⟩ := reps2 (a := a.t.1) (b := a.t.2.1) rs
  have K1 := Kw.put (by rw [← Kw.lo]; exact lt_of_some (hj j (by simp))) hl r1
  have r2' : Rep C.T H (av l C.H0 G (os.set j none)) (enc a.t.2.1) v2 := r2.weak (av_less (fun a z => mem_set_none z) l)
  have K2 := K1.put (i := k) (by rw [List.length_set, ← Kw.lo]; exact lt_of_some (hj k (by simp))) hl r2'
  refine ⟨p, vs, e, rd_seqT hp, by rw [e2]; rfl, ?_⟩
  rw [e2]
  refine ⟨v1, [v2], rfl, v2, [], rfl, rfl, ?_⟩
  exact q _ _ K2 ((Bar.set (by simp)).trans (Bar.set (by simp))) fun b hb => keep_none (none_set (hj k (by simp))) b (keep_none (hj j (by simp)) b hb)
theorem tg_three {j k m : Nat} (hl : l.st) : TgB C l (gTup K 3 (gCons (gName j) (gCons (gName k) (gCons (gName m) gNil)))) [j, k, m] (fun Γ (a : Tp (α × β × γ × Unit)) => ((Γ.set j (.sh l (enc a.t.1))).set k (.sh l (enc a.t.2.1))).set m (.sh l (enc a.t.2.2.1))) := fun G hid os σ H Q v a Γ Kw hj r q => by
  have r : Rep C.T H _ (.tup (encs a.t)) v := r
  unfold Rep at r
  obtain ⟨p, vs, e, _, hp, _, v1, rr, e1, r1, rs⟩ := r
  obtain ⟨v2, v3, e2, r2, r3⟩ := reps2 (a := a.t.2.1) (b := a.t.2.2.1) rs
  have K1 := Kw.put (by rw [← Kw.lo]; exact lt_of_some (hj j (by simp))) hl r1
  have r2' : Rep C.T H (av l C.H0 G (os.set j none)) (enc a.t.2.1) v2 := r2.weak (av_less (fun a z => mem_set_none z) l)
  have K2 := K1.put (i := k) (by rw [List.length_set, ← Kw.lo]; exact lt_of_some (hj k (by simp))) hl r2'
  have r3' : Rep C.T H (av l C.H0 G ((os.set j none).set k none)) (enc a.t.2.2.1) v3 := r3.weak (av_less (fun a z => mem_set_none (mem_set_none z)) l)
  have K3 := K2.put (i := m) (by rw [List.length_set, List.length_set, ← Kw.lo]; exact lt_of_some (hj m (by simp))) hl r3'
  refine ⟨p, vs, e, rd_seqT hp, by rw [e1, e2]; rfl, ?_⟩
  rw [e1, e2]
  refine ⟨v1, [v2, v3], rfl, v2, [v3], rfl, v3, [], rfl, rfl, ?_⟩
  exact q _ _ K3 (((Bar.set (by simp)).trans (Bar.set (by simp))).trans (Bar.set (by simp))) fun b hb => keep_none (none_set (none_set (hj m (by simp)))) b (keep_none (none_set (hj k (by simp))) b (keep_none (hj j (by simp)) b hb))
end

/-! ### comprehensions -/
/-- the slots vs are forgotten -/
def forget (Γ : List Sl) : List Nat → List Sl
  | [] => Γ
  | v :: vs => (forget Γ vs).set v .un
def mapR {α β : Type} (f : α → R β) : List α → R (List β)
  | [] => .ok []
  | x :: xs => (f x).bind fun y => (mapR f xs).bind fun ys => .ok (y :: ys)
def compR {α β : Type} (t : α → R Bool) (f : α → R β) : List α → R (List β)
  | [] => .ok []
  | x :: xs => (t x).bind fun b => R.ite b ((f x).bind fun y => (compR t f xs).bind fun ys => .ok (y :: ys)) (compR t f xs)
section
variable {C : Cn} {Γ : List Sl} {hid : Hid} {G : Addr → Prop} {os : List (Option Addr)} {σ : L2.St} {H : Hp}
theorem forget_len (Γ : List Sl) : ∀ vs, (forget Γ vs).length = Γ.length
  | [] => rfl
  | v :: vs => by unfold forget; rw [List.length_set, forget_len Γ vs]
theorem OkW.wipe (Kw : OkW C G Γ hid os σ H) : ∀ vs : List Nat, (∀ j ∈ vs, os[j]? = some none) → ∃ os', OkW C G (forget Γ vs) hid os' (L2.wipe σ vs) H ∧ (∀ a : Addr, some a ∈ os' → some a ∈ os) ∧ (∀ a : Addr, some a ∈ os → some a ∈ os') ∧ (∀ j : Nat, os[j]? = some none → os'[j]? = some none)
  | [], _ => ⟨os, Kw, fun _ z => z, fun _ z => z, fun _ z => z⟩
  | v :: vs, h => by
    obtain ⟨os', K1, m, m', n⟩ := OkW.wipe Kw vs fun j hj => h j (List.mem_cons_of_mem _ hj)
    have hv := h v List.mem_cons_self
    exact ⟨_, K1.clear v (by rw [forget_len, ← Kw.lo]; exact lt_of_some hv) none, fun a z => m a (mem_set_none z), fun a z => keep_none (n v hv) a (m' a z), fun j hj => none_set (n j hj)⟩
theorem none_of {Γ : List Sl} (Kw : OkW C G Γ hid os σ H) {j : Nat} (hj : j < Γ.length) (hn : ∀ l xs, Γ[j]? ≠ some (.ow l xs)) : os[j]? = some none := by
  have hg : Γ[j]? = some Γ[j] := List.getElem?_eq_getElem hj
  have q := Kw.sl j _ hg
  cases e : Γ[j] with
  | un => rw [e] at q; exact q
  | sh l p => rw [e] at q; exact q.2.1
  | ow l xs => rw [e] at hg; exact absurd hg (hn l xs)
end
section
variable {C : Cn} {Γ : List Sl} {l l1 l2 : Lv} {α β γ : Type} [Enc α] [Enc β] [Enc γ] {K : PySem.W.Frag} {wi : TI} {g : TG} {tt : TT} {te : TE} {vs : List Nat}
/-- hidden lists: what is avoided may be more -/
theorem av_ext {H0 : Hp} {G : Addr → Prop} {os : List (Option Addr)} {l : Lv} (hl : l.st) {D a : Addr} (h : av l H0 G os a ∨ a = D) : av l H0 (fun b => G b ∨ b = D) os a := by
  cases l with
  | raw => exact hl.elim
  | pa => rcases h with (h | h) | h
          · exact .inl (.inl h)
          · exact .inr h
          · exact .inl (.inr h)
  | fr => rcases h with (h | h | h) | h
          · exact .inl h
          · exact .inr (.inl (.inl h))
          · exact .inr (.inr h)
          · exact .inr (.inl (.inr h))
theorem av_ext' {H0 : Hp} {G : Addr → Prop} {os : List (Option Addr)} {l : Lv} {D a : Addr} (h : av l H0 (fun b => G b ∨ b = D) os a) : av l H0 G os a ∨ a = D := by
  cases l with
  | raw => exact h.elim
  | pa => rcases h with (h | h) | h
          · exact .inl (.inl h)
          · exact .inr h
          · exact .inl (.inr h)
  | fr => rcases h with h | (h | h) | h
          · exact .inl (.inl h)
          · exact .inl (.inr (.inl h))
          · exact .inr h
          · exact .inl (.inr (.inr h))
theorem OkW.more {G : Addr → Prop} {hid : Hid} {os : List (Option Addr)} {σ : L2.St} {H H' : Hp} {D : Addr} (Kw : OkW C G Γ hid os σ H) (s : Same H H') (n : H D = none) (d : H' D ≠ none) : OkW C (fun b => G b ∨ b = D) Γ hid os σ H' := by
  have mv : ∀ (l : Lv), l.st → ∀ p v, Rep C.T H (av l C.H0 G os) p v → Rep C.T H' (av l C.H0 (fun b => G b ∨ b = D) os) p v := fun l hl p v h => ((h.free n).same s).weak fun b z => av_ext' z
  have mvs : ∀ (l : Lv), l.st → ∀ p v, Reps C.T H (av l C.H0 G os) p v → Reps C.T H' (av l C.H0 (fun b => G b ∨ b = D) os) p v := fun l hl p v h => ((h.free n).same s).weak fun b z => av_ext' z
  refine ⟨Kw.lo, Kw.ls, Kw.ext.trans s, fun a g => g.elim (fun g => same_ne s (Kw.dom a g)) fun e => by rw [e]; exact d, fun a h => ?_, Kw.inj, fun i x h => ?_, fun q hq => ⟨(Kw.hd q hq).1, mv q.1 (Kw.hd q hq).1 _ _ (Kw.hd q hq).2⟩⟩
  · obtain ⟨h1, h2, h3⟩ := Kw.new a h
    exact ⟨h1, same_ne s h2, fun z => z.elim h3 fun e => by rw [e] at h2; exact h2 n⟩
  · have q := Kw.sl i x h
    cases x with
    | un => exact q
    | sh l p => obtain ⟨q1, q2, v, q3, q4⟩ := q; exact ⟨q1, q2, v, q3, mv l q1 _ _ q4⟩
    | ow l xs => obtain ⟨q1, a, us, q2, q3, q4, q5, q6⟩ := q; exact ⟨q1, a, us, q2, q3, s _ _ q4, q5, mvs l q1 _ _ q6⟩
theorem mut_same {H1 H2 : Hp} {D : Addr} {o : HO} (s : Same H1 H2) (n : H1 D = none) : Same H1 (upd H2 D o) := fun b u e => by
  rw [upd_ne (ne_of_none e n)]
  exact s b u e
theorem compR_len {t : α → R Bool} {f : α → R β} : ∀ {xs : List α} {ys : List β}, compR t f xs = .ok ys → ys.length ≤ xs.length
  | [], ys, h => by cases h; exact Nat.le_refl _
  | x :: xs, ys, h => by
    unfold compR at h
    cases e1 : t x with
    | bad => rw [e1] at h; cases h
    | ex z => rw [e1] at h; cases h
    | ok b =>
      rw [e1] at h
      cases b with
      | false =>
        have := compR_len (xs := xs) (ys := ys) h
        simp only [List.length_cons]; omega
      | true =>
        have h : (f x).bind _ = .ok ys := h
        cases e2 : f x with
        | bad => rw [e2] at h; cases h
        | ex z => rw [e2] at h; cases h
        | ok y =>
          rw [e2] at h
          have h : (compR t f xs).bind _ = .ok ys := h
          cases e3 : compR t f xs with
          | bad => rw [e3] at h; cases h
          | ex z => rw [e3] at h; cases h
          | ok zs =>
            rw [e3] at h
            cases h
            have := compR_len e3
            simp only [List.length_cons]; omega
/-- [e for x in xs if t] -/
theorem evn_lc {l3 : Lv} {m : R (List α)} {fg : List Sl → α → List Sl} {mt : α → R Bool} {me : α → R β} (hW : C.W = none) (hl : l.st) (hl1 : l3.st) (hcv : l1 = l3 ∨ ∀ (H H' : Hp) (A A' : Addr → Prop) (a : α) (v : V), Rep C.T H A (enc a) v → Rep C.T H' A' (enc a) v) (hi : EvI C Γ l1 wi m) (hvs : ∀ j ∈ vs, j < Γ.length ∧ ∀ l xs, Γ[j]? ≠ some (.ow l xs)) (hg : TgB (α := α) C l3 g vs fg)
    (ht : ∀ a, EvT C (fg (forget Γ vs) a) tt (mt a)) (he : ∀ a, Evm C (fg (forget Γ vs) a) l te (me a)) : EvN C Γ l (tLc wi g tt te vs) (m.bind fun xs => compR mt me xs) := fun G hid os σ H Q Kw q => by
  refine hi G hid os σ H _ Kw ?_
  cases e1 : m with
  | bad => rw [e1] at q; exact q
  | ex x => rw [e1] at q; exact q
  | ok xs =>
    rw [e1] at q
    intro J pins H1 s1 hp hz iv D nD
    have q : PoN C l G os σ H Q (compR mt me xs) := q
    have hno : ∀ j ∈ vs, os[j]? = some none := fun j hj => none_of Kw (hvs j hj).1 (hvs j hj).2
    obtain ⟨os', Kv, mo, mo', mn⟩ := (Kw.same s1).wipe vs hno
    have avw : ∀ l a, av l C.H0 G os' a → av l C.H0 G os a := fun l a => av_less mo l a
    -- what is held before turn i: the list so far, and what is wanted of the rest
    refine ⟨fun i k H2 => k = xs.length - i ∧ i ≤ xs.length ∧ ∃ acc us, Same H1 H2 ∧ H2 D = some (.lst us) ∧ us.length = acc.length ∧ acc.length ≤ i ∧ Reps C.T H2 (fun b => av l C.H0 G os b ∨ b = D) (acc.map enc) us ∧
      (match compR mt me (xs.drop i) with | .ok ys => ∀ us2 H3, Same H1 H3 → H3 D = some (.lst us2) → us2.length ≤ LIM → Reps C.T H3 (fun b => av l C.H0 G os b ∨ b = D) ((acc ++ ys).map enc) us2 → Q (.ref D) H3 | _ => False),
      ⟨xs.length, by simp, Nat.zero_le _, [], [], same_new nD, upd_same, rfl, Nat.le_refl _, reps_nil, ?_⟩, fun i k H2 hk => ?_⟩
    · rw [List.drop_zero]
      cases e2 : compR mt me xs with
      | bad => rw [e2] at q; exact q
      | ex x => rw [e2] at q; have q : PoX C σ H x := q; unfold PoX at q; rw [hW] at q; exact q
      | ok ys =>
        rw [e2] at q
        exact fun us2 H3 s3 h3 hz3 r3 => q D us2 H3 (s1.trans s3) (s1.free nD) h3 hz3 r3
    · obtain ⟨ek, hi', acc, us, s2, hD, hlen, hle, rs, hq⟩ := hk
      have pinsR : ∀ z ∈ pins, Rep C.T H2 (fun b => av l1 C.H0 G os b ∨ b = D) z.1 z.2 := fun z hz => ((hp z hz).free nD).same s2
      have domA : ∀ b, (av l1 C.H0 G os b ∨ b = D) → H2 b ≠ none := fun b hb => by
        rcases hb with hb | hb
        · exact same_ne (s1.trans s2) (Kw.avdom l1 b hb)
        · rw [hb, hD]; exact fun z => nomatch z
      by_cases hlt : i < xs.length
      · right
        have hx : xs[i]? = some xs[i] := List.getElem?_eq_getElem hlt
        obtain ⟨hgo, hy⟩ := iv.go i _ H2 _ hx domA pinsR
        refine ⟨hgo, fun H3 => ∃ k', k' < k ∧ (k' = xs.length - (i + 1) ∧ i + 1 ≤ xs.length ∧ ∃ acc us, Same H1 H3 ∧ H3 D = some (.lst us) ∧ us.length = acc.length ∧ acc.length ≤ i + 1 ∧ Reps C.T H3 (fun b => av l C.H0 G os b ∨ b = D) (acc.map enc) us ∧
          (match compR mt me (xs.drop (i + 1)) with | .ok ys => ∀ us2 H3, Same H1 H3 → H3 D = some (.lst us2) → us2.length ≤ LIM → Reps C.T H3 (fun b => av l C.H0 G os b ∨ b = D) ((acc ++ ys).map enc) us2 → Q (.ref D) H3 | _ => False)), fun H3 hh => hh, fun x H3 hyx => ?_⟩
        obtain ⟨s3, rx⟩ := hy x H3 hyx
        have K3 : OkW C (fun b => G b ∨ b = D) (forget Γ vs) hid os' (L2.wipe σ vs) H3 := Kv.more (s2.trans s3) nD (same_ne s3 (by rw [hD]; exact fun z => nomatch z))
        refine hg _ hid os' _ H3 _ x xs[i] _ K3 (fun j hj => mn j (hno j hj)) (hcv.elim (fun e => by rw [← e]; exact rx.weak fun b z => (av_ext' z).imp (avw l1 b) id) fun k => k _ _ _ _ _ _ rx) (fun os2 σ2 K4 bar mo2 => ⟨?_, ?_⟩)
        · exact (wipe_ext (σ := σ2) (τ := L2.wipe σ vs) bar.1.symm fun j hj => (bar.2 j hj).symm).trans (wipe_ext (wipe_len σ vs) fun j hj => wipe_out hj)
        · -- the test, the element
          have hd : xs.drop i = xs[i] :: xs.drop (i + 1) := List.drop_eq_getElem_cons hlt
          rw [hd] at hq
          unfold compR at hq
          refine ht xs[i] _ hid os2 σ2 H3 _ K4 ?_
          cases e2 : mt xs[i] with
          | bad => rw [e2] at hq; exact hq
          | ex z => rw [e2] at hq; exact hq.elim
          | ok b =>
            rw [e2] at hq
            intro H4 s4
            have hD4 : H4 D = some (.lst us) := s4 _ _ (s3 _ _ hD)
            have s14 := (s2.trans s3).trans s4
            cases b with
            | false =>
              refine iteF ⟨xs.length - (i + 1), by omega, rfl, by omega, acc, us, s14, hD4, hlen, by omega, rs.same (s3.trans s4), ?_⟩
              exact hq
            | true =>
              refine iteT (he xs[i] _ hid os2 σ2 H4 _ (K4.same s4) ?_)
              have hq : (match (me xs[i]).bind fun y => (compR mt me (xs.drop (i + 1))).bind fun ys => R.ok (y :: ys) with | .ok ys => ∀ us2 H3, Same H1 H3 → H3 D = some (.lst us2) → us2.length ≤ LIM → Reps C.T H3 (fun b => av l C.H0 G os b ∨ b = D) ((acc ++ ys).map enc) us2 → Q (.ref D) H3 | _ => False) := hq
              cases e3 : me xs[i] with
              | bad => rw [e3] at hq; exact hq
              | ex z => rw [e3] at hq; exact hq.elim
              | ok y =>
                rw [e3] at hq
                intro v H5 s5 rv
                have hD5 : H5 D = some (.lst us) := s5 _ _ hD4
                have s15 := s14.trans s5
                refine ⟨us, hD5, lim_size (by omega), xs.length - (i + 1), by omega, rfl, by omega, acc ++ [y], us ++ [v], mut_same s15 nD, upd_same, by simp [hlen], by simp; omega, ?_, ?_⟩
                · rw [List.map_append]
                  have gD : (fun b => av l C.H0 G os b ∨ b = D) D := .inr rfl
                  exact Reps.upd gD ((rs.same ((s3.trans s4).trans s5)).app (reps_cons (rv.weak fun b z => av_ext hl (z.imp (av_less (fun a z => mo2 a (mo' a z)) l b) id)) reps_nil))
                · have hq : (match (compR mt me (xs.drop (i + 1))).bind fun ys => R.ok (y :: ys) with | .ok ys => ∀ us2 H3, Same H1 H3 → H3 D = some (.lst us2) → us2.length ≤ LIM → Reps C.T H3 (fun b => av l C.H0 G os b ∨ b = D) ((acc ++ ys).map enc) us2 → Q (.ref D) H3 | _ => False) := hq
                  cases e4 : compR mt me (xs.drop (i + 1)) with
                  | bad => rw [e4] at hq; exact hq
                  | ex z => rw [e4] at hq; exact hq
                  | ok ys =>
                    rw [e4] at hq
                    show ∀ us2 H3, _
                    rw [List.append_assoc]
                    exact hq
      · left
        refine ⟨iv.stop i H2 _ (by omega) pinsR, ?_⟩
        have hd : xs.drop i = [] := List.drop_eq_nil_of_le (by omega)
        rw [hd] at hq
        have hq : ∀ us2 H3, Same H1 H3 → H3 D = some (.lst us2) → us2.length ≤ LIM → Reps C.T H3 (fun b => av l C.H0 G os b ∨ b = D) ((acc ++ []).map enc) us2 → Q (.ref D) H3 := hq
        rw [List.append_nil] at hq
        exact hq us H2 s2 hD (by omega) rs
end
end Pv

set_option Elab.async false
set_option linter.all false
set_option maxRecDepth 100000
namespace Pv
open PySem PySem.Spec L2
open Enc (enc)
open Encs (encs)

/-! ### blocks -/
inductive Oc where
  | nx (Γ : List Sl) | bk (Γ : List Sl) | ct (Γ : List Sl) | rt (p : PV)
def PoO (C : Cn) (G : Addr → Prop) (hid : Hid) (D : Ends) : Oc → Prop
  | .nx Γ => ∀ os σ H, OkW C G Γ hid os σ H → D.nx σ H
  | .bk Γ => ∀ os σ H, OkW C G Γ hid os σ H → D.bk σ H
  | .ct Γ => ∀ os σ H, OkW C G Γ hid os σ H → D.ct σ H
  | .rt p => PoRet C.T C.M G C.H0 D.rt p
def PoXB (C : Cn) (x : Exc) : Prop := match C.W with
  | none => False
  | some W => ∀ σ cls d H, Same C.H0 H → ExRep C.T H x cls d → W cls d σ H
def PoB {β : Type} (C : Cn) (G : Addr → Prop) (hid : Hid) (D : Ends) (out : β → Oc) : R β → Prop
  | .ok b => PoO C G hid D (out b)
  | .ex x => PoXB C x
  | .bad => False
def BD {β : Type} (C : Cn) (Γ : List Sl) (t : TS) (m : R β) (out : β → Oc) : Prop := ∀ G hid os σ H D, OkW C G Γ hid os σ H → PoB C G hid D out m → t D σ H

section
variable {C : Cn} {Γ Γ' : List Sl} {l l1 l2 : Lv} {α γ : Type} [Enc α] [Enc γ] {β ε : Type} {out : β → Oc} {K : PySem.W.Frag} {te ta tb : TE} {tt : TT} {t u w : TS}
theorem pox_of {x : Exc} {G : Addr → Prop} {hid : Hid} {os : List (Option Addr)} {σ : L2.St} {H : Hp} (Kw : OkW C G Γ hid os σ H) (q : PoXB C x) : PoX C σ H x := by
  unfold PoXB at q
  unfold PoX
  cases hw : C.W with
  | none => rw [hw] at q; exact q
  | some W => rw [hw] at q; exact fun cls d H' s r => q σ cls d H' (Kw.ext.trans s) r
theorem bd_assoc {t1 t2 : TS} {m : R β} (h : BD C Γ (tSeq t1 (tSeq t2 u)) m out) : BD C Γ (tSeq (tSeq t1 t2) u) m out := h
theorem bd_nil {m : R β} (h : BD C Γ u m out) : BD C Γ (tSeq tNext u) m out := h
theorem bd_wk {m : R β} (w : Wk Γ Γ') (h : BD C Γ' t m out) : BD C Γ t m out := fun G hid os σ H D Kw q => by
  obtain ⟨os', K'⟩ := w.okw Kw
  exact h G hid os' σ H D K' q
theorem bd_end {b : β} (w : Wk Γ Γ') (h : out b = .nx Γ') : BD C Γ tNext (.ok b) out := fun G hid os σ H D Kw q => by
  obtain ⟨os', K'⟩ := w.okw Kw
  have q : PoO C G hid D (out b) := q
  rw [h] at q
  exact q os' σ H K'
theorem bd_break {b : β} (w : Wk Γ Γ') (h : out b = .bk Γ') : BD C Γ (tSeq tBreak u) (.ok b) out := fun G hid os σ H D Kw q => by
  obtain ⟨os', K'⟩ := w.okw Kw
  have q : PoO C G hid D (out b) := q
  rw [h] at q
  exact q os' σ H K'
theorem bd_cont {b : β} (w : Wk Γ Γ') (h : out b = .ct Γ') : BD C Γ (tSeq tCont u) (.ok b) out := fun G hid os σ H D Kw q => by
  obtain ⟨os', K'⟩ := w.okw Kw
  have q : PoO C G hid D (out b) := q
  rw [h] at q
  exact q os' σ H K'
/-- behind an expression: what is known of its outcome -/
theorem ex_cases {α : Type} {m : R α} {k : α → R β} {G : Addr → Prop} {hid : Hid} {D : Ends} (q : PoB C G hid D out (m.bind k)) : (∃ a, m = .ok a ∧ PoB C G hid D out (k a)) ∨ (∃ x, m = .ex x ∧ PoXB C x) := by
  cases m with
  | bad => exact q.elim
  | ex x => exact .inr ⟨x, rfl, q⟩
  | ok a => exact .inl ⟨a, rfl, q⟩
theorem bd_set {i : Nat} {m : R α} {k : α → R β} (h : Evm C Γ l te m) (hl : l.st) (hi : i < Γ.length) (hk : ∀ a, BD C (Γ.set i (.sh l (enc a))) u (k a) out) : BD C Γ (tSeq (tAsg te (gName i)) u) (m.bind k) out := fun G hid os σ H D Kw q => by
  refine h G hid os σ H _ Kw ?_
  rcases ex_cases q with ⟨a, e, q⟩ | ⟨x, e, q⟩ <;> rw [e]
  · exact fun v H1 s1 r1 => hk a G hid _ _ H1 D ((Kw.same s1).put hi hl r1) q
  · exact pox_of Kw q
theorem bd_setP {i : Nat} {a : α} {k : α → R β} (h : Evm C Γ l te (.ok a)) (hl : l.st) (hi : i < Γ.length) (hk : ∀ a, BD C (Γ.set i (.sh l (enc a))) u (k a) out) : BD C Γ (tSeq (tAsg te (gName i)) u) (R.lt a k) out := bd_set h hl hi hk
theorem bd_setN {i : Nat} {m : R (List α)} {k : List α → R β} (h : EvN C Γ l te m) (hl : l.st) (hi : i < Γ.length) (hk : ∀ xs, BD C (Γ.set i (.ow l (xs.map enc))) u (k xs) out) : BD C Γ (tSeq (tAsg te (gName i)) u) (m.bind k) out := fun G hid os σ H D Kw q => by
  refine h G hid os σ H _ Kw ?_
  rcases ex_cases q with ⟨a, e, q⟩ | ⟨x, e, q⟩ <;> rw [e]
  · exact fun p vs H1 s1 n hp hz r1 => hk a G hid _ _ H1 D (Kw.own hi hl s1 n hp hz r1) q
  · exact pox_of Kw q
theorem bd_setNP {i : Nat} {a : List α} {k : List α → R β} (h : EvN C Γ l te (.ok a)) (hl : l.st) (hi : i < Γ.length) (hk : ∀ xs, BD C (Γ.set i (.ow l (xs.map enc))) u (k xs) out) : BD C Γ (tSeq (tAsg te (gName i)) u) (R.lt a k) out := bd_setN h hl hi hk
theorem bd_drop {m : R α} {k : R β} (h : Evm C Γ l te m) (hk : BD C Γ u k out) : BD C Γ (tSeq (tDrop te) u) (m.bind fun _ => k) out := fun G hid os σ H D Kw q => by
  refine h G hid os σ H _ Kw ?_
  rcases ex_cases q with ⟨a, e, q⟩ | ⟨x, e, q⟩ <;> rw [e]
  · exact fun v H1 s1 r1 => hk G hid os σ H1 D (Kw.same s1) q
  · exact pox_of Kw q
theorem avC_av {G : Addr → Prop} {H0 : Hp} {os : List (Option Addr)} (a : Addr) (h : avC l G H0 a) : av l H0 G os a := by
  cases l with
  | raw => exact h
  | pa => exact .inl h
  | fr => exact h.imp id .inl
/-- return, a value -/
theorem bd_ret {m : R α} {k : α → β} (hM : C.M = .val l) (h : Evm C Γ l te m) (ho : ∀ a, out (k a) = .rt (enc a)) : BD C Γ (tSeq (tRet te) u) (m.bind fun a => .ok (k a)) out := fun G hid os σ H D Kw q => by
  refine h G hid os σ H _ Kw ?_
  rcases ex_cases q with ⟨a, e, q⟩ | ⟨x, e, q⟩ <;> rw [e]
  · intro v H1 s1 r1
    have q : PoO C G hid D (out (k a)) := q
    rw [ho] at q
    have q : PoRet C.T C.M G C.H0 D.rt (enc a) := q
    unfold PoRet at q
    rw [hM] at q
    exact q v H1 (Kw.ext.trans s1) (r1.weak fun a z => avC_av a z)
  · exact pox_of Kw q
theorem bd_ret1 {out : α → Oc} {m : R α} (hM : C.M = .val l) (h : Evm C Γ l te m) (ho : ∀ a, out a = .rt (enc a)) : BD C Γ (tSeq (tRet te) u) m out := by
  have := bd_ret (u := u) (k := fun a => a) (out := out) hM h ho
  cases m <;> exact this
/-- return, a new list -/
theorem bd_retN {m : R (List α)} {k : List α → β} (hM : C.M = .nw l) (h : EvN C Γ l te m) (ho : ∀ a, out (k a) = .rt (enc a)) : BD C Γ (tSeq (tRet te) u) (m.bind fun a => .ok (k a)) out := fun G hid os σ H D Kw q => by
  refine h G hid os σ H _ Kw ?_
  rcases ex_cases q with ⟨a, e, q⟩ | ⟨x, e, q⟩ <;> rw [e]
  · intro p vs H1 s1 n hp hz r1
    have q : PoO C G hid D (out (k a)) := q
    rw [ho] at q
    have q : PoRet C.T C.M G C.H0 D.rt (enc a) := q
    unfold PoRet at q
    rw [hM] at q
    exact q p vs H1 (a.map enc) rfl (Kw.ext.trans s1) (Kw.ext.free n) hp hz (r1.weak fun a z => z.imp (fun z => avC_av a z) id)
  · exact pox_of Kw q
theorem bd_retN1 {out : List α → Oc} {m : R (List α)} (hM : C.M = .nw l) (h : EvN C Γ l te m) (ho : ∀ a, out a = .rt (enc a)) : BD C Γ (tSeq (tRet te) u) m out := by
  have := bd_retN (u := u) (k := fun a => a) (out := out) hM h ho
  cases m <;> exact this
/-- return, an own list -/
theorem bd_retO {i : Nat} {xs : List α} {k : β} (hM : C.M = .nw l) (h : Γ[i]? = some (.ow l (xs.map enc))) (ho : out k = .rt (enc xs)) : BD C Γ (tSeq (tRet (tVar i)) u) (.ok k) out := fun G hid os σ H D Kw q => by
  have K2 := Kw.share h
  obtain ⟨hl, p, vs, e2, e3, hp, hz, rs⟩ := Kw.sl i _ h
  have q : PoO C G hid D (out k) := q
  rw [ho] at q
  have q : PoRet C.T C.M G C.H0 D.rt (enc xs) := q
  unfold PoRet at q
  rw [hM] at q
  have mp : some p ∈ os := List.mem_of_getElem? e2
  refine ⟨_, e3, q p vs H (xs.map enc) rfl Kw.ext (Kw.new p mp).1 hp hz (rs.weak fun a z => ?_)⟩
  rcases z with z | z
  · exact avC_av a z
  · rw [z]
    cases l with
    | raw => exact hl.elim
    | pa => exact .inr mp
    | fr => exact .inr (.inr mp)
theorem bd_if {c : R Bool} {m1 m2 : R β} (hc : EvT C Γ tt c) (h1 : BD C Γ (tSeq t u) m1 out) (h2 : BD C Γ (tSeq w u) m2 out) : BD C Γ (tSeq (tIfS tt t w) u) (R.ifm c m1 m2) out := fun G hid os σ H D Kw q => by
  refine hc G hid os σ H _ Kw ?_
  rcases ex_cases (k := fun b => R.ite b m1 m2) q with ⟨a, e, q⟩ | ⟨x, e, q⟩ <;> rw [e]
  · intro H1 s1
    cases a with
    | true => exact iteT (h1 G hid os σ H1 D (Kw.same s1) q)
    | false => exact iteF (h2 G hid os σ H1 D (Kw.same s1) q)
  · exact pox_of Kw q
/-- two ways that meet again -/
theorem bd_join {m : R ε} {k : ε → R β} {es : ε → List Sl} (h : BD C Γ t m (fun s => .nx (es s))) (hk : ∀ s, BD C (es s) u (k s) out) : BD C Γ (tSeq t u) (m.bind k) out := fun G hid os σ H D Kw q => by
  refine h G hid os σ H _ Kw ?_
  rcases ex_cases q with ⟨a, e, q⟩ | ⟨x, e, q⟩ <;> rw [e]
  · exact fun os' σ' H' K' => hk a G hid os' σ' H' D K' q
  · exact q
theorem bd_tail {m : R β} (h : BD C Γ (tSeq t tNext) m out) : BD C Γ t m out := h
/-- xs.append(e) -/
def appL {α : Type} (xs : List α) (a : α) : Option (List α) := optIf (xs.length < LIM) (xs ++ [a])
theorem bd_app {i : Nat} {xs : List α} {m : R α} {k : List α → R β} (h : Γ[i]? = some (.ow l (xs.map enc))) (he : Evm C Γ l te m) (hk : ∀ ys, BD C (Γ.set i (.ow l (ys.map enc))) u (k ys) out) :
    BD C Γ (tSeq (tDrop (tBM K "list" rAppend (tVar i) (tCons te tNil))) u) (m.bind fun a => (R.of (appL xs a)).bind k) out := fun G hid os σ H D Kw q => by
  obtain ⟨hl, p, vs, e2, e3, hp, hz, rs⟩ := Kw.sl i _ h
  refine ⟨_, e3, .inl ⟨rfl, vs, rd_seqL hp⟩, he G hid os σ H _ Kw ?_⟩
  rcases ex_cases q with ⟨a, e, q⟩ | ⟨x, e, q⟩ <;> rw [e]
  · intro v H1 s1 r1
    rcases ex_cases q with ⟨ys, ey, q⟩ | ⟨x, ey, q⟩
    · cases ea : appL xs a with
      | none => rw [ea] at ey; cases ey
      | some zs =>
        rw [ea] at ey
        cases ey
        obtain ⟨c, ez⟩ := optIf_some ea
        have hlen := rs.len
        rw [List.length_map] at hlen
        refine ⟨p, vs, v, rfl, rfl, s1 _ _ hp, lim_size (by omega), ?_⟩
        refine hk ys G hid os σ _ D ?_ q
        refine (Kw.same s1).chg h e2 hl (by rw [List.length_append, List.length_singleton]; omega) ?_
        rw [← ez, List.map_append]
        exact (rs.same s1).app (reps_cons r1 reps_nil)
    · cases ea : appL xs a with
      | none => rw [ea] at ey; cases ey
      | some zs => rw [ea] at ey; cases ey
  · exact pox_of Kw q
/-- xs[i] = e -/
def setL {α : Type} (xs : List α) (i : Int) (a : α) : Option (List α) := (ixN xs.length i).map fun j => xs.set j a
theorem bd_seti {i : Nat} {xs : List α} {m : R α} {mi : R Int} {k : List α → R β} {ti : TE} (h : Γ[i]? = some (.ow l (xs.map enc))) (he : Evm C Γ l te m) (hi : Evm C Γ l2 ti mi) (hk : ∀ ys, BD C (Γ.set i (.ow l (ys.map enc))) u (k ys) out) :
    BD C Γ (tSeq (tAsg te (gSub (tVar i) ti rSetL)) u) (m.bind fun a => mi.bind fun j => (R.of (setL xs j a)).bind k) out := fun G hid os σ H D Kw q => by
  obtain ⟨hl, p, vs, e2, e3, hp, hz, rs⟩ := Kw.sl i _ h
  refine he G hid os σ H _ Kw ?_
  rcases ex_cases q with ⟨a, e, q⟩ | ⟨x, e, q⟩ <;> rw [e]
  · intro v H1 s1 r1
    refine ⟨_, e3, hi G hid os σ H1 _ (Kw.same s1) ?_⟩
    rcases ex_cases q with ⟨j, ej, q⟩ | ⟨x, ej, q⟩ <;> rw [ej]
    · intro y H2 s2 r2
      rcases ex_cases q with ⟨ys, ey, q⟩ | ⟨x, ey, q⟩
      · cases ea : setL xs j a with
        | none => rw [ea] at ey; cases ey
        | some zs =>
          rw [ea] at ey
          cases ey
          unfold setL at ea
          have hlen := rs.len
          rw [List.length_map] at hlen
          cases eo : ixN xs.length j with
          | none => rw [eo] at ea; cases ea
          | some n =>
            rw [eo] at ea
            have ez : xs.set n a = ys := Option.some.inj ea
            refine ⟨p, vs, j, n, rfl, r2, s2 _ _ (s1 _ _ hp), by rw [← hlen]; exact eo, ?_⟩
            refine hk ys G hid os σ _ D ?_ q
            refine (Kw.same (s1.trans s2)).chg h e2 hl (by rw [List.length_set]; exact hz) ?_
            rw [← ez, List.map_set]
            exact (rs.same (s1.trans s2)).set n (r1.same s2)
      · cases ea : setL xs j a with
        | none => rw [ea] at ey; cases ey
        | some zs => rw [ea] at ey; cases ey
    · exact pox_of (Kw.same s1) q
  · exact pox_of Kw q

/-! ### loops -/
inductive Stp (S A : Type) where
  | nx (s : S) | bk (s : S) | rt (a : A)
def loopR {α S A : Type} (f : α → S → R (Stp S A)) : List α → S → R (Stp S A)
  | [], s => .ok (.nx s)
  | x :: xs, s => (f x s).bind fun r => match r with
    | .nx s' => loopR f xs s'
    | .bk s' => .ok (.bk s')
    | .rt a => .ok (.rt a)
def Stp.fin {S A β : Type} (k : S → R β) (ret : A → R β) : Stp S A → R β
  | .nx s => k s
  | .bk s => k s
  | .rt a => ret a
def oStp {S A : Type} (es : S → List Sl) (er : A → PV) : Stp S A → Oc
  | .nx s => .nx (es s)
  | .bk s => .bk (es s)
  | .rt a => .rt (er a)
section
variable {S A : Type} {es : S → List Sl} {er : A → PV} {wi : TI} {g : TG} {vs : List Nat} {fg : List Sl → α → List Sl} {s0 : S}
/-- a loop: the state between two turns is es s -/
theorem bd_for {m : R (List α)} {f : α → S → R (Stp S A)} {k : S → R β} {ret : A → R β} (hi : EvI C Γ l1 wi m) (hl1 : l1.st) (w : Wk Γ (es s0)) (hg : TgB (α := α) C l1 g vs fg) (hvs : ∀ s, ∀ j ∈ vs, (es s)[j]? = some .un)
    (hb : ∀ x s, BD C (fg (es s) x) t (f x s) (oStp es er)) (hk : ∀ s, BD C (es s) u (k s) out) (hr : ∀ a, ∃ b, ret a = .ok b ∧ out b = .rt (er a)) :
    BD C Γ (tSeq (tFor wi g t) u) (m.bind fun xs => (loopR f xs s0).bind (Stp.fin k ret)) out := fun G hid os σ H D Kw q => by
  refine hi G hid os σ H _ Kw ?_
  rcases ex_cases q with ⟨xs, e, q⟩ | ⟨x, e, q⟩ <;> rw [e]
  · intro J pins H1 s1 hp hz iv
    obtain ⟨os0, K0⟩ := w.okw ((Kw.same s1).hide (pins := pins.map fun z => (l1, z.1, z.2)) (fun z hz => by
      obtain ⟨z', h1, h2⟩ := List.mem_map.mp hz
      rw [← h2]
      exact ⟨hl1, hp z' h1⟩))
    refine ⟨fun i n σ2 H2 => n = xs.length - i ∧ i ≤ xs.length ∧ ∃ s os2, OkW C G (es s) ((pins.map fun z => (l1, z.1, z.2)) ++ hid) os2 σ2 H2 ∧ PoB C G hid D out ((loopR f (xs.drop i) s).bind (Stp.fin k ret)),
      ⟨xs.length, by simp, Nat.zero_le _, s0, os0, K0, by rw [List.drop_zero]; exact q⟩, fun i n σ2 H2 hw => ?_⟩
    obtain ⟨en, hi', s, os2, K2, q2⟩ := hw
    have pinsR : ∀ z ∈ pins, Rep C.T H2 (av l1 C.H0 G os2) z.1 z.2 := fun z hz => (K2.pins _ (List.mem_map.mpr ⟨z, hz, rfl⟩)).2
    by_cases hlt : i < xs.length
    · right
      have hx : xs[i]? = some xs[i] := List.getElem?_eq_getElem hlt
      obtain ⟨hgo, hy⟩ := iv.go i _ H2 _ hx (fun b hb => K2.avdom l1 b hb) pinsR
      have hd : xs.drop i = xs[i] :: xs.drop (i + 1) := List.drop_eq_getElem_cons hlt
      rw [hd] at q2
      unfold loopR at q2
      refine ⟨hgo, fun σ3 H3 => ∃ n', n' < n ∧ (n' = xs.length - (i + 1) ∧ i + 1 ≤ xs.length ∧ ∃ s os2, OkW C G (es s) ((pins.map fun z => (l1, z.1, z.2)) ++ hid) os2 σ3 H3 ∧ PoB C G hid D out ((loopR f (xs.drop (i + 1)) s).bind (Stp.fin k ret))), fun _ _ hh => hh, fun x H3 hyx => ?_⟩
      obtain ⟨s3, rx⟩ := hy x H3 hyx
      refine hg G _ os2 σ2 H3 _ x xs[i] _ (K2.same s3) (fun j hj => ?_) rx (fun os4 σ4 K4 _ _ => ?_)
      · exact K2.sl j _ (hvs s j hj)
      · refine hb xs[i] s G _ os4 σ4 H3 _ K4 ?_
        rw [R.bind_assoc] at q2
        rcases ex_cases q2 with ⟨r, er', q3⟩ | ⟨x, ex', q3⟩
        · rw [er']
          cases r with
          | nx s' =>
            intro os5 σ5 H5 K5
            exact ⟨xs.length - (i + 1), by omega, rfl, by omega, s', os5, K5, q3⟩
          | bk s' =>
            intro os5 σ5 H5 K5
            exact hk s' G hid os5 σ5 H5 D K5.bare q3
          | rt a =>
            obtain ⟨b, hb1, hb2⟩ := hr a
            have q3 : PoB C G hid D out (ret a) := q3
            rw [hb1] at q3
            have q3 : PoO C G hid D (out b) := q3
            rw [hb2] at q3
            exact q3
        · rw [ex']
          exact q3
    · left
      have hd : xs.drop i = [] := List.drop_eq_nil_of_le (by omega)
      rw [hd] at q2
      exact ⟨iv.stop i H2 _ (by omega) pinsR, hk s G hid os2 σ2 H2 D K2.bare q2⟩
  · exact pox_of Kw q
/-- a loop that is neither left nor broken off -/
def foldR {α S : Type} (f : α → S → R S) : List α → S → R S
  | [], s => .ok s
  | x :: xs, s => (f x s).bind fun s' => foldR f xs s'
theorem foldR_loop {f : α → S → R S} {A : Type} : ∀ (xs : List α) (s : S), loopR (A := A) (fun x s => (f x s).bind fun s' => .ok (.nx s')) xs s = (foldR f xs s).bind fun s' => .ok (.nx s')
  | [], s => rfl
  | x :: xs, s => by
    unfold loopR foldR
    cases f x s with
    | bad => rfl
    | ex z => rfl
    | ok s' => exact foldR_loop xs s'
theorem bd_fold {m : R (List α)} {f : α → S → R S} {k : S → R β} (hi : EvI C Γ l1 wi m) (hl1 : l1.st) (w : Wk Γ (es s0)) (hg : TgB (α := α) C l1 g vs fg) (hvs : ∀ s, ∀ j ∈ vs, (es s)[j]? = some .un)
    (hb : ∀ x s, BD C (fg (es s) x) t (f x s) (fun s => .nx (es s))) (hk : ∀ s, BD C (es s) u (k s) out) :
    BD C Γ (tSeq (tFor wi g t) u) (m.bind fun xs => (foldR f xs s0).bind k) out := by
  have h := bd_for (A := Empty) (er := fun z => nomatch z) (f := fun x s => (f x s).bind fun s' => .ok (.nx s')) (k := k) (ret := fun z => nomatch z) (out := out) (u := u) hi hl1 w hg hvs (fun x s => fun G hid os σ H D Kw q => hb x s G hid os σ H D Kw (by
    cases e : f x s with
    | bad => rw [e] at q; exact q
    | ex z => rw [e] at q; exact q
    | ok s' => rw [e] at q; exact q)) hk (fun z => nomatch z)
  have e : (fun xs => (loopR (A := Empty) (fun x s => (f x s).bind fun s' => .ok (.nx s')) xs s0).bind (Stp.fin k fun z => nomatch z)) = fun xs => (foldR f xs s0).bind k := by
    funext xs
    rw [foldR_loop, R.bind_assoc]
    rfl
  rw [e] at h
  exact h
end
end
end Pv

set_option Elab.async false
set_option linter.all false
set_option maxRecDepth 100000
namespace Pv
open PySem PySem.Spec L2
open Enc (enc)
open Encs (encs)

section
variable {P : Program} {w : World} {K : PySem.W.Frag} {mg : Str → Option Value} {base : Heap} {α β : Type} [Enc α] [Encs β] {T : CT} {M : RM}
/-- the slots at the entry -/
def entry (N : List Str) (ps : List PV) : List Sl := ps.map (Sl.sh .pa) ++ List.replicate (N.length - ps.length) .un
theorem okw_start {H : Hp} {G : Addr → Prop} {N : List Str} {vs : List V} {ps : List PV} {W : Option WX} (dom : ∀ a, G a → H a ≠ none) (r : Reps T H G ps vs) (hn : ps.length ≤ N.length) :
    OkW ⟨T, H, W, M⟩ G (entry N ps) [] (List.replicate N.length none) (L2.start N vs) H := by
  have hl := r.len
  have none_at : ∀ (i : Nat) (a : Addr), (List.replicate N.length (none : Option Addr))[i]? = some (some a) → False := fun i a h => by
    rw [List.getElem?_replicate] at h
    split at h <;> cases h
  refine ⟨by simp [entry]; omega, ?_, Same.refl H, dom, fun a h => ?_, fun i j a h => (none_at i a h).elim, fun i s h => ?_, fun q hq => by cases hq⟩
  · simp [entry, L2.start]; omega
  · obtain ⟨i, hi⟩ := List.getElem?_of_mem h
    exact (none_at i a hi).elim
  · have hi : i < N.length := by
      have := (List.getElem?_eq_some_iff.mp h).1
      simp [entry] at this
      omega
    have hos : (List.replicate N.length (none : Option Addr))[i]? = some none := by
      rw [List.getElem?_replicate, if_pos hi]
    by_cases hlt : i < ps.length
    · have e1 : (entry N ps)[i]? = some (.sh .pa ps[i]) := by
        unfold entry
        rw [List.getElem?_append_left (by simpa using hlt), List.getElem?_map, List.getElem?_eq_getElem hlt]
        rfl
      rw [e1] at h
      cases h
      obtain ⟨v, hv, rv⟩ := r.get (List.getElem?_eq_getElem hlt)
      refine ⟨trivial, hos, v, ?_, rv.weak fun a z => ?_⟩
      · unfold L2.start
        rw [List.getElem?_append_left (by simp; omega), List.getElem?_map, hv]
        rfl
      · rcases z with z | z
        · exact z
        · obtain ⟨i, hi⟩ := List.getElem?_of_mem z
          exact (none_at i a hi).elim
    · have e1 : (entry N ps)[i]? = some .un := by
        unfold entry
        rw [List.getElem?_append_right (by simpa using hlt), List.getElem?_replicate]
        simp
        omega
      rw [e1] at h
      cases h
      exact hos
/-- a quiet def, by its body -/
theorem fn_pm {x qual : Str} {st : Stmt} {f : Addr} {fd : FuncData} {N ps : List Str} {k : Nat} {g : β → R α} (F : Fun K x qual st f fd) (S : FnScope N ps (defScope st)) (hlen : ∀ b : β, (encs b).length = ps.length)
    (hbody : ∀ (cdv : Value) (A : Around) (outer : List Env) (s : Shared) (H : Hp) (E : XK), Room k (A.deeper (PyProof.Rows.envOfC qual (defScope st) s.heap.objs.size f cdv)) →
      ∃ t, PSs (cxOf CX0 P w K mg base N qual (defScope st) f cdv A outer s H E).nox (defBody st) t ∧ ∀ b : β, BD ⟨T, H, none, M⟩ (entry N (encs b)) t (g b) (fun a => .rt (enc a))) :
    FnOk P w K mg base CX0 (k + 1) f fd ps (Pm T M g) := by
  have hpl : ps.length ≤ N.length := by have := congrArg List.length S.pre; rw [List.length_take] at this; omega
  refine F.ok S (fun vs H Q E h => ?_) (fun cdv A outer s H vs Q E hr h => ?_)
  · obtain ⟨b, G, _, r, _⟩ := h
    rw [← r.len, hlen]
  · obtain ⟨b, G, dom, r, q⟩ := h
    obtain ⟨t, ht, hb⟩ := hbody cdv A outer s H E hr
    refine ⟨t, ht, hb b G [] _ _ H _ (okw_start dom r (by rw [hlen]; exact hpl)) ?_⟩
    cases e : g b with
    | bad => rw [e] at q; exact q
    | ex z => rw [e] at q; exact q
    | ok a => rw [e] at q; exact q
/-- a quiet def that hands back nothing -/
theorem fn_pmU {x qual : Str} {st : Stmt} {f : Addr} {fd : FuncData} {N ps : List Str} {k : Nat} {g : β → R Unit} (F : Fun K x qual st f fd) (S : FnScope N ps (defScope st)) (hlen : ∀ b : β, (encs b).length = ps.length)
    (hbody : ∀ (cdv : Value) (A : Around) (outer : List Env) (s : Shared) (H : Hp) (E : XK), Room k (A.deeper (PyProof.Rows.envOfC qual (defScope st) s.heap.objs.size f cdv)) →
      ∃ t, PSs (cxOf CX0 P w K mg base N qual (defScope st) f cdv A outer s H E).nox (defBody st) t ∧ ∀ b : β, BD ⟨T, H, none, .val .fr⟩ (entry N (encs b)) t (g b) (fun _ => .nx (List.replicate N.length .un))) :
    FnOk P w K mg base CX0 (k + 1) f fd ps (Pm T (.val .fr) g) := by
  have hpl : ps.length ≤ N.length := by have := congrArg List.length S.pre; rw [List.length_take] at this; omega
  refine F.ok S (fun vs H Q E h => ?_) (fun cdv A outer s H vs Q E hr h => ?_)
  · obtain ⟨b, G, _, r, _⟩ := h
    rw [← r.len, hlen]
  · obtain ⟨b, G, dom, r, q⟩ := h
    obtain ⟨t, ht, hb⟩ := hbody cdv A outer s H E hr
    refine ⟨t, ht, hb b G [] _ _ H _ (okw_start dom r (by rw [hlen]; exact hpl)) ?_⟩
    cases e : g b with
    | bad => rw [e] at q; exact q
    | ex z => rw [e] at q; exact q
    | ok a =>
      rw [e] at q
      intro os σ H2 K2
      exact q .non H2 K2.ext rfl
/-- the law's own promise, from the mirror's answer -/
def spLaw (K : PySem.W.Frag) : Sp := fun vs H Q _ => ∃ (a : Addr) (ns : List Int), vs = [.ref a] ∧ SqL K H a (ns.map V.int) ∧ ns.length ≤ 63 ∧ ∀ H', Q (.bl true) H'
theorem law_pm {CX : CXT} {k : Nat} {fa : Addr} {fd : FuncData} {x : Str} {g : Scr × Unit → R Bool} (hT : T.K = K) (F : FnOk P w K mg base CX k fa fd [x] (Pm T (.val .fr) g)) (h : ∀ ns : List Int, ns.length ≤ 63 → g (⟨ns⟩, ()) = .ok true) :
    FnOk P w K mg base CX k fa fd [x] (spLaw K) := F.imp fun vs H Q E hq => by
  obtain ⟨a, ns, e, hs, hl, q⟩ := hq
  refine ⟨(⟨ns⟩, ()), fun _ => False, fun _ z => z.elim, ?_, ?_⟩
  · rw [e]
    refine reps_cons ?_ reps_nil
    show Rep T H _ (.scr ns) (.ref a)
    unfold Rep
    refine ⟨a, rfl, ?_⟩
    rcases hs with hs | hs
    · exact .inl ⟨hs, fun z => z⟩
    · rw [hT]
      exact .inr (.inr hs)
  · rw [h ns hl]
    intro v H' s r
    have r : v = .bl true := r
    rw [r]
    exact q H'
end
end Pv

set_option Elab.async false
set_option linter.all false
set_option maxRecDepth 100000
namespace Pv
open PySem PySem.Spec L2
open Enc (enc)
open Encs (encs)
def mulO (a b : Int) : Option Int := optIf ((-(2 ^ 64) < a ∧ a < 2 ^ 64) ∨ (-(2 ^ 64) < b ∧ b < 2 ^ 64)) (a * b)
def modO (a b : Int) : Option Int := optIf (0 < b) (a % b)
def divO (a b : Int) : Option Int := optIf (0 < b ∧ b < 2 ^ 4000) (a / b)
def powO (a b : Int) : Option Int := optIf (0 ≤ b ∧ b ≤ 1000 ∧ -(2 ^ 63) < a ∧ a < 2 ^ 63) (a ^ b.toNat)
theorem rv_of {T : CT} {α β γ : Type} [Enc α] [Enc β] [Enc γ] {r : R2} {a : α} {b : β} {o o' : Option γ} (h : RvF T r a b o) (e : ∀ c, o' = some c → o = some c) : RvF T r a b o' := fun H x y Q c hx hy ec q => h H x y Q c hx hy (e c ec) q
section
variable {T : CT} {a b : Int}
theorem rv_mul : RvF T (rI CMul fun i j => .int (i * j)) a b (mulO a b) := fun H x y Q c hx hy e q => by
  obtain ⟨e1, e2⟩ := optIf_some e
  exact ⟨a, b, hx, hy, e1, q _ (by rw [← e2]; rfl)⟩
theorem rv_mod : RvF T (rI (fun _ j => 0 < j) fun i j => .int (i % j)) a b (modO a b) := fun H x y Q c hx hy e q => by
  obtain ⟨e1, e2⟩ := optIf_some e
  exact ⟨a, b, hx, hy, e1, q _ (by rw [← e2]; rfl)⟩
theorem rv_div : RvF T (rI CDivW fun i j => .int (i / j)) a b (divO a b) := fun H x y Q c hx hy e q => by
  obtain ⟨⟨e1, e3⟩, e2⟩ := optIf_some e
  refine ⟨a, b, hx, hy, wide_div (b := 4000) e1 ?_ (by decide) (by decide), q _ (by rw [← e2]; rfl)⟩
  have : (b.natAbs : Int) < ((2 ^ 4000 : Nat) : Int) := by
    rw [Int.natAbs_of_nonneg (by omega)]
    simpa using e3
  exact Int.ofNat_lt.mp this
theorem rv_pow : RvF T (rI CPow fun i j => .int (i ^ j.toNat)) a b (powO a b) := fun H x y Q c hx hy e q => by
  obtain ⟨⟨e1, e3, e4, e5⟩, e2⟩ := optIf_some e
  exact ⟨a, b, hx, hy, ⟨e1, by omega, by omega⟩, q _ (by rw [← e2]; rfl)⟩
end
/-- one entry more -/
theorem lt_of {n : Nat} {xs : List Sl} (h : decide (n < xs.length) = true) : n < xs.length := of_decide_eq_true h
theorem Evm.cast {α : Type} [Enc α] {C : Cn} {Γ : List Sl} {l : Lv} {t : TE} {m m' : R α} (h : Evm C Γ l t m) (e : m = m') : Evm C Γ l t m' := e ▸ h
theorem EvN.cast {α : Type} [Enc α] {C : Cn} {Γ : List Sl} {l : Lv} {t : TE} {m m' : R (List α)} (h : EvN C Γ l t m) (e : m = m') : EvN C Γ l t m' := e ▸ h
theorem EvT.cast {C : Cn} {Γ : List Sl} {t : TT} {m m' : R Bool} (h : EvT C Γ t m) (e : m = m') : EvT C Γ t m' := e ▸ h
theorem EvI.cast {α : Type} [Enc α] {C : Cn} {Γ : List Sl} {l : Lv} {t : TI} {m m' : R (List α)} (h : EvI C Γ l t m) (e : m = m') : EvI C Γ l t m' := e ▸ h
end Pv

set_option Elab.async false
set_option linter.all false
set_option maxRecDepth 100000
namespace Pv
open PySem PySem.Spec L2
open Enc (enc)
open Encs (encs)

/-! ### the form of a mirror -/
theorem R.bind_right {α : Type} (m : R α) : (m.bind fun a => R.ok a) = m := by cases m <;> rfl
theorem compR_map {α β : Type} (f : α → β) : ∀ xs : List α, compR (fun _ => R.ok true) (fun a => R.ok (f a)) xs = R.ok (xs.map f)
  | [] => rfl
  | x :: xs => by
    unfold compR
    rw [compR_map f xs]
    rfl
theorem compR_filter {α β : Type} (p : α → Bool) (f : α → β) : ∀ xs : List α, compR (fun a => R.ok (p a)) (fun a => R.ok (f a)) xs = R.ok ((xs.filter p).map f)
  | [] => rfl
  | x :: xs => by
    unfold compR
    rw [compR_filter p f xs]
    cases h : p x <;> simp [List.filter_cons, h, R.bind, R.ite]
theorem R.ifm_ok {α : Type} (b : Bool) (m n : R α) : R.ifm (R.ok b) m n = R.ite b m n := rfl
theorem R.ite_ok {α : Type} (b : Bool) (x y : α) : R.ite b (R.ok x) (R.ok y) = R.ok (if b then x else y) := by cases b <;> rfl
theorem R.ite_and (b c : Bool) : R.ite b (R.ok c) (R.ok false) = R.ok (b && c) := by cases b <;> rfl
theorem R.ite_or (b c : Bool) : R.ite b (R.ok true) (R.ok c) = R.ok (b || c) := by cases b <;> rfl

/-! ### calls of the text's defs -/
/-- a def of the text that keeps its promise, with all that a caller needs -/
structure Kd (P : Program) (w : World) (K : PySem.W.Frag) (mg : Str → Option Value) (base : Heap) (CX : CXT) (x : Str) (ps : List Str) (k : Nat) (sp : Sp) : Prop where
  ex : ∃ f fd, mg x = some (.ref f) ∧ PySem.W.keepIn K (.ref f) = true ∧ Binds K fd ps [] ∧ FnOk P w K mg base CX k f fd ps sp
theorem pe_kd {X : Cx} {x : Str} {ps : List Str} {k : Nat} {sp : Sp} {e : Expr} {es : List Expr} {t : TA} {p pos : Pos} (h : Kd X.prog X.w X.K X.mg X.base CX0 x ps k sp) (hr : Room k X.A) (hg : Gl X x) (ha : PA X (e :: es) t) (hd : (x == ("__debug__" : Str)) = false := by decide)
    (he : starEach (e :: es) X.env = (false, eval e X.env) :: starEach es X.env := by rfl) (hpl : (backTo pos (starEach es X.env)).any (·.1) = false := by rfl) :
    PE X (.Call (.Name x p) (e :: es) [] pos) (tCall sp [] E0 t) := by
  obtain ⟨f, fd, hm, hk, hb, F⟩ := h.ex
  exact pe_call F hr hg hm hk hb .nil pass0 ha hd he hpl
theorem hu65 {k : Nat} {A : Around} (r : Room k A) : A.units + 65 < cLine := by have := r.un; omega

/-! ### slots that are not own -/
def notOw : Sl → Bool
  | .ow _ _ => false
  | _ => true
theorem hv1 {Γ : List Sl} {j : Nat} {s : Sl} (h : Γ[j]? = some s) (hs : notOw s = true) : ∀ k ∈ [j], k < Γ.length ∧ ∀ l xs, Γ[k]? ≠ some (.ow l xs) := fun k hk => by
  rw [List.mem_singleton.mp hk]
  refine ⟨(List.getElem?_eq_some_iff.mp h).1, fun l xs z => ?_⟩
  rw [h] at z
  have z := Option.some.inj z
  rw [z] at hs
  cases hs
theorem hvc {Γ : List Sl} {j : Nat} {vs : List Nat} {s : Sl} (h : Γ[j]? = some s) (hs : notOw s = true) (r : ∀ k ∈ vs, k < Γ.length ∧ ∀ l xs, Γ[k]? ≠ some (.ow l xs)) : ∀ k ∈ j :: vs, k < Γ.length ∧ ∀ l xs, Γ[k]? ≠ some (.ow l xs) := fun k hk => by
  rcases List.mem_cons.mp hk with e | e
  · exact hv1 h hs k (by rw [e]; exact List.mem_singleton.mpr rfl)
  · exact r k e
theorem hu1 {S : Type} {es : S → List Sl} {j : Nat} (h : ∀ s, (es s)[j]? = some .un) : ∀ s, ∀ k ∈ [j], (es s)[k]? = some .un := fun s k hk => by
  rw [List.mem_singleton.mp hk]; exact h s
theorem huc {S : Type} {es : S → List Sl} {j : Nat} {vs : List Nat} (h : ∀ s, (es s)[j]? = some .un) (r : ∀ s, ∀ k ∈ vs, (es s)[k]? = some .un) : ∀ s, ∀ k ∈ j :: vs, (es s)[k]? = some .un := fun s k hk => by
  rcases List.mem_cons.mp hk with e | e
  · rw [e]; exact h s
  · exact r s k e

section
variable {C : Cn} {Γ : List Sl} {l l1 l2 : Lv} {α β γ : Type} [Enc α] [Enc β] [Enc γ] {ta tb tc te t : TE} {G : Addr → Prop} {os : List (Option Addr)} {σ : L2.St} {H H' : Hp} {x : Exc} {K : PySem.W.Frag} {T : CT} {u : TS} {ε : Type} {out : ε → Oc}
/-! ### a test of a yes -/
theorem evt_yes : EvT C Γ tYes (.ok true) := fun G hid os σ H Q Kw q => q H (Same.refl H)
/-! ### isinstance, one class -/
/-- what type a value of this sort has -/
class TyA (α : Type) [Enc α] where
  ty : String
  ok : ∀ (K : PySem.W.Frag) (T : CT) (H : Hp) (G : Addr → Prop) (a : α) (v : V), Rep T H G (enc a) v → TyX K H v (.type ty)
instance : TyA Int := ⟨"int", fun K T H G a v r => by rw [int_rep r]; exact .base (.int a)⟩
instance : TyA Bool := ⟨"bool", fun K T H G a v r => by rw [bl_rep r]; exact .base (.bl a)⟩
instance : TyA Str := ⟨"str", fun K T H G a v r => by rw [(str_rep r).1]; exact .base (.str a)⟩
instance {α : Type} [Enc α] : TyA (List α) := ⟨"list", fun K T H G a v r => by
  obtain ⟨p, vs, e, _, hp, _⟩ := lst_rep r
  rw [e]
  exact .base (.lst hp)⟩
instance {δ : Type} [Encs δ] : TyA (Tp δ) := ⟨"tuple", fun K T H G a v r => by
  have r : Rep T H G (.tup (encs a.t)) v := r
  unfold Rep at r
  obtain ⟨p, vs, e, _, hp, _⟩ := r
  rw [e]
  exact .base (.tup hp)⟩
theorem evm_isi [TyA α] {c : String} {b : Bool} {m : R α} (ha : Evm C Γ l ta m) (hk : kitB (TyA.ty α) c = some b) : Evm C Γ .fr (tCB (rIsi K) (tCons ta (tCons (tC (.ty c)) tNil))) (m.bind fun _ => .ok b) := fun G hid os σ H Q Kw q => by
  refine ha G hid os σ H _ Kw ?_
  cases e1 : m with
  | bad => rw [e1] at q; exact q
  | ex x => rw [e1] at q; exact q
  | ok a =>
    rw [e1] at q
    intro v H1 s1 r1
    exact ⟨v, .ty c, .type (TyA.ty α), .type c, b, rfl, .ty c, TyA.ok K C.T H1 _ a v r1, kit_ty hk, q _ H1 s1 rfl⟩
/-! ### xs.count(k), ints -/
theorem evm_cnt {m1 : R (List Int)} {m2 : R Int} (ha : Evm C Γ l1 ta m1) (hb : Evm C Γ l2 tb m2) : Evm C Γ .fr (tBM K "list" (rCntI K) ta (tCons tb tNil)) (m1.bind fun xs => m2.bind fun k => .ok ((xs.count k : Nat) : Int)) := fun G hid os σ H Q Kw q => by
  refine ha G hid os σ H _ Kw ?_
  cases e1 : m1 with
  | bad => rw [e1] at q; exact q
  | ex x => rw [e1] at q; exact q
  | ok xs =>
    rw [e1] at q
    intro v H1 s1 r1
    obtain ⟨p, vs, e, _, hp, _, rs⟩ := lst_rep r1
    have hv := ints_of rs
    rw [e]
    refine ⟨.inl ⟨rfl, vs, rd_seqL hp⟩, hb G hid os σ H1 _ (Kw.same s1) ?_⟩
    cases e2 : m2 with
    | bad => rw [e2] at q; exact q
    | ex x => rw [e2] at q; exact PoX.back s1 q
    | ok k =>
      rw [e2] at q
      intro y H2 s2 r2
      exact ⟨p, xs, k, rfl, by rw [int_rep r2], by rw [← hv]; exact rd_seqL (s2 _ _ hp), q _ H2 (s1.trans s2) rfl⟩
/-! ### x in (a, b, ..) -/
def flatP : PV → Bool
  | .non => true | .bl _ => true | .int _ => true | .str _ => true
  | _ => false
class Flats (δ : Type) [Encs δ] : Prop where
  flat : ∀ d : δ, (encs d).all flatP = true
instance : Flats Unit := ⟨fun _ => rfl⟩
theorem flatP_of {α : Type} [Enc α] [Flat α] (a : α) : flatP (enc a) = true := by
  rcases Flat.flat a with ⟨i, e⟩ | ⟨i, e⟩ | ⟨i, e⟩ | e <;> rw [e] <;> rfl
instance {α δ : Type} [Enc α] [Flat α] [Encs δ] [Flats δ] : Flats (α × δ) := ⟨fun d => by
  show (flatP (enc d.1) && (encs d.2).all flatP) = true
  rw [flatP_of, Flats.flat]
  rfl⟩
theorem flatP_rep {p q : PV} {x y : V} (hp : flatP p = true) (hq : flatP q = true) (r : Rep T H G p x) (r' : Rep T H G q y) : flatV x = true ∧ eqV x y = eqP p q := by
  cases p with
  | non =>
    have r : x = .non := r
    subst r
    cases q with
    | non => have r' : y = .non := r'; subst r'; exact ⟨rfl, rfl⟩
    | bl b => have r' : y = .bl b := r'; subst r'; exact ⟨rfl, rfl⟩
    | int b => have r' : y = .int b := r'; subst r'; exact ⟨rfl, rfl⟩
    | str b => have r' := r'.1; subst r'; exact ⟨rfl, rfl⟩
    | _ => cases hq
  | bl a =>
    have r : x = .bl a := r
    subst r
    cases q with
    | non => have r' : y = .non := r'; subst r'; exact ⟨rfl, rfl⟩
    | bl b => have r' : y = .bl b := r'; subst r'; exact ⟨rfl, rfl⟩
    | int b => have r' : y = .int b := r'; subst r'; exact ⟨rfl, rfl⟩
    | str b => have r' := r'.1; subst r'; exact ⟨rfl, rfl⟩
    | _ => cases hq
  | int a =>
    have r : x = .int a := r
    subst r
    cases q with
    | non => have r' : y = .non := r'; subst r'; exact ⟨rfl, rfl⟩
    | bl b => have r' : y = .bl b := r'; subst r'; exact ⟨rfl, rfl⟩
    | int b => have r' : y = .int b := r'; subst r'; exact ⟨rfl, rfl⟩
    | str b => have r' := r'.1; subst r'; exact ⟨rfl, rfl⟩
    | _ => cases hq
  | str a =>
    have r := r.1
    subst r
    cases q with
    | non => have r' : y = .non := r'; subst r'; exact ⟨rfl, rfl⟩
    | bl b => have r' : y = .bl b := r'; subst r'; exact ⟨rfl, rfl⟩
    | int b => have r' : y = .int b := r'; subst r'; exact ⟨rfl, rfl⟩
    | str b => have r' := r'.1; subst r'; exact ⟨rfl, rfl⟩
    | _ => cases hq
  | _ => cases hp
theorem flats_rep {q : PV} {y : V} (hq : flatP q = true) (r' : Rep T H G q y) : ∀ {ps : List PV} {xs : List V}, ps.all flatP = true → Reps T H G ps xs → xs.all flatV = true ∧ inV y xs = ps.any fun p => eqP p q
  | [], xs, _, h => by
    unfold Reps at h
    rw [h]
    exact ⟨rfl, rfl⟩
  | p :: ps, xs, hf, h => by
    unfold Reps at h
    obtain ⟨v, r, e, h1, h2⟩ := h
    rw [List.all_cons, Bool.and_eq_true] at hf
    obtain ⟨f1, f2⟩ := flatP_rep hf.1 hq h1 r'
    obtain ⟨g1, g2⟩ := flats_rep hq r' hf.2 h2
    unfold inV at g2 ⊢
    rw [e, List.all_cons, List.any_cons, List.any_cons, f1, f2, g1, g2]
    exact ⟨rfl, rfl⟩
theorem rv_inT {δ : Type} [Flat α] [Encs δ] [Flats δ] {a : α} {b : Tp δ} : RvF T (rIn K false) a b (some ((encs b.t).any fun z => eqP z (enc a))) := fun H x y Q c hx hy e q => by
  cases e
  have hy : Rep T H _ (.tup (encs b.t)) y := hy
  unfold Rep at hy
  obtain ⟨p, vs, e, _, hp, _, rs⟩ := hy
  obtain ⟨f1, f2⟩ := flats_rep (flatP_of a) hx (Flats.flat b.t) rs
  refine ⟨p, vs, e, .inr (rd_seqT hp), (flatP_rep (flatP_of a) (flatP_of a) hx hx).1, f1, ?_⟩
  rw [f2]
  exact q _ rfl
theorem rv_notInT {δ : Type} [Flat α] [Encs δ] [Flats δ] {a : α} {b : Tp δ} : RvF T (rIn K true) a b (some (!(encs b.t).any fun z => eqP z (enc a))) := fun H x y Q c hx hy e q => by
  cases e
  have hy : Rep T H _ (.tup (encs b.t)) y := hy
  unfold Rep at hy
  obtain ⟨p, vs, e, _, hp, _, rs⟩ := hy
  obtain ⟨f1, f2⟩ := flats_rep (flatP_of a) hx (Flats.flat b.t) rs
  refine ⟨p, vs, e, .inr (rd_seqT hp), (flatP_rep (flatP_of a) (flatP_of a) hx hx).1, f1, ?_⟩
  rw [f2]
  exact q _ rfl
end
end Pv

set_option Elab.async false
set_option linter.all false
set_option maxRecDepth 100000
namespace Pv
open PySem PySem.Spec L2
/-! the layer's rules with the written part named -/
section
variable {X : Cx} (K : PySem.W.Frag)
def rLenK : List V → Hp → VK → Prop := fun xs H Q => ∃ p ys, xs = [.ref p] ∧ (SqL K H p ys ∨ SqT K H p ys) ∧ Q (.int ys.length) H
def rListK : List V → Hp → VK → Prop := fun xs H Q => ∃ p ys, xs = [.ref p] ∧ (SqL K H p ys ∨ SqT K H p ys) ∧ ∀ l, H l = none → Q (.ref l) (upd H l (.lst ys))
theorem k_len (h : X.K = K) : CallR X (.builtin "len") (rLenK K) := by subst h; exact call_len_seq
theorem k_list (h : X.K = K) : CallR X (.type "list") (rListK K) := by subst h; exact call_list_of
theorem k_all (h : X.K = K) (hc : X.calm = true) : CallR X (.builtin "all") (rAll K) := by subst h; exact cr_all hc
theorem k_any (h : X.K = K) (hc : X.calm = true) : CallR X (.builtin "any") (rAny K) := by subst h; exact cr_any hc
theorem k_sum (h : X.K = K) (hc : X.calm = true) : CallR X (.builtin "sum") (rSum K) := by subst h; exact cr_sum hc
theorem k_max (h : X.K = K) (hc : X.calm = true) : CallR X (.builtin "max") (rMax K) := by subst h; exact cr_max hc
theorem k_min (h : X.K = K) (hc : X.calm = true) : CallR X (.builtin "min") (rMin K) := by subst h; exact cr_min hc
theorem k_sorted (h : X.K = K) : CallR X (.builtin "sorted") (rSortedI K) := by subst h; exact cr_sortedI
theorem k_isi (h : X.K = K) : CallR X (.builtin "isinstance") (rIsi K) := by subst h; exact call_isi
theorem k_ixl (h : X.K = K) : IxR X (rIxL K) := by subst h; exact ix_list
theorem k_ixt (h : X.K = K) : IxR X (rIxT K) := by subst h; exact ix_tup
theorem k_sll (h : X.K = K) : SlR X (rSlL K) := by subst h; exact sl_list
theorem k_eqD (h : X.K = K) (hu : X.A.units + 64 < cLine) : OpR X (compareOp .Eq) (rEqD K) := by subst h; exact op_eqD hu
theorem k_neD (h : X.K = K) (hu : X.A.units + 64 < cLine) : OpR X (compareOp .NotEq) (rNeD K) := by subst h; exact op_neD hu
theorem k_inD (h : X.K = K) (hu : X.A.units + 65 < cLine) : OpR X (compareOp .In) (rInD K) := by subst h; exact op_inD hu
theorem k_niD (h : X.K = K) (hu : X.A.units + 65 < cLine) : OpR X (compareOp .NotIn) (rNotInD K) := by subst h; exact op_notInD hu
theorem k_inS (h : X.K = K) : OpR X (compareOp .In) (rIn K false) := by subst h; exact op_in_seq
theorem k_niS (h : X.K = K) : OpR X (compareOp .NotIn) (rIn K true) := by subst h; exact op_notIn_seq
theorem k_cnt (h : X.K = K) : MtR X "list.count" (rCntI K) := by subst h; exact mt_lcount
theorem k_pil {tg l : Expr} {tl : TE} (h : X.K = K) (hl : PE X l tl) : PI X tg l (iList K tl) := by subst h; exact pi_list hl
theorem k_enum {e : Expr} {ta : TA} {p pos tpos : Pos} {elts : List Expr} {kk : Nat} (h : X.K = K) (hg : Gl X "enumerate") (hm : X.mg "enumerate" = none) (ha : PA X [e] ta) (hs : starEach [e] X.env = [(false, eval e X.env)] := by rfl) :
    PI X (.Tuple elts kk tpos) (.Call (.Name "enumerate" p) [e] [] pos) (iEnum K ta) := by subst h; exact pi_enum hg hm ha hs
theorem k_zip {e e2 : Expr} {ta : TA} {p pos tpos : Pos} {elts : List Expr} {kk : Nat} (h : X.K = K) (hg : Gl X "zip") (hm : X.mg "zip" = none) (ha : PA X [e, e2] ta)
    (hs : starEach [e, e2] X.env = (false, eval e X.env) :: starEach [e2] X.env := by rfl) (hpl : (backTo pos (starEach [e2] X.env)).any (·.1) = false := by rfl) :
    PI X (.Tuple elts kk tpos) (.Call (.Name "zip" p) [e, e2] [] pos) (iZip K ta) := by subst h; exact pi_zip hg hm ha hs hpl
theorem k_gtup {es : List Expr} {k : Nat} {t : TGs} {n : Nat} {pos : Pos} (h : X.K = K) (hc : X.calm = true) (hp : PGs X es t)
    (hn : (assignEach es X.env).length = n := by rfl) (hst : (assignEach es X.env).findIdx? (·.1) = none := by rfl) : PG X (.Tuple es k pos) (gTup K n t) := by subst h; exact pg_tup hc hp hn hst
def tTru (ta : TE) : TT := fun σ H Q => ta σ H fun x H' => ∃ k, TruV K x H' k ∧ Q k H'
theorem k_tru {a : Expr} {ta : TE} (h : X.K = K) (ha : PE X a ta) (he : ∀ whole, isTrue a X.env whole = (do let v ← whole; standAt a.pos; holding [v] (truthy v))) : PT X a (tTru K ta) := by subst h; exact pt_truth ha he
theorem k_bm {e : Expr} {Tn : String} {r : V → List V → Hp → VK → Prop} {to : TE} {t : TA} (h : X.K = K) (h2 : PE X e (tBM X.K Tn r to t)) : PE X e (tBM K Tn r to t) := by subst h; exact h2
end
end Pv

set_option Elab.async false
set_option linter.all false
set_option maxRecDepth 100000
namespace Pv
open PySem PySem.Spec L2
open Enc (enc)
open Encs (encs)

/-! ### objects of own classes: made, read -/
/-- what an __init__ promises that stores its arguments in order: the fields are fs -/
def SpInit (C : Addr) (fs : List Str) : Sp := fun vs H Q _ => ∃ (x dx : Addr) (us : List V), vs = .ref x :: us ∧ us.length = fs.length ∧ H x = some (.ins C dx []) ∧
  ∀ H', (∀ b o, b ≠ x → H b = some o → H' b = some o) → H' x = some (.ins C dx (fs.zip us)) → Q .non H'
section
variable {C : Cn} {Γ : List Sl} {l l1 l2 : Lv} {α β γ δ : Type} [Enc α] [Enc β] [Enc γ] [Encs δ] {ta tb tc te t : TE} {G : Addr → Prop} {os : List (Option Addr)} {σ : L2.St} {H H' : Hp} {x : Exc} {K : PySem.W.Frag} {T : CT} {E : XK}
theorem evm_make {c : Nat} {ta : TA} {m : R δ} {f : δ → α} (ha : EvA C Γ l ta m) (he : ∀ d, enc (f d) = .obj c (encs d)) (hl : ∀ d : δ, (encs d).length = (C.T.fld c).length) : Evm C Γ l (tMake (C.T.addr c) (SpInit (C.T.addr c) (C.T.fld c)) [] E ta) (m.bind fun d => .ok (f d)) := fun G hid os σ H Q Kw q => by
  refine ha G hid os σ H _ Kw ?_
  cases e1 : m with
  | bad => rw [e1] at q; exact q
  | ex x => rw [e1] at q; exact q
  | ok d =>
    rw [e1] at q
    intro vs H1 s1 r1 x dx nx nd ne
    refine ⟨x, dx, vs, by rw [List.append_nil], by rw [← r1.len, hl], upd_same, fun H2 hk hx => ⟨rfl, ?_⟩⟩
    have s2 : Same H1 H2 := fun b o e => hk b o (fun z => by rw [z, nx] at e; cases e) (by
      rw [upd_ne (fun z => by rw [z, nx] at e; cases e), upd_ne (fun z => by rw [z, nd] at e; cases e)]
      exact e)
    refine q (.ref x) H2 (s1.trans s2) ?_
    rw [he]
    unfold Rep
    exact ⟨x, dx, vs, rfl, (Kw.same s1).fresh nx l, hx, by rw [← r1.len, hl], r1.same s2⟩
theorem zip_lookup : ∀ {fs : List Str} {us : List V} {i : Nat} {f : Str} {v : V}, fs.Nodup → fs[i]? = some f → us[i]? = some v → (fs.zip us).lookup f = some v
  | [], _, _, _, _, _, h, _ => by simp at h
  | _ :: _, [], _, _, _, _, _, h => by simp at h
  | g :: fs, u :: us, 0, f, v, nd, h, h' => by
    have e1 : g = f := Option.some.inj h
    have e2 : u = v := Option.some.inj h'
    subst e1
    subst e2
    show List.lookup g ((g, u) :: fs.zip us) = _
    rw [List.lookup_cons_self]
  | g :: fs, u :: us, i + 1, f, v, nd, h, h' => by
    have h1 : fs[i]? = some f := h
    have ne : (f == g) = false := by
      rw [beq_eq_false_iff_ne]
      intro z
      rw [List.nodup_cons] at nd
      exact nd.1 (z ▸ List.mem_of_getElem? h1)
    show List.lookup f ((g, u) :: fs.zip us) = _
    rw [List.lookup_cons, ne]
    exact zip_lookup (List.nodup_cons.mp nd).2 h1 h'
theorem evm_fld {c i : Nat} {f : Str} {m : R α} {g : α → β} {ks : α → List PV} (ha : Evm C Γ l ta m) (he : ∀ o, enc o = .obj c (ks o)) (hg : ∀ o, (ks o)[i]? = some (enc (g o))) (hf : (C.T.fld c)[i]? = some f) (nd : (C.T.fld c).Nodup)
    (cl : Cls K (C.T.addr c)) (na : NoAttr K (C.T.addr c) f) : Evm C Γ l (tFld K ta f) (m.bind fun o => .ok (g o)) := fun G hid os σ H Q Kw q => by
  refine ha G hid os σ H _ Kw ?_
  cases e1 : m with
  | bad => rw [e1] at q; exact q
  | ex x => rw [e1] at q; exact q
  | ok o =>
    rw [e1] at q
    intro v H1 s1 r1
    rw [he] at r1
    unfold Rep at r1
    obtain ⟨a, dx, vs, e, _, ha, _, rs⟩ := r1
    obtain ⟨u, hu, ru⟩ := rs.get (hg o)
    exact ⟨a, C.T.addr c, dx, _, u, e, ha, cl, na, zip_lookup nd hf hu, q u H1 s1 ru⟩
/-- a property, its getter a def with the object as its one argument -/
theorem evm_prop {c : Nat} {m : R α} {f : α × Unit → R β} {ks : α → List PV} (hW : C.W = none) (ha : Evm C Γ l ta m) (he : ∀ o, enc o = .obj c (ks o)) : Evm C Γ .fr (tProp (C.T.addr c) (Pm C.T (.val .fr) f) [] E ta) (m.bind fun o => f (o, ())) := fun G hid os σ H Q Kw q => by
  refine ha G hid os σ H _ Kw ?_
  cases e1 : m with
  | bad => rw [e1] at q; exact q
  | ex x => rw [e1] at q; exact q
  | ok o =>
    rw [e1] at q
    intro v H1 s1 r1
    have r2 := r1
    rw [he] at r2
    unfold Rep at r2
    obtain ⟨a, dx, vs, e, _, ha, _, _⟩ := r2
    refine ⟨a, dx, _, e, ha, (o, ()), fun _ => False, fun _ z => z.elim, reps_cons (by rw [← e]; exact raw_rep r1) reps_nil, ?_⟩
    have q : PoV C .fr G os σ H Q (f (o, ())) := q
    cases e2 : f (o, ()) with
    | bad => rw [e2] at q; exact q
    | ex x => rw [e2] at q; have q : PoX C σ H x := q; unfold PoX at q; rw [hW] at q; exact q
    | ok b => rw [e2] at q; exact fun u H2 s2 r => q u H2 (s1.trans s2) (r.weak fun a z => av_fr_of Kw s1 a z)
/-- isinstance of an object of the class itself -/
theorem evm_isC {c : Nat} {m : R α} {ks : α → List PV} (ha : Evm C Γ l ta m) (he : ∀ o, enc o = .obj c (ks o)) :
    Evm C Γ .fr (tCB (fun xs H Q => ∃ a dx fs, xs = [.ref a, .ref (C.T.addr c)] ∧ H a = some (.ins (C.T.addr c) dx fs) ∧ Q (.bl true) H) (tCons ta (tCons (tC (.ref (C.T.addr c))) tNil))) (m.bind fun _ => .ok true) := fun G hid os σ H Q Kw q => by
  refine ha G hid os σ H _ Kw ?_
  cases e1 : m with
  | bad => rw [e1] at q; exact q
  | ex x => rw [e1] at q; exact q
  | ok o =>
    rw [e1] at q
    intro v H1 s1 r1
    rw [he] at r1
    unfold Rep at r1
    obtain ⟨a, dx, vs, e, _, ha, _, _⟩ := r1
    exact ⟨a, dx, _, by rw [e], ha, q _ H1 s1 rfl⟩
end
section
variable {P : Program} {w : World} {K : PySem.W.Frag} {mg : Str → Option Value} {base : Heap}
/-- an __init__ that stores two arguments -/
theorem init_two {C : Addr} {f1 f2 : Str} {qual : Str} {st : Stmt} {f : Addr} {fd : FuncData} {a b c : Str} (F : Fun K "__init__" qual st f fd) (S : FnScope [a, b, c] [a, b, c] (defScope st)) (ne : ¬ f1 = f2)
    (cl : Cls K C) (n1 : NoAttr K C f1) (n2 : NoAttr K C f2)
    (ht : ∀ (cdv : Value) (A : Around) (outer : List Env) (s : Shared) (H : Hp) (E : XK),
      PSs (cxOf CX0 P w K mg base [a, b, c] qual (defScope st) f cdv A outer s H E).nox (defBody st) (tSeq (sFld K (tVar 0) (tVar 1) f1) (tSeq (sFld K (tVar 0) (tVar 2) f2) tNext))) :
    FnOk P w K mg base CX0 1 f fd [a, b, c] (SpInit C [f1, f2]) := by
  refine F.ok S (fun vs H Q E h => ?_) (fun cdv A outer s H vs Q E hr h => ?_)
  · obtain ⟨x, dx, us, rfl, hl, _⟩ := h
    rw [List.length_cons, hl]
    rfl
  · obtain ⟨x, dx, us, rfl, hl, hx, q⟩ := h
    match us, hl with
    | [u1, u2], _ =>
      refine ⟨_, ht cdv A outer s H E, ?_⟩
      refine ⟨u1, rfl, .ref x, rfl, x, C, dx, [], rfl, hx, cl, n1, by decide, ?_⟩
      refine ⟨u2, rfl, .ref x, rfl, x, C, dx, _, rfl, upd_same, cl, n2, by show 1 < 1000; decide, ?_⟩
      refine q _ (fun b o hb e => ?_) ?_
      · rw [upd_ne hb, upd_ne hb]
        exact e
      · rw [upd_same]
        show some (HO.ins C dx (if f1 = f2 then _ else (f1, u1) :: putF f2 u2 [])) = _
        rw [if_neg ne]
        rfl
end
end Pv

set_option Elab.async false
set_option linter.all false
set_option maxRecDepth 100000
namespace Pv
section
open PySem PySem.Spec PyProof.Rows L2
variable {P : Program} {w : World} {A : Around} {E : Value → Shared → Prop} {s : Shared}
abbrev setObj (w : World) : Obj := { cls := .type "set", dict := none, data := .set #[] 0 (.fresh 0 0 (!w.params.followText "set-order")) }
set_option maxHeartbeats 3200000 in
/-- set(xs) of a list of ints -/
theorem set_listI {p : Addr} {its : Array Value} (ns : List Int) {Q : Value → Shared → Prop} (quietA : A.handled = none) (isl : s.heap.IsList p its) (hints : IntsAre its.toList ns) (few : ns.length + 1 < scanBound)
    (then_ : ∀ (g : Heap) (tk c : Nat), SetR w g s.heap.objs.size (fun j => decide (j ∈ ns)) c → c ≤ ns.length → (∀ b o, s.heap.get? b = some o → g.get? b = some o) → Q (.ref s.heap.objs.size) { s with heap := g, toks := tk }) :
    wpAny (model P w) A (call (.type "set") [.ref p]) Q E s := by
  have size_eq : its.size = ns.length := by
    have z := IntsAre.length hints
    rwa [Array.length_toList] at z
  obtain ⟨k0, k1, k2⟩ := F.called_set.mro
  have k3 := F.called_set.made
  have k4 := F.called_set.sub
  refine wpAny_call (codeAny_of_tree ?_)
  show wpAny _ _ (callAny (.type "set") _) _ _ _
  refine wpAny_pure ⟨Code.quiet_builtin _ (by decide +kernel), codeAny_builtin F.entry_type_call ?_⟩
  rw [Around.under_plain (weight_type_call_type "set" [.ref p] []) rfl]
  have k5 := F.called_set.notType
  have k6 := F.called_set.canCreate
  have k7 := F.typeCall_set_1 (.ref p)
  repeat (any_goals (first | assumption | wp_step))
  refine codeAny_mono (code_set_led1 (.ref p) (E := E) (Q₁ := fun v t => v = .ref s.heap.objs.size ∧ t = { s with heap := s.heap.push (setObj w) }) ⟨rfl, rfl⟩) fun r t hr => ?_
  cases r with
  | error e => exact hr
  | ok fl =>
    cases fl with
    | ret obj =>
      obtain ⟨rfl, rfl⟩ := hr
      have at_ : (s.heap.push (setObj w)).get? s.heap.objs.size = some (setObj w) := Heap.get?_push_size _ rfl
      have ty_ : Shared.TypeIs { s with heap := s.heap.push (setObj w) } (.ref s.heap.objs.size) "set" := ⟨_, at_, rfl⟩
      have k8 := F.called_set.init.lookup
      have k9 := F.called_set.init.bind (.ref s.heap.objs.size)
      repeat (any_goals (first | assumption | wp_step))
      refine codeAny_mono (codeAny_call_builtin (R := wants (fun v t => v = .none ∧ ∃ g tk c, t = { s with heap := g, toks := tk } ∧ SetR w g s.heap.objs.size (fun j => decide (j ∈ ns)) c ∧ c ≤ ns.length ∧
          (∀ b o, s.heap.get? b = some o → g.get? b = some o)) E) F.called_set.init.plain F.entry_set_init (check_set_init_1 ty_ ?_)) fun r2 t2 hr2 => ?_
      · obtain ⟨lo, lo1, lo2, ln, lo3⟩ := isl
        obtain ⟨c_, d_, x_, y_⟩ := lo
        simp only at lo2 lo3
        subst lo2
        subst lo3
        have lo4 : (s.heap.push (setObj w)).get? p = some { cls := .type "list", dict := d_, data := .seq its ln, slots := y_ } := Heap.get?_push_of_some _ lo1
        have j1 := F.sub_list_set
        have j2 := F.sub_list_frozenset
        have j3 : (Value.type "list" == Value.type "dict") = false := by decide
        have isl1 : (s.heap.push (setObj w)).IsList p its := ⟨_, lo4, rfl, ln, rfl⟩
        unfold Builtin.«set.__init__» noKeywords Builtin.Frozenset.updateFrom
        generalize hpi : pyIter = pi
        wp_walk
        subst hpi
        refine wpAny_pyIter_list isl1 ?_
        refine wpAny_bind (wpAny_runValue ?_)
        have below : p < s.heap.objs.size := Heap.lt_size lo1
        have quiet3 : A.in1.in1.in1.handled = none := by simp [quietA]
        have apart : p ≠ (s.heap.push (setObj w)).objs.size := by
          rw [Heap.size_push]
          exact Nat.ne_of_lt (Nat.lt_succ_of_lt below)
        have notin : s.heap.objs.size ∉ [(s.heap.push (setObj w)).objs.size, p] := by
          rw [Heap.size_push]
          simp only [List.mem_cons, List.mem_singleton, List.not_mem_nil, or_false, not_or]
          exact ⟨Nat.ne_of_lt (Nat.lt_succ_self _), Nat.ne_of_gt below⟩
        have vals : ∀ (i : Nat) (v : Value), its[i]? = some v → ∃ k t, ns[i]? = some k ∧ v = .int k t := fun i v hv => by
          have lt : i < ns.length := by
            rw [← size_eq]
            exact (Array.getElem?_eq_some_iff.mp hv).1
          obtain ⟨t, e⟩ := PyProof.Rows.IntsAre.int_at hints i v (by rw [Array.getElem?_toList]; exact hv)
          refine ⟨ns[i], t, List.getElem?_eq_getElem lt, ?_⟩
          rw [e, List.getD_eq_getElem?_getD, List.getElem?_eq_getElem lt] <;> rfl
        refine set_update_ints ((Walks.list quiet3 _ p apart its).toS) s.heap.objs.size notin ns size_eq few vals (its.size - 0) 0 _ (by omega) (Nat.zero_le _)
          ⟨⟨_, Heap.get?_push_size _ rfl, rfl, rfl⟩, (isl1.push _)⟩ ?first ?last
        case first =>
          have got : ((s.heap.push (setObj w)).push { cls := .type "list_iterator", data := .fields #[.ref p, .int 0 0] }).get? s.heap.objs.size = some (setObj w) := Heap.get?_push_of_some _ at_
          exact ⟨0, Nat.le_refl 0, setR_new_at got⟩
        case last =>
          intro t c mv hc hR
          obtain ⟨g, a1, a2, tk, a3⟩ := t
          have b1 : a1 = s.gens := mv.gens
          have b2 : a2 = s.drawn := mv.drawn
          have b3 : a3 = s.os := mv.os
          subst b1
          subst b2
          subst b3
          show wpAny _ _ _ _ _ _
          refine wpAny_pure ?_
          show wpAny _ _ (ret Value.none) _ _ _
          rw [size_eq] at hc
          refine wpAny_pure ⟨rfl, g, tk, c, rfl, hR, hc, fun b o e => ?_⟩
          have lt := Heap.lt_size e
          have n1 : b ≠ s.heap.objs.size := Nat.ne_of_lt lt
          have n2 : b ≠ (s.heap.push (setObj w)).objs.size := by
            rw [Heap.size_push]
            exact Nat.ne_of_lt (Nat.lt_succ_of_lt lt)
          refine mv.heap b o ?_ (Heap.get?_push_of_some _ (Heap.get?_push_of_some _ e))
          simp only [List.mem_cons, List.mem_singleton, List.not_mem_nil, or_false, not_or]
          exact ⟨n1, n2⟩
      · cases r2 with
        | error e => exact hr2
        | ok f2 =>
          cases f2 with
          | ret v =>
            obtain ⟨rfl, g, tk, c, rfl, q1, q2, q3⟩ := hr2
            repeat (any_goals (first | assumption | wp_step))
            exact then_ _ _ _ q1 q2 q3
          | _ => exact hr2.elim
    | _ => exact hr.elim
end
section
open PySem PySem.Spec L2
variable {X : Cx}
def rSetI (K : PySem.W.Frag) (w : World) : List V → Hp → VK → Prop := fun vs H Q => ∃ (a : Addr) (ns : List Int), vs = [.ref a] ∧ SqL K H a (ns.map V.int) ∧ ns.length + 1 < scanBound ∧
  ∀ p c, H p = none → c ≤ ns.length → Q (.ref p) (upd H p (SetO w p (fun j => decide (j ∈ ns)) c))
theorem k_setI (K : PySem.W.Frag) (h : X.K = K) (hc : X.calm = true) : CallR X (.type "set") (rSetI K X.w) := by
  subst h
  intro pins s σ H vs us Q I r h
  obtain ⟨a, ns, rfl, hs, few, q⟩ := h
  rw [Vals.ref1 r]
  obtain ⟨its, rv, pl, hz⟩ := I.list hs
  refine set_listI ns (I.ok.hd hc) pl.isList (by simpa using Vals.ints rv) few fun g tk c hR hle kp => ?_
  have hn : H s.heap.objs.size = none := I.hok.fresh (Nat.le_refl _)
  exact ⟨.ref _, upd H s.heap.objs.size (SetO X.w s.heap.objs.size (fun j => decide (j ∈ ns)) c), I.laid kp (Nat.le_refl _) (setO_new hR), rfl, q _ c hn hle⟩
end
section
open PySem PySem.Spec L2
open Enc (enc)
open Encs (encs)
variable {C : Cn} {Γ : List Sl} {l : Lv} {ta : TE} {K : PySem.W.Frag} {w : World}
/-- sorted(set(xs)): each number once, rising -/
def onceI : List Int → List Int
  | [] => []
  | x :: xs => if x ∈ onceI xs then onceI xs else x :: onceI xs
theorem mem_onceI {k : Int} : ∀ {xs : List Int}, k ∈ onceI xs ↔ k ∈ xs
  | [] => Iff.rfl
  | x :: xs => by
    unfold onceI
    split
    · rw [mem_onceI, List.mem_cons]
      rename_i h
      exact ⟨.inr, fun z => z.elim (fun e => e ▸ mem_onceI.mp h) id⟩
    · rw [List.mem_cons, List.mem_cons, mem_onceI]
theorem nodup_onceI : ∀ {xs : List Int}, (onceI xs).Nodup
  | [] => List.nodup_nil
  | x :: xs => by
    unfold onceI
    split
    · exact nodup_onceI
    · rename_i h
      exact List.nodup_cons.mpr ⟨h, nodup_onceI⟩
def sortSet (xs : List Int) : Option (List Int) := optIf (xs.length < 64) (sortI (onceI xs))
theorem pair_lt_one : ∀ {xs ys : List Int}, xs.Pairwise (· < ·) → ys.Pairwise (· < ·) → (∀ k, k ∈ xs ↔ k ∈ ys) → xs = ys := fun h1 h2 hm => by
  refine List.Perm.eq_of_pairwise (le := fun a b : Int => a < b) (fun a b _ _ h h' => by omega) h1 h2 ?_
  refine (List.perm_ext_iff_of_nodup ?_ ?_).mpr hm
  · exact h1.imp fun h => by omega
  · exact h2.imp fun h => by omega
theorem sortI_nodup_lt {xs : List Int} (h : xs.Nodup) : (sortI xs).Pairwise (· < ·) := by
  have h1 := sortI_le xs
  have h2 : (sortI xs).Nodup := (sortI_perm xs).nodup_iff.mpr h
  exact (h1.and h2).imp fun ⟨a, b⟩ => by omega
theorem evn_sortSet {m : R (List Int)} (ha : Evm C Γ l ta m) : EvN C Γ .fr (tCB (rSortedSet w) (tCons (tCB (rSetI K w) (tCons ta tNil)) tNil)) (m.bind fun xs => R.of (sortSet xs)) := fun G hid os σ H Q Kw q => by
  refine ha G hid os σ H _ Kw ?_
  cases e1 : m with
  | bad => rw [e1] at q; exact q
  | ex x => rw [e1] at q; exact q
  | ok xs =>
    rw [e1] at q
    intro v H1 s1 r1
    have q : PoN C .fr G os σ H Q (R.of (sortSet xs)) := q
    cases e2 : sortSet xs with
    | none => rw [e2] at q; exact q.elim
    | some zs =>
      rw [e2] at q
      obtain ⟨hl, hz⟩ := optIf_some e2
      obtain ⟨p, vs, e, _, hp, _, rs⟩ := lst_rep r1
      have hv := ints_of rs
      refine ⟨p, xs, by rw [e], by rw [← hv]; exact rd_seqL hp, by show _ < 4096; omega, fun a c na hc => ?_⟩
      refine ⟨a, _, c, rfl, upd_same, by omega, fun ns d hpw hm hlen nd => ?_⟩
      have en : ns = zs := by
        rw [← hz]
        refine pair_lt_one hpw (sortI_nodup_lt (nodup_onceI)) fun k => ?_
        rw [hm k, (sortI_perm _).mem_iff, mem_onceI, decide_eq_true_iff]
      have s2 : Same H1 (upd H1 a (SetO w a (fun j => decide (j ∈ xs)) c)) := same_new na
      have s3 := s2.trans (same_new nd (o := HO.lst (ns.map V.int)))
      rw [en] at s3 ⊢
      refine q d _ _ (s1.trans s3) (s1.free (s2.free nd)) upd_same ?_ of_ints
      rw [List.length_map, ← en, hlen]
      exact Nat.le_trans (by omega) (show 64 ≤ LIM by decide)
end
end Pv

set_option Elab.async false
set_option linter.all false
set_option maxRecDepth 100000
namespace Pv
open PySem PySem.Spec L2
open Enc (enc)
open Encs (encs)
/-- an own class of plain records: what the top has written of it -/
structure KdC (P : Program) (w : World) (K : PySem.W.Frag) (mg : Str → Option Value) (base : Heap) (T : CT) (c : Nat) (x : Str) (fs ps : List Str) (k : Nat) : Prop where
  fl : T.fld c = fs
  nd : fs.Nodup
  cl : Cls K (T.addr c)
  na : ∀ f, f ∈ fs → NoAttr K (T.addr c) f
  gm : mg x = some (.ref (T.addr c))
  ini : ∃ f fd, Mk K (T.addr c) f ∧ Binds K fd ps [] ∧ FnOk P w K mg base CX0 k f fd ps (SpInit (T.addr c) fs)
  isc : C8.InsC K (T.addr c)
theorem pe_kmake {X : Cx} {T : CT} {c k : Nat} {x : Str} {fs ps : List Str} {e : Expr} {es : List Expr} {t : TA} {p pos : Pos} (y : KdC X.prog X.w X.K X.mg X.base T c x fs ps k) (hr : Room (k + 1) X.A) (hg : Gl X x) (ha : PA X (e :: es) t)
    (hd : (x == ("__debug__" : Str)) = false := by decide) (he : starEach (e :: es) X.env = (false, eval e X.env) :: starEach es X.env := by rfl) (hpl : (backTo pos (starEach es X.env)).any (·.1) = false := by rfl) :
    PE X (.Call (.Name x p) (e :: es) [] pos) (tMake (T.addr c) (SpInit (T.addr c) (T.fld c)) [] E0 t) := by
  obtain ⟨f, fd, hm, hb, F⟩ := y.ini
  rw [y.fl]
  exact pe_make hm F hr hg y.gm hb .nil C8.pass0 ha hd he hpl
theorem pe_kprop {X : Cx} {T : CT} {c k : Nat} {f : Str} {sp : Sp} {e : Expr} {pos : Pos} {ta : TE} (he : PE X e ta) (cl : Cls X.K (T.addr c)) (h : ∃ p a fd, PropOf X.K (T.addr c) f p a ∧ Binds X.K fd ["self"] [] ∧ FnOk X.prog X.w X.K X.mg X.base CX0 k a fd ["self"] sp)
    (hr : Room (k + 1) X.A) (hab : attributeBase e f X.env (eval e X.env) = eval e X.env) : PE X (.Attribute e f pos) (tProp (T.addr c) sp [] E0 ta) := by
  obtain ⟨p, a, fd, hp, hb, F⟩ := h
  exact pe_prop he cl hp F hr hb .nil C8.pass0 hab
section
variable {C : Cn} {Γ : List Sl} {l l1 l2 : Lv} {α β γ δ : Type} [Enc α] [Enc β] {ta tb tc te t : TE}
theorem evm_fldK {P : Program} {w : World} {K : PySem.W.Frag} {mg : Str → Option Value} {base : Heap} {k : Nat} {x : Str} {fs ps : List Str} {c i : Nat} {f : Str} {m : R α} {g : α → β} {ks : α → List PV} (y : KdC P w K mg base C.T c x fs ps k) (ha : Evm C Γ l ta m) (he : ∀ o, enc o = .obj c (ks o)) (hg : ∀ o, (ks o)[i]? = some (enc (g o)))
    (hf : fs[i]? = some f) : Evm C Γ l (tFld K ta f) (m.bind fun o => .ok (g o)) :=
  evm_fld ha he hg (y.fl.symm ▸ hf) (y.fl.symm ▸ y.nd) y.cl (y.na f (List.mem_of_getElem? hf))
end
end Pv

set_option Elab.async false
set_option linter.all false
set_option maxRecDepth 100000
namespace Pv
open PySem PySem.Spec L2
open Enc (enc)
open Encs (encs)

/-! ### what a mirror answers: a calculus of outcomes -/
def Ok {α : Type} (m : R α) (Q : α → Prop) : Prop := ∃ a, m = .ok a ∧ Q a
section
variable {α β S A : Type} {m n : R α} {Q : α → Prop}
theorem Ok.ok {a : α} (h : Q a) : Ok (.ok a) Q := ⟨a, rfl, h⟩
theorem Ok.bind {m : R α} {k : α → R β} {Q : β → Prop} (h : Ok m fun a => Ok (k a) Q) : Ok (m.bind k) Q := by
  obtain ⟨a, e, b, e2, q⟩ := h
  exact ⟨b, by rw [e]; exact e2, q⟩
theorem Ok.lt {a : α} {k : α → R β} {Q : β → Prop} (h : Ok (k a) Q) : Ok (R.lt a k) Q := h
theorem Ok.ite {b : Bool} (h1 : b = true → Ok m Q) (h2 : b = false → Ok n Q) : Ok (R.ite b m n) Q := by
  cases b with
  | true => exact h1 rfl
  | false => exact h2 rfl
theorem Ok.ifm {c : R Bool} (h : Ok c fun b => Ok (R.ite b m n) Q) : Ok (R.ifm c m n) Q := Ok.bind h
theorem Ok.imp {P : α → Prop} (h : Ok m P) (hi : ∀ a, P a → Q a) : Ok m Q := by
  obtain ⟨a, e, p⟩ := h
  exact ⟨a, e, hi a p⟩
theorem Ok.eq {a : α} (e : m = .ok a) (h : Q a) : Ok m Q := ⟨a, e, h⟩
theorem Ok.get {m : R α} {a : α} (h : Ok m (· = a)) : m = .ok a := by
  obtain ⟨b, e, q⟩ := h
  rw [e, q]
theorem Ok.of {o : Option α} {a : α} (e : o = some a) (h : Q a) : Ok (R.of o) Q := ⟨a, by rw [e]; rfl, h⟩
theorem Ok.opt {c : Prop} [Decidable c] {a : α} (hc : c) (h : Q a) : Ok (R.of (optIf c a)) Q := Ok.of (if_pos hc) h
theorem atI_of {xs : List α} {i : Int} (h0 : 0 ≤ i) (h1 : i < xs.length) : ∃ a, atI xs i = some a ∧ xs[i.toNat]? = some a := by
  have hl : i.toNat < xs.length := by omega
  refine ⟨xs[i.toNat], ?_, List.getElem?_eq_getElem hl⟩
  have e : (i.toNat : Int) = i := by omega
  have z := atI_nat (List.getElem?_eq_getElem hl)
  rwa [e] at z
theorem atI_neg {xs : List α} {i : Int} (h0 : i < 0) (h1 : -(xs.length : Int) ≤ i) : atI xs i = xs[(i + xs.length).toNat]? := by
  unfold atI ixN
  rw [if_neg (by omega), if_pos h1]
  rfl
theorem Ok.at {xs : List α} {i : Int} {Q : α → Prop} (h0 : 0 ≤ i) (h1 : i < xs.length) (h : ∀ a, xs[i.toNat]? = some a → Q a) : Ok (R.of (atI xs i)) Q := by
  obtain ⟨a, e, e2⟩ := atI_of h0 h1
  exact Ok.of e (h a e2)
theorem Ok.atEnd {xs : List α} {i : Int} {Q : α → Prop} (h0 : i < 0) (h1 : -(xs.length : Int) ≤ i) (h : ∀ a, xs[(i + xs.length).toNat]? = some a → Q a) : Ok (R.of (atI xs i)) Q := by
  have hl : (i + xs.length).toNat < xs.length := by omega
  refine Ok.of (a := xs[(i + xs.length).toNat]) ?_ (h _ (List.getElem?_eq_getElem hl))
  rw [atI_neg h0 h1, List.getElem?_eq_getElem hl]
theorem Ok.mul {a b : Int} {Q : Int → Prop} (hc : (-(2 ^ 64) < a ∧ a < 2 ^ 64) ∨ (-(2 ^ 64) < b ∧ b < 2 ^ 64)) (h : Q (a * b)) : Ok (R.of (mulO a b)) Q := Ok.opt hc h
theorem Ok.mod {a b : Int} {Q : Int → Prop} (hc : 0 < b) (h : Q (a % b)) : Ok (R.of (modO a b)) Q := Ok.opt hc h
theorem Ok.div {a b : Int} {Q : Int → Prop} (hc : 0 < b) (hz : b < 2 ^ 4000) (h : Q (a / b)) : Ok (R.of (divO a b)) Q := Ok.opt ⟨hc, hz⟩ h
theorem Ok.app {xs : List α} {a : α} {Q : List α → Prop} (hc : xs.length < LIM) (h : Q (xs ++ [a])) : Ok (R.of (appL xs a)) Q := Ok.opt hc h
theorem Ok.cat {xs ys : List α} {Q : List α → Prop} (hc : xs.length + ys.length ≤ LIM) (h : Q (xs ++ ys)) : Ok (R.of (catL xs ys)) Q := Ok.opt hc h
theorem Ok.set {xs : List α} {i : Int} {a : α} {Q : List α → Prop} (h0 : 0 ≤ i) (h1 : i < xs.length) (h : Q (xs.set i.toNat a)) : Ok (R.of (setL xs i a)) Q := by
  refine Ok.of (a := xs.set i.toNat a) ?_ h
  unfold setL ixN
  rw [if_pos h0, if_pos h1]
  rfl
theorem Ok.range {lo hi : Int} {Q : List Int → Prop} (h0 : -1000000 ≤ lo ∧ lo ≤ 1000000 ∧ -1000000 ≤ hi ∧ hi ≤ 1000000 ∧ hi - lo ≤ 1000000) (h : Q (rng lo hi)) : Ok (R.of (rngO lo hi)) Q := Ok.opt h0 h
/-- a walk with an invariant: P i s behind i items -/
theorem foldR_inv {f : α → S → R S} {P : Nat → S → Prop} : ∀ (xs : List α) (k : Nat) (s : S), (∀ i (h : i < xs.length) s, P (k + i) s → Ok (f xs[i] s) (P (k + i + 1))) → P k s → Ok (foldR f xs s) (P (k + xs.length))
  | [], k, s, _, h => ⟨s, rfl, h⟩
  | x :: xs, k, s, st, h => by
    obtain ⟨s1, e, p⟩ := st 0 (Nat.succ_pos _) s h
    obtain ⟨s2, e2, p2⟩ := foldR_inv (f := f) (P := P) xs (k + 1) s1 (fun i hi s hp => by
      have := st (i + 1) (Nat.succ_lt_succ hi) s (by rw [show k + (i + 1) = k + 1 + i by omega]; exact hp)
      rw [show k + (i + 1) + 1 = k + 1 + i + 1 by omega] at this
      exact this) p
    refine ⟨s2, ?_, by rw [List.length_cons, show k + (xs.length + 1) = k + 1 + xs.length by omega]; exact p2⟩
    show (f x s).bind _ = _
    have e : f x s = .ok s1 := e
    rw [e]
    exact e2
theorem Ok.fold {f : α → S → R S} (P : Nat → S → Prop) {xs : List α} {s : S} {Q : S → Prop} (h0 : P 0 s) (st : ∀ i (h : i < xs.length) s, P i s → Ok (f xs[i] s) (P (i + 1))) (h : ∀ s, P xs.length s → Q s) : Ok (foldR f xs s) Q :=
  (foldR_inv xs 0 s (fun i hi s hp => by rw [Nat.zero_add] at hp ⊢; exact st i hi s hp) h0).imp fun s hs => h s (by rw [Nat.zero_add] at hs; exact hs)
theorem rng_len {lo hi : Int} : (rng lo hi).length = (hi - lo).toNat := by
  unfold rng
  rw [List.length_map, List.length_range]
theorem rng_get {lo hi : Int} {i : Nat} (h : i < (rng lo hi).length) : (rng lo hi)[i] = lo + (i : Int) := by
  have h2 : i < (hi - lo).toNat := by rwa [rng_len] at h
  have e : (rng lo hi)[i]? = some (lo + (i : Int)) := by
    unfold rng
    rw [List.getElem?_map, List.getElem?_range h2]
    rfl
  rw [List.getElem?_eq_getElem h] at e
  exact Option.some.inj e
theorem Ok.foldRng {f : Int → S → R S} (P : Nat → S → Prop) {n : Int} {s : S} {Q : S → Prop} (h0 : P (0 : Nat) s) (st : ∀ i : Nat, (i : Int) < n → ∀ s, P i s → Ok (f (i : Int) s) (P (i + 1))) (h : ∀ s, P n.toNat s → Q s) : Ok (foldR f (Pv.rng 0 n) s) Q :=
  Ok.fold P h0 (fun i hi s hp => by
    have e := rng_get hi
    rw [rng_len] at hi
    rw [e, Int.zero_add]
    exact st i (by omega) s hp) fun s hs => h s (by rw [rng_len, Int.sub_zero] at hs; exact hs)
/-- a walk that may be left by a return: all is well, or the first that isn't -/
theorem loopR_all {f : α → Unit → R (Stp Unit A)} {p : α → Bool} {bad : A} : ∀ xs : List α, (∀ x, x ∈ xs → f x () = .ok (if p x then .nx () else .rt bad)) → loopR f xs () = .ok (if xs.all p then .nx () else .rt bad)
  | [], _ => rfl
  | x :: xs, h => by
    have h1 := h x (List.mem_cons_self ..)
    have h2 := loopR_all xs fun y hy => h y (List.mem_cons_of_mem _ hy)
    show (f x ()).bind _ = _
    rw [h1, List.all_cons]
    cases p x with
    | true => exact h2
    | false => rfl
/-- a comprehension whose test and item never fail -/
theorem compR_ok {t : α → R Bool} {f : α → R β} {p : α → Bool} {g : α → β} : ∀ {xs : List α}, (∀ x, x ∈ xs → t x = .ok (p x)) → (∀ x, x ∈ xs → f x = .ok (g x)) → compR t f xs = .ok ((xs.filter p).map g)
  | [], _, _ => rfl
  | x :: xs, h1, h2 => by
    have ih := compR_ok (xs := xs) (fun y hy => h1 y (List.mem_cons_of_mem _ hy)) (fun y hy => h2 y (List.mem_cons_of_mem _ hy))
    unfold compR
    rw [h1 x (List.mem_cons_self ..), ih, h2 x (List.mem_cons_self ..)]
    cases e : p x with
    | true => rw [List.filter_cons_of_pos e]; rfl
    | false => rw [List.filter_cons_of_neg (by rw [e]; decide)]; rfl
theorem Ok.comp {t : α → R Bool} {f : α → R β} {xs : List α} {Q : List β → Prop} (p : α → Bool) (g : α → β) (h1 : ∀ x, x ∈ xs → t x = .ok (p x)) (h2 : ∀ x, x ∈ xs → f x = .ok (g x)) (h : Q ((xs.filter p).map g)) : Ok (compR t f xs) Q :=
  ⟨_, compR_ok h1 h2, h⟩
theorem filter_yes {xs : List α} : xs.filter (fun _ => true) = xs := List.filter_eq_self.mpr fun _ _ => rfl
end
/-! ### == of plain values -/
class EqD (α : Type) [Enc α] : Prop where
  eq : ∀ a b : α, eqP (enc a) (enc b) = true ↔ a = b
theorem eqP_dec {α : Type} [Enc α] [DecidableEq α] [EqD α] (a b : α) : eqP (enc a) (enc b) = decide (a = b) := by
  rw [Bool.eq_iff_iff, EqD.eq, decide_eq_true_iff]
theorem eqP_self {α : Type} [Enc α] [EqD α] (a : α) : eqP (enc a) (enc a) = true := (EqD.eq a a).mpr rfl
instance : EqD Int := ⟨fun a b => by
  show (a == b) = true ↔ a = b
  rw [beq_iff_eq]⟩
theorem eqs_iff {α : Type} [Enc α] [EqD α] : ∀ xs ys : List α, PyData.eqvAll (toDs (xs.map enc)) (toDs (ys.map enc)) = true ↔ xs = ys
  | [], [] => by simp [toDs, PyData.eqvAll]
  | [], y :: ys => by simp [toDs, PyData.eqvAll]
  | x :: xs, [] => by simp [toDs, PyData.eqvAll]
  | x :: xs, y :: ys => by
    show (eqP (enc x) (enc y) && PyData.eqvAll (toDs (xs.map enc)) (toDs (ys.map enc))) = true ↔ _
    rw [Bool.and_eq_true, EqD.eq, eqs_iff xs ys, List.cons.injEq]
instance {α : Type} [Enc α] [EqD α] : EqD (List α) := ⟨fun xs ys => eqs_iff xs ys⟩
/-! ### slices from one end -/
theorem sIx_of {n d : Nat} {i : Int} (h : 0 ≤ i) : HT.sIx n d (some i) = min i.toNat n := by
  show (if i < 0 then _ else _) = _
  rw [if_neg (by omega)]
theorem cutL_from {α : Type} {xs : List α} {i : Int} (h : 0 ≤ i) : cutL xs (some i) none = xs.drop i.toNat := by
  unfold cutL
  rw [sIx_of h]
  show (xs.drop _).take (xs.length - _) = _
  rw [List.take_of_length_le (by rw [List.length_drop]; omega)]
  by_cases c : i.toNat ≤ xs.length
  · rw [Nat.min_eq_left c]
  · rw [Nat.min_eq_right (by omega), List.drop_length, List.drop_eq_nil_of_le (by omega)]
theorem cutL_to {α : Type} {xs : List α} {i : Int} (h : 0 ≤ i) : cutL xs none (some i) = xs.take i.toNat := by
  unfold cutL
  rw [sIx_of h]
  show (xs.drop 0).take (min i.toNat xs.length - 0) = _
  rw [List.drop_zero, Nat.sub_zero]
  by_cases c : i.toNat ≤ xs.length
  · rw [Nat.min_eq_left c]
  · rw [Nat.min_eq_right (by omega), List.take_length, List.take_of_length_le (by omega)]
theorem cutL_sub {α : Type} {xs : List α} {lo hi : Option Int} : (cutL xs lo hi).Sublist xs := (List.take_sublist _ _).trans (List.drop_sublist _ _)
/-! ### sorted -/
def insI (x : Int) : List Int → List Int
  | [] => [x]
  | y :: ys => if x ≤ y then x :: y :: ys else y :: insI x ys
def isortI : List Int → List Int
  | [] => []
  | x :: xs => insI x (isortI xs)
theorem insI_perm (x : Int) : ∀ ys : List Int, (insI x ys).Perm (x :: ys)
  | [] => .refl _
  | y :: ys => by
    unfold insI
    split
    · exact .refl _
    · exact ((insI_perm x ys).cons y).trans (.swap x y ys)
theorem insI_le (x : Int) : ∀ ys : List Int, ys.Pairwise (· ≤ ·) → (insI x ys).Pairwise (· ≤ ·)
  | [], _ => List.pairwise_singleton _ _
  | y :: ys, h => by
    unfold insI
    obtain ⟨h1, h2⟩ := List.pairwise_cons.mp h
    split
    · rename_i c
      refine List.pairwise_cons.mpr ⟨fun z hz => ?_, h⟩
      rcases List.mem_cons.mp hz with e | hz
      · omega
      · have := h1 z hz
        omega
    · rename_i c
      refine List.pairwise_cons.mpr ⟨fun z hz => ?_, insI_le x ys h2⟩
      rcases List.mem_cons.mp ((insI_perm x ys).mem_iff.mp hz) with e | hz
      · omega
      · exact h1 z hz
theorem isortI_perm : ∀ xs : List Int, (isortI xs).Perm xs
  | [] => .refl _
  | x :: xs => (insI_perm x _).trans ((isortI_perm xs).cons x)
theorem isortI_le : ∀ xs : List Int, (isortI xs).Pairwise (· ≤ ·)
  | [] => List.Pairwise.nil
  | x :: xs => insI_le x _ (isortI_le xs)
theorem sortI_is (xs : List Int) : sortI xs = isortI xs := sorted_one ((sortI_perm xs).trans (isortI_perm xs).symm) (sortI_le xs) (isortI_le xs)
end Pv

set_option Elab.async false
set_option linter.all false
set_option maxRecDepth 100000
set_option maxHeartbeats 4000000
namespace K05
open PySem PySem.Spec L2 Pv
open Enc (enc)
open Encs (encs)
def topS (i : Nat) : Stmt := PySem.Challenge.pw_climbrow_k05_row_or_not.main.body.getD i (.Pass ⟨0, 0, 0, 0⟩)
structure O_Span where
  least : Int
  most : Int
instance : Enc O_Span := ⟨fun o => .obj 0 [enc o.least, enc o.most]⟩
abbrev s_is_row : Stmt := topS 3
abbrev N_is_row : List Str := ["levels", "steps", "lower", "upper", "step"]
theorem sc_is_row : FnScope N_is_row ["levels"] (defScope s_is_row) := ⟨rfl, rfl, rfl, by decide +kernel, rfl, by decide +kernel, by decide +kernel⟩
abbrev s_blocks : Stmt := topS 4
abbrev N_blocks : List Str := ["row", "entry"]
theorem sc_blocks : FnScope N_blocks ["row"] (defScope s_blocks) := ⟨rfl, rfl, rfl, by decide +kernel, rfl, by decide +kernel, by decide +kernel⟩
abbrev s_span_of_row : Stmt := topS 5
abbrev N_span_of_row : List Str := ["row"]
theorem sc_span_of_row : FnScope N_span_of_row ["row"] (defScope s_span_of_row) := ⟨rfl, rfl, rfl, by decide +kernel, rfl, by decide +kernel, by decide +kernel⟩
abbrev s__law_cell : Stmt := topS 7
abbrev N__law_cell : List Str := ["_law_script", "_law_k"]
theorem sc__law_cell : FnScope N__law_cell ["_law_script", "_law_k"] (defScope s__law_cell) := ⟨rfl, rfl, rfl, by decide +kernel, rfl, by decide +kernel, by decide +kernel⟩
abbrev s__law_draws : Stmt := topS 8
abbrev N__law_draws : List Str := ["_law_cell_here", "_law_sizes_here", "_law_digits", "_law_great", "_law_first", "_law_out", "_law_k", "_law_mixed"]
theorem sc__law_draws : FnScope N__law_draws ["_law_cell_here", "_law_sizes_here"] (defScope s__law_draws) := ⟨rfl, rfl, rfl, by decide +kernel, rfl, by decide +kernel, by decide +kernel⟩
abbrev s__law_is_int : Stmt := topS 9
abbrev N__law_is_int : List Str := ["_law_x"]
theorem sc__law_is_int : FnScope N__law_is_int ["_law_x"] (defScope s__law_is_int) := ⟨rfl, rfl, rfl, by decide +kernel, rfl, by decide +kernel, by decide +kernel⟩
abbrev s__law_is_ints : Stmt := topS 10
abbrev N__law_is_ints : List Str := ["_law_xs", "_law_x"]
theorem sc__law_is_ints : FnScope N__law_is_ints ["_law_xs"] (defScope s__law_is_ints) := ⟨rfl, rfl, rfl, by decide +kernel, rfl, by decide +kernel, by decide +kernel⟩
abbrev s__law_good_row : Stmt := topS 11
abbrev N__law_good_row : List Str := ["_law_script", "_law_at", "_law_count", "_law_bar", "_law_rises", "_law_depth", "_law_row", "_law_rise", "_law_x", "_law_k"]
theorem sc__law_good_row : FnScope N__law_good_row ["_law_script", "_law_at", "_law_count", "_law_bar"] (defScope s__law_good_row) := ⟨rfl, rfl, rfl, by decide +kernel, rfl, by decide +kernel, by decide +kernel⟩
abbrev s__law_spoilt : Stmt := topS 12
abbrev N__law_spoilt : List Str := ["_law_row", "_law_kind", "_law_index", "_law_size", "_law_at", "_law_x"]
theorem sc__law_spoilt : FnScope N__law_spoilt ["_law_row", "_law_kind", "_law_index", "_law_size"] (defScope s__law_spoilt) := ⟨rfl, rfl, rfl, by decide +kernel, rfl, by decide +kernel, by decide +kernel⟩
abbrev s__law_due : Stmt := topS 13
abbrev N__law_due : List Str := ["_law_levels", "_law_k"]
theorem sc__law_due : FnScope N__law_due ["_law_levels"] (defScope s__law_due) := ⟨rfl, rfl, rfl, by decide +kernel, rfl, by decide +kernel, by decide +kernel⟩
abbrev s__law_has_order : Stmt := topS 14
abbrev N__law_has_order : List Str := ["_law_levels", "_law_walks", "_law_k", "_law_longer", "_law_walk", "_law_climbs"]
theorem sc__law_has_order : FnScope N__law_has_order ["_law_levels"] (defScope s__law_has_order) := ⟨rfl, rfl, rfl, by decide +kernel, rfl, by decide +kernel, by decide +kernel⟩
abbrev s__law_asked : Stmt := topS 15
abbrev N__law_asked : List Str := ["_law_levels", "_law_due_here", "_law_handed", "_law_told"]
theorem sc__law_asked : FnScope N__law_asked ["_law_levels"] (defScope s__law_asked) := ⟨rfl, rfl, rfl, by decide +kernel, rfl, by decide +kernel, by decide +kernel⟩
abbrev s__law_sizes : Stmt := topS 16
abbrev N__law_sizes : List Str := ["_law_row", "_law_out", "_law_k", "_law_x"]
theorem sc__law_sizes : FnScope N__law_sizes ["_law_row"] (defScope s__law_sizes) := ⟨rfl, rfl, rfl, by decide +kernel, rfl, by decide +kernel, by decide +kernel⟩
abbrev s_Span_width : Stmt := inClass (topS 1) 1
abbrev N_Span_width : List Str := ["self"]
theorem sc_Span_width : FnScope N_Span_width ["self"] (defScope s_Span_width) := ⟨rfl, rfl, rfl, by decide +kernel, rfl, by decide +kernel, by decide +kernel⟩
abbrev s__law_ends : Stmt := topS 17
abbrev N__law_ends : List Str := ["_law_row", "_law_lowest", "_law_highest", "_law_handed", "_law_sizes_here", "_law_span"]
theorem sc__law_ends : FnScope N__law_ends ["_law_row"] (defScope s__law_ends) := ⟨rfl, rfl, rfl, by decide +kernel, rfl, by decide +kernel, by decide +kernel⟩
abbrev s_law : Stmt := topS 18
abbrev N_law : List Str := ["_law_script", "_law_shape", "_law_count", "_law_row", "_law_levels", "_law_cuts", "_law_high", "_law_moved", "_law_size", "_law_x", "_law_k"]
theorem sc_law : FnScope N_law ["_law_script"] (defScope s_law) := ⟨rfl, rfl, rfl, by decide +kernel, rfl, by decide +kernel, by decide +kernel⟩
def m_is_row (v_levels : (List Int)) : R Bool :=
  (R.ifm (R.ok (!(Tru.tru v_levels))) (R.ok true) (R.lt ((zipF v_levels (cutL v_levels (some (1 : Int)) none)).map fun x1 : (Tp (Int × Int × Unit)) => (x1.t.2.1 - x1.t.1)) fun v_steps_2 => (R.ite ((v_steps_2.map fun x3 : Int => ((encs (Tp.mk ((0 : Int), (1 : Int), ()) : (Tp (Int × Int × Unit))).t).any fun z => eqP z (enc x3))).all id) (R.bind (R.bind (R.of (atI v_levels (0 : Int))) fun t4 => (R.ok (decide (t4 ≤ (0 : Int))))) fun t6 => (R.ite t6 (R.bind (R.of (atI v_levels (-(1 : Int)))) fun t5 => (R.ok (decide ((-(1 : Int)) ≤ t5)))) (R.ok false))) (R.ok false))))
def m_blocks (v_row : (List Int)) : R (List Int) :=
  (R.bind (R.of (sortSet v_row)) fun l2 => R.ok (l2.map fun x1 : Int => ((v_row.count x1 : Nat) : Int)))
def m_span_of_row (v_row : (List Int)) : R O_Span :=
  (R.ifm (R.ok (!(Tru.tru v_row))) (R.ok (O_Span.mk (0 : Int) (0 : Int))) (R.bind (R.bind (R.of (atI v_row (-(1 : Int)))) fun t1 => (R.ok (t1 + (1 : Int)))) fun t3 => R.bind (R.bind (R.of (atI v_row (0 : Int))) fun t2 => (R.ok ((v_row.length : Int) + t2))) fun t4 => (R.ok (O_Span.mk t3 t4))))
def m__law_cell (v_script : Scr) (v_k : Int) : R Int :=
  (R.ifm (R.ok (decide (v_k < (v_script.xs.length : Int)))) (R.bind (R.of (atI v_script.xs v_k)) fun t1 => (R.ok t1)) (R.ifm (R.ok (decide ((0 : Int) < (v_script.xs.length : Int)))) (R.bind (R.bind (R.of (atI v_script.xs (0 : Int))) fun t2 => (R.ok t2)) fun t3 => R.bind (R.of (mulO (104729 : Int) (v_k + (1 : Int)))) fun t4 => (R.ok (t3 + t4))) (R.of (mulO (104729 : Int) (v_k + (1 : Int))))))
def m__law_draws_b1 (v_sizes : (List Int)) (v_great_3 : Bool) (v_first_4 : Int) (x6 : Int) (s7 : (List Int) × Int) : R ((List Int) × Int) :=
  (R.bind (R.ifm (R.ok (v_great_3 && (decide ((0 : Int) < s7.2)))) (R.bind (R.bind (R.of (atI v_sizes x6)) fun t40 => (R.of (modO s7.2 t40))) fun a45 => R.bind (R.of (appL s7.1 a45)) fun v_out_41 => (R.bind (R.bind (R.of (atI v_sizes x6)) fun t43 => (R.of (divO s7.2 t43))) fun v_digits_44 => (R.ok (v_out_41, v_digits_44)))) (R.bind (R.bind (R.bind (R.bind (R.bind (R.of (mulO (7919 : Int) x6)) fun t46 => (R.ok (v_first_4 + t46))) fun t47 => (R.ok (t47 + (13 : Int)))) fun t48 => (R.ok t48)) fun t50 => (R.of (modO t50 (2147483647 : Int)))) fun v_mixed_51 => (R.bind (R.bind (R.bind (R.of (mulO v_mixed_51 (v_mixed_51 + (48271 : Int)))) fun t52 => (R.ok t52)) fun t54 => (R.of (modO t54 (2147483629 : Int)))) fun v_mixed_55 => (R.bind (R.bind (R.bind (R.bind (R.of (mulO v_mixed_55 (v_mixed_55 + (69621 : Int)))) fun t56 => R.bind (R.of (mulO (31 : Int) x6)) fun t57 => (R.ok (t56 + t57))) fun t58 => (R.ok t58)) fun t60 => (R.of (modO t60 (2147483647 : Int)))) fun v_mixed_61 => (R.bind (R.bind (R.bind (R.of (divO v_mixed_61 (9 : Int))) fun t62 => (R.ok t62)) fun t65 => R.bind (R.of (atI v_sizes x6)) fun t66 => (R.of (modO t65 t66))) fun a68 => R.bind (R.of (appL s7.1 a68)) fun v_out_67 => (R.ok (v_out_67, s7.2))))))) fun s38 => (R.ok (s38.1, s38.2)))
def m__law_draws (v_cell : Int) (v_sizes : (List Int)) : R (List Int) :=
  (R.lt (if v_cell < 0 then -v_cell else v_cell) fun v_digits_1 => (R.bind (R.bind (R.of (powO (10 : Int) (18 : Int))) fun t2 => (R.ok (decide (t2 ≤ v_digits_1)))) fun v_great_3 => (R.lt v_digits_1 fun v_first_4 => (R.lt ([] : (List Int)) fun v_out_5 => (R.bind (R.of (rngO 0 (v_sizes.length : Int))) fun l69 => R.bind (foldR (m__law_draws_b1 v_sizes v_great_3 v_first_4) l69 (v_out_5, v_digits_1)) fun s7 => (R.ok s7.1))))))
def m__law_is_int (v_x : Int) : R Bool :=
  (R.ok (true && (!false)))
def m__law_is_ints (v_xs : (List Int)) : R Bool :=
  (R.ite true (R.bind (R.bind (R.ok v_xs) fun l2 => compR (fun x1 : Int => (R.ok true)) (fun x1 : Int => (m__law_is_int x1)) l2) fun t3 => (R.ok (t3.all id))) (R.ok false))
def m__law_good_row_b1 (x12 : Int) (s13 : (List Int)) : R ((List Int)) :=
  (R.bind (R.bind (R.of (atI s13 ((s13.length : Int) - (1 : Int)))) fun t14 => (R.ok (t14 + x12))) fun a16 => R.bind (R.of (appL s13 a16)) fun v_row_15 => (R.ok (v_row_15)))
def m__law_good_row (v_script : Scr) (v_at : Int) (v_count : Int) (v_bar : Int) : R (List Int) :=
  (R.ifm (R.ok (decide (v_count = (0 : Int)))) (R.ok ([] : (List Int))) (R.bind (R.bind (R.bind (m__law_cell v_script v_at) fun t3 => R.bind (R.bind (R.of (rngO 0 (v_count - (1 : Int)))) fun l2 => R.ok (l2.map fun x1 : Int => (6 : Int))) fun t4 => (m__law_draws t3 t4)) fun l6 => R.ok (l6.map fun x5 : Int => (if (decide (v_bar < x5)) then (1 : Int) else 0))) fun v_rises_7 => (R.bind (R.bind (R.bind (m__law_cell v_script (v_at + (1 : Int))) fun t8 => (m__law_draws t8 ([(v_rises_7.sum + (2 : Int))] : (List Int)))) fun t9 => (R.of (atI t9 (0 : Int)))) fun v_depth_10 => (R.lt ([((0 : Int) - v_depth_10)] : (List Int)) fun v_row_11 => (R.bind (R.ok v_rises_7) fun l17 => R.bind (foldR m__law_good_row_b1 l17 (v_row_11)) fun s13 => (R.ok s13))))))
def m__law_spoilt (v_row : (List Int)) (v_kind : Int) (v_index : Int) (v_size : Int) : R (List Int) :=
  (R.ifm (R.ok ((decide ((v_row.length : Int) = (0 : Int))) || (decide (v_kind < (6 : Int))))) (R.ok v_row) (R.bind (R.of (modO v_index (v_row.length : Int))) fun v_at_1 => (R.ifm (R.ok (decide (v_kind = (6 : Int)))) (R.of (catL (cutL v_row none (some v_at_1)) ((cutL v_row (some v_at_1) none).map fun x2 : Int => ((x2 + (1 : Int)) + v_size)))) (R.ifm (R.ok (decide (v_kind = (7 : Int)))) (R.of (catL (cutL v_row none (some v_at_1)) ((cutL v_row (some v_at_1) none).map fun x3 : Int => ((x3 - (1 : Int)) - v_size)))) (R.ifm (R.ok (decide (v_kind = (8 : Int)))) (R.bind (R.bind (R.bind (R.bind (R.of (atI v_row v_at_1)) fun t6 => R.bind (R.bind (R.bind (R.of (powO (10 : Int) (12 : Int))) fun t4 => (R.ok ([(1 : Int), (-(1 : Int)), t4] : (List Int)))) fun t5 => (R.of (atI t5 v_size))) fun t7 => (R.ok (t6 + t7))) fun t8 => (R.ok ([t8] : (List Int)))) fun t9 => (R.of (catL (cutL v_row none (some v_at_1)) t9))) fun t10 => (R.of (catL t10 (cutL v_row (some (v_at_1 + (1 : Int))) none)))) (R.ifm (R.ok (decide (v_kind = (9 : Int)))) (R.bind (R.ok v_row) fun l15 => compR (fun x11 : Int => (R.ok true)) (fun x11 : Int => (R.bind (R.bind (R.bind (R.of (atI v_row (0 : Int))) fun t12 => (R.ok (x11 - t12))) fun t13 => (R.ok (t13 + (1 : Int)))) fun t14 => (R.ok (t14 + v_size)))) l15) (R.bind (R.ok v_row) fun l20 => compR (fun x16 : Int => (R.ok true)) (fun x16 : Int => (R.bind (R.bind (R.bind (R.of (atI v_row ((v_row.length : Int) - (1 : Int)))) fun t17 => (R.ok (x16 - t17))) fun t18 => (R.ok (t18 - (2 : Int)))) fun t19 => (R.ok (t19 - v_size)))) l20)))))))
def m__law_due_b1 (v_levels : (List Int)) (x1 : Int) (s2 : Unit) : R (Stp (Unit) Bool) :=
  (R.ifm (R.bind (R.bind (R.of (atI v_levels (x1 + (1 : Int)))) fun t3 => R.bind (R.of (atI v_levels x1)) fun t4 => (R.ok (!decide (t3 = t4)))) fun t8 => (R.ite t8 (R.bind (R.of (atI v_levels (x1 + (1 : Int)))) fun t6 => R.bind (R.bind (R.of (atI v_levels x1)) fun t5 => (R.ok (t5 + (1 : Int)))) fun t7 => (R.ok (!decide (t6 = t7)))) (R.ok false))) (R.bind (R.ok false) fun a9 => R.ok (Stp.rt a9)) (R.ok (Stp.nx ())))
def m__law_due (v_levels : (List Int)) : R Bool :=
  (R.ifm (R.ok (decide ((v_levels.length : Int) = (0 : Int)))) (R.ok true) (R.bind (R.of (rngO 0 ((v_levels.length : Int) - (1 : Int)))) fun l13 => R.bind (loopR (m__law_due_b1 v_levels) l13 ()) (Stp.fin (fun s2 => (R.bind (R.bind (R.of (atI v_levels (0 : Int))) fun t10 => (R.ok (decide (t10 ≤ (0 : Int))))) fun t12 => (R.ite t12 (R.bind (R.of (atI v_levels ((v_levels.length : Int) - (1 : Int)))) fun t11 => (R.ok (decide ((-(1 : Int)) ≤ t11)))) (R.ok false)))) (fun a14 => R.ok a14))))
def m__law_has_order_b1 (v_levels : (List Int)) (x3 : Int) (x6 : (List Int)) (s7 : (List (List Int))) : R ((List (List Int))) :=
  (R.lt ((x6.length : Int) - (1 : Int)) fun v_climbs_8 => (R.bind (R.ifm (R.ok (decide (v_climbs_8 < (v_levels.length : Int)))) (R.bind (R.bind (R.bind (R.bind (R.bind (R.of (atI x6 (0 : Int))) fun t18 => (R.ok (t18 + (1 : Int)))) fun t19 => (R.ok ([t19] : (List Int)))) fun t20 => (R.of (catL t20 (cutL x6 (some (1 : Int)) none)))) fun t22 => R.bind (R.bind (R.of (atI x6 (0 : Int))) fun t21 => (R.ok ([t21] : (List Int)))) fun t23 => (R.of (catL t22 t23))) fun a25 => R.bind (R.of (appL s7 a25)) fun v_longer_24 => (R.ok (v_longer_24))) (R.ok (s7))) fun s17 => (R.bind (R.ifm (R.ok (decide ((x3 - v_climbs_8) < (v_levels.length : Int)))) (R.bind (R.bind (R.bind (R.bind (R.of (atI x6 (0 : Int))) fun t32 => (R.ok (t32 - (1 : Int)))) fun t33 => (R.ok ([t33] : (List Int)))) fun t34 => (R.of (catL t34 (cutL x6 (some (1 : Int)) none)))) fun a36 => R.bind (R.of (appL s17 a36)) fun v_longer_35 => (R.ok (v_longer_35))) (R.ok (s17))) fun s31 => (R.ok (s31)))))
def m__law_has_order_b2 (v_levels : (List Int)) (x3 : Int) (x41 : (List Int)) (s42 : (List (List Int))) : R ((List (List Int))) :=
  (R.lt ((x41.length : Int) - (1 : Int)) fun v_climbs_43 => (R.bind (R.ifm (R.ok (decide (v_climbs_43 < (v_levels.length : Int)))) (R.bind (R.bind (R.bind (R.bind (R.bind (R.of (atI x41 (0 : Int))) fun t53 => (R.ok (t53 + (1 : Int)))) fun t54 => (R.ok ([t54] : (List Int)))) fun t55 => (R.of (catL t55 (cutL x41 (some (1 : Int)) none)))) fun t57 => R.bind (R.bind (R.of (atI x41 (0 : Int))) fun t56 => (R.ok ([t56] : (List Int)))) fun t58 => (R.of (catL t57 t58))) fun a60 => R.bind (R.of (appL s42 a60)) fun v_longer_59 => (R.ok (v_longer_59))) (R.ok (s42))) fun s52 => (R.bind (R.ifm (R.ok (decide ((x3 - v_climbs_43) < (v_levels.length : Int)))) (R.bind (R.bind (R.bind (R.bind (R.of (atI x41 (0 : Int))) fun t67 => (R.ok (t67 - (1 : Int)))) fun t68 => (R.ok ([t68] : (List Int)))) fun t69 => (R.of (catL t69 (cutL x41 (some (1 : Int)) none)))) fun a71 => R.bind (R.of (appL s52 a71)) fun v_longer_70 => (R.ok (v_longer_70))) (R.ok (s52))) fun s66 => (R.ok (s66)))))
def m__law_has_order_b3 (v_levels : (List Int)) (x3 : Int) (s4 : (List (List Int))) : R ((List (List Int))) :=
  (R.lt ([] : (List (List Int))) fun v_longer_40 => (R.bind (R.ok s4) fun l74 => R.bind (foldR (m__law_has_order_b2 v_levels x3) l74 (v_longer_40)) fun s42 => (R.lt s42 fun v_walks_73 => (R.ok (v_walks_73)))))
def m__law_has_order (v_levels : (List Int)) : R Bool :=
  (R.lt ([([(0 : Int)] : (List Int))] : (List (List Int))) fun v_walks_1 => (R.bind (R.bind (R.of (mulO (2 : Int) (v_levels.length : Int))) fun t2 => (R.of (rngO 0 t2))) fun l76 => R.bind (foldR (m__law_has_order_b3 v_levels) l76 (v_walks_1)) fun s4 => (R.ok (((s4.map fun x75 : (List Int) => (sortI (cutL x75 (some (1 : Int)) none))).map enc).any fun z => eqP z (enc v_levels)))))
def m__law_asked (v_levels : (List Int)) : R Bool :=
  (R.bind (m__law_due v_levels) fun v_due_1 => (R.ifm (R.ite (decide ((v_levels.length : Int) < (5 : Int))) (R.bind (m__law_has_order v_levels) fun t2 => (R.ok (!decide (t2 = v_due_1)))) (R.ok false)) (R.ok false) (R.lt v_levels fun v_handed_3 => (R.bind (m_is_row v_handed_3) fun v_told_4 => (R.ifm (R.ok ((!true) || ((!decide (v_told_4 = v_due_1)) || (!eqP (enc v_handed_3) (enc v_levels))))) (R.ok false) (R.bind (R.ifm (R.ok (decide ((v_handed_3.length : Int) = (0 : Int)))) (R.bind (R.ok (1 : Int)) fun a13 => R.bind (R.of (appL v_handed_3 a13)) fun v_handed_12 => (R.ok (v_handed_12))) (R.bind (R.bind (R.of (atI v_handed_3 ((v_handed_3.length : Int) - (1 : Int)))) fun t14 => (R.ok (t14 + (2 : Int)))) fun a16 => R.bind (R.ok ((v_handed_3.length : Int) - (1 : Int))) fun j17 => R.bind (R.of (setL v_handed_3 j17 a16)) fun v_handed_15 => (R.ok (v_handed_15)))) fun s11 => (R.bind (m_is_row s11) fun v_told_18 => (R.ifm (R.ite (!true) (R.ok true) (R.bind (m__law_due s11) fun t19 => (R.ok (!decide (v_told_18 = t19))))) (R.ok false) (R.bind (m_is_row v_levels) fun v_told_20 => (R.ok (true && (decide (v_told_20 = v_due_1)))))))))))))
def m__law_sizes_b1 (v_row : (List Int)) (x2 : Int) (s3 : (List Int)) : R ((List Int)) :=
  (R.bind (R.ifm (R.ite (decide (x2 = (0 : Int))) (R.ok true) (R.bind (R.of (atI v_row x2)) fun t4 => R.bind (R.of (atI v_row (x2 - (1 : Int)))) fun t5 => (R.ok (!decide (t4 = t5))))) (R.bind (R.bind (R.bind (R.ok v_row) fun l15 => compR (fun x13 : Int => (R.bind (R.of (atI v_row x2)) fun t14 => (R.ok (decide (x13 = t14))))) (fun x13 : Int => (R.ok x13)) l15) fun t16 => (R.ok (t16.length : Int))) fun a18 => R.bind (R.of (appL s3 a18)) fun v_out_17 => (R.ok (v_out_17))) (R.ok (s3))) fun s12 => (R.ok (s12)))
def m__law_sizes (v_row : (List Int)) : R (List Int) :=
  (R.lt ([] : (List Int)) fun v_out_1 => (R.bind (R.of (rngO 0 (v_row.length : Int))) fun l19 => R.bind (foldR (m__law_sizes_b1 v_row) l19 (v_out_1)) fun s3 => (R.ok s3)))
def m_Span_width (v_self : O_Span) : R Int :=
  (R.ok (v_self.most - v_self.least))
def m__law_ends (v_row : (List Int)) : R Bool :=
  (R.lt (0 : Int) fun v_lowest_1 => (R.lt (0 : Int) fun v_highest_2 => (R.bind (R.ifm (R.ok (decide ((0 : Int) < (v_row.length : Int)))) (R.bind (R.bind (R.of (atI v_row ((v_row.length : Int) - (1 : Int)))) fun t8 => (R.ok (t8 + (1 : Int)))) fun v_lowest_9 => (R.bind (R.bind (R.of (atI v_row (0 : Int))) fun t10 => (R.ok ((v_row.length : Int) + t10))) fun v_highest_11 => (R.ok (v_lowest_9, v_highest_11)))) (R.ok (v_lowest_1, v_highest_2))) fun s7 => (R.lt v_row fun v_handed_12 => (R.bind (m_blocks v_handed_12) fun v_sizes_13 => (R.ifm (R.bind (R.bind (m__law_is_ints v_sizes_13) fun t14 => R.ok (!t14)) fun t17 => (R.ite t17 (R.ok true) (R.bind (R.bind (m__law_sizes v_row) fun t15 => (R.ok (!eqP (enc v_sizes_13) (enc t15)))) fun t16 => (R.ite t16 (R.ok true) (R.ok (!eqP (enc v_handed_12) (enc v_row))))))) (R.ok false) (R.bind (R.ok (1 : Int)) fun a32 => R.bind (R.of (appL v_sizes_13 a32)) fun v_sizes_18 => (R.bind (m_blocks v_handed_12) fun v_sizes_19 => (R.ifm (R.bind (R.bind (m__law_is_ints v_sizes_19) fun t20 => R.ok (!t20)) fun t22 => (R.ite t22 (R.ok true) (R.bind (m__law_sizes v_row) fun t21 => (R.ok (!eqP (enc v_sizes_19) (enc t21)))))) (R.ok false) (R.bind (m_span_of_row v_handed_12) fun v_span_23 => (R.ifm (R.ite (!true) (R.ok true) (R.bind (R.bind (m__law_is_int v_span_23.least) fun t24 => R.ok (!t24)) fun t26 => (R.ite t26 (R.ok true) (R.bind (m__law_is_int v_span_23.most) fun t25 => R.ok (!t25))))) (R.ok false) (R.ifm (R.bind (R.bind (R.bind (m_Span_width v_span_23) fun t27 => (m__law_is_int t27)) fun t28 => R.ok (!t28)) fun t31 => (R.ite t31 (R.ok true) (R.bind (R.bind (m_Span_width v_span_23) fun t29 => (R.ok (!decide (t29 = (s7.2 - s7.1))))) fun t30 => (R.ite t30 (R.ok true) (R.ok (!eqP (enc v_handed_12) (enc v_row))))))) (R.ok false) (R.ok ((decide (v_span_23.least = s7.1)) && (decide (v_span_23.most = s7.2))))))))))))))))
def m_law (v_script : Scr) : R Bool :=
  (R.bind (R.bind (m__law_cell v_script (0 : Int)) fun t1 => (m__law_draws t1 ([(8 : Int), (5 : Int), (21 : Int), (41 : Int), (3 : Int), (12 : Int), (41 : Int), (3 : Int)] : (List Int)))) fun v_shape_2 => (R.bind (R.of (atI v_shape_2 (2 : Int))) fun v_count_3 => (R.bind (R.ifm (R.bind (R.of (atI v_shape_2 (0 : Int))) fun t4 => (R.ok (decide (t4 < (4 : Int))))) (R.bind (R.of (atI v_shape_2 (1 : Int))) fun v_count_7 => (R.ok (v_count_7))) (R.ok (v_count_3))) fun s6 => (R.bind (R.ifm (R.bind (R.of (atI v_shape_2 (0 : Int))) fun t8 => (R.ok (decide (t8 = (7 : Int))))) (R.bind (R.of (atI v_shape_2 (3 : Int))) fun v_count_11 => (R.ok (v_count_11))) (R.ok (s6))) fun s10 => (R.bind (R.bind (R.bind (R.of (atI v_shape_2 (4 : Int))) fun t13 => (R.of (mulO (2 : Int) t13))) fun t14 => (m__law_good_row v_script (1 : Int) s10 t14)) fun v_row_15 => (R.bind (R.bind (R.of (atI v_shape_2 (5 : Int))) fun t16 => R.bind (R.of (atI v_shape_2 (6 : Int))) fun t17 => R.bind (R.of (atI v_shape_2 (7 : Int))) fun t18 => (m__law_spoilt v_row_15 t16 t17 t18)) fun v_levels_19 => (R.bind (R.ifm (R.bind (R.of (atI v_shape_2 (5 : Int))) fun t20 => (R.ok (decide (t20 = (11 : Int))))) (R.bind (R.bind (R.bind (R.bind (R.of (atI v_shape_2 (6 : Int))) fun t35 => (R.ok t35)) fun t37 => (R.of (modO t37 (2 : Int)))) fun t38 => (R.of (atI ([(7 : Int), (41 : Int)] : (List Int)) t38))) fun v_size_39 => (R.bind (R.bind (R.bind (m__law_cell v_script (3 : Int)) fun t42 => R.bind (R.bind (R.of (rngO 0 s10)) fun l41 => R.ok (l41.map fun x40 : Int => v_size_39)) fun t43 => (m__law_draws t42 t43)) fun l46 => compR (fun x44 : Int => (R.ok true)) (fun x44 : Int => (R.bind (R.of (divO v_size_39 (2 : Int))) fun t45 => (R.ok (x44 - t45)))) l46) fun v_levels_47 => (R.ok (v_levels_47)))) (R.ok (v_levels_19))) fun s34 => (R.bind (R.bind (m__law_cell v_script (4 : Int)) fun t48 => (m__law_draws t48 ([(s10 + (1 : Int)), (41 : Int), (41 : Int)] : (List Int)))) fun v_cuts_49 => (R.bind (R.bind (R.bind (R.of (atI v_cuts_49 (1 : Int))) fun t50 => (R.ok t50)) fun t55 => R.bind (R.bind (R.bind (R.of (atI v_cuts_49 (0 : Int))) fun t51 => (R.ok (s10 - t51))) fun t52 => (R.ok (t52 + (1 : Int)))) fun t56 => (R.of (modO t55 t56))) fun v_high_57 => (R.bind (R.bind (R.bind (R.of (atI v_cuts_49 (0 : Int))) fun t58 => (R.ok (cutL v_row_15 (some t58) (some (s10 - v_high_57))))) fun l61 => compR (fun x59 : Int => (R.ok true)) (fun x59 : Int => (R.bind (R.of (atI v_cuts_49 (2 : Int))) fun t60 => (R.ok ((x59 + v_high_57) + t60)))) l61) fun v_moved_62 => (R.bind (m__law_asked s34) fun t65 => (R.ite t65 (R.bind (m__law_asked v_moved_62) fun t64 => (R.ite t64 (R.bind (m__law_ends v_row_15) fun t63 => (R.ite t63 (m__law_ends v_moved_62) (R.ok false))) (R.ok false))) (R.ok false)))))))))))))
section
variable {P : Program} {w : World} {K : PySem.W.Frag} {mg : Str → Option Value} {base : Heap} {T : CT}
theorem ok_is_row {f : Addr} {fd : FuncData} (F : Fun K "is_row" "is_row" s_is_row f fd) (hT : T.K = K) (z_all : mg "all" = none) (z_zip : mg "zip" = none) :
    FnOk P w K mg base CX0 1 f fd ["levels"] (Pm T (.val .fr) (fun b : (List Int) × Unit => m_is_row b.1)) := by
  subst hT
  refine fn_pm F sc_is_row (fun _ => rfl) fun cdv A outer s H E hr => ⟨_, (pss_cons (ps_if (pt_not (k_tru T.K rfl (pv 0) (by intro _; rfl))) (pss_cons (ps_ret pe_bl) pss_nil) pss_nil) (pss_cons (ps_setLc (i := 1) (own := [("lower", 2), ("upper", 3)]) (g := (gTup T.K 2 (gCons (gName 2) (gCons (gName 3) gNil)))) rfl sc_is_row.nd rfl rfl (sw_true rfl rfl rfl (by decide +kernel)) (k_zip T.K rfl (by rfl) z_zip (pa_cons (pv 0) (pa_cons (pe_slice (k_sll T.K rfl) (pv 0) (po_some pe_int) po_none) pa_nil))) (blkOk_by (N := N_is_row) (sc := defScope s_is_row) (by decide +kernel)) (fun _ _ _ _ _ => (k_gtup T.K rfl rfl (pgs_cons (pg_name (i := 2) sc_is_row.nd rfl (Or.inl rfl)) (pgs_cons (pg_name (i := 3) sc_is_row.nd rfl (Or.inl rfl)) pgs_nil)))) (fun _ _ _ _ _ => pts_nil) (fun _ _ _ _ _ => (pe_op op_sub (pv 3) (pv 2)))) (pss_cons (ps_ret (pe_and (pe_callB (k_all T.K rfl rfl) (by rfl) z_all (by decide +kernel) (pa_cons (pe_lc (own := [("step", 4)]) (g := (gName 4)) rfl sc_is_row.nd (k_pil T.K rfl (pv 1)) (blkOk_by (N := N_is_row) (sc := defScope s_is_row) (by decide +kernel)) (fun _ _ _ _ _ => (pg_name (i := 4) sc_is_row.nd rfl (Or.inl rfl))) (fun _ _ _ _ _ => pts_nil) (fun _ _ _ _ _ => (pe_cmpR (k_inS T.K rfl) (pv 4) (pe_tup (pa_cons pe_int (pa_cons pe_int pa_nil))) rfl))) pa_nil)) (pe_and (pe_cmpR op_le (pe_ix (k_ixl T.K rfl) (pv 0) pe_int (fun _ _ => rfl)) pe_int rfl) (pe_one (pe_cmpR op_ge (pe_ix (k_ixl T.K rfl) (pv 0) (pe_un un_neg pe_int) (fun _ _ => rfl)) (pe_un un_neg pe_int) rfl))))) pss_nil))), ?_⟩
  rintro ⟨v_levels, _⟩
  show BD _ _ _ (m_is_row v_levels) _
  unfold m_is_row
  refine bd_if (EvT.cast (evt_not (evt_tru (evm_var rfl))) (by first | rfl | (simp only [R.bind_assoc, R.bind_ok, R.bind_right, R.of_some, compR_map, compR_filter, R.ifm_ok, R.ite_and, R.ite_or]; done) | (simp only [R.bind_assoc, R.bind_ok, R.bind_right, R.of_some, compR_map, compR_filter, R.ifm_ok, R.ite_ok, R.ite_and, R.ite_or]; done))) ?_ ?_
  · refine bd_assoc ?_
    exact bd_ret1 rfl (Evm.cast evm_bl (by first | rfl | (simp only [R.bind_assoc, R.bind_ok, R.bind_right, R.of_some, compR_map, compR_filter, R.ifm_ok, R.ite_and, R.ite_or]; done) | (simp only [R.bind_assoc, R.bind_ok, R.bind_right, R.of_some, compR_map, compR_filter, R.ifm_ok, R.ite_ok, R.ite_and, R.ite_or]; done))) (fun _ => rfl)
  · refine bd_nil ?_
    refine bd_setNP (EvN.cast (evn_lc (l := .fr) (l1 := .pa) (l3 := .pa) rfl trivial trivial (.inl rfl) (evi_zip (evm_var rfl) (evm_pa (evn_ev (evn_flat (l2 := .fr) (evn_sl (evm_var rfl) (evo_some evm_int) evo_none))))) (hvc rfl rfl (hv1 rfl rfl)) (tg_two trivial) (fun x1 => evt_yes) (fun x1 => (evm_opT (evm_var rfl) (evm_var rfl) fun _ _ => rv_II))) (by first | rfl | (simp only [R.bind_assoc, R.bind_ok, R.bind_right, R.of_some, compR_map, compR_filter, R.ifm_ok, R.ite_and, R.ite_or]; done) | (simp only [R.bind_assoc, R.bind_ok, R.bind_right, R.of_some, compR_map, compR_filter, R.ifm_ok, R.ite_ok, R.ite_and, R.ite_or]; done))) trivial (lt_of rfl) ?_
    intro v_steps_2
    exact bd_ret1 rfl (Evm.cast (evm_and (evm_cbT (eva_cons (evm_raw (evn_ev (evn_lc (l := .fr) (l1 := .raw) (l3 := .fr) rfl trivial trivial (.inr fun _ _ _ _ _ _ h => h.flat) (evi_list (evm_own rfl)) (hv1 rfl rfl) (tg_name trivial) (fun x3 => evt_yes) (fun x3 => (evm_opT (evm_var rfl) (evm_tup (eva_cons evm_int (eva_cons evm_int eva_nil)) (fun _ => by show (2 : Nat) ≤ 1000; decide)) fun _ _ => rv_inT))))) eva_nil) fun _ => ra_all) (evm_and (evm_opT (evm_flat (l2 := .fr) (evm_ix (evm_var rfl) evm_int)) evm_int fun _ _ => rv_IB) (evm_opT (evm_flat (l2 := .fr) (evm_ix (evm_var rfl) (evm_un evm_int fun _ _ => ru_neg))) (evm_un evm_int fun _ _ => ru_neg) fun _ _ => rv_IB))) (by first | rfl | (simp only [R.bind_assoc, R.bind_ok, R.bind_right, R.of_some, compR_map, compR_filter, R.ifm_ok, R.ite_and, R.ite_or]; done) | (simp only [R.bind_assoc, R.bind_ok, R.bind_right, R.of_some, compR_map, compR_filter, R.ifm_ok, R.ite_ok, R.ite_and, R.ite_or]; done))) (fun _ => rfl)
theorem ok_blocks {f : Addr} {fd : FuncData} (F : Fun K "blocks" "blocks" s_blocks f fd) (hT : T.K = K) (z_set : mg "set" = none) (z_sorted : mg "sorted" = none) :
    FnOk P w K mg base CX0 1 f fd ["row"] (Pm T (.nw .fr) (fun b : (List Int) × Unit => m_blocks b.1)) := by
  subst hT
  refine fn_pm F sc_blocks (fun _ => rfl) fun cdv A outer s H E hr => ⟨_, (pss_cons (ps_ret (pe_lc (own := [("entry", 1)]) (g := (gName 1)) rfl sc_blocks.nd (k_pil T.K rfl (pe_callB (cr_sortedSet rfl) (by rfl) z_sorted (by decide +kernel) (pa_cons (pe_callTy (k_setI T.K rfl rfl) (by rfl) z_set (by decide +kernel) (pa_cons (pv 0) pa_nil)) pa_nil))) (blkOk_by (N := N_blocks) (sc := defScope s_blocks) (by decide +kernel)) (fun _ _ _ _ _ => (pg_name (i := 1) sc_blocks.nd rfl (Or.inl rfl))) (fun _ _ _ _ _ => pts_nil) (fun _ _ _ _ _ => (k_bm T.K rfl (pe_bm PySem.F.plainAttrs_list PySem.F.slot_list_count PySem.F.type_list_count (k_cnt T.K rfl) (pv 0) (pa_cons (pv 1) pa_nil)))))) pss_nil), ?_⟩
  rintro ⟨v_row, _⟩
  show BD _ _ _ (m_blocks v_row) _
  unfold m_blocks
  exact bd_retN1 rfl (EvN.cast (evn_lc (l := .fr) (l1 := .fr) (l3 := .fr) rfl trivial trivial (.inl rfl) (evi_list (evn_ev (evn_sortSet (evm_var rfl)))) (hv1 rfl rfl) (tg_name trivial) (fun x1 => evt_yes) (fun x1 => (evm_cnt (evm_var rfl) (evm_var rfl)))) (by first | rfl | (simp only [R.bind_assoc, R.bind_ok, R.bind_right, R.of_some, compR_map, compR_filter, R.ifm_ok, R.ite_and, R.ite_or]; done) | (simp only [R.bind_assoc, R.bind_ok, R.bind_right, R.of_some, compR_map, compR_filter, R.ifm_ok, R.ite_ok, R.ite_and, R.ite_or]; done))) (fun _ => rfl)
theorem ok_span_of_row {f : Addr} {fd : FuncData} (F : Fun K "span_of_row" "span_of_row" s_span_of_row f fd) (hT : T.K = K) (y_Span : KdC P w K mg base T 0 "Span" ["least", "most"] ["self", "least", "most"] 1) (z_len : mg "len" = none) :
    FnOk P w K mg base CX0 3 f fd ["row"] (Pm T (.val .fr) (fun b : (List Int) × Unit => m_span_of_row b.1)) := by
  subst hT
  refine fn_pm F sc_span_of_row (fun _ => rfl) fun cdv A outer s H E hr => ⟨_, (pss_cons (ps_if (pt_not (k_tru T.K rfl (pv 0) (by intro _; rfl))) (pss_cons (ps_ret (pe_kmake y_Span (hr.mono (by decide)) (by rfl) (pa_cons pe_int (pa_cons pe_int pa_nil)))) pss_nil) pss_nil) (pss_cons (ps_ret (pe_kmake y_Span (hr.mono (by decide)) (by rfl) (pa_cons (pe_op op_add (pe_ix (k_ixl T.K rfl) (pv 0) (pe_un un_neg pe_int) (fun _ _ => rfl)) pe_int) (pa_cons (pe_op op_add (pe_callB (k_len T.K rfl) (by rfl) z_len PySem.boot_len (pa_cons (pv 0) pa_nil)) (pe_ix (k_ixl T.K rfl) (pv 0) pe_int (fun _ _ => rfl))) pa_nil)))) pss_nil)), ?_⟩
  rintro ⟨v_row, _⟩
  show BD _ _ _ (m_span_of_row v_row) _
  unfold m_span_of_row
  refine bd_if (EvT.cast (evt_not (evt_tru (evm_var rfl))) (by first | rfl | (simp only [R.bind_assoc, R.bind_ok, R.bind_right, R.of_some, compR_map, compR_filter, R.ifm_ok, R.ite_and, R.ite_or]; done) | (simp only [R.bind_assoc, R.bind_ok, R.bind_right, R.of_some, compR_map, compR_filter, R.ifm_ok, R.ite_ok, R.ite_and, R.ite_or]; done))) ?_ ?_
  · refine bd_assoc ?_
    exact bd_ret1 rfl (Evm.cast (evm_make (c := 0) (f := fun b : Int × Int × Unit => O_Span.mk b.1 b.2.1) (eva_cons evm_int (eva_cons evm_int eva_nil)) (fun _ => rfl) (fun _ => by rw [y_Span.fl]; rfl)) (by first | rfl | (simp only [R.bind_assoc, R.bind_ok, R.bind_right, R.of_some, compR_map, compR_filter, R.ifm_ok, R.ite_and, R.ite_or]; done) | (simp only [R.bind_assoc, R.bind_ok, R.bind_right, R.of_some, compR_map, compR_filter, R.ifm_ok, R.ite_ok, R.ite_and, R.ite_or]; done))) (fun _ => rfl)
  · refine bd_nil ?_
    exact bd_ret1 rfl (Evm.cast (evm_make (c := 0) (f := fun b : Int × Int × Unit => O_Span.mk b.1 b.2.1) (eva_cons (evm_opT (evm_flat (l2 := .fr) (evm_ix (evm_var rfl) (evm_un evm_int fun _ _ => ru_neg))) evm_int fun _ _ => rv_II) (eva_cons (evm_opT (evm_cbT (eva_cons (evm_raw (evm_var rfl)) eva_nil) fun _ => ra_len) (evm_flat (l2 := .fr) (evm_ix (evm_var rfl) evm_int)) fun _ _ => rv_II) eva_nil)) (fun _ => rfl) (fun _ => by rw [y_Span.fl]; rfl)) (by first | rfl | (simp only [R.bind_assoc, R.bind_ok, R.bind_right, R.of_some, compR_map, compR_filter, R.ifm_ok, R.ite_and, R.ite_or]; done) | (simp only [R.bind_assoc, R.bind_ok, R.bind_right, R.of_some, compR_map, compR_filter, R.ifm_ok, R.ite_ok, R.ite_and, R.ite_or]; done))) (fun _ => rfl)
theorem ok__law_cell {f : Addr} {fd : FuncData} (F : Fun K "_law_cell" "_law_cell" s__law_cell f fd) (hT : T.K = K) (z_int : mg "int" = none) (z_len : mg "len" = none) :
    FnOk P w K mg base CX0 1 f fd ["_law_script", "_law_k"] (Pm T (.val .fr) (fun b : Scr × Int × Unit => m__law_cell b.1 b.2.1)) := by
  subst hT
  refine fn_pm F sc__law_cell (fun _ => rfl) fun cdv A outer s H E hr => ⟨_, (pss_cons (ps_if (pt_cmpR op_lt (pv 1) (pe_callB (k_len T.K rfl) (by rfl) z_len PySem.boot_len (pa_cons (pv 0) pa_nil)) rfl) (pss_cons (ps_ret (pe_callTy call_int1 (by rfl) z_int PyProof.Rows.boot_int (pa_cons (pe_ix (k_ixl T.K rfl) (pv 0) (pv 1) (fun _ _ => rfl)) pa_nil))) pss_nil) pss_nil) (pss_cons (ps_if (pt_cmpR op_gt (pe_callB (k_len T.K rfl) (by rfl) z_len PySem.boot_len (pa_cons (pv 0) pa_nil)) pe_int rfl) (pss_cons (ps_ret (pe_op op_add (pe_callTy call_int1 (by rfl) z_int PyProof.Rows.boot_int (pa_cons (pe_ix (k_ixl T.K rfl) (pv 0) pe_int (fun _ _ => rfl)) pa_nil)) (pe_op op_mul pe_int (pe_op op_add (pv 1) pe_int)))) pss_nil) pss_nil) (pss_cons (ps_ret (pe_op op_mul pe_int (pe_op op_add (pv 1) pe_int))) pss_nil))), ?_⟩
  rintro ⟨v_script, v_k, _⟩
  show BD _ _ _ (m__law_cell v_script v_k) _
  unfold m__law_cell
  refine bd_if (EvT.cast (evt_test (evm_opT (evm_var rfl) (evm_cbT (eva_cons (evm_raw (evm_var rfl)) eva_nil) fun _ => ra_lenS) fun _ _ => rv_IB)) (by first | rfl | (simp only [R.bind_assoc, R.bind_ok, R.bind_right, R.of_some, compR_map, compR_filter, R.ifm_ok, R.ite_and, R.ite_or]; done) | (simp only [R.bind_assoc, R.bind_ok, R.bind_right, R.of_some, compR_map, compR_filter, R.ifm_ok, R.ite_ok, R.ite_and, R.ite_or]; done))) ?_ ?_
  · refine bd_assoc ?_
    exact bd_ret1 rfl (Evm.cast (evm_cbT (eva_cons (evm_flat (l2 := .raw) (evm_ixs (evm_var rfl) (evm_var rfl))) eva_nil) fun _ => ra_int) (by first | rfl | (simp only [R.bind_assoc, R.bind_ok, R.bind_right, R.of_some, compR_map, compR_filter, R.ifm_ok, R.ite_and, R.ite_or]; done) | (simp only [R.bind_assoc, R.bind_ok, R.bind_right, R.of_some, compR_map, compR_filter, R.ifm_ok, R.ite_ok, R.ite_and, R.ite_or]; done))) (fun _ => rfl)
  · refine bd_nil ?_
    refine bd_if (EvT.cast (evt_test (evm_opT (evm_cbT (eva_cons (evm_raw (evm_var rfl)) eva_nil) fun _ => ra_lenS) evm_int fun _ _ => rv_IB)) (by first | rfl | (simp only [R.bind_assoc, R.bind_ok, R.bind_right, R.of_some, compR_map, compR_filter, R.ifm_ok, R.ite_and, R.ite_or]; done) | (simp only [R.bind_assoc, R.bind_ok, R.bind_right, R.of_some, compR_map, compR_filter, R.ifm_ok, R.ite_ok, R.ite_and, R.ite_or]; done))) ?_ ?_
    · refine bd_assoc ?_
      exact bd_ret1 rfl (Evm.cast (evm_opT (evm_cbT (eva_cons (evm_flat (l2 := .raw) (evm_ixs (evm_var rfl) evm_int)) eva_nil) fun _ => ra_int) (evm_op evm_int (evm_opT (evm_var rfl) evm_int fun _ _ => rv_II) fun _ _ _ _ => rv_mul) fun _ _ => rv_II) (by first | rfl | (simp only [R.bind_assoc, R.bind_ok, R.bind_right, R.of_some, compR_map, compR_filter, R.ifm_ok, R.ite_and, R.ite_or]; done) | (simp only [R.bind_assoc, R.bind_ok, R.bind_right, R.of_some, compR_map, compR_filter, R.ifm_ok, R.ite_ok, R.ite_and, R.ite_or]; done))) (fun _ => rfl)
    · refine bd_nil ?_
      exact bd_ret1 rfl (Evm.cast (evm_op evm_int (evm_opT (evm_var rfl) evm_int fun _ _ => rv_II) fun _ _ _ _ => rv_mul) (by first | rfl | (simp only [R.bind_assoc, R.bind_ok, R.bind_right, R.of_some, compR_map, compR_filter, R.ifm_ok, R.ite_and, R.ite_or]; done) | (simp only [R.bind_assoc, R.bind_ok, R.bind_right, R.of_some, compR_map, compR_filter, R.ifm_ok, R.ite_ok, R.ite_and, R.ite_or]; done))) (fun _ => rfl)
theorem ok__law_draws {f : Addr} {fd : FuncData} (F : Fun K "_law_draws" "_law_draws" s__law_draws f fd) (hT : T.K = K) (z_abs : mg "abs" = none) (z_int : mg "int" = none) (z_len : mg "len" = none) (z_range : mg "range" = none) :
    FnOk P w K mg base CX0 1 f fd ["_law_cell_here", "_law_sizes_here"] (Pm T (.nw .fr) (fun b : Int × (List Int) × Unit => m__law_draws b.1 b.2.1)) := by
  subst hT
  refine fn_pm F sc__law_draws (fun _ => rfl) fun cdv A outer s H E hr => ⟨_, (pss_cons (ps_set (i := 2) sc__law_draws.nd rfl (Or.inl rfl) (pe_callB call_abs (by rfl) z_abs PyProof.Rows.boot_abs (pa_cons (pe_callTy call_int1 (by rfl) z_int PyProof.Rows.boot_int (pa_cons (pv 0) pa_nil)) pa_nil))) (pss_cons (ps_set (i := 3) sc__law_draws.nd rfl (Or.inl rfl) (pe_cmpR op_ge (pv 2) (pe_op op_pow pe_int pe_int) rfl)) (pss_cons (ps_set (i := 4) sc__law_draws.nd rfl (Or.inl rfl) (pv 2)) (pss_cons (ps_set (i := 5) sc__law_draws.nd rfl (Or.inl rfl) (pe_lst pa_nil)) (pss_cons (ps_for PassesOwn.never rfl (pi_range1 (by rfl) z_range (pa_cons (pe_callB (k_len T.K rfl) (by rfl) z_len PySem.boot_len (pa_cons (pv 1) pa_nil)) pa_nil)) (pg_name (i := 6) sc__law_draws.nd rfl (Or.inl rfl)) (pss_cons (ps_if (pw_and (pt_val (pv 3)) (pw_and1 (pt_cmpR op_gt (pv 2) pe_int rfl))).pt (pss_cons (ps_expr (pe_bm PySem.F.plainAttrs_list PySem.F.slot_list_append PySem.F.type_list_append mt_append (pv 5) (pa_cons (pe_op op_mod (pe_callTy call_int1 (by rfl) z_int PyProof.Rows.boot_int (pa_cons (pv 2) pa_nil)) (pe_ix (k_ixl T.K rfl) (pv 1) (pv 6) (fun _ _ => rfl))) pa_nil))) (pss_cons (ps_set (i := 2) sc__law_draws.nd rfl (Or.inl rfl) (pe_op op_fdivW (pv 2) (pe_ix (k_ixl T.K rfl) (pv 1) (pv 6) (fun _ _ => rfl)))) pss_nil)) (pss_cons (ps_set (i := 7) sc__law_draws.nd rfl (Or.inl rfl) (pe_op op_mod (pe_callTy call_int1 (by rfl) z_int PyProof.Rows.boot_int (pa_cons (pe_op op_add (pe_op op_add (pv 4) (pe_op op_mul pe_int (pv 6))) pe_int) pa_nil)) pe_int)) (pss_cons (ps_set (i := 7) sc__law_draws.nd rfl (Or.inl rfl) (pe_op op_mod (pe_callTy call_int1 (by rfl) z_int PyProof.Rows.boot_int (pa_cons (pe_op op_mul (pv 7) (pe_op op_add (pv 7) pe_int)) pa_nil)) pe_int)) (pss_cons (ps_set (i := 7) sc__law_draws.nd rfl (Or.inl rfl) (pe_op op_mod (pe_callTy call_int1 (by rfl) z_int PyProof.Rows.boot_int (pa_cons (pe_op op_add (pe_op op_mul (pv 7) (pe_op op_add (pv 7) pe_int)) (pe_op op_mul pe_int (pv 6))) pa_nil)) pe_int)) (pss_cons (ps_expr (pe_bm PySem.F.plainAttrs_list PySem.F.slot_list_append PySem.F.type_list_append mt_append (pv 5) (pa_cons (pe_op op_mod (pe_callTy call_int1 (by rfl) z_int PyProof.Rows.boot_int (pa_cons (pe_op op_fdivW (pv 7) pe_int) pa_nil)) (pe_ix (k_ixl T.K rfl) (pv 1) (pv 6) (fun _ _ => rfl))) pa_nil))) pss_nil))))) pss_nil)) (pss_cons (ps_ret (pv 5)) pss_nil)))))), ?_⟩
  rintro ⟨v_cell, v_sizes, _⟩
  show BD _ _ _ (m__law_draws v_cell v_sizes) _
  unfold m__law_draws
  refine bd_setP (Evm.cast (evm_cbT (eva_cons (evm_flat (l2 := .raw) (evm_cbT (eva_cons (evm_flat (l2 := .raw) (evm_var rfl)) eva_nil) fun _ => ra_int)) eva_nil) fun _ => ra_abs) (by first | rfl | (simp only [R.bind_assoc, R.bind_ok, R.bind_right, R.of_some, compR_map, compR_filter, R.ifm_ok, R.ite_and, R.ite_or]; done) | (simp only [R.bind_assoc, R.bind_ok, R.bind_right, R.of_some, compR_map, compR_filter, R.ifm_ok, R.ite_ok, R.ite_and, R.ite_or]; done))) trivial (lt_of rfl) ?_
  intro v_digits_1
  refine bd_set (Evm.cast (evm_opT (evm_var rfl) (evm_op evm_int evm_int fun _ _ _ _ => rv_pow) fun _ _ => rv_IB) (by first | rfl | (simp only [R.bind_assoc, R.bind_ok, R.bind_right, R.of_some, compR_map, compR_filter, R.ifm_ok, R.ite_and, R.ite_or]; done) | (simp only [R.bind_assoc, R.bind_ok, R.bind_right, R.of_some, compR_map, compR_filter, R.ifm_ok, R.ite_ok, R.ite_and, R.ite_or]; done))) trivial (lt_of rfl) ?_
  intro v_great_3
  refine bd_setP (Evm.cast (evm_var rfl) (by first | rfl | (simp only [R.bind_assoc, R.bind_ok, R.bind_right, R.of_some, compR_map, compR_filter, R.ifm_ok, R.ite_and, R.ite_or]; done) | (simp only [R.bind_assoc, R.bind_ok, R.bind_right, R.of_some, compR_map, compR_filter, R.ifm_ok, R.ite_ok, R.ite_and, R.ite_or]; done))) trivial (lt_of rfl) ?_
  intro v_first_4
  refine bd_setNP (EvN.cast (evn_lst (l := .fr) (f := fun b : Unit => ([] : (List Int))) eva_nil (fun _ => rfl) (fun _ => by show (0 : Nat) ≤ 1000; decide)) (by first | rfl | (simp only [R.bind_assoc, R.bind_ok, R.bind_right, R.of_some, compR_map, compR_filter, R.ifm_ok, R.ite_and, R.ite_or]; done) | (simp only [R.bind_assoc, R.bind_ok, R.bind_right, R.of_some, compR_map, compR_filter, R.ifm_ok, R.ite_ok, R.ite_and, R.ite_or]; done))) trivial (lt_of rfl) ?_
  intro v_out_5
  refine bd_fold (l1 := .fr) (es := (fun s7 : (List Int) × Int => [.sh .pa (enc (v_cell : Int)), .sh .pa (enc (v_sizes : (List Int))), .sh .fr (enc (s7.2 : Int)), .sh .fr (enc (v_great_3 : Bool)), .sh .fr (enc (v_first_4 : Int)), .ow .fr ((s7.1 : (List Int)).map enc), .un, .un])) (EvI.cast (evi_rng1 (evm_cbT (eva_cons (evm_raw (evm_var rfl)) eva_nil) fun _ => ra_len)) (by first | rfl | (simp only [R.bind_assoc, R.bind_ok, R.bind_right, R.of_some, compR_map, compR_filter, R.ifm_ok, R.ite_and, R.ite_or]; done) | (simp only [R.bind_assoc, R.bind_ok, R.bind_right, R.of_some, compR_map, compR_filter, R.ifm_ok, R.ite_ok, R.ite_and, R.ite_or]; done))) trivial (Wk.keep (Wk.keep (Wk.keep (Wk.keep (Wk.keep (Wk.keep (Wk.keep (Wk.keep Wk.nil)))))))) (tg_name trivial) (hu1 fun _ => rfl) ?_ ?_
  · intro x6 s7
    unfold m__law_draws_b1
    refine bd_join (es := (fun s38 : (List Int) × Int => [.sh .pa (enc (v_cell : Int)), .sh .pa (enc (v_sizes : (List Int))), .sh .fr (enc (s38.2 : Int)), .sh .fr (enc (v_great_3 : Bool)), .sh .fr (enc (v_first_4 : Int)), .ow .fr ((s38.1 : (List Int)).map enc), .sh .fr (enc (x6 : Int)), .un])) (bd_tail ?_) ?_
    · refine bd_if (EvT.cast (evt_and (evt_B (evm_var rfl)) (evt_test (evm_opT (evm_var rfl) evm_int fun _ _ => rv_IB))) (by first | rfl | (simp only [R.bind_assoc, R.bind_ok, R.bind_right, R.of_some, compR_map, compR_filter, R.ifm_ok, R.ite_and, R.ite_or]; done) | (simp only [R.bind_assoc, R.bind_ok, R.bind_right, R.of_some, compR_map, compR_filter, R.ifm_ok, R.ite_ok, R.ite_and, R.ite_or]; done))) ?_ ?_
      · refine bd_assoc ?_
        refine bd_app (by rfl) (Evm.cast (evm_op (evm_cbT (eva_cons (evm_flat (l2 := .raw) (evm_var rfl)) eva_nil) fun _ => ra_int) (evm_flat (l2 := .fr) (evm_ix (evm_var rfl) (evm_var rfl))) fun _ _ _ _ => rv_mod) (by first | rfl | (simp only [R.bind_assoc, R.bind_ok, R.bind_right, R.of_some, compR_map, compR_filter, R.ifm_ok, R.ite_and, R.ite_or]; done) | (simp only [R.bind_assoc, R.bind_ok, R.bind_right, R.of_some, compR_map, compR_filter, R.ifm_ok, R.ite_ok, R.ite_and, R.ite_or]; done))) ?_
        intro v_out_41
        refine bd_assoc ?_
        refine bd_set (Evm.cast (evm_op (evm_var rfl) (evm_flat (l2 := .fr) (evm_ix (evm_var rfl) (evm_var rfl))) fun _ _ _ _ => rv_div) (by first | rfl | (simp only [R.bind_assoc, R.bind_ok, R.bind_right, R.of_some, compR_map, compR_filter, R.ifm_ok, R.ite_and, R.ite_or]; done) | (simp only [R.bind_assoc, R.bind_ok, R.bind_right, R.of_some, compR_map, compR_filter, R.ifm_ok, R.ite_ok, R.ite_and, R.ite_or]; done))) trivial (lt_of rfl) ?_
        intro v_digits_44
        refine bd_nil ?_
        exact bd_end (Wk.keep (Wk.keep (Wk.keep (Wk.keep (Wk.keep (Wk.keep (Wk.keep (Wk.keep Wk.nil)))))))) rfl
      · refine bd_assoc ?_
        refine bd_set (Evm.cast (evm_op (evm_cbT (eva_cons (evm_flat (l2 := .raw) (evm_opT (evm_opT (evm_var rfl) (evm_op evm_int (evm_var rfl) fun _ _ _ _ => rv_mul) fun _ _ => rv_II) evm_int fun _ _ => rv_II)) eva_nil) fun _ => ra_int) evm_int fun _ _ _ _ => rv_mod) (by first | rfl | (simp only [R.bind_assoc, R.bind_ok, R.bind_right, R.of_some, compR_map, compR_filter, R.ifm_ok, R.ite_and, R.ite_or]; done) | (simp only [R.bind_assoc, R.bind_ok, R.bind_right, R.of_some, compR_map, compR_filter, R.ifm_ok, R.ite_ok, R.ite_and, R.ite_or]; done))) trivial (lt_of rfl) ?_
        intro v_mixed_51
        refine bd_assoc ?_
        refine bd_set (Evm.cast (evm_op (evm_cbT (eva_cons (evm_flat (l2 := .raw) (evm_op (evm_var rfl) (evm_opT (evm_var rfl) evm_int fun _ _ => rv_II) fun _ _ _ _ => rv_mul)) eva_nil) fun _ => ra_int) evm_int fun _ _ _ _ => rv_mod) (by first | rfl | (simp only [R.bind_assoc, R.bind_ok, R.bind_right, R.of_some, compR_map, compR_filter, R.ifm_ok, R.ite_and, R.ite_or]; done) | (simp only [R.bind_assoc, R.bind_ok, R.bind_right, R.of_some, compR_map, compR_filter, R.ifm_ok, R.ite_ok, R.ite_and, R.ite_or]; done))) trivial (lt_of rfl) ?_
        intro v_mixed_55
        refine bd_assoc ?_
        refine bd_set (Evm.cast (evm_op (evm_cbT (eva_cons (evm_flat (l2 := .raw) (evm_opT (evm_op (evm_var rfl) (evm_opT (evm_var rfl) evm_int fun _ _ => rv_II) fun _ _ _ _ => rv_mul) (evm_op evm_int (evm_var rfl) fun _ _ _ _ => rv_mul) fun _ _ => rv_II)) eva_nil) fun _ => ra_int) evm_int fun _ _ _ _ => rv_mod) (by first | rfl | (simp only [R.bind_assoc, R.bind_ok, R.bind_right, R.of_some, compR_map, compR_filter, R.ifm_ok, R.ite_and, R.ite_or]; done) | (simp only [R.bind_assoc, R.bind_ok, R.bind_right, R.of_some, compR_map, compR_filter, R.ifm_ok, R.ite_ok, R.ite_and, R.ite_or]; done))) trivial (lt_of rfl) ?_
        intro v_mixed_61
        refine bd_assoc ?_
        refine bd_app (by rfl) (Evm.cast (evm_op (evm_cbT (eva_cons (evm_flat (l2 := .raw) (evm_op (evm_var rfl) evm_int fun _ _ _ _ => rv_div)) eva_nil) fun _ => ra_int) (evm_flat (l2 := .fr) (evm_ix (evm_var rfl) (evm_var rfl))) fun _ _ _ _ => rv_mod) (by first | rfl | (simp only [R.bind_assoc, R.bind_ok, R.bind_right, R.of_some, compR_map, compR_filter, R.ifm_ok, R.ite_and, R.ite_or]; done) | (simp only [R.bind_assoc, R.bind_ok, R.bind_right, R.of_some, compR_map, compR_filter, R.ifm_ok, R.ite_ok, R.ite_and, R.ite_or]; done))) ?_
        intro v_out_67
        refine bd_nil ?_
        exact bd_end (Wk.keep (Wk.keep (Wk.keep (Wk.keep (Wk.keep (Wk.keep (Wk.keep (Wk.lose Wk.nil)))))))) rfl
    intro s38
    exact bd_end (Wk.keep (Wk.keep (Wk.keep (Wk.keep (Wk.keep (Wk.keep (Wk.lose (Wk.keep Wk.nil)))))))) rfl
  intro s7
  exact bd_retO rfl (by rfl) (by rfl)
theorem ok__law_is_int {f : Addr} {fd : FuncData} (F : Fun K "_law_is_int" "_law_is_int" s__law_is_int f fd) (hT : T.K = K) (z_bool : mg "bool" = none) (z_int : mg "int" = none) (z_isinstance : mg "isinstance" = none) :
    FnOk P w K mg base CX0 1 f fd ["_law_x"] (Pm T (.val .fr) (fun b : Int × Unit => m__law_is_int b.1)) := by
  subst hT
  refine fn_pm F sc__law_is_int (fun _ => rfl) fun cdv A outer s H E hr => ⟨_, (pss_cons (ps_ret (pe_and (pe_callB (k_isi T.K rfl) (by rfl) z_isinstance (by decide +kernel) (pa_cons (pv 0) (pa_cons (pe_bltn (v := .ty "int") (by rfl) z_int PyProof.Rows.boot_int rfl) pa_nil))) (pe_one (pe_not (pe_callB (k_isi T.K rfl) (by rfl) z_isinstance (by decide +kernel) (pa_cons (pv 0) (pa_cons (pe_bltn (v := .ty "bool") (by rfl) z_bool (by decide +kernel) rfl) pa_nil))))))) pss_nil), ?_⟩
  rintro ⟨v_x, _⟩
  show BD _ _ _ (m__law_is_int v_x) _
  unfold m__law_is_int
  exact bd_ret1 rfl (Evm.cast (evm_and (evm_isi (b := true) (evm_var rfl) (by decide +kernel)) (evm_not (evm_isi (b := false) (evm_var rfl) (by decide +kernel)))) (by first | rfl | (simp only [R.bind_assoc, R.bind_ok, R.bind_right, R.of_some, compR_map, compR_filter, R.ifm_ok, R.ite_and, R.ite_or]; done) | (simp only [R.bind_assoc, R.bind_ok, R.bind_right, R.of_some, compR_map, compR_filter, R.ifm_ok, R.ite_ok, R.ite_and, R.ite_or]; done))) (fun _ => rfl)
theorem ok__law_is_ints {f : Addr} {fd : FuncData} (F : Fun K "_law_is_ints" "_law_is_ints" s__law_is_ints f fd) (hT : T.K = K) (k__law_is_int : Kd P w K mg base CX0 "_law_is_int" ["_law_x"] 1 (Pm T (.val .fr) (fun b : Int × Unit => m__law_is_int b.1))) (z_all : mg "all" = none) (z_isinstance : mg "isinstance" = none) (z_list : mg "list" = none) :
    FnOk P w K mg base CX0 2 f fd ["_law_xs"] (Pm T (.val .fr) (fun b : (List Int) × Unit => m__law_is_ints b.1)) := by
  subst hT
  refine fn_pm F sc__law_is_ints (fun _ => rfl) fun cdv A outer s H E hr => ⟨_, (pss_cons (ps_ret (pe_and (pe_callB (k_isi T.K rfl) (by rfl) z_isinstance (by decide +kernel) (pa_cons (pv 0) (pa_cons (pe_bltn (v := .ty "list") (by rfl) z_list PyProof.Rows.boot_list rfl) pa_nil))) (pe_one (pe_callB (k_all T.K rfl rfl) (by rfl) z_all (by decide +kernel) (pa_cons (pe_lc (own := [("_law_x", 1)]) (g := (gName 1)) rfl sc__law_is_ints.nd (k_pil T.K rfl (pv 0)) (blkOk_by (N := N__law_is_ints) (sc := defScope s__law_is_ints) (by decide +kernel)) (fun _ _ _ _ _ => (pg_name (i := 1) sc__law_is_ints.nd rfl (Or.inl rfl))) (fun _ _ _ _ _ => pts_nil) (fun _ _ _ _ _ => (pe_kd k__law_is_int (hr.mono (by decide)) (by rfl) (pa_cons (pv 1) pa_nil)))) pa_nil))))) pss_nil), ?_⟩
  rintro ⟨v_xs, _⟩
  show BD _ _ _ (m__law_is_ints v_xs) _
  unfold m__law_is_ints
  exact bd_ret1 rfl (Evm.cast (evm_and (evm_isi (b := true) (evm_var rfl) (by decide +kernel)) (evm_cbT (eva_cons (evm_raw (evn_ev (evn_lc (l := .fr) (l1 := .pa) (l3 := .fr) rfl trivial trivial (.inr fun _ _ _ _ _ _ h => h.flat) (evi_list (evm_var rfl)) (hv1 rfl rfl) (tg_name trivial) (fun x1 => evt_yes) (fun x1 => (evm_callF rfl (eva_cons (evm_flat (l2 := .raw) (evm_var rfl)) eva_nil)))))) eva_nil) fun _ => ra_all)) (by first | rfl | (simp only [R.bind_assoc, R.bind_ok, R.bind_right, R.of_some, compR_map, compR_filter, R.ifm_ok, R.ite_and, R.ite_or]; done) | (simp only [R.bind_assoc, R.bind_ok, R.bind_right, R.of_some, compR_map, compR_filter, R.ifm_ok, R.ite_ok, R.ite_and, R.ite_or]; done))) (fun _ => rfl)
theorem ok__law_good_row {f : Addr} {fd : FuncData} (F : Fun K "_law_good_row" "_law_good_row" s__law_good_row f fd) (hT : T.K = K) (k__law_cell : Kd P w K mg base CX0 "_law_cell" ["_law_script", "_law_k"] 1 (Pm T (.val .fr) (fun b : Scr × Int × Unit => m__law_cell b.1 b.2.1))) (k__law_draws : Kd P w K mg base CX0 "_law_draws" ["_law_cell_here", "_law_sizes_here"] 1 (Pm T (.nw .fr) (fun b : Int × (List Int) × Unit => m__law_draws b.1 b.2.1))) (z_int : mg "int" = none) (z_len : mg "len" = none) (z_range : mg "range" = none) (z_sum : mg "sum" = none) :
    FnOk P w K mg base CX0 2 f fd ["_law_script", "_law_at", "_law_count", "_law_bar"] (Pm T (.nw .fr) (fun b : Scr × Int × Int × Int × Unit => m__law_good_row b.1 b.2.1 b.2.2.1 b.2.2.2.1)) := by
  subst hT
  refine fn_pm F sc__law_good_row (fun _ => rfl) fun cdv A outer s H E hr => ⟨_, (pss_cons (ps_if (pt_cmpR op_eq (pv 2) pe_int rfl) (pss_cons (ps_ret (pe_lst pa_nil)) pss_nil) pss_nil) (pss_cons (ps_setLc (i := 4) (own := [("_law_x", 8)]) (g := (gName 8)) rfl sc__law_good_row.nd rfl rfl (sw_true rfl rfl rfl (by decide +kernel)) (k_pil T.K rfl (pe_kd k__law_draws (hr.mono (by decide)) (by rfl) (pa_cons (pe_kd k__law_cell (hr.mono (by decide)) (by rfl) (pa_cons (pv 0) (pa_cons (pv 1) pa_nil))) (pa_cons (pe_lc (own := [("_law_k", 9)]) (g := (gName 9)) rfl sc__law_good_row.nd (pi_range1 (by rfl) z_range (pa_cons (pe_op op_sub (pv 2) pe_int) pa_nil)) (blkOk_by (N := N__law_good_row) (sc := defScope s__law_good_row) (by decide +kernel)) (fun _ _ _ _ _ => (pg_name (i := 9) sc__law_good_row.nd rfl (Or.inl rfl))) (fun _ _ _ _ _ => pts_nil) (fun _ _ _ _ _ => pe_int)) pa_nil)))) (blkOk_by (N := N__law_good_row) (sc := defScope s__law_good_row) (by decide +kernel)) (fun _ _ _ _ _ => (pg_name (i := 8) sc__law_good_row.nd rfl (Or.inl rfl))) (fun _ _ _ _ _ => pts_nil) (fun _ _ _ _ _ => (pe_callTy call_int1 (by rfl) z_int PyProof.Rows.boot_int (pa_cons (pe_cmpR op_gt (pv 8) (pv 3) rfl) pa_nil)))) (pss_cons (ps_set (i := 5) sc__law_good_row.nd rfl (Or.inl rfl) (pe_ix (k_ixl T.K rfl) (pe_kd k__law_draws (hr.mono (by decide)) (by rfl) (pa_cons (pe_kd k__law_cell (hr.mono (by decide)) (by rfl) (pa_cons (pv 0) (pa_cons (pe_op op_add (pv 1) pe_int) pa_nil))) (pa_cons (pe_lst (pa_cons (pe_op op_add (pe_callB (k_sum T.K rfl rfl) (by rfl) z_sum (by decide +kernel) (pa_cons (pv 4) pa_nil)) pe_int) pa_nil)) pa_nil))) pe_int (fun _ _ => rfl))) (pss_cons (ps_set (i := 6) sc__law_good_row.nd rfl (Or.inl rfl) (pe_lst (pa_cons (pe_op op_sub pe_int (pv 5)) pa_nil))) (pss_cons (ps_for PassesOwn.never rfl (k_pil T.K rfl (pv 4)) (pg_name (i := 7) sc__law_good_row.nd rfl (Or.inl rfl)) (pss_cons (ps_expr (pe_bm PySem.F.plainAttrs_list PySem.F.slot_list_append PySem.F.type_list_append mt_append (pv 6) (pa_cons (pe_op op_add (pe_ix (k_ixl T.K rfl) (pv 6) (pe_op op_sub (pe_callB (k_len T.K rfl) (by rfl) z_len PySem.boot_len (pa_cons (pv 6) pa_nil)) pe_int) (fun _ _ => rfl)) (pv 7)) pa_nil))) pss_nil)) (pss_cons (ps_ret (pv 6)) pss_nil)))))), ?_⟩
  rintro ⟨v_script, v_at, v_count, v_bar, _⟩
  show BD _ _ _ (m__law_good_row v_script v_at v_count v_bar) _
  unfold m__law_good_row
  refine bd_if (EvT.cast (evt_test (evm_opT (evm_var rfl) evm_int fun _ _ => rv_eqI)) (by first | rfl | (simp only [R.bind_assoc, R.bind_ok, R.bind_right, R.of_some, compR_map, compR_filter, R.ifm_ok, R.ite_and, R.ite_or]; done) | (simp only [R.bind_assoc, R.bind_ok, R.bind_right, R.of_some, compR_map, compR_filter, R.ifm_ok, R.ite_ok, R.ite_and, R.ite_or]; done))) ?_ ?_
  · refine bd_assoc ?_
    exact bd_retN1 rfl (EvN.cast (evn_lst (l := .fr) (f := fun b : Unit => ([] : (List Int))) eva_nil (fun _ => rfl) (fun _ => by show (0 : Nat) ≤ 1000; decide)) (by first | rfl | (simp only [R.bind_assoc, R.bind_ok, R.bind_right, R.of_some, compR_map, compR_filter, R.ifm_ok, R.ite_and, R.ite_or]; done) | (simp only [R.bind_assoc, R.bind_ok, R.bind_right, R.of_some, compR_map, compR_filter, R.ifm_ok, R.ite_ok, R.ite_and, R.ite_or]; done))) (fun _ => rfl)
  · refine bd_nil ?_
    refine bd_setN (EvN.cast (evn_lc (l := .fr) (l1 := .fr) (l3 := .fr) rfl trivial trivial (.inl rfl) (evi_list (evn_ev (evn_callF rfl (eva_cons (evm_flat (l2 := .raw) (evm_callF rfl (eva_cons (evm_raw (evm_var rfl)) (eva_cons (evm_flat (l2 := .raw) (evm_var rfl)) eva_nil)))) (eva_cons (evm_raw (evn_ev (evn_lc (l := .fr) (l1 := .fr) (l3 := .fr) rfl trivial trivial (.inl rfl) (evi_rng1 (evm_opT (evm_var rfl) evm_int fun _ _ => rv_II)) (hv1 rfl rfl) (tg_name trivial) (fun x1 => evt_yes) (fun x1 => evm_int)))) eva_nil))))) (hv1 rfl rfl) (tg_name trivial) (fun x5 => evt_yes) (fun x5 => (evm_cbT (eva_cons (evm_flat (l2 := .raw) (evm_opT (evm_var rfl) (evm_var rfl) fun _ _ => rv_IB)) eva_nil) fun _ => ra_intB))) (by first | rfl | (simp only [R.bind_assoc, R.bind_ok, R.bind_right, R.of_some, compR_map, compR_filter, R.ifm_ok, R.ite_and, R.ite_or]; done) | (simp only [R.bind_assoc, R.bind_ok, R.bind_right, R.of_some, compR_map, compR_filter, R.ifm_ok, R.ite_ok, R.ite_and, R.ite_or]; done))) trivial (lt_of rfl) ?_
    intro v_rises_7
    refine bd_set (Evm.cast (evm_ix (evn_ev (evn_callF rfl (eva_cons (evm_flat (l2 := .raw) (evm_callF rfl (eva_cons (evm_raw (evm_var rfl)) (eva_cons (evm_flat (l2 := .raw) (evm_opT (evm_var rfl) evm_int fun _ _ => rv_II)) eva_nil)))) (eva_cons (evm_raw (evn_ev (evn_lst (l := .fr) (f := fun b : Int × Unit => ([b.1] : (List Int))) (eva_cons (evm_opT (evm_cbT (eva_cons (evm_own rfl) eva_nil) fun _ => ra_sum) evm_int fun _ _ => rv_II) eva_nil) (fun _ => rfl) (fun _ => by show (1 : Nat) ≤ 1000; decide)))) eva_nil)))) evm_int) (by first | rfl | (simp only [R.bind_assoc, R.bind_ok, R.bind_right, R.of_some, compR_map, compR_filter, R.ifm_ok, R.ite_and, R.ite_or]; done) | (simp only [R.bind_assoc, R.bind_ok, R.bind_right, R.of_some, compR_map, compR_filter, R.ifm_ok, R.ite_ok, R.ite_and, R.ite_or]; done))) trivial (lt_of rfl) ?_
    intro v_depth_10
    refine bd_setNP (EvN.cast (evn_lst (l := .fr) (f := fun b : Int × Unit => ([b.1] : (List Int))) (eva_cons (evm_opT evm_int (evm_var rfl) fun _ _ => rv_II) eva_nil) (fun _ => rfl) (fun _ => by show (1 : Nat) ≤ 1000; decide)) (by first | rfl | (simp only [R.bind_assoc, R.bind_ok, R.bind_right, R.of_some, compR_map, compR_filter, R.ifm_ok, R.ite_and, R.ite_or]; done) | (simp only [R.bind_assoc, R.bind_ok, R.bind_right, R.of_some, compR_map, compR_filter, R.ifm_ok, R.ite_ok, R.ite_and, R.ite_or]; done))) trivial (lt_of rfl) ?_
    intro v_row_11
    refine bd_wk (Wk.keep (Wk.keep (Wk.keep (Wk.keep (Wk.share (Wk.keep (Wk.keep (Wk.keep (Wk.keep (Wk.keep Wk.nil)))))))))) ?_
    refine bd_fold (l1 := .fr) (es := (fun s13 : (List Int) => [.sh .pa (enc (v_script : Scr)), .sh .pa (enc (v_at : Int)), .sh .pa (enc (v_count : Int)), .sh .pa (enc (v_bar : Int)), .sh .fr (enc (v_rises_7 : (List Int))), .sh .fr (enc (v_depth_10 : Int)), .ow .fr ((s13 : (List Int)).map enc), .un, .un, .un])) (EvI.cast (evi_list (evm_var rfl)) (by first | rfl | (simp only [R.bind_assoc, R.bind_ok, R.bind_right, R.of_some, compR_map, compR_filter, R.ifm_ok, R.ite_and, R.ite_or]; done) | (simp only [R.bind_assoc, R.bind_ok, R.bind_right, R.of_some, compR_map, compR_filter, R.ifm_ok, R.ite_ok, R.ite_and, R.ite_or]; done))) trivial (Wk.keep (Wk.keep (Wk.keep (Wk.keep (Wk.keep (Wk.keep (Wk.keep (Wk.keep (Wk.keep (Wk.keep Wk.nil)))))))))) (tg_name trivial) (hu1 fun _ => rfl) ?_ ?_
    · intro x12 s13
      unfold m__law_good_row_b1
      refine bd_app (by rfl) (Evm.cast (evm_opT (evm_ixo rfl (evm_opT (evm_cbT (eva_cons (evm_own rfl) eva_nil) fun _ => ra_len) evm_int fun _ _ => rv_II)) (evm_var rfl) fun _ _ => rv_II) (by first | rfl | (simp only [R.bind_assoc, R.bind_ok, R.bind_right, R.of_some, compR_map, compR_filter, R.ifm_ok, R.ite_and, R.ite_or]; done) | (simp only [R.bind_assoc, R.bind_ok, R.bind_right, R.of_some, compR_map, compR_filter, R.ifm_ok, R.ite_ok, R.ite_and, R.ite_or]; done))) ?_
      intro v_row_15
      exact bd_end (Wk.keep (Wk.keep (Wk.keep (Wk.keep (Wk.keep (Wk.keep (Wk.keep (Wk.lose (Wk.keep (Wk.keep Wk.nil)))))))))) rfl
    intro s13
    exact bd_retO rfl (by rfl) (by rfl)
theorem ok__law_spoilt {f : Addr} {fd : FuncData} (F : Fun K "_law_spoilt" "_law_spoilt" s__law_spoilt f fd) (hT : T.K = K) (z_int : mg "int" = none) (z_len : mg "len" = none) (z_list : mg "list" = none) :
    FnOk P w K mg base CX0 1 f fd ["_law_row", "_law_kind", "_law_index", "_law_size"] (Pm T (.nw .fr) (fun b : (List Int) × Int × Int × Int × Unit => m__law_spoilt b.1 b.2.1 b.2.2.1 b.2.2.2.1)) := by
  subst hT
  refine fn_pm F sc__law_spoilt (fun _ => rfl) fun cdv A outer s H E hr => ⟨_, (pss_cons (ps_if (pw_or (pt_cmpR op_eq (pe_callB (k_len T.K rfl) (by rfl) z_len PySem.boot_len (pa_cons (pv 0) pa_nil)) pe_int rfl) (pw_or1 (pt_cmpR op_lt (pv 1) pe_int rfl))).pt (pss_cons (ps_ret (pe_callTy (k_list T.K rfl) (by rfl) z_list PyProof.Rows.boot_list (pa_cons (pv 0) pa_nil))) pss_nil) pss_nil) (pss_cons (ps_set (i := 4) sc__law_spoilt.nd rfl (Or.inl rfl) (pe_op op_mod (pe_callTy call_int1 (by rfl) z_int PyProof.Rows.boot_int (pa_cons (pv 2) pa_nil)) (pe_callB (k_len T.K rfl) (by rfl) z_len PySem.boot_len (pa_cons (pv 0) pa_nil)))) (pss_cons (ps_if (pt_cmpR op_eq (pv 1) pe_int rfl) (pss_cons (ps_ret (pe_op op_cat (pe_slice (k_sll T.K rfl) (pv 0) po_none (po_some (pv 4))) (pe_lc (own := [("_law_x", 5)]) (g := (gName 5)) rfl sc__law_spoilt.nd (k_pil T.K rfl (pe_slice (k_sll T.K rfl) (pv 0) (po_some (pv 4)) po_none)) (blkOk_by (N := N__law_spoilt) (sc := defScope s__law_spoilt) (by decide +kernel)) (fun _ _ _ _ _ => (pg_name (i := 5) sc__law_spoilt.nd rfl (Or.inl rfl))) (fun _ _ _ _ _ => pts_nil) (fun _ _ _ _ _ => (pe_op op_add (pe_op op_add (pv 5) pe_int) (pv 3)))))) pss_nil) pss_nil) (pss_cons (ps_if (pt_cmpR op_eq (pv 1) pe_int rfl) (pss_cons (ps_ret (pe_op op_cat (pe_slice (k_sll T.K rfl) (pv 0) po_none (po_some (pv 4))) (pe_lc (own := [("_law_x", 5)]) (g := (gName 5)) rfl sc__law_spoilt.nd (k_pil T.K rfl (pe_slice (k_sll T.K rfl) (pv 0) (po_some (pv 4)) po_none)) (blkOk_by (N := N__law_spoilt) (sc := defScope s__law_spoilt) (by decide +kernel)) (fun _ _ _ _ _ => (pg_name (i := 5) sc__law_spoilt.nd rfl (Or.inl rfl))) (fun _ _ _ _ _ => pts_nil) (fun _ _ _ _ _ => (pe_op op_sub (pe_op op_sub (pv 5) pe_int) (pv 3)))))) pss_nil) pss_nil) (pss_cons (ps_if (pt_cmpR op_eq (pv 1) pe_int rfl) (pss_cons (ps_ret (pe_op op_cat (pe_op op_cat (pe_slice (k_sll T.K rfl) (pv 0) po_none (po_some (pv 4))) (pe_lst (pa_cons (pe_op op_add (pe_ix (k_ixl T.K rfl) (pv 0) (pv 4) (fun _ _ => rfl)) (pe_ix (k_ixl T.K rfl) (pe_lst (pa_cons pe_int (pa_cons (pe_un un_neg pe_int) (pa_cons (pe_op op_pow pe_int pe_int) pa_nil)))) (pv 3) (fun _ _ => rfl))) pa_nil))) (pe_slice (k_sll T.K rfl) (pv 0) (po_some (pe_op op_add (pv 4) pe_int)) po_none))) pss_nil) pss_nil) (pss_cons (ps_if (pt_cmpR op_eq (pv 1) pe_int rfl) (pss_cons (ps_ret (pe_lc (own := [("_law_x", 5)]) (g := (gName 5)) rfl sc__law_spoilt.nd (k_pil T.K rfl (pv 0)) (blkOk_by (N := N__law_spoilt) (sc := defScope s__law_spoilt) (by decide +kernel)) (fun _ _ _ _ _ => (pg_name (i := 5) sc__law_spoilt.nd rfl (Or.inl rfl))) (fun _ _ _ _ _ => pts_nil) (fun _ _ _ _ _ => (pe_op op_add (pe_op op_add (pe_op op_sub (pv 5) (pe_ix (k_ixl T.K rfl) (pv 0) pe_int (fun _ _ => rfl))) pe_int) (pv 3))))) pss_nil) pss_nil) (pss_cons (ps_ret (pe_lc (own := [("_law_x", 5)]) (g := (gName 5)) rfl sc__law_spoilt.nd (k_pil T.K rfl (pv 0)) (blkOk_by (N := N__law_spoilt) (sc := defScope s__law_spoilt) (by decide +kernel)) (fun _ _ _ _ _ => (pg_name (i := 5) sc__law_spoilt.nd rfl (Or.inl rfl))) (fun _ _ _ _ _ => pts_nil) (fun _ _ _ _ _ => (pe_op op_sub (pe_op op_sub (pe_op op_sub (pv 5) (pe_ix (k_ixl T.K rfl) (pv 0) (pe_op op_sub (pe_callB (k_len T.K rfl) (by rfl) z_len PySem.boot_len (pa_cons (pv 0) pa_nil)) pe_int) (fun _ _ => rfl))) pe_int) (pv 3))))) pss_nil))))))), ?_⟩
  rintro ⟨v_row, v_kind, v_index, v_size, _⟩
  show BD _ _ _ (m__law_spoilt v_row v_kind v_index v_size) _
  unfold m__law_spoilt
  refine bd_if (EvT.cast (evt_or (evt_test (evm_opT (evm_cbT (eva_cons (evm_raw (evm_var rfl)) eva_nil) fun _ => ra_len) evm_int fun _ _ => rv_eqI)) (evt_test (evm_opT (evm_var rfl) evm_int fun _ _ => rv_IB))) (by first | rfl | (simp only [R.bind_assoc, R.bind_ok, R.bind_right, R.of_some, compR_map, compR_filter, R.ifm_ok, R.ite_and, R.ite_or]; done) | (simp only [R.bind_assoc, R.bind_ok, R.bind_right, R.of_some, compR_map, compR_filter, R.ifm_ok, R.ite_ok, R.ite_and, R.ite_or]; done))) ?_ ?_
  · refine bd_assoc ?_
    exact bd_retN1 rfl (EvN.cast (evn_flat (l2 := .fr) (evn_listof (evm_var rfl))) (by first | rfl | (simp only [R.bind_assoc, R.bind_ok, R.bind_right, R.of_some, compR_map, compR_filter, R.ifm_ok, R.ite_and, R.ite_or]; done) | (simp only [R.bind_assoc, R.bind_ok, R.bind_right, R.of_some, compR_map, compR_filter, R.ifm_ok, R.ite_ok, R.ite_and, R.ite_or]; done))) (fun _ => rfl)
  · refine bd_nil ?_
    refine bd_set (Evm.cast (evm_op (evm_cbT (eva_cons (evm_flat (l2 := .raw) (evm_var rfl)) eva_nil) fun _ => ra_int) (evm_cbT (eva_cons (evm_raw (evm_var rfl)) eva_nil) fun _ => ra_len) fun _ _ _ _ => rv_mod) (by first | rfl | (simp only [R.bind_assoc, R.bind_ok, R.bind_right, R.of_some, compR_map, compR_filter, R.ifm_ok, R.ite_and, R.ite_or]; done) | (simp only [R.bind_assoc, R.bind_ok, R.bind_right, R.of_some, compR_map, compR_filter, R.ifm_ok, R.ite_ok, R.ite_and, R.ite_or]; done))) trivial (lt_of rfl) ?_
    intro v_at_1
    refine bd_if (EvT.cast (evt_test (evm_opT (evm_var rfl) evm_int fun _ _ => rv_eqI)) (by first | rfl | (simp only [R.bind_assoc, R.bind_ok, R.bind_right, R.of_some, compR_map, compR_filter, R.ifm_ok, R.ite_and, R.ite_or]; done) | (simp only [R.bind_assoc, R.bind_ok, R.bind_right, R.of_some, compR_map, compR_filter, R.ifm_ok, R.ite_ok, R.ite_and, R.ite_or]; done))) ?_ ?_
    · refine bd_assoc ?_
      exact bd_retN1 rfl (EvN.cast (evn_flat (l2 := .fr) (evn_cat (l := .raw) (evm_raw (evn_ev (evn_flat (l2 := .fr) (evn_sl (evm_var rfl) evo_none (evo_some (evm_var rfl)))))) (evm_raw (evn_ev (evn_lc (l := .fr) (l1 := .fr) (l3 := .fr) rfl trivial trivial (.inl rfl) (evi_list (evn_ev (evn_flat (l2 := .fr) (evn_sl (evm_var rfl) (evo_some (evm_var rfl)) evo_none)))) (hv1 rfl rfl) (tg_name trivial) (fun x2 => evt_yes) (fun x2 => (evm_opT (evm_opT (evm_var rfl) evm_int fun _ _ => rv_II) (evm_var rfl) fun _ _ => rv_II))))))) (by first | rfl | (simp only [R.bind_assoc, R.bind_ok, R.bind_right, R.of_some, compR_map, compR_filter, R.ifm_ok, R.ite_and, R.ite_or]; done) | (simp only [R.bind_assoc, R.bind_ok, R.bind_right, R.of_some, compR_map, compR_filter, R.ifm_ok, R.ite_ok, R.ite_and, R.ite_or]; done))) (fun _ => rfl)
    · refine bd_nil ?_
      refine bd_if (EvT.cast (evt_test (evm_opT (evm_var rfl) evm_int fun _ _ => rv_eqI)) (by first | rfl | (simp only [R.bind_assoc, R.bind_ok, R.bind_right, R.of_some, compR_map, compR_filter, R.ifm_ok, R.ite_and, R.ite_or]; done) | (simp only [R.bind_assoc, R.bind_ok, R.bind_right, R.of_some, compR_map, compR_filter, R.ifm_ok, R.ite_ok, R.ite_and, R.ite_or]; done))) ?_ ?_
      · refine bd_assoc ?_
        exact bd_retN1 rfl (EvN.cast (evn_flat (l2 := .fr) (evn_cat (l := .raw) (evm_raw (evn_ev (evn_flat (l2 := .fr) (evn_sl (evm_var rfl) evo_none (evo_some (evm_var rfl)))))) (evm_raw (evn_ev (evn_lc (l := .fr) (l1 := .fr) (l3 := .fr) rfl trivial trivial (.inl rfl) (evi_list (evn_ev (evn_flat (l2 := .fr) (evn_sl (evm_var rfl) (evo_some (evm_var rfl)) evo_none)))) (hv1 rfl rfl) (tg_name trivial) (fun x3 => evt_yes) (fun x3 => (evm_opT (evm_opT (evm_var rfl) evm_int fun _ _ => rv_II) (evm_var rfl) fun _ _ => rv_II))))))) (by first | rfl | (simp only [R.bind_assoc, R.bind_ok, R.bind_right, R.of_some, compR_map, compR_filter, R.ifm_ok, R.ite_and, R.ite_or]; done) | (simp only [R.bind_assoc, R.bind_ok, R.bind_right, R.of_some, compR_map, compR_filter, R.ifm_ok, R.ite_ok, R.ite_and, R.ite_or]; done))) (fun _ => rfl)
      · refine bd_nil ?_
        refine bd_if (EvT.cast (evt_test (evm_opT (evm_var rfl) evm_int fun _ _ => rv_eqI)) (by first | rfl | (simp only [R.bind_assoc, R.bind_ok, R.bind_right, R.of_some, compR_map, compR_filter, R.ifm_ok, R.ite_and, R.ite_or]; done) | (simp only [R.bind_assoc, R.bind_ok, R.bind_right, R.of_some, compR_map, compR_filter, R.ifm_ok, R.ite_ok, R.ite_and, R.ite_or]; done))) ?_ ?_
        · refine bd_assoc ?_
          exact bd_retN1 rfl (EvN.cast (evn_flat (l2 := .fr) (evn_cat (l := .raw) (evm_raw (evn_ev (evn_flat (l2 := .fr) (evn_cat (l := .raw) (evm_raw (evn_ev (evn_flat (l2 := .fr) (evn_sl (evm_var rfl) evo_none (evo_some (evm_var rfl)))))) (evm_raw (evn_ev (evn_lst (l := .fr) (f := fun b : Int × Unit => ([b.1] : (List Int))) (eva_cons (evm_opT (evm_flat (l2 := .fr) (evm_ix (evm_var rfl) (evm_var rfl))) (evm_ix (evn_ev (evn_lst (l := .fr) (f := fun b : Int × Int × Int × Unit => ([b.1, b.2.1, b.2.2.1] : (List Int))) (eva_cons evm_int (eva_cons (evm_un evm_int fun _ _ => ru_neg) (eva_cons (evm_op evm_int evm_int fun _ _ _ _ => rv_pow) eva_nil))) (fun _ => rfl) (fun _ => by show (3 : Nat) ≤ 1000; decide))) (evm_var rfl)) fun _ _ => rv_II) eva_nil) (fun _ => rfl) (fun _ => by show (1 : Nat) ≤ 1000; decide)))))))) (evm_raw (evn_ev (evn_flat (l2 := .fr) (evn_sl (evm_var rfl) (evo_some (evm_opT (evm_var rfl) evm_int fun _ _ => rv_II)) evo_none)))))) (by first | rfl | (simp only [R.bind_assoc, R.bind_ok, R.bind_right, R.of_some, compR_map, compR_filter, R.ifm_ok, R.ite_and, R.ite_or]; done) | (simp only [R.bind_assoc, R.bind_ok, R.bind_right, R.of_some, compR_map, compR_filter, R.ifm_ok, R.ite_ok, R.ite_and, R.ite_or]; done))) (fun _ => rfl)
        · refine bd_nil ?_
          refine bd_if (EvT.cast (evt_test (evm_opT (evm_var rfl) evm_int fun _ _ => rv_eqI)) (by first | rfl | (simp only [R.bind_assoc, R.bind_ok, R.bind_right, R.of_some, compR_map, compR_filter, R.ifm_ok, R.ite_and, R.ite_or]; done) | (simp only [R.bind_assoc, R.bind_ok, R.bind_right, R.of_some, compR_map, compR_filter, R.ifm_ok, R.ite_ok, R.ite_and, R.ite_or]; done))) ?_ ?_
          · refine bd_assoc ?_
            exact bd_retN1 rfl (EvN.cast (evn_lc (l := .fr) (l1 := .pa) (l3 := .fr) rfl trivial trivial (.inr fun _ _ _ _ _ _ h => h.flat) (evi_list (evm_var rfl)) (hv1 rfl rfl) (tg_name trivial) (fun x11 => evt_yes) (fun x11 => (evm_opT (evm_opT (evm_opT (evm_var rfl) (evm_flat (l2 := .fr) (evm_ix (evm_var rfl) evm_int)) fun _ _ => rv_II) evm_int fun _ _ => rv_II) (evm_var rfl) fun _ _ => rv_II))) (by first | rfl | (simp only [R.bind_assoc, R.bind_ok, R.bind_right, R.of_some, compR_map, compR_filter, R.ifm_ok, R.ite_and, R.ite_or]; done) | (simp only [R.bind_assoc, R.bind_ok, R.bind_right, R.of_some, compR_map, compR_filter, R.ifm_ok, R.ite_ok, R.ite_and, R.ite_or]; done))) (fun _ => rfl)
          · refine bd_nil ?_
            exact bd_retN1 rfl (EvN.cast (evn_lc (l := .fr) (l1 := .pa) (l3 := .fr) rfl trivial trivial (.inr fun _ _ _ _ _ _ h => h.flat) (evi_list (evm_var rfl)) (hv1 rfl rfl) (tg_name trivial) (fun x16 => evt_yes) (fun x16 => (evm_opT (evm_opT (evm_opT (evm_var rfl) (evm_flat (l2 := .fr) (evm_ix (evm_var rfl) (evm_opT (evm_cbT (eva_cons (evm_raw (evm_var rfl)) eva_nil) fun _ => ra_len) evm_int fun _ _ => rv_II))) fun _ _ => rv_II) evm_int fun _ _ => rv_II) (evm_var rfl) fun _ _ => rv_II))) (by first | rfl | (simp only [R.bind_assoc, R.bind_ok, R.bind_right, R.of_some, compR_map, compR_filter, R.ifm_ok, R.ite_and, R.ite_or]; done) | (simp only [R.bind_assoc, R.bind_ok, R.bind_right, R.of_some, compR_map, compR_filter, R.ifm_ok, R.ite_ok, R.ite_and, R.ite_or]; done))) (fun _ => rfl)
theorem ok__law_due {f : Addr} {fd : FuncData} (F : Fun K "_law_due" "_law_due" s__law_due f fd) (hT : T.K = K) (z_len : mg "len" = none) (z_range : mg "range" = none) :
    FnOk P w K mg base CX0 1 f fd ["_law_levels"] (Pm T (.val .fr) (fun b : (List Int) × Unit => m__law_due b.1)) := by
  subst hT
  refine fn_pm F sc__law_due (fun _ => rfl) fun cdv A outer s H E hr => ⟨_, (pss_cons (ps_if (pt_cmpR op_eq (pe_callB (k_len T.K rfl) (by rfl) z_len PySem.boot_len (pa_cons (pv 0) pa_nil)) pe_int rfl) (pss_cons (ps_ret pe_bl) pss_nil) pss_nil) (pss_cons (ps_for PassesOwn.never rfl (pi_range1 (by rfl) z_range (pa_cons (pe_op op_sub (pe_callB (k_len T.K rfl) (by rfl) z_len PySem.boot_len (pa_cons (pv 0) pa_nil)) pe_int) pa_nil)) (pg_name (i := 1) sc__law_due.nd rfl (Or.inl rfl)) (pss_cons (ps_if (pw_and (pt_cmpR op_ne (pe_ix (k_ixl T.K rfl) (pv 0) (pe_op op_add (pv 1) pe_int) (fun _ _ => rfl)) (pe_ix (k_ixl T.K rfl) (pv 0) (pv 1) (fun _ _ => rfl)) rfl) (pw_and1 (pt_cmpR op_ne (pe_ix (k_ixl T.K rfl) (pv 0) (pe_op op_add (pv 1) pe_int) (fun _ _ => rfl)) (pe_op op_add (pe_ix (k_ixl T.K rfl) (pv 0) (pv 1) (fun _ _ => rfl)) pe_int) rfl))).pt (pss_cons (ps_ret pe_bl) pss_nil) pss_nil) pss_nil)) (pss_cons (ps_ret (pe_and (pe_cmpR op_le (pe_ix (k_ixl T.K rfl) (pv 0) pe_int (fun _ _ => rfl)) pe_int rfl) (pe_one (pe_cmpR op_ge (pe_ix (k_ixl T.K rfl) (pv 0) (pe_op op_sub (pe_callB (k_len T.K rfl) (by rfl) z_len PySem.boot_len (pa_cons (pv 0) pa_nil)) pe_int) (fun _ _ => rfl)) (pe_un un_neg pe_int) rfl)))) pss_nil))), ?_⟩
  rintro ⟨v_levels, _⟩
  show BD _ _ _ (m__law_due v_levels) _
  unfold m__law_due
  refine bd_if (EvT.cast (evt_test (evm_opT (evm_cbT (eva_cons (evm_raw (evm_var rfl)) eva_nil) fun _ => ra_len) evm_int fun _ _ => rv_eqI)) (by first | rfl | (simp only [R.bind_assoc, R.bind_ok, R.bind_right, R.of_some, compR_map, compR_filter, R.ifm_ok, R.ite_and, R.ite_or]; done) | (simp only [R.bind_assoc, R.bind_ok, R.bind_right, R.of_some, compR_map, compR_filter, R.ifm_ok, R.ite_ok, R.ite_and, R.ite_or]; done))) ?_ ?_
  · refine bd_assoc ?_
    exact bd_ret1 rfl (Evm.cast evm_bl (by first | rfl | (simp only [R.bind_assoc, R.bind_ok, R.bind_right, R.of_some, compR_map, compR_filter, R.ifm_ok, R.ite_and, R.ite_or]; done) | (simp only [R.bind_assoc, R.bind_ok, R.bind_right, R.of_some, compR_map, compR_filter, R.ifm_ok, R.ite_ok, R.ite_and, R.ite_or]; done))) (fun _ => rfl)
  · refine bd_nil ?_
    refine bd_for (l1 := .fr) (es := (fun s2 : Unit => [.sh .pa (enc (v_levels : (List Int))), .un])) (er := fun a => enc a) (EvI.cast (evi_rng1 (evm_opT (evm_cbT (eva_cons (evm_raw (evm_var rfl)) eva_nil) fun _ => ra_len) evm_int fun _ _ => rv_II)) (by first | rfl | (simp only [R.bind_assoc, R.bind_ok, R.bind_right, R.of_some, compR_map, compR_filter, R.ifm_ok, R.ite_and, R.ite_or]; done) | (simp only [R.bind_assoc, R.bind_ok, R.bind_right, R.of_some, compR_map, compR_filter, R.ifm_ok, R.ite_ok, R.ite_and, R.ite_or]; done))) trivial (Wk.keep (Wk.keep Wk.nil)) (tg_name trivial) (hu1 fun _ => rfl) ?_ ?_ (fun a => ⟨_, rfl, rfl⟩)
    · intro x1 s2
      unfold m__law_due_b1
      refine bd_if (EvT.cast (evt_and (evt_test (evm_opT (evm_flat (l2 := .fr) (evm_ix (evm_var rfl) (evm_opT (evm_var rfl) evm_int fun _ _ => rv_II))) (evm_flat (l2 := .fr) (evm_ix (evm_var rfl) (evm_var rfl))) fun _ _ => rv_neI)) (evt_test (evm_opT (evm_flat (l2 := .fr) (evm_ix (evm_var rfl) (evm_opT (evm_var rfl) evm_int fun _ _ => rv_II))) (evm_opT (evm_flat (l2 := .fr) (evm_ix (evm_var rfl) (evm_var rfl))) evm_int fun _ _ => rv_II) fun _ _ => rv_neI))) (by first | rfl | (simp only [R.bind_assoc, R.bind_ok, R.bind_right, R.of_some, compR_map, compR_filter, R.ifm_ok, R.ite_and, R.ite_or]; done) | (simp only [R.bind_assoc, R.bind_ok, R.bind_right, R.of_some, compR_map, compR_filter, R.ifm_ok, R.ite_ok, R.ite_and, R.ite_or]; done))) ?_ ?_
      · refine bd_assoc ?_
        exact bd_ret (k := fun a9 => (Stp.rt a9)) rfl (Evm.cast evm_bl (by first | rfl | (simp only [R.bind_assoc, R.bind_ok, R.bind_right, R.of_some, compR_map, compR_filter, R.ifm_ok, R.ite_and, R.ite_or]; done) | (simp only [R.bind_assoc, R.bind_ok, R.bind_right, R.of_some, compR_map, compR_filter, R.ifm_ok, R.ite_ok, R.ite_and, R.ite_or]; done))) (fun _ => rfl)
      · refine bd_nil ?_
        exact bd_end (Wk.keep (Wk.lose Wk.nil)) rfl
    intro s2
    exact bd_ret1 rfl (Evm.cast (evm_and (evm_opT (evm_flat (l2 := .fr) (evm_ix (evm_var rfl) evm_int)) evm_int fun _ _ => rv_IB) (evm_opT (evm_flat (l2 := .fr) (evm_ix (evm_var rfl) (evm_opT (evm_cbT (eva_cons (evm_raw (evm_var rfl)) eva_nil) fun _ => ra_len) evm_int fun _ _ => rv_II))) (evm_un evm_int fun _ _ => ru_neg) fun _ _ => rv_IB)) (by first | rfl | (simp only [R.bind_assoc, R.bind_ok, R.bind_right, R.of_some, compR_map, compR_filter, R.ifm_ok, R.ite_and, R.ite_or]; done) | (simp only [R.bind_assoc, R.bind_ok, R.bind_right, R.of_some, compR_map, compR_filter, R.ifm_ok, R.ite_ok, R.ite_and, R.ite_or]; done))) (fun _ => rfl)
theorem ok__law_has_order {f : Addr} {fd : FuncData} (F : Fun K "_law_has_order" "_law_has_order" s__law_has_order f fd) (hT : T.K = K) (z_len : mg "len" = none) (z_list : mg "list" = none) (z_range : mg "range" = none) (z_sorted : mg "sorted" = none) :
    FnOk P w K mg base CX0 1 f fd ["_law_levels"] (Pm T (.val .fr) (fun b : (List Int) × Unit => m__law_has_order b.1)) := by
  subst hT
  refine fn_pm F sc__law_has_order (fun _ => rfl) fun cdv A outer s H E hr => ⟨_, (pss_cons (ps_set (i := 1) sc__law_has_order.nd rfl (Or.inl rfl) (pe_lst (pa_cons (pe_lst (pa_cons pe_int pa_nil)) pa_nil))) (pss_cons (ps_for PassesOwn.never rfl (pi_range1 (by rfl) z_range (pa_cons (pe_op op_mul pe_int (pe_callB (k_len T.K rfl) (by rfl) z_len PySem.boot_len (pa_cons (pv 0) pa_nil))) pa_nil)) (pg_name (i := 2) sc__law_has_order.nd rfl (Or.inl rfl)) (pss_cons (ps_set (i := 3) sc__law_has_order.nd rfl (Or.inl rfl) (pe_lst pa_nil)) (pss_cons (ps_for PassesOwn.never rfl (k_pil T.K rfl (pe_callTy (k_list T.K rfl) (by rfl) z_list PyProof.Rows.boot_list (pa_cons (pv 1) pa_nil))) (pg_name (i := 4) sc__law_has_order.nd rfl (Or.inl rfl)) (pss_cons (ps_set (i := 5) sc__law_has_order.nd rfl (Or.inl rfl) (pe_op op_sub (pe_callB (k_len T.K rfl) (by rfl) z_len PySem.boot_len (pa_cons (pv 4) pa_nil)) pe_int)) (pss_cons (ps_if (pt_cmpR op_lt (pv 5) (pe_callB (k_len T.K rfl) (by rfl) z_len PySem.boot_len (pa_cons (pv 0) pa_nil)) rfl) (pss_cons (ps_expr (pe_bm PySem.F.plainAttrs_list PySem.F.slot_list_append PySem.F.type_list_append mt_append (pv 3) (pa_cons (pe_op op_cat (pe_op op_cat (pe_lst (pa_cons (pe_op op_add (pe_ix (k_ixl T.K rfl) (pv 4) pe_int (fun _ _ => rfl)) pe_int) pa_nil)) (pe_slice (k_sll T.K rfl) (pv 4) (po_some pe_int) po_none)) (pe_lst (pa_cons (pe_ix (k_ixl T.K rfl) (pv 4) pe_int (fun _ _ => rfl)) pa_nil))) pa_nil))) pss_nil) pss_nil) (pss_cons (ps_if (pt_cmpR op_lt (pe_op op_sub (pv 2) (pv 5)) (pe_callB (k_len T.K rfl) (by rfl) z_len PySem.boot_len (pa_cons (pv 0) pa_nil)) rfl) (pss_cons (ps_expr (pe_bm PySem.F.plainAttrs_list PySem.F.slot_list_append PySem.F.type_list_append mt_append (pv 3) (pa_cons (pe_op op_cat (pe_lst (pa_cons (pe_op op_sub (pe_ix (k_ixl T.K rfl) (pv 4) pe_int (fun _ _ => rfl)) pe_int) pa_nil)) (pe_slice (k_sll T.K rfl) (pv 4) (po_some pe_int) po_none)) pa_nil))) pss_nil) pss_nil) pss_nil)))) (pss_cons (ps_set (i := 1) sc__law_has_order.nd rfl (Or.inl rfl) (pv 3)) pss_nil)))) (pss_cons (ps_ret (pe_cmpR (k_inD T.K rfl (hu65 hr)) (pv 0) (pe_lc (own := [("_law_walk", 4)]) (g := (gName 4)) rfl sc__law_has_order.nd (k_pil T.K rfl (pv 1)) (blkOk_by (N := N__law_has_order) (sc := defScope s__law_has_order) (by decide +kernel)) (fun _ _ _ _ _ => (pg_name (i := 4) sc__law_has_order.nd rfl (Or.inl rfl))) (fun _ _ _ _ _ => pts_nil) (fun _ _ _ _ _ => (pe_callB (k_sorted T.K rfl) (by rfl) z_sorted (by decide +kernel) (pa_cons (pe_slice (k_sll T.K rfl) (pv 4) (po_some pe_int) po_none) pa_nil)))) rfl)) pss_nil))), ?_⟩
  rintro ⟨v_levels, _⟩
  show BD _ _ _ (m__law_has_order v_levels) _
  unfold m__law_has_order
  refine bd_setNP (EvN.cast (evn_lst (l := .fr) (f := fun b : (List Int) × Unit => ([b.1] : (List (List Int)))) (eva_cons (evn_ev (evn_lst (l := .fr) (f := fun b : Int × Unit => ([b.1] : (List Int))) (eva_cons evm_int eva_nil) (fun _ => rfl) (fun _ => by show (1 : Nat) ≤ 1000; decide))) eva_nil) (fun _ => rfl) (fun _ => by show (1 : Nat) ≤ 1000; decide)) (by first | rfl | (simp only [R.bind_assoc, R.bind_ok, R.bind_right, R.of_some, compR_map, compR_filter, R.ifm_ok, R.ite_and, R.ite_or]; done) | (simp only [R.bind_assoc, R.bind_ok, R.bind_right, R.of_some, compR_map, compR_filter, R.ifm_ok, R.ite_ok, R.ite_and, R.ite_or]; done))) trivial (lt_of rfl) ?_
  intro v_walks_1
  refine bd_fold (l1 := .fr) (es := (fun s4 : (List (List Int)) => [.sh .pa (enc (v_levels : (List Int))), .sh .fr (enc (s4 : (List (List Int)))), .un, .un, .un, .un])) (EvI.cast (evi_rng1 (evm_op evm_int (evm_cbT (eva_cons (evm_raw (evm_var rfl)) eva_nil) fun _ => ra_len) fun _ _ _ _ => rv_mul)) (by first | rfl | (simp only [R.bind_assoc, R.bind_ok, R.bind_right, R.of_some, compR_map, compR_filter, R.ifm_ok, R.ite_and, R.ite_or]; done) | (simp only [R.bind_assoc, R.bind_ok, R.bind_right, R.of_some, compR_map, compR_filter, R.ifm_ok, R.ite_ok, R.ite_and, R.ite_or]; done))) trivial (Wk.keep (Wk.share (Wk.keep (Wk.keep (Wk.keep (Wk.keep Wk.nil)))))) (tg_name trivial) (hu1 fun _ => rfl) ?_ ?_
  · intro x3 s4
    unfold m__law_has_order_b3
    refine bd_setNP (EvN.cast (evn_lst (l := .fr) (f := fun b : Unit => ([] : (List (List Int)))) eva_nil (fun _ => rfl) (fun _ => by show (0 : Nat) ≤ 1000; decide)) (by first | rfl | (simp only [R.bind_assoc, R.bind_ok, R.bind_right, R.of_some, compR_map, compR_filter, R.ifm_ok, R.ite_and, R.ite_or]; done) | (simp only [R.bind_assoc, R.bind_ok, R.bind_right, R.of_some, compR_map, compR_filter, R.ifm_ok, R.ite_ok, R.ite_and, R.ite_or]; done))) trivial (lt_of rfl) ?_
    intro v_longer_40
    refine bd_fold (l1 := .fr) (es := (fun s42 : (List (List Int)) => [.sh .pa (enc (v_levels : (List Int))), .sh .fr (enc (s4 : (List (List Int)))), .sh .fr (enc (x3 : Int)), .ow .fr ((s42 : (List (List Int))).map enc), .un, .un])) (EvI.cast (evi_list (evn_ev (evn_listof (evm_var rfl)))) (by first | rfl | (simp only [R.bind_assoc, R.bind_ok, R.bind_right, R.of_some, compR_map, compR_filter, R.ifm_ok, R.ite_and, R.ite_or]; done) | (simp only [R.bind_assoc, R.bind_ok, R.bind_right, R.of_some, compR_map, compR_filter, R.ifm_ok, R.ite_ok, R.ite_and, R.ite_or]; done))) trivial (Wk.keep (Wk.keep (Wk.keep (Wk.keep (Wk.keep (Wk.keep Wk.nil)))))) (tg_name trivial) (hu1 fun _ => rfl) ?_ ?_
    · intro x41 s42
      unfold m__law_has_order_b2
      refine bd_setP (Evm.cast (evm_opT (evm_cbT (eva_cons (evm_raw (evm_var rfl)) eva_nil) fun _ => ra_len) evm_int fun _ _ => rv_II) (by first | rfl | (simp only [R.bind_assoc, R.bind_ok, R.bind_right, R.of_some, compR_map, compR_filter, R.ifm_ok, R.ite_and, R.ite_or]; done) | (simp only [R.bind_assoc, R.bind_ok, R.bind_right, R.of_some, compR_map, compR_filter, R.ifm_ok, R.ite_ok, R.ite_and, R.ite_or]; done))) trivial (lt_of rfl) ?_
      intro v_climbs_43
      refine bd_join (es := (fun s52 : (List (List Int)) => [.sh .pa (enc (v_levels : (List Int))), .sh .fr (enc (s4 : (List (List Int)))), .sh .fr (enc (x3 : Int)), .ow .fr ((s52 : (List (List Int))).map enc), .sh .fr (enc (x41 : (List Int))), .sh .fr (enc (v_climbs_43 : Int))])) (bd_tail ?_) ?_
      · refine bd_if (EvT.cast (evt_test (evm_opT (evm_var rfl) (evm_cbT (eva_cons (evm_raw (evm_var rfl)) eva_nil) fun _ => ra_len) fun _ _ => rv_IB)) (by first | rfl | (simp only [R.bind_assoc, R.bind_ok, R.bind_right, R.of_some, compR_map, compR_filter, R.ifm_ok, R.ite_and, R.ite_or]; done) | (simp only [R.bind_assoc, R.bind_ok, R.bind_right, R.of_some, compR_map, compR_filter, R.ifm_ok, R.ite_ok, R.ite_and, R.ite_or]; done))) ?_ ?_
        · refine bd_assoc ?_
          refine bd_app (by rfl) (Evm.cast (evn_ev (evn_flat (l2 := .fr) (evn_cat (l := .raw) (evm_raw (evn_ev (evn_flat (l2 := .fr) (evn_cat (l := .raw) (evm_raw (evn_ev (evn_lst (l := .fr) (f := fun b : Int × Unit => ([b.1] : (List Int))) (eva_cons (evm_opT (evm_ix (evm_var rfl) evm_int) evm_int fun _ _ => rv_II) eva_nil) (fun _ => rfl) (fun _ => by show (1 : Nat) ≤ 1000; decide)))) (evm_raw (evn_ev (evn_sl (evm_var rfl) (evo_some evm_int) evo_none))))))) (evm_raw (evn_ev (evn_lst (l := .fr) (f := fun b : Int × Unit => ([b.1] : (List Int))) (eva_cons (evm_ix (evm_var rfl) evm_int) eva_nil) (fun _ => rfl) (fun _ => by show (1 : Nat) ≤ 1000; decide))))))) (by first | rfl | (simp only [R.bind_assoc, R.bind_ok, R.bind_right, R.of_some, compR_map, compR_filter, R.ifm_ok, R.ite_and, R.ite_or]; done) | (simp only [R.bind_assoc, R.bind_ok, R.bind_right, R.of_some, compR_map, compR_filter, R.ifm_ok, R.ite_ok, R.ite_and, R.ite_or]; done))) ?_
          intro v_longer_59
          refine bd_nil ?_
          exact bd_end (Wk.keep (Wk.keep (Wk.keep (Wk.keep (Wk.keep (Wk.keep Wk.nil)))))) rfl
        · refine bd_nil ?_
          exact bd_end (Wk.keep (Wk.keep (Wk.keep (Wk.keep (Wk.keep (Wk.keep Wk.nil)))))) rfl
      intro s52
      refine bd_join (es := (fun s66 : (List (List Int)) => [.sh .pa (enc (v_levels : (List Int))), .sh .fr (enc (s4 : (List (List Int)))), .sh .fr (enc (x3 : Int)), .ow .fr ((s66 : (List (List Int))).map enc), .sh .fr (enc (x41 : (List Int))), .sh .fr (enc (v_climbs_43 : Int))])) (bd_tail ?_) ?_
      · refine bd_if (EvT.cast (evt_test (evm_opT (evm_opT (evm_var rfl) (evm_var rfl) fun _ _ => rv_II) (evm_cbT (eva_cons (evm_raw (evm_var rfl)) eva_nil) fun _ => ra_len) fun _ _ => rv_IB)) (by first | rfl | (simp only [R.bind_assoc, R.bind_ok, R.bind_right, R.of_some, compR_map, compR_filter, R.ifm_ok, R.ite_and, R.ite_or]; done) | (simp only [R.bind_assoc, R.bind_ok, R.bind_right, R.of_some, compR_map, compR_filter, R.ifm_ok, R.ite_ok, R.ite_and, R.ite_or]; done))) ?_ ?_
        · refine bd_assoc ?_
          refine bd_app (by rfl) (Evm.cast (evn_ev (evn_flat (l2 := .fr) (evn_cat (l := .raw) (evm_raw (evn_ev (evn_lst (l := .fr) (f := fun b : Int × Unit => ([b.1] : (List Int))) (eva_cons (evm_opT (evm_ix (evm_var rfl) evm_int) evm_int fun _ _ => rv_II) eva_nil) (fun _ => rfl) (fun _ => by show (1 : Nat) ≤ 1000; decide)))) (evm_raw (evn_ev (evn_sl (evm_var rfl) (evo_some evm_int) evo_none)))))) (by first | rfl | (simp only [R.bind_assoc, R.bind_ok, R.bind_right, R.of_some, compR_map, compR_filter, R.ifm_ok, R.ite_and, R.ite_or]; done) | (simp only [R.bind_assoc, R.bind_ok, R.bind_right, R.of_some, compR_map, compR_filter, R.ifm_ok, R.ite_ok, R.ite_and, R.ite_or]; done))) ?_
          intro v_longer_70
          refine bd_nil ?_
          exact bd_end (Wk.keep (Wk.keep (Wk.keep (Wk.keep (Wk.keep (Wk.keep Wk.nil)))))) rfl
        · refine bd_nil ?_
          exact bd_end (Wk.keep (Wk.keep (Wk.keep (Wk.keep (Wk.keep (Wk.keep Wk.nil)))))) rfl
      intro s66
      exact bd_end (Wk.keep (Wk.keep (Wk.keep (Wk.keep (Wk.lose (Wk.lose Wk.nil)))))) rfl
    intro s42
    refine bd_wk (Wk.keep (Wk.keep (Wk.keep (Wk.share (Wk.keep (Wk.keep Wk.nil)))))) ?_
    refine bd_setP (Evm.cast (evm_var rfl) (by first | rfl | (simp only [R.bind_assoc, R.bind_ok, R.bind_right, R.of_some, compR_map, compR_filter, R.ifm_ok, R.ite_and, R.ite_or]; done) | (simp only [R.bind_assoc, R.bind_ok, R.bind_right, R.of_some, compR_map, compR_filter, R.ifm_ok, R.ite_ok, R.ite_and, R.ite_or]; done))) trivial (lt_of rfl) ?_
    intro v_walks_73
    exact bd_end (Wk.keep (Wk.keep (Wk.lose (Wk.lose (Wk.keep (Wk.keep Wk.nil)))))) rfl
  intro s4
  exact bd_ret1 rfl (Evm.cast (evm_opT (evm_var rfl) (evn_ev (evn_lc (l := .fr) (l1 := .fr) (l3 := .fr) rfl trivial trivial (.inl rfl) (evi_list (evm_var rfl)) (hv1 rfl rfl) (tg_name trivial) (fun x75 => evt_yes) (fun x75 => (evn_ev (evn_sorted (evn_ev (evn_sl (evm_var rfl) (evo_some evm_int) evo_none))))))) fun _ _ => rv_inD) (by first | rfl | (simp only [R.bind_assoc, R.bind_ok, R.bind_right, R.of_some, compR_map, compR_filter, R.ifm_ok, R.ite_and, R.ite_or]; done) | (simp only [R.bind_assoc, R.bind_ok, R.bind_right, R.of_some, compR_map, compR_filter, R.ifm_ok, R.ite_ok, R.ite_and, R.ite_or]; done))) (fun _ => rfl)
theorem ok__law_asked {f : Addr} {fd : FuncData} (F : Fun K "_law_asked" "_law_asked" s__law_asked f fd) (hT : T.K = K) (k__law_due : Kd P w K mg base CX0 "_law_due" ["_law_levels"] 1 (Pm T (.val .fr) (fun b : (List Int) × Unit => m__law_due b.1))) (k__law_has_order : Kd P w K mg base CX0 "_law_has_order" ["_law_levels"] 1 (Pm T (.val .fr) (fun b : (List Int) × Unit => m__law_has_order b.1))) (k_is_row : Kd P w K mg base CX0 "is_row" ["levels"] 1 (Pm T (.val .fr) (fun b : (List Int) × Unit => m_is_row b.1))) (z_bool : mg "bool" = none) (z_isinstance : mg "isinstance" = none) (z_len : mg "len" = none) (z_list : mg "list" = none) :
    FnOk P w K mg base CX0 2 f fd ["_law_levels"] (Pm T (.val .fr) (fun b : (List Int) × Unit => m__law_asked b.1)) := by
  subst hT
  refine fn_pm F sc__law_asked (fun _ => rfl) fun cdv A outer s H E hr => ⟨_, (pss_cons (ps_set (i := 1) sc__law_asked.nd rfl (Or.inl rfl) (pe_kd k__law_due (hr.mono (by decide)) (by rfl) (pa_cons (pv 0) pa_nil))) (pss_cons (ps_if (pw_and (pt_cmpR op_lt (pe_callB (k_len T.K rfl) (by rfl) z_len PySem.boot_len (pa_cons (pv 0) pa_nil)) pe_int rfl) (pw_and1 (pt_cmpR op_ne (pe_kd k__law_has_order (hr.mono (by decide)) (by rfl) (pa_cons (pv 0) pa_nil)) (pv 1) rfl))).pt (pss_cons (ps_ret pe_bl) pss_nil) pss_nil) (pss_cons (ps_set (i := 2) sc__law_asked.nd rfl (Or.inl rfl) (pe_callTy (k_list T.K rfl) (by rfl) z_list PyProof.Rows.boot_list (pa_cons (pv 0) pa_nil))) (pss_cons (ps_set (i := 3) sc__law_asked.nd rfl (Or.inl rfl) (pe_kd k_is_row (hr.mono (by decide)) (by rfl) (pa_cons (pv 2) pa_nil))) (pss_cons (ps_if (pw_or (pt_not (pt_val (pe_callB (k_isi T.K rfl) (by rfl) z_isinstance (by decide +kernel) (pa_cons (pv 3) (pa_cons (pe_bltn (v := .ty "bool") (by rfl) z_bool (by decide +kernel) rfl) pa_nil))))) (pw_or (pt_cmpR op_ne (pv 3) (pv 1) rfl) (pw_or1 (pt_cmpR (k_neD T.K rfl hr.units) (pv 2) (pv 0) rfl)))).pt (pss_cons (ps_ret pe_bl) pss_nil) pss_nil) (pss_cons (ps_if (pt_cmpR op_eq (pe_callB (k_len T.K rfl) (by rfl) z_len PySem.boot_len (pa_cons (pv 2) pa_nil)) pe_int rfl) (pss_cons (ps_expr (pe_bm PySem.F.plainAttrs_list PySem.F.slot_list_append PySem.F.type_list_append mt_append (pv 2) (pa_cons pe_int pa_nil))) pss_nil) (pss_cons (ps_asg (pe_op op_add (pe_ix (k_ixl T.K rfl) (pv 2) (pe_op op_sub (pe_callB (k_len T.K rfl) (by rfl) z_len PySem.boot_len (pa_cons (pv 2) pa_nil)) pe_int) (fun _ _ => rfl)) pe_int) (pg_sub (pv 2) (pe_op op_sub (pe_callB (k_len T.K rfl) (by rfl) z_len PySem.boot_len (pa_cons (pv 2) pa_nil)) pe_int) set_list)) pss_nil)) (pss_cons (ps_set (i := 3) sc__law_asked.nd rfl (Or.inl rfl) (pe_kd k_is_row (hr.mono (by decide)) (by rfl) (pa_cons (pv 2) pa_nil))) (pss_cons (ps_if (pw_or (pt_not (pt_val (pe_callB (k_isi T.K rfl) (by rfl) z_isinstance (by decide +kernel) (pa_cons (pv 3) (pa_cons (pe_bltn (v := .ty "bool") (by rfl) z_bool (by decide +kernel) rfl) pa_nil))))) (pw_or1 (pt_cmpR op_ne (pv 3) (pe_kd k__law_due (hr.mono (by decide)) (by rfl) (pa_cons (pv 2) pa_nil)) rfl))).pt (pss_cons (ps_ret pe_bl) pss_nil) pss_nil) (pss_cons (ps_set (i := 3) sc__law_asked.nd rfl (Or.inl rfl) (pe_kd k_is_row (hr.mono (by decide)) (by rfl) (pa_cons (pe_callTy (k_list T.K rfl) (by rfl) z_list PyProof.Rows.boot_list (pa_cons (pv 0) pa_nil)) pa_nil))) (pss_cons (ps_ret (pe_and (pe_callB (k_isi T.K rfl) (by rfl) z_isinstance (by decide +kernel) (pa_cons (pv 3) (pa_cons (pe_bltn (v := .ty "bool") (by rfl) z_bool (by decide +kernel) rfl) pa_nil))) (pe_one (pe_cmpR op_eq (pv 3) (pv 1) rfl)))) pss_nil)))))))))), ?_⟩
  rintro ⟨v_levels, _⟩
  show BD _ _ _ (m__law_asked v_levels) _
  unfold m__law_asked
  refine bd_set (Evm.cast (evm_callF rfl (eva_cons (evm_raw (evm_var rfl)) eva_nil)) (by first | rfl | (simp only [R.bind_assoc, R.bind_ok, R.bind_right, R.of_some, compR_map, compR_filter, R.ifm_ok, R.ite_and, R.ite_or]; done) | (simp only [R.bind_assoc, R.bind_ok, R.bind_right, R.of_some, compR_map, compR_filter, R.ifm_ok, R.ite_ok, R.ite_and, R.ite_or]; done))) trivial (lt_of rfl) ?_
  intro v_due_1
  refine bd_if (EvT.cast (evt_and (evt_test (evm_opT (evm_cbT (eva_cons (evm_raw (evm_var rfl)) eva_nil) fun _ => ra_len) evm_int fun _ _ => rv_IB)) (evt_test (evm_opT (evm_callF rfl (eva_cons (evm_raw (evm_var rfl)) eva_nil)) (evm_var rfl) fun _ _ => rv_neB))) (by first | rfl | (simp only [R.bind_assoc, R.bind_ok, R.bind_right, R.of_some, compR_map, compR_filter, R.ifm_ok, R.ite_and, R.ite_or]; done) | (simp only [R.bind_assoc, R.bind_ok, R.bind_right, R.of_some, compR_map, compR_filter, R.ifm_ok, R.ite_ok, R.ite_and, R.ite_or]; done))) ?_ ?_
  · refine bd_assoc ?_
    exact bd_ret1 rfl (Evm.cast evm_bl (by first | rfl | (simp only [R.bind_assoc, R.bind_ok, R.bind_right, R.of_some, compR_map, compR_filter, R.ifm_ok, R.ite_and, R.ite_or]; done) | (simp only [R.bind_assoc, R.bind_ok, R.bind_right, R.of_some, compR_map, compR_filter, R.ifm_ok, R.ite_ok, R.ite_and, R.ite_or]; done))) (fun _ => rfl)
  · refine bd_nil ?_
    refine bd_setNP (EvN.cast (evn_flat (l2 := .fr) (evn_listof (evm_var rfl))) (by first | rfl | (simp only [R.bind_assoc, R.bind_ok, R.bind_right, R.of_some, compR_map, compR_filter, R.ifm_ok, R.ite_and, R.ite_or]; done) | (simp only [R.bind_assoc, R.bind_ok, R.bind_right, R.of_some, compR_map, compR_filter, R.ifm_ok, R.ite_ok, R.ite_and, R.ite_or]; done))) trivial (lt_of rfl) ?_
    intro v_handed_3
    refine bd_set (Evm.cast (evm_callF rfl (eva_cons (evm_own rfl) eva_nil)) (by first | rfl | (simp only [R.bind_assoc, R.bind_ok, R.bind_right, R.of_some, compR_map, compR_filter, R.ifm_ok, R.ite_and, R.ite_or]; done) | (simp only [R.bind_assoc, R.bind_ok, R.bind_right, R.of_some, compR_map, compR_filter, R.ifm_ok, R.ite_ok, R.ite_and, R.ite_or]; done))) trivial (lt_of rfl) ?_
    intro v_told_4
    refine bd_if (EvT.cast (evt_or (evt_not (evt_B (evm_isi (b := true) (evm_var rfl) (by decide +kernel)))) (evt_or (evt_test (evm_opT (evm_var rfl) (evm_var rfl) fun _ _ => rv_neB)) (evt_test (evm_opT (evm_own rfl) (evm_var rfl) fun _ _ => rv_neD)))) (by first | rfl | (simp only [R.bind_assoc, R.bind_ok, R.bind_right, R.of_some, compR_map, compR_filter, R.ifm_ok, R.ite_and, R.ite_or]; done) | (simp only [R.bind_assoc, R.bind_ok, R.bind_right, R.of_some, compR_map, compR_filter, R.ifm_ok, R.ite_ok, R.ite_and, R.ite_or]; done))) ?_ ?_
    · refine bd_assoc ?_
      exact bd_ret1 rfl (Evm.cast evm_bl (by first | rfl | (simp only [R.bind_assoc, R.bind_ok, R.bind_right, R.of_some, compR_map, compR_filter, R.ifm_ok, R.ite_and, R.ite_or]; done) | (simp only [R.bind_assoc, R.bind_ok, R.bind_right, R.of_some, compR_map, compR_filter, R.ifm_ok, R.ite_ok, R.ite_and, R.ite_or]; done))) (fun _ => rfl)
    · refine bd_nil ?_
      refine bd_join (es := (fun s11 : (List Int) => [.sh .pa (enc (v_levels : (List Int))), .sh .fr (enc (v_due_1 : Bool)), .ow .fr ((s11 : (List Int)).map enc), .sh .fr (enc (v_told_4 : Bool))])) (bd_tail ?_) ?_
      · refine bd_if (EvT.cast (evt_test (evm_opT (evm_cbT (eva_cons (evm_own rfl) eva_nil) fun _ => ra_len) evm_int fun _ _ => rv_eqI)) (by first | rfl | (simp only [R.bind_assoc, R.bind_ok, R.bind_right, R.of_some, compR_map, compR_filter, R.ifm_ok, R.ite_and, R.ite_or]; done) | (simp only [R.bind_assoc, R.bind_ok, R.bind_right, R.of_some, compR_map, compR_filter, R.ifm_ok, R.ite_ok, R.ite_and, R.ite_or]; done))) ?_ ?_
        · refine bd_assoc ?_
          refine bd_app (by rfl) (Evm.cast evm_int (by first | rfl | (simp only [R.bind_assoc, R.bind_ok, R.bind_right, R.of_some, compR_map, compR_filter, R.ifm_ok, R.ite_and, R.ite_or]; done) | (simp only [R.bind_assoc, R.bind_ok, R.bind_right, R.of_some, compR_map, compR_filter, R.ifm_ok, R.ite_ok, R.ite_and, R.ite_or]; done))) ?_
          intro v_handed_12
          refine bd_nil ?_
          exact bd_end (Wk.keep (Wk.keep (Wk.keep (Wk.keep Wk.nil)))) rfl
        · refine bd_assoc ?_
          refine bd_seti (by rfl) (Evm.cast (evm_opT (evm_ixo rfl (evm_opT (evm_cbT (eva_cons (evm_own rfl) eva_nil) fun _ => ra_len) evm_int fun _ _ => rv_II)) evm_int fun _ _ => rv_II) (by first | rfl | (simp only [R.bind_assoc, R.bind_ok, R.bind_right, R.of_some, compR_map, compR_filter, R.ifm_ok, R.ite_and, R.ite_or]; done) | (simp only [R.bind_assoc, R.bind_ok, R.bind_right, R.of_some, compR_map, compR_filter, R.ifm_ok, R.ite_ok, R.ite_and, R.ite_or]; done))) (Evm.cast (evm_opT (evm_cbT (eva_cons (evm_own rfl) eva_nil) fun _ => ra_len) evm_int fun _ _ => rv_II) (by first | rfl | (simp only [R.bind_assoc, R.bind_ok, R.bind_right, R.of_some, compR_map, compR_filter, R.ifm_ok, R.ite_and, R.ite_or]; done) | (simp only [R.bind_assoc, R.bind_ok, R.bind_right, R.of_some, compR_map, compR_filter, R.ifm_ok, R.ite_ok, R.ite_and, R.ite_or]; done))) ?_
          intro v_handed_15
          refine bd_nil ?_
          exact bd_end (Wk.keep (Wk.keep (Wk.keep (Wk.keep Wk.nil)))) rfl
      intro s11
      refine bd_set (Evm.cast (evm_callF rfl (eva_cons (evm_own rfl) eva_nil)) (by first | rfl | (simp only [R.bind_assoc, R.bind_ok, R.bind_right, R.of_some, compR_map, compR_filter, R.ifm_ok, R.ite_and, R.ite_or]; done) | (simp only [R.bind_assoc, R.bind_ok, R.bind_right, R.of_some, compR_map, compR_filter, R.ifm_ok, R.ite_ok, R.ite_and, R.ite_or]; done))) trivial (lt_of rfl) ?_
      intro v_told_18
      refine bd_if (EvT.cast (evt_or (evt_not (evt_B (evm_isi (b := true) (evm_var rfl) (by decide +kernel)))) (evt_test (evm_opT (evm_var rfl) (evm_callF rfl (eva_cons (evm_own rfl) eva_nil)) fun _ _ => rv_neB))) (by first | rfl | (simp only [R.bind_assoc, R.bind_ok, R.bind_right, R.of_some, compR_map, compR_filter, R.ifm_ok, R.ite_and, R.ite_or]; done) | (simp only [R.bind_assoc, R.bind_ok, R.bind_right, R.of_some, compR_map, compR_filter, R.ifm_ok, R.ite_ok, R.ite_and, R.ite_or]; done))) ?_ ?_
      · refine bd_assoc ?_
        exact bd_ret1 rfl (Evm.cast evm_bl (by first | rfl | (simp only [R.bind_assoc, R.bind_ok, R.bind_right, R.of_some, compR_map, compR_filter, R.ifm_ok, R.ite_and, R.ite_or]; done) | (simp only [R.bind_assoc, R.bind_ok, R.bind_right, R.of_some, compR_map, compR_filter, R.ifm_ok, R.ite_ok, R.ite_and, R.ite_or]; done))) (fun _ => rfl)
      · refine bd_nil ?_
        refine bd_set (Evm.cast (evm_callF rfl (eva_cons (evm_raw (evn_ev (evn_flat (l2 := .fr) (evn_listof (evm_var rfl))))) eva_nil)) (by first | rfl | (simp only [R.bind_assoc, R.bind_ok, R.bind_right, R.of_some, compR_map, compR_filter, R.ifm_ok, R.ite_and, R.ite_or]; done) | (simp only [R.bind_assoc, R.bind_ok, R.bind_right, R.of_some, compR_map, compR_filter, R.ifm_ok, R.ite_ok, R.ite_and, R.ite_or]; done))) trivial (lt_of rfl) ?_
        intro v_told_20
        exact bd_ret1 rfl (Evm.cast (evm_and (evm_isi (b := true) (evm_var rfl) (by decide +kernel)) (evm_opT (evm_var rfl) (evm_var rfl) fun _ _ => rv_eqB)) (by first | rfl | (simp only [R.bind_assoc, R.bind_ok, R.bind_right, R.of_some, compR_map, compR_filter, R.ifm_ok, R.ite_and, R.ite_or]; done) | (simp only [R.bind_assoc, R.bind_ok, R.bind_right, R.of_some, compR_map, compR_filter, R.ifm_ok, R.ite_ok, R.ite_and, R.ite_or]; done))) (fun _ => rfl)
theorem ok__law_sizes {f : Addr} {fd : FuncData} (F : Fun K "_law_sizes" "_law_sizes" s__law_sizes f fd) (hT : T.K = K) (z_len : mg "len" = none) (z_range : mg "range" = none) :
    FnOk P w K mg base CX0 1 f fd ["_law_row"] (Pm T (.nw .fr) (fun b : (List Int) × Unit => m__law_sizes b.1)) := by
  subst hT
  refine fn_pm F sc__law_sizes (fun _ => rfl) fun cdv A outer s H E hr => ⟨_, (pss_cons (ps_set (i := 1) sc__law_sizes.nd rfl (Or.inl rfl) (pe_lst pa_nil)) (pss_cons (ps_for PassesOwn.never rfl (pi_range1 (by rfl) z_range (pa_cons (pe_callB (k_len T.K rfl) (by rfl) z_len PySem.boot_len (pa_cons (pv 0) pa_nil)) pa_nil)) (pg_name (i := 2) sc__law_sizes.nd rfl (Or.inr rfl)) (pss_cons (ps_if (pw_or (pt_cmpR op_eq (pv 2) pe_int rfl) (pw_or1 (pt_cmpR op_ne (pe_ix (k_ixl T.K rfl) (pv 0) (pv 2) (fun _ _ => rfl)) (pe_ix (k_ixl T.K rfl) (pv 0) (pe_op op_sub (pv 2) pe_int) (fun _ _ => rfl)) rfl))).pt (pss_cons (ps_expr (pe_bm PySem.F.plainAttrs_list PySem.F.slot_list_append PySem.F.type_list_append mt_append (pv 1) (pa_cons (pe_callB (k_len T.K rfl) (by rfl) z_len PySem.boot_len (pa_cons (pe_lc (own := [("_law_x", 3)]) (g := (gName 3)) rfl sc__law_sizes.nd (k_pil T.K rfl (pv 0)) (blkOk_by (N := N__law_sizes) (sc := defScope s__law_sizes) (by decide +kernel)) (fun _ _ _ _ _ => (pg_name (i := 3) sc__law_sizes.nd rfl (Or.inl rfl))) (fun _ _ _ _ _ => (pts_one (pt_cmpR op_eq (pv 3) (pe_ix (k_ixl T.K rfl) (pv 0) (pv 2) (fun _ _ => rfl)) rfl))) (fun _ _ _ _ _ => (pv 3))) pa_nil)) pa_nil))) pss_nil) pss_nil) pss_nil)) (pss_cons (ps_ret (pv 1)) pss_nil))), ?_⟩
  rintro ⟨v_row, _⟩
  show BD _ _ _ (m__law_sizes v_row) _
  unfold m__law_sizes
  refine bd_setNP (EvN.cast (evn_lst (l := .fr) (f := fun b : Unit => ([] : (List Int))) eva_nil (fun _ => rfl) (fun _ => by show (0 : Nat) ≤ 1000; decide)) (by first | rfl | (simp only [R.bind_assoc, R.bind_ok, R.bind_right, R.of_some, compR_map, compR_filter, R.ifm_ok, R.ite_and, R.ite_or]; done) | (simp only [R.bind_assoc, R.bind_ok, R.bind_right, R.of_some, compR_map, compR_filter, R.ifm_ok, R.ite_ok, R.ite_and, R.ite_or]; done))) trivial (lt_of rfl) ?_
  intro v_out_1
  refine bd_fold (l1 := .fr) (es := (fun s3 : (List Int) => [.sh .pa (enc (v_row : (List Int))), .ow .fr ((s3 : (List Int)).map enc), .un, .un])) (EvI.cast (evi_rng1 (evm_cbT (eva_cons (evm_raw (evm_var rfl)) eva_nil) fun _ => ra_len)) (by first | rfl | (simp only [R.bind_assoc, R.bind_ok, R.bind_right, R.of_some, compR_map, compR_filter, R.ifm_ok, R.ite_and, R.ite_or]; done) | (simp only [R.bind_assoc, R.bind_ok, R.bind_right, R.of_some, compR_map, compR_filter, R.ifm_ok, R.ite_ok, R.ite_and, R.ite_or]; done))) trivial (Wk.keep (Wk.keep (Wk.keep (Wk.keep Wk.nil)))) (tg_name trivial) (hu1 fun _ => rfl) ?_ ?_
  · intro x2 s3
    unfold m__law_sizes_b1
    refine bd_join (es := (fun s12 : (List Int) => [.sh .pa (enc (v_row : (List Int))), .ow .fr ((s12 : (List Int)).map enc), .sh .fr (enc (x2 : Int)), .un])) (bd_tail ?_) ?_
    · refine bd_if (EvT.cast (evt_or (evt_test (evm_opT (evm_var rfl) evm_int fun _ _ => rv_eqI)) (evt_test (evm_opT (evm_flat (l2 := .fr) (evm_ix (evm_var rfl) (evm_var rfl))) (evm_flat (l2 := .fr) (evm_ix (evm_var rfl) (evm_opT (evm_var rfl) evm_int fun _ _ => rv_II))) fun _ _ => rv_neI))) (by first | rfl | (simp only [R.bind_assoc, R.bind_ok, R.bind_right, R.of_some, compR_map, compR_filter, R.ifm_ok, R.ite_and, R.ite_or]; done) | (simp only [R.bind_assoc, R.bind_ok, R.bind_right, R.of_some, compR_map, compR_filter, R.ifm_ok, R.ite_ok, R.ite_and, R.ite_or]; done))) ?_ ?_
      · refine bd_assoc ?_
        refine bd_app (by rfl) (Evm.cast (evm_cbT (eva_cons (evm_raw (evn_ev (evn_lc (l := .fr) (l1 := .pa) (l3 := .fr) rfl trivial trivial (.inr fun _ _ _ _ _ _ h => h.flat) (evi_list (evm_var rfl)) (hv1 rfl rfl) (tg_name trivial) (fun x13 => (evt_test (evm_opT (evm_var rfl) (evm_flat (l2 := .fr) (evm_ix (evm_var rfl) (evm_var rfl))) fun _ _ => rv_eqI))) (fun x13 => (evm_var rfl))))) eva_nil) fun _ => ra_len) (by first | rfl | (simp only [R.bind_assoc, R.bind_ok, R.bind_right, R.of_some, compR_map, compR_filter, R.ifm_ok, R.ite_and, R.ite_or]; done) | (simp only [R.bind_assoc, R.bind_ok, R.bind_right, R.of_some, compR_map, compR_filter, R.ifm_ok, R.ite_ok, R.ite_and, R.ite_or]; done))) ?_
        intro v_out_17
        refine bd_nil ?_
        exact bd_end (Wk.keep (Wk.keep (Wk.keep (Wk.keep Wk.nil)))) rfl
      · refine bd_nil ?_
        exact bd_end (Wk.keep (Wk.keep (Wk.keep (Wk.keep Wk.nil)))) rfl
    intro s12
    exact bd_end (Wk.keep (Wk.keep (Wk.lose (Wk.keep Wk.nil)))) rfl
  intro s3
  exact bd_retO rfl (by rfl) (by rfl)
theorem ok_Span_width {f : Addr} {fd : FuncData} (F : Fun K "width" "Span.width" s_Span_width f fd) (hT : T.K = K) (y_Span : KdC P w K mg base T 0 "Span" ["least", "most"] ["self", "least", "most"] 1) :
    FnOk P w K mg base CX0 3 f fd ["self"] (Pm T (.val .fr) (fun b : O_Span × Unit => m_Span_width b.1)) := by
  subst hT
  refine fn_pm F sc_Span_width (fun _ => rfl) fun cdv A outer s H E hr => ⟨_, (pss_cons (ps_ret (pe_op op_sub (pe_fld (pv 0) rfl) (pe_fld (pv 0) rfl))) pss_nil), ?_⟩
  rintro ⟨v_self, _⟩
  show BD _ _ _ (m_Span_width v_self) _
  unfold m_Span_width
  exact bd_ret1 rfl (Evm.cast (evm_opT (evm_flat (l2 := .fr) (evm_fldK (i := 1) (ks := (fun o : O_Span => [enc o.least, enc o.most])) (g := fun o : O_Span => o.most) y_Span (evm_var rfl) (fun _ => rfl) (fun _ => rfl) rfl)) (evm_flat (l2 := .fr) (evm_fldK (i := 0) (ks := (fun o : O_Span => [enc o.least, enc o.most])) (g := fun o : O_Span => o.least) y_Span (evm_var rfl) (fun _ => rfl) (fun _ => rfl) rfl)) fun _ _ => rv_II) (by first | rfl | (simp only [R.bind_assoc, R.bind_ok, R.bind_right, R.of_some, compR_map, compR_filter, R.ifm_ok, R.ite_and, R.ite_or]; done) | (simp only [R.bind_assoc, R.bind_ok, R.bind_right, R.of_some, compR_map, compR_filter, R.ifm_ok, R.ite_ok, R.ite_and, R.ite_or]; done))) (fun _ => rfl)
theorem ok__law_ends {f : Addr} {fd : FuncData} (F : Fun K "_law_ends" "_law_ends" s__law_ends f fd) (hT : T.K = K) (k_Span_width : ∃ p a fd, PropOf K (T.addr 0) "width" p a ∧ Binds K fd ["self"] [] ∧ FnOk P w K mg base CX0 3 a fd ["self"] (Pm T (.val .fr) (fun b : O_Span × Unit => m_Span_width b.1))) (k__law_is_int : Kd P w K mg base CX0 "_law_is_int" ["_law_x"] 1 (Pm T (.val .fr) (fun b : Int × Unit => m__law_is_int b.1))) (k__law_is_ints : Kd P w K mg base CX0 "_law_is_ints" ["_law_xs"] 2 (Pm T (.val .fr) (fun b : (List Int) × Unit => m__law_is_ints b.1))) (k__law_sizes : Kd P w K mg base CX0 "_law_sizes" ["_law_row"] 1 (Pm T (.nw .fr) (fun b : (List Int) × Unit => m__law_sizes b.1))) (k_blocks : Kd P w K mg base CX0 "blocks" ["row"] 1 (Pm T (.nw .fr) (fun b : (List Int) × Unit => m_blocks b.1))) (k_span_of_row : Kd P w K mg base CX0 "span_of_row" ["row"] 3 (Pm T (.val .fr) (fun b : (List Int) × Unit => m_span_of_row b.1))) (y_Span : KdC P w K mg base T 0 "Span" ["least", "most"] ["self", "least", "most"] 1) (z_isinstance : mg "isinstance" = none) (z_len : mg "len" = none) (z_list : mg "list" = none) :
    FnOk P w K mg base CX0 5 f fd ["_law_row"] (Pm T (.val .fr) (fun b : (List Int) × Unit => m__law_ends b.1)) := by
  subst hT
  refine fn_pm F sc__law_ends (fun _ => rfl) fun cdv A outer s H E hr => ⟨_, (pss_cons (ps_set (i := 1) sc__law_ends.nd rfl (Or.inl rfl) pe_int) (pss_cons (ps_set (i := 2) sc__law_ends.nd rfl (Or.inl rfl) pe_int) (pss_cons (ps_if (pt_cmpR op_gt (pe_callB (k_len T.K rfl) (by rfl) z_len PySem.boot_len (pa_cons (pv 0) pa_nil)) pe_int rfl) (pss_cons (ps_set (i := 1) sc__law_ends.nd rfl (Or.inl rfl) (pe_op op_add (pe_ix (k_ixl T.K rfl) (pv 0) (pe_op op_sub (pe_callB (k_len T.K rfl) (by rfl) z_len PySem.boot_len (pa_cons (pv 0) pa_nil)) pe_int) (fun _ _ => rfl)) pe_int)) (pss_cons (ps_set (i := 2) sc__law_ends.nd rfl (Or.inl rfl) (pe_op op_add (pe_callB (k_len T.K rfl) (by rfl) z_len PySem.boot_len (pa_cons (pv 0) pa_nil)) (pe_ix (k_ixl T.K rfl) (pv 0) pe_int (fun _ _ => rfl)))) pss_nil)) pss_nil) (pss_cons (ps_set (i := 3) sc__law_ends.nd rfl (Or.inl rfl) (pe_callTy (k_list T.K rfl) (by rfl) z_list PyProof.Rows.boot_list (pa_cons (pv 0) pa_nil))) (pss_cons (ps_set (i := 4) sc__law_ends.nd rfl (Or.inl rfl) (pe_kd k_blocks (hr.mono (by decide)) (by rfl) (pa_cons (pv 3) pa_nil))) (pss_cons (ps_if (pw_or (pt_not (pt_val (pe_kd k__law_is_ints (hr.mono (by decide)) (by rfl) (pa_cons (pv 4) pa_nil)))) (pw_or (pt_cmpR (k_neD T.K rfl hr.units) (pv 4) (pe_kd k__law_sizes (hr.mono (by decide)) (by rfl) (pa_cons (pv 0) pa_nil)) rfl) (pw_or1 (pt_cmpR (k_neD T.K rfl hr.units) (pv 3) (pv 0) rfl)))).pt (pss_cons (ps_ret pe_bl) pss_nil) pss_nil) (pss_cons (ps_expr (pe_bm PySem.F.plainAttrs_list PySem.F.slot_list_append PySem.F.type_list_append mt_append (pv 4) (pa_cons pe_int pa_nil))) (pss_cons (ps_set (i := 4) sc__law_ends.nd rfl (Or.inl rfl) (pe_kd k_blocks (hr.mono (by decide)) (by rfl) (pa_cons (pv 3) pa_nil))) (pss_cons (ps_if (pw_or (pt_not (pt_val (pe_kd k__law_is_ints (hr.mono (by decide)) (by rfl) (pa_cons (pv 4) pa_nil)))) (pw_or1 (pt_cmpR (k_neD T.K rfl hr.units) (pv 4) (pe_kd k__law_sizes (hr.mono (by decide)) (by rfl) (pa_cons (pv 0) pa_nil)) rfl))).pt (pss_cons (ps_ret pe_bl) pss_nil) pss_nil) (pss_cons (ps_set (i := 5) sc__law_ends.nd rfl (Or.inl rfl) (pe_kd k_span_of_row (hr.mono (by decide)) (by rfl) (pa_cons (pv 3) pa_nil))) (pss_cons (ps_if (pw_or (pt_not (pt_val (pe_callB (C8.call_isC y_Span.isc) (by rfl) z_isinstance (by decide +kernel) (pa_cons (pv 5) (pa_cons (C8.pe_gc (v := .ref (T.addr 0)) (by rfl) ⟨_, y_Span.gm, rfl⟩) pa_nil))))) (pw_or (pt_not (pt_val (pe_kd k__law_is_int (hr.mono (by decide)) (by rfl) (pa_cons (pe_fld (pv 5) rfl) pa_nil)))) (pw_or1 (pt_not (pt_val (pe_kd k__law_is_int (hr.mono (by decide)) (by rfl) (pa_cons (pe_fld (pv 5) rfl) pa_nil))))))).pt (pss_cons (ps_ret pe_bl) pss_nil) pss_nil) (pss_cons (ps_if (pw_or (pt_not (pt_val (pe_kd k__law_is_int (hr.mono (by decide)) (by rfl) (pa_cons (pe_kprop (pv 5) y_Span.cl k_Span_width (hr.mono (by decide)) rfl) pa_nil)))) (pw_or (pt_cmpR op_ne (pe_kprop (pv 5) y_Span.cl k_Span_width (hr.mono (by decide)) rfl) (pe_op op_sub (pv 2) (pv 1)) rfl) (pw_or1 (pt_cmpR (k_neD T.K rfl hr.units) (pv 3) (pv 0) rfl)))).pt (pss_cons (ps_ret pe_bl) pss_nil) pss_nil) (pss_cons (ps_ret (pe_and (pe_cmpR op_eq (pe_fld (pv 5) rfl) (pv 1) rfl) (pe_one (pe_cmpR op_eq (pe_fld (pv 5) rfl) (pv 2) rfl)))) pss_nil))))))))))))), ?_⟩
  rintro ⟨v_row, _⟩
  show BD _ _ _ (m__law_ends v_row) _
  unfold m__law_ends
  refine bd_setP (Evm.cast evm_int (by first | rfl | (simp only [R.bind_assoc, R.bind_ok, R.bind_right, R.of_some, compR_map, compR_filter, R.ifm_ok, R.ite_and, R.ite_or]; done) | (simp only [R.bind_assoc, R.bind_ok, R.bind_right, R.of_some, compR_map, compR_filter, R.ifm_ok, R.ite_ok, R.ite_and, R.ite_or]; done))) trivial (lt_of rfl) ?_
  intro v_lowest_1
  refine bd_setP (Evm.cast evm_int (by first | rfl | (simp only [R.bind_assoc, R.bind_ok, R.bind_right, R.of_some, compR_map, compR_filter, R.ifm_ok, R.ite_and, R.ite_or]; done) | (simp only [R.bind_assoc, R.bind_ok, R.bind_right, R.of_some, compR_map, compR_filter, R.ifm_ok, R.ite_ok, R.ite_and, R.ite_or]; done))) trivial (lt_of rfl) ?_
  intro v_highest_2
  refine bd_join (es := (fun s7 : Int × Int => [.sh .pa (enc (v_row : (List Int))), .sh .fr (enc (s7.1 : Int)), .sh .fr (enc (s7.2 : Int)), .un, .un, .un])) (bd_tail ?_) ?_
  · refine bd_if (EvT.cast (evt_test (evm_opT (evm_cbT (eva_cons (evm_raw (evm_var rfl)) eva_nil) fun _ => ra_len) evm_int fun _ _ => rv_IB)) (by first | rfl | (simp only [R.bind_assoc, R.bind_ok, R.bind_right, R.of_some, compR_map, compR_filter, R.ifm_ok, R.ite_and, R.ite_or]; done) | (simp only [R.bind_assoc, R.bind_ok, R.bind_right, R.of_some, compR_map, compR_filter, R.ifm_ok, R.ite_ok, R.ite_and, R.ite_or]; done))) ?_ ?_
    · refine bd_assoc ?_
      refine bd_set (Evm.cast (evm_opT (evm_flat (l2 := .fr) (evm_ix (evm_var rfl) (evm_opT (evm_cbT (eva_cons (evm_raw (evm_var rfl)) eva_nil) fun _ => ra_len) evm_int fun _ _ => rv_II))) evm_int fun _ _ => rv_II) (by first | rfl | (simp only [R.bind_assoc, R.bind_ok, R.bind_right, R.of_some, compR_map, compR_filter, R.ifm_ok, R.ite_and, R.ite_or]; done) | (simp only [R.bind_assoc, R.bind_ok, R.bind_right, R.of_some, compR_map, compR_filter, R.ifm_ok, R.ite_ok, R.ite_and, R.ite_or]; done))) trivial (lt_of rfl) ?_
      intro v_lowest_9
      refine bd_assoc ?_
      refine bd_set (Evm.cast (evm_opT (evm_cbT (eva_cons (evm_raw (evm_var rfl)) eva_nil) fun _ => ra_len) (evm_flat (l2 := .fr) (evm_ix (evm_var rfl) evm_int)) fun _ _ => rv_II) (by first | rfl | (simp only [R.bind_assoc, R.bind_ok, R.bind_right, R.of_some, compR_map, compR_filter, R.ifm_ok, R.ite_and, R.ite_or]; done) | (simp only [R.bind_assoc, R.bind_ok, R.bind_right, R.of_some, compR_map, compR_filter, R.ifm_ok, R.ite_ok, R.ite_and, R.ite_or]; done))) trivial (lt_of rfl) ?_
      intro v_highest_11
      refine bd_nil ?_
      exact bd_end (Wk.keep (Wk.keep (Wk.keep (Wk.keep (Wk.keep (Wk.keep Wk.nil)))))) rfl
    · refine bd_nil ?_
      exact bd_end (Wk.keep (Wk.keep (Wk.keep (Wk.keep (Wk.keep (Wk.keep Wk.nil)))))) rfl
  intro s7
  refine bd_setNP (EvN.cast (evn_flat (l2 := .fr) (evn_listof (evm_var rfl))) (by first | rfl | (simp only [R.bind_assoc, R.bind_ok, R.bind_right, R.of_some, compR_map, compR_filter, R.ifm_ok, R.ite_and, R.ite_or]; done) | (simp only [R.bind_assoc, R.bind_ok, R.bind_right, R.of_some, compR_map, compR_filter, R.ifm_ok, R.ite_ok, R.ite_and, R.ite_or]; done))) trivial (lt_of rfl) ?_
  intro v_handed_12
  refine bd_setN (EvN.cast (evn_callF rfl (eva_cons (evm_own rfl) eva_nil)) (by first | rfl | (simp only [R.bind_assoc, R.bind_ok, R.bind_right, R.of_some, compR_map, compR_filter, R.ifm_ok, R.ite_and, R.ite_or]; done) | (simp only [R.bind_assoc, R.bind_ok, R.bind_right, R.of_some, compR_map, compR_filter, R.ifm_ok, R.ite_ok, R.ite_and, R.ite_or]; done))) trivial (lt_of rfl) ?_
  intro v_sizes_13
  refine bd_if (EvT.cast (evt_or (evt_not (evt_B (evm_callF rfl (eva_cons (evm_own rfl) eva_nil)))) (evt_or (evt_test (evm_opT (evm_own rfl) (evn_ev (evn_callF rfl (eva_cons (evm_raw (evm_var rfl)) eva_nil))) fun _ _ => rv_neD)) (evt_test (evm_opT (evm_own rfl) (evm_var rfl) fun _ _ => rv_neD)))) (by first | rfl | (simp only [R.bind_assoc, R.bind_ok, R.bind_right, R.of_some, compR_map, compR_filter, R.ifm_ok, R.ite_and, R.ite_or]; done) | (simp only [R.bind_assoc, R.bind_ok, R.bind_right, R.of_some, compR_map, compR_filter, R.ifm_ok, R.ite_ok, R.ite_and, R.ite_or]; done))) ?_ ?_
  · refine bd_assoc ?_
    exact bd_ret1 rfl (Evm.cast evm_bl (by first | rfl | (simp only [R.bind_assoc, R.bind_ok, R.bind_right, R.of_some, compR_map, compR_filter, R.ifm_ok, R.ite_and, R.ite_or]; done) | (simp only [R.bind_assoc, R.bind_ok, R.bind_right, R.of_some, compR_map, compR_filter, R.ifm_ok, R.ite_ok, R.ite_and, R.ite_or]; done))) (fun _ => rfl)
  · refine bd_nil ?_
    refine bd_app (by rfl) (Evm.cast evm_int (by first | rfl | (simp only [R.bind_assoc, R.bind_ok, R.bind_right, R.of_some, compR_map, compR_filter, R.ifm_ok, R.ite_and, R.ite_or]; done) | (simp only [R.bind_assoc, R.bind_ok, R.bind_right, R.of_some, compR_map, compR_filter, R.ifm_ok, R.ite_ok, R.ite_and, R.ite_or]; done))) ?_
    intro v_sizes_18
    refine bd_setN (EvN.cast (evn_callF rfl (eva_cons (evm_own rfl) eva_nil)) (by first | rfl | (simp only [R.bind_assoc, R.bind_ok, R.bind_right, R.of_some, compR_map, compR_filter, R.ifm_ok, R.ite_and, R.ite_or]; done) | (simp only [R.bind_assoc, R.bind_ok, R.bind_right, R.of_some, compR_map, compR_filter, R.ifm_ok, R.ite_ok, R.ite_and, R.ite_or]; done))) trivial (lt_of rfl) ?_
    intro v_sizes_19
    refine bd_if (EvT.cast (evt_or (evt_not (evt_B (evm_callF rfl (eva_cons (evm_own rfl) eva_nil)))) (evt_test (evm_opT (evm_own rfl) (evn_ev (evn_callF rfl (eva_cons (evm_raw (evm_var rfl)) eva_nil))) fun _ _ => rv_neD))) (by first | rfl | (simp only [R.bind_assoc, R.bind_ok, R.bind_right, R.of_some, compR_map, compR_filter, R.ifm_ok, R.ite_and, R.ite_or]; done) | (simp only [R.bind_assoc, R.bind_ok, R.bind_right, R.of_some, compR_map, compR_filter, R.ifm_ok, R.ite_ok, R.ite_and, R.ite_or]; done))) ?_ ?_
    · refine bd_assoc ?_
      exact bd_ret1 rfl (Evm.cast evm_bl (by first | rfl | (simp only [R.bind_assoc, R.bind_ok, R.bind_right, R.of_some, compR_map, compR_filter, R.ifm_ok, R.ite_and, R.ite_or]; done) | (simp only [R.bind_assoc, R.bind_ok, R.bind_right, R.of_some, compR_map, compR_filter, R.ifm_ok, R.ite_ok, R.ite_and, R.ite_or]; done))) (fun _ => rfl)
    · refine bd_nil ?_
      refine bd_set (Evm.cast (evm_callF rfl (eva_cons (evm_own rfl) eva_nil)) (by first | rfl | (simp only [R.bind_assoc, R.bind_ok, R.bind_right, R.of_some, compR_map, compR_filter, R.ifm_ok, R.ite_and, R.ite_or]; done) | (simp only [R.bind_assoc, R.bind_ok, R.bind_right, R.of_some, compR_map, compR_filter, R.ifm_ok, R.ite_ok, R.ite_and, R.ite_or]; done))) trivial (lt_of rfl) ?_
      intro v_span_23
      refine bd_if (EvT.cast (evt_or (evt_not (evt_B (evm_isC (ks := (fun o : O_Span => [enc o.least, enc o.most])) (evm_var rfl) (fun _ => rfl)))) (evt_or (evt_not (evt_B (evm_callF rfl (eva_cons (evm_flat (l2 := .raw) (evm_fldK (i := 0) (ks := (fun o : O_Span => [enc o.least, enc o.most])) (g := fun o : O_Span => o.least) y_Span (evm_var rfl) (fun _ => rfl) (fun _ => rfl) rfl)) eva_nil)))) (evt_not (evt_B (evm_callF rfl (eva_cons (evm_flat (l2 := .raw) (evm_fldK (i := 1) (ks := (fun o : O_Span => [enc o.least, enc o.most])) (g := fun o : O_Span => o.most) y_Span (evm_var rfl) (fun _ => rfl) (fun _ => rfl) rfl)) eva_nil)))))) (by first | rfl | (simp only [R.bind_assoc, R.bind_ok, R.bind_right, R.of_some, compR_map, compR_filter, R.ifm_ok, R.ite_and, R.ite_or]; done) | (simp only [R.bind_assoc, R.bind_ok, R.bind_right, R.of_some, compR_map, compR_filter, R.ifm_ok, R.ite_ok, R.ite_and, R.ite_or]; done))) ?_ ?_
      · refine bd_assoc ?_
        exact bd_ret1 rfl (Evm.cast evm_bl (by first | rfl | (simp only [R.bind_assoc, R.bind_ok, R.bind_right, R.of_some, compR_map, compR_filter, R.ifm_ok, R.ite_and, R.ite_or]; done) | (simp only [R.bind_assoc, R.bind_ok, R.bind_right, R.of_some, compR_map, compR_filter, R.ifm_ok, R.ite_ok, R.ite_and, R.ite_or]; done))) (fun _ => rfl)
      · refine bd_nil ?_
        refine bd_if (EvT.cast (evt_or (evt_not (evt_B (evm_callF rfl (eva_cons (evm_flat (l2 := .raw) (evm_prop (ks := (fun o : O_Span => [enc o.least, enc o.most])) rfl (evm_var rfl) (fun _ => rfl))) eva_nil)))) (evt_or (evt_test (evm_opT (evm_prop (ks := (fun o : O_Span => [enc o.least, enc o.most])) rfl (evm_var rfl) (fun _ => rfl)) (evm_opT (evm_var rfl) (evm_var rfl) fun _ _ => rv_II) fun _ _ => rv_neI)) (evt_test (evm_opT (evm_own rfl) (evm_var rfl) fun _ _ => rv_neD)))) (by first | rfl | (simp only [R.bind_assoc, R.bind_ok, R.bind_right, R.of_some, compR_map, compR_filter, R.ifm_ok, R.ite_and, R.ite_or]; done) | (simp only [R.bind_assoc, R.bind_ok, R.bind_right, R.of_some, compR_map, compR_filter, R.ifm_ok, R.ite_ok, R.ite_and, R.ite_or]; done))) ?_ ?_
        · refine bd_assoc ?_
          exact bd_ret1 rfl (Evm.cast evm_bl (by first | rfl | (simp only [R.bind_assoc, R.bind_ok, R.bind_right, R.of_some, compR_map, compR_filter, R.ifm_ok, R.ite_and, R.ite_or]; done) | (simp only [R.bind_assoc, R.bind_ok, R.bind_right, R.of_some, compR_map, compR_filter, R.ifm_ok, R.ite_ok, R.ite_and, R.ite_or]; done))) (fun _ => rfl)
        · refine bd_nil ?_
          exact bd_ret1 rfl (Evm.cast (evm_and (evm_opT (evm_fldK (i := 0) (ks := (fun o : O_Span => [enc o.least, enc o.most])) (g := fun o : O_Span => o.least) y_Span (evm_var rfl) (fun _ => rfl) (fun _ => rfl) rfl) (evm_var rfl) fun _ _ => rv_eqI) (evm_opT (evm_fldK (i := 1) (ks := (fun o : O_Span => [enc o.least, enc o.most])) (g := fun o : O_Span => o.most) y_Span (evm_var rfl) (fun _ => rfl) (fun _ => rfl) rfl) (evm_var rfl) fun _ _ => rv_eqI)) (by first | rfl | (simp only [R.bind_assoc, R.bind_ok, R.bind_right, R.of_some, compR_map, compR_filter, R.ifm_ok, R.ite_and, R.ite_or]; done) | (simp only [R.bind_assoc, R.bind_ok, R.bind_right, R.of_some, compR_map, compR_filter, R.ifm_ok, R.ite_ok, R.ite_and, R.ite_or]; done))) (fun _ => rfl)
theorem ok_law {f : Addr} {fd : FuncData} (F : Fun K "law" "law" s_law f fd) (hT : T.K = K) (k__law_asked : Kd P w K mg base CX0 "_law_asked" ["_law_levels"] 2 (Pm T (.val .fr) (fun b : (List Int) × Unit => m__law_asked b.1))) (k__law_cell : Kd P w K mg base CX0 "_law_cell" ["_law_script", "_law_k"] 1 (Pm T (.val .fr) (fun b : Scr × Int × Unit => m__law_cell b.1 b.2.1))) (k__law_draws : Kd P w K mg base CX0 "_law_draws" ["_law_cell_here", "_law_sizes_here"] 1 (Pm T (.nw .fr) (fun b : Int × (List Int) × Unit => m__law_draws b.1 b.2.1))) (k__law_ends : Kd P w K mg base CX0 "_law_ends" ["_law_row"] 5 (Pm T (.val .fr) (fun b : (List Int) × Unit => m__law_ends b.1))) (k__law_good_row : Kd P w K mg base CX0 "_law_good_row" ["_law_script", "_law_at", "_law_count", "_law_bar"] 2 (Pm T (.nw .fr) (fun b : Scr × Int × Int × Int × Unit => m__law_good_row b.1 b.2.1 b.2.2.1 b.2.2.2.1))) (k__law_spoilt : Kd P w K mg base CX0 "_law_spoilt" ["_law_row", "_law_kind", "_law_index", "_law_size"] 1 (Pm T (.nw .fr) (fun b : (List Int) × Int × Int × Int × Unit => m__law_spoilt b.1 b.2.1 b.2.2.1 b.2.2.2.1))) (z_int : mg "int" = none) (z_range : mg "range" = none) :
    FnOk P w K mg base CX0 6 f fd ["_law_script"] (Pm T (.val .fr) (fun b : Scr × Unit => m_law b.1)) := by
  subst hT
  refine fn_pm F sc_law (fun _ => rfl) fun cdv A outer s H E hr => ⟨_, (pss_cons (ps_set (i := 1) sc_law.nd rfl (Or.inl rfl) (pe_kd k__law_draws (hr.mono (by decide)) (by rfl) (pa_cons (pe_kd k__law_cell (hr.mono (by decide)) (by rfl) (pa_cons (pv 0) (pa_cons pe_int pa_nil))) (pa_cons (pe_lst (pa_cons pe_int (pa_cons pe_int (pa_cons pe_int (pa_cons pe_int (pa_cons pe_int (pa_cons pe_int (pa_cons pe_int (pa_cons pe_int pa_nil))))))))) pa_nil)))) (pss_cons (ps_set (i := 2) sc_law.nd rfl (Or.inl rfl) (pe_ix (k_ixl T.K rfl) (pv 1) pe_int (fun _ _ => rfl))) (pss_cons (ps_if (pt_cmpR op_lt (pe_ix (k_ixl T.K rfl) (pv 1) pe_int (fun _ _ => rfl)) pe_int rfl) (pss_cons (ps_set (i := 2) sc_law.nd rfl (Or.inl rfl) (pe_ix (k_ixl T.K rfl) (pv 1) pe_int (fun _ _ => rfl))) pss_nil) pss_nil) (pss_cons (ps_if (pt_cmpR op_eq (pe_ix (k_ixl T.K rfl) (pv 1) pe_int (fun _ _ => rfl)) pe_int rfl) (pss_cons (ps_set (i := 2) sc_law.nd rfl (Or.inl rfl) (pe_ix (k_ixl T.K rfl) (pv 1) pe_int (fun _ _ => rfl))) pss_nil) pss_nil) (pss_cons (ps_set (i := 3) sc_law.nd rfl (Or.inl rfl) (pe_kd k__law_good_row (hr.mono (by decide)) (by rfl) (pa_cons (pv 0) (pa_cons pe_int (pa_cons (pv 2) (pa_cons (pe_op op_mul pe_int (pe_ix (k_ixl T.K rfl) (pv 1) pe_int (fun _ _ => rfl))) pa_nil)))))) (pss_cons (ps_set (i := 4) sc_law.nd rfl (Or.inl rfl) (pe_kd k__law_spoilt (hr.mono (by decide)) (by rfl) (pa_cons (pv 3) (pa_cons (pe_ix (k_ixl T.K rfl) (pv 1) pe_int (fun _ _ => rfl)) (pa_cons (pe_ix (k_ixl T.K rfl) (pv 1) pe_int (fun _ _ => rfl)) (pa_cons (pe_ix (k_ixl T.K rfl) (pv 1) pe_int (fun _ _ => rfl)) pa_nil)))))) (pss_cons (ps_if (pt_cmpR op_eq (pe_ix (k_ixl T.K rfl) (pv 1) pe_int (fun _ _ => rfl)) pe_int rfl) (pss_cons (ps_set (i := 8) sc_law.nd rfl (Or.inr rfl) (pe_ix (k_ixl T.K rfl) (pe_lst (pa_cons pe_int (pa_cons pe_int pa_nil))) (pe_op op_mod (pe_callTy call_int1 (by rfl) z_int PyProof.Rows.boot_int (pa_cons (pe_ix (k_ixl T.K rfl) (pv 1) pe_int (fun _ _ => rfl)) pa_nil)) pe_int) (fun _ _ => rfl))) (pss_cons (ps_setLc (i := 4) (own := [("_law_x", 9)]) (g := (gName 9)) rfl sc_law.nd rfl rfl (sw_true rfl rfl rfl (by decide +kernel)) (k_pil T.K rfl (pe_kd k__law_draws (hr.mono (by decide)) (by rfl) (pa_cons (pe_kd k__law_cell (hr.mono (by decide)) (by rfl) (pa_cons (pv 0) (pa_cons pe_int pa_nil))) (pa_cons (pe_lc (own := [("_law_k", 10)]) (g := (gName 10)) rfl sc_law.nd (pi_range1 (by rfl) z_range (pa_cons (pv 2) pa_nil)) (blkOk_by (N := N_law) (sc := defScope s_law) (by decide +kernel)) (fun _ _ _ _ _ => (pg_name (i := 10) sc_law.nd rfl (Or.inl rfl))) (fun _ _ _ _ _ => pts_nil) (fun _ _ _ _ _ => (pv 8))) pa_nil)))) (blkOk_by (N := N_law) (sc := defScope s_law) (by decide +kernel)) (fun _ _ _ _ _ => (pg_name (i := 9) sc_law.nd rfl (Or.inl rfl))) (fun _ _ _ _ _ => pts_nil) (fun _ _ _ _ _ => (pe_op op_sub (pv 9) (pe_op op_fdivW (pv 8) pe_int)))) pss_nil)) pss_nil) (pss_cons (ps_set (i := 5) sc_law.nd rfl (Or.inr rfl) (pe_kd k__law_draws (hr.mono (by decide)) (by rfl) (pa_cons (pe_kd k__law_cell (hr.mono (by decide)) (by rfl) (pa_cons (pv 0) (pa_cons pe_int pa_nil))) (pa_cons (pe_lst (pa_cons (pe_op op_add (pv 2) pe_int) (pa_cons pe_int (pa_cons pe_int pa_nil)))) pa_nil)))) (pss_cons (ps_set (i := 6) sc_law.nd rfl (Or.inr rfl) (pe_op op_mod (pe_callTy call_int1 (by rfl) z_int PyProof.Rows.boot_int (pa_cons (pe_ix (k_ixl T.K rfl) (pv 5) pe_int (fun _ _ => rfl)) pa_nil)) (pe_op op_add (pe_op op_sub (pv 2) (pe_ix (k_ixl T.K rfl) (pv 5) pe_int (fun _ _ => rfl))) pe_int))) (pss_cons (ps_setLc (i := 7) (own := [("_law_x", 9)]) (g := (gName 9)) rfl sc_law.nd rfl rfl (sw_true rfl rfl rfl (by decide +kernel)) (k_pil T.K rfl (pe_slice (k_sll T.K rfl) (pv 3) (po_some (pe_ix (k_ixl T.K rfl) (pv 5) pe_int (fun _ _ => rfl))) (po_some (pe_op op_sub (pv 2) (pv 6))))) (blkOk_by (N := N_law) (sc := defScope s_law) (by decide +kernel)) (fun _ _ _ _ _ => (pg_name (i := 9) sc_law.nd rfl (Or.inl rfl))) (fun _ _ _ _ _ => pts_nil) (fun _ _ _ _ _ => (pe_op op_add (pe_op op_add (pv 9) (pv 6)) (pe_ix (k_ixl T.K rfl) (pv 5) pe_int (fun _ _ => rfl))))) (pss_cons (ps_ret (pe_and (pe_kd k__law_asked (hr.mono (by decide)) (by rfl) (pa_cons (pv 4) pa_nil)) (pe_and (pe_kd k__law_asked (hr.mono (by decide)) (by rfl) (pa_cons (pv 7) pa_nil)) (pe_and (pe_kd k__law_ends (hr.mono (by decide)) (by rfl) (pa_cons (pv 3) pa_nil)) (pe_one (pe_kd k__law_ends (hr.mono (by decide)) (by rfl) (pa_cons (pv 7) pa_nil))))))) pss_nil))))))))))), ?_⟩
  rintro ⟨v_script, _⟩
  show BD _ _ _ (m_law v_script) _
  unfold m_law
  refine bd_setN (EvN.cast (evn_callF rfl (eva_cons (evm_flat (l2 := .raw) (evm_callF rfl (eva_cons (evm_raw (evm_var rfl)) (eva_cons (evm_flat (l2 := .raw) evm_int) eva_nil)))) (eva_cons (evm_raw (evn_ev (evn_lst (l := .fr) (f := fun b : Int × Int × Int × Int × Int × Int × Int × Int × Unit => ([b.1, b.2.1, b.2.2.1, b.2.2.2.1, b.2.2.2.2.1, b.2.2.2.2.2.1, b.2.2.2.2.2.2.1, b.2.2.2.2.2.2.2.1] : (List Int))) (eva_cons evm_int (eva_cons evm_int (eva_cons evm_int (eva_cons evm_int (eva_cons evm_int (eva_cons evm_int (eva_cons evm_int (eva_cons evm_int eva_nil)))))))) (fun _ => rfl) (fun _ => by show (8 : Nat) ≤ 1000; decide)))) eva_nil))) (by first | rfl | (simp only [R.bind_assoc, R.bind_ok, R.bind_right, R.of_some, compR_map, compR_filter, R.ifm_ok, R.ite_and, R.ite_or]; done) | (simp only [R.bind_assoc, R.bind_ok, R.bind_right, R.of_some, compR_map, compR_filter, R.ifm_ok, R.ite_ok, R.ite_and, R.ite_or]; done))) trivial (lt_of rfl) ?_
  intro v_shape_2
  refine bd_set (Evm.cast (evm_ixo rfl evm_int) (by first | rfl | (simp only [R.bind_assoc, R.bind_ok, R.bind_right, R.of_some, compR_map, compR_filter, R.ifm_ok, R.ite_and, R.ite_or]; done) | (simp only [R.bind_assoc, R.bind_ok, R.bind_right, R.of_some, compR_map, compR_filter, R.ifm_ok, R.ite_ok, R.ite_and, R.ite_or]; done))) trivial (lt_of rfl) ?_
  intro v_count_3
  refine bd_join (es := (fun s6 : Int => [.sh .pa (enc (v_script : Scr)), .ow .fr ((v_shape_2 : (List Int)).map enc), .sh .fr (enc (s6 : Int)), .un, .un, .un, .un, .un, .un, .un, .un])) (bd_tail ?_) ?_
  · refine bd_if (EvT.cast (evt_test (evm_opT (evm_ixo rfl evm_int) evm_int fun _ _ => rv_IB)) (by first | rfl | (simp only [R.bind_assoc, R.bind_ok, R.bind_right, R.of_some, compR_map, compR_filter, R.ifm_ok, R.ite_and, R.ite_or]; done) | (simp only [R.bind_assoc, R.bind_ok, R.bind_right, R.of_some, compR_map, compR_filter, R.ifm_ok, R.ite_ok, R.ite_and, R.ite_or]; done))) ?_ ?_
    · refine bd_assoc ?_
      refine bd_set (Evm.cast (evm_ixo rfl evm_int) (by first | rfl | (simp only [R.bind_assoc, R.bind_ok, R.bind_right, R.of_some, compR_map, compR_filter, R.ifm_ok, R.ite_and, R.ite_or]; done) | (simp only [R.bind_assoc, R.bind_ok, R.bind_right, R.of_some, compR_map, compR_filter, R.ifm_ok, R.ite_ok, R.ite_and, R.ite_or]; done))) trivial (lt_of rfl) ?_
      intro v_count_7
      refine bd_nil ?_
      exact bd_end (Wk.keep (Wk.keep (Wk.keep (Wk.keep (Wk.keep (Wk.keep (Wk.keep (Wk.keep (Wk.keep (Wk.keep (Wk.keep Wk.nil))))))))))) rfl
    · refine bd_nil ?_
      exact bd_end (Wk.keep (Wk.keep (Wk.keep (Wk.keep (Wk.keep (Wk.keep (Wk.keep (Wk.keep (Wk.keep (Wk.keep (Wk.keep Wk.nil))))))))))) rfl
  intro s6
  refine bd_join (es := (fun s10 : Int => [.sh .pa (enc (v_script : Scr)), .ow .fr ((v_shape_2 : (List Int)).map enc), .sh .fr (enc (s10 : Int)), .un, .un, .un, .un, .un, .un, .un, .un])) (bd_tail ?_) ?_
  · refine bd_if (EvT.cast (evt_test (evm_opT (evm_ixo rfl evm_int) evm_int fun _ _ => rv_eqI)) (by first | rfl | (simp only [R.bind_assoc, R.bind_ok, R.bind_right, R.of_some, compR_map, compR_filter, R.ifm_ok, R.ite_and, R.ite_or]; done) | (simp only [R.bind_assoc, R.bind_ok, R.bind_right, R.of_some, compR_map, compR_filter, R.ifm_ok, R.ite_ok, R.ite_and, R.ite_or]; done))) ?_ ?_
    · refine bd_assoc ?_
      refine bd_set (Evm.cast (evm_ixo rfl evm_int) (by first | rfl | (simp only [R.bind_assoc, R.bind_ok, R.bind_right, R.of_some, compR_map, compR_filter, R.ifm_ok, R.ite_and, R.ite_or]; done) | (simp only [R.bind_assoc, R.bind_ok, R.bind_right, R.of_some, compR_map, compR_filter, R.ifm_ok, R.ite_ok, R.ite_and, R.ite_or]; done))) trivial (lt_of rfl) ?_
      intro v_count_11
      refine bd_nil ?_
      exact bd_end (Wk.keep (Wk.keep (Wk.keep (Wk.keep (Wk.keep (Wk.keep (Wk.keep (Wk.keep (Wk.keep (Wk.keep (Wk.keep Wk.nil))))))))))) rfl
    · refine bd_nil ?_
      exact bd_end (Wk.keep (Wk.keep (Wk.keep (Wk.keep (Wk.keep (Wk.keep (Wk.keep (Wk.keep (Wk.keep (Wk.keep (Wk.keep Wk.nil))))))))))) rfl
  intro s10
  refine bd_setN (EvN.cast (evn_callF rfl (eva_cons (evm_raw (evm_var rfl)) (eva_cons (evm_flat (l2 := .raw) evm_int) (eva_cons (evm_flat (l2 := .raw) (evm_var rfl)) (eva_cons (evm_flat (l2 := .raw) (evm_op evm_int (evm_ixo rfl evm_int) fun _ _ _ _ => rv_mul)) eva_nil))))) (by first | rfl | (simp only [R.bind_assoc, R.bind_ok, R.bind_right, R.of_some, compR_map, compR_filter, R.ifm_ok, R.ite_and, R.ite_or]; done) | (simp only [R.bind_assoc, R.bind_ok, R.bind_right, R.of_some, compR_map, compR_filter, R.ifm_ok, R.ite_ok, R.ite_and, R.ite_or]; done))) trivial (lt_of rfl) ?_
  intro v_row_15
  refine bd_setN (EvN.cast (evn_callF rfl (eva_cons (evm_own rfl) (eva_cons (evm_flat (l2 := .raw) (evm_ixo rfl evm_int)) (eva_cons (evm_flat (l2 := .raw) (evm_ixo rfl evm_int)) (eva_cons (evm_flat (l2 := .raw) (evm_ixo rfl evm_int)) eva_nil))))) (by first | rfl | (simp only [R.bind_assoc, R.bind_ok, R.bind_right, R.of_some, compR_map, compR_filter, R.ifm_ok, R.ite_and, R.ite_or]; done) | (simp only [R.bind_assoc, R.bind_ok, R.bind_right, R.of_some, compR_map, compR_filter, R.ifm_ok, R.ite_ok, R.ite_and, R.ite_or]; done))) trivial (lt_of rfl) ?_
  intro v_levels_19
  refine bd_join (es := (fun s34 : (List Int) => [.sh .pa (enc (v_script : Scr)), .ow .fr ((v_shape_2 : (List Int)).map enc), .sh .fr (enc (s10 : Int)), .ow .fr ((v_row_15 : (List Int)).map enc), .ow .fr ((s34 : (List Int)).map enc), .un, .un, .un, .un, .un, .un])) (bd_tail ?_) ?_
  · refine bd_if (EvT.cast (evt_test (evm_opT (evm_ixo rfl evm_int) evm_int fun _ _ => rv_eqI)) (by first | rfl | (simp only [R.bind_assoc, R.bind_ok, R.bind_right, R.of_some, compR_map, compR_filter, R.ifm_ok, R.ite_and, R.ite_or]; done) | (simp only [R.bind_assoc, R.bind_ok, R.bind_right, R.of_some, compR_map, compR_filter, R.ifm_ok, R.ite_ok, R.ite_and, R.ite_or]; done))) ?_ ?_
    · refine bd_assoc ?_
      refine bd_set (Evm.cast (evm_ix (evn_ev (evn_lst (l := .fr) (f := fun b : Int × Int × Unit => ([b.1, b.2.1] : (List Int))) (eva_cons evm_int (eva_cons evm_int eva_nil)) (fun _ => rfl) (fun _ => by show (2 : Nat) ≤ 1000; decide))) (evm_op (evm_cbT (eva_cons (evm_flat (l2 := .raw) (evm_ixo rfl evm_int)) eva_nil) fun _ => ra_int) evm_int fun _ _ _ _ => rv_mod)) (by first | rfl | (simp only [R.bind_assoc, R.bind_ok, R.bind_right, R.of_some, compR_map, compR_filter, R.ifm_ok, R.ite_and, R.ite_or]; done) | (simp only [R.bind_assoc, R.bind_ok, R.bind_right, R.of_some, compR_map, compR_filter, R.ifm_ok, R.ite_ok, R.ite_and, R.ite_or]; done))) trivial (lt_of rfl) ?_
      intro v_size_39
      refine bd_assoc ?_
      refine bd_setN (EvN.cast (evn_lc (l := .fr) (l1 := .fr) (l3 := .fr) rfl trivial trivial (.inl rfl) (evi_list (evn_ev (evn_callF rfl (eva_cons (evm_flat (l2 := .raw) (evm_callF rfl (eva_cons (evm_raw (evm_var rfl)) (eva_cons (evm_flat (l2 := .raw) evm_int) eva_nil)))) (eva_cons (evm_raw (evn_ev (evn_lc (l := .fr) (l1 := .fr) (l3 := .fr) rfl trivial trivial (.inl rfl) (evi_rng1 (evm_var rfl)) (hv1 rfl rfl) (tg_name trivial) (fun x40 => evt_yes) (fun x40 => (evm_var rfl))))) eva_nil))))) (hv1 rfl rfl) (tg_name trivial) (fun x44 => evt_yes) (fun x44 => (evm_opT (evm_var rfl) (evm_op (evm_var rfl) evm_int fun _ _ _ _ => rv_div) fun _ _ => rv_II))) (by first | rfl | (simp only [R.bind_assoc, R.bind_ok, R.bind_right, R.of_some, compR_map, compR_filter, R.ifm_ok, R.ite_and, R.ite_or]; done) | (simp only [R.bind_assoc, R.bind_ok, R.bind_right, R.of_some, compR_map, compR_filter, R.ifm_ok, R.ite_ok, R.ite_and, R.ite_or]; done))) trivial (lt_of rfl) ?_
      intro v_levels_47
      refine bd_nil ?_
      exact bd_end (Wk.keep (Wk.keep (Wk.keep (Wk.keep (Wk.keep (Wk.keep (Wk.keep (Wk.keep (Wk.lose (Wk.keep (Wk.keep Wk.nil))))))))))) rfl
    · refine bd_nil ?_
      exact bd_end (Wk.keep (Wk.keep (Wk.keep (Wk.keep (Wk.keep (Wk.keep (Wk.keep (Wk.keep (Wk.keep (Wk.keep (Wk.keep Wk.nil))))))))))) rfl
  intro s34
  refine bd_setN (EvN.cast (evn_callF rfl (eva_cons (evm_flat (l2 := .raw) (evm_callF rfl (eva_cons (evm_raw (evm_var rfl)) (eva_cons (evm_flat (l2 := .raw) evm_int) eva_nil)))) (eva_cons (evm_raw (evn_ev (evn_lst (l := .fr) (f := fun b : Int × Int × Int × Unit => ([b.1, b.2.1, b.2.2.1] : (List Int))) (eva_cons (evm_opT (evm_var rfl) evm_int fun _ _ => rv_II) (eva_cons evm_int (eva_cons evm_int eva_nil))) (fun _ => rfl) (fun _ => by show (3 : Nat) ≤ 1000; decide)))) eva_nil))) (by first | rfl | (simp only [R.bind_assoc, R.bind_ok, R.bind_right, R.of_some, compR_map, compR_filter, R.ifm_ok, R.ite_and, R.ite_or]; done) | (simp only [R.bind_assoc, R.bind_ok, R.bind_right, R.of_some, compR_map, compR_filter, R.ifm_ok, R.ite_ok, R.ite_and, R.ite_or]; done))) trivial (lt_of rfl) ?_
  intro v_cuts_49
  refine bd_set (Evm.cast (evm_op (evm_cbT (eva_cons (evm_flat (l2 := .raw) (evm_ixo rfl evm_int)) eva_nil) fun _ => ra_int) (evm_opT (evm_opT (evm_var rfl) (evm_ixo rfl evm_int) fun _ _ => rv_II) evm_int fun _ _ => rv_II) fun _ _ _ _ => rv_mod) (by first | rfl | (simp only [R.bind_assoc, R.bind_ok, R.bind_right, R.of_some, compR_map, compR_filter, R.ifm_ok, R.ite_and, R.ite_or]; done) | (simp only [R.bind_assoc, R.bind_ok, R.bind_right, R.of_some, compR_map, compR_filter, R.ifm_ok, R.ite_ok, R.ite_and, R.ite_or]; done))) trivial (lt_of rfl) ?_
  intro v_high_57
  refine bd_setN (EvN.cast (evn_lc (l := .fr) (l1 := .fr) (l3 := .fr) rfl trivial trivial (.inl rfl) (evi_list (evn_ev (evn_slo rfl (evo_some (evm_ixo rfl evm_int)) (evo_some (evm_opT (evm_var rfl) (evm_var rfl) fun _ _ => rv_II))))) (hv1 rfl rfl) (tg_name trivial) (fun x59 => evt_yes) (fun x59 => (evm_opT (evm_opT (evm_var rfl) (evm_var rfl) fun _ _ => rv_II) (evm_ixo rfl evm_int) fun _ _ => rv_II))) (by first | rfl | (simp only [R.bind_assoc, R.bind_ok, R.bind_right, R.of_some, compR_map, compR_filter, R.ifm_ok, R.ite_and, R.ite_or]; done) | (simp only [R.bind_assoc, R.bind_ok, R.bind_right, R.of_some, compR_map, compR_filter, R.ifm_ok, R.ite_ok, R.ite_and, R.ite_or]; done))) trivial (lt_of rfl) ?_
  intro v_moved_62
  exact bd_ret1 rfl (Evm.cast (evm_and (evm_callF rfl (eva_cons (evm_own rfl) eva_nil)) (evm_and (evm_callF rfl (eva_cons (evm_own rfl) eva_nil)) (evm_and (evm_callF rfl (eva_cons (evm_own rfl) eva_nil)) (evm_callF rfl (eva_cons (evm_own rfl) eva_nil))))) (by first | rfl | (simp only [R.bind_assoc, R.bind_ok, R.bind_right, R.of_some, compR_map, compR_filter, R.ifm_ok, R.ite_and, R.ite_or]; done) | (simp only [R.bind_assoc, R.bind_ok, R.bind_right, R.of_some, compR_map, compR_filter, R.ifm_ok, R.ite_ok, R.ite_and, R.ite_or]; done))) (fun _ => rfl)
end
end K05

set_option Elab.async false
set_option linter.all false
set_option maxRecDepth 100000
set_option maxHeartbeats 4000000
namespace K05
open PySem PySem.Spec L2 Pv
open Enc (enc)
open Encs (encs)
/-! ### what is drawn -/
theorem cell_ok (x : Scr) (k : Int) (h : 0 ≤ k) : Ok (m__law_cell x k) fun _ => True := by
  unfold m__law_cell
  repeat (with_reducible first | refine Ok.bind ?_ | refine Ok.lt ?_ | refine Ok.ifm ?_ | refine Ok.ok ?_)
  refine Ok.ite (fun e => ?_) fun e => ?_
  · rw [decide_eq_true_iff] at e
    repeat (with_reducible first | refine Ok.bind ?_ | refine Ok.lt ?_ | refine Ok.ifm ?_ | refine Ok.ok ?_)
    refine Ok.at h e fun a _ => ?_
    repeat (with_reducible first | refine Ok.bind ?_ | refine Ok.lt ?_ | refine Ok.ifm ?_ | refine Ok.ok ?_)
    trivial
  · repeat (with_reducible first | refine Ok.bind ?_ | refine Ok.lt ?_ | refine Ok.ifm ?_ | refine Ok.ok ?_)
    refine Ok.ite (fun e => ?_) fun e => ?_
    · rw [decide_eq_true_iff] at e
      repeat (with_reducible first | refine Ok.bind ?_ | refine Ok.lt ?_ | refine Ok.ifm ?_ | refine Ok.ok ?_)
      refine Ok.at (by omega) e fun a _ => ?_
      repeat (with_reducible first | refine Ok.bind ?_ | refine Ok.lt ?_ | refine Ok.ifm ?_ | refine Ok.ok ?_)
      refine Ok.mul (.inl (by decide)) ?_
      repeat (with_reducible first | refine Ok.bind ?_ | refine Ok.lt ?_ | refine Ok.ifm ?_ | refine Ok.ok ?_)
      trivial
    · exact Ok.mul (.inl (by decide)) trivial
def Drawn (sizes out : List Int) : Prop := out.length = sizes.length ∧ ∀ (i : Nat) (a z : Int), out[i]? = some a → sizes[i]? = some z → 0 ≤ a ∧ a < z
theorem Drawn.snoc {sizes out : List Int} {n : Nat} {a z : Int} (h : Drawn (sizes.take n) out) (hz : sizes[n]? = some z) (h0 : 0 ≤ a) (h1 : a < z) : Drawn (sizes.take (n + 1)) (out ++ [a]) := by
  have hn : n < sizes.length := (List.getElem?_eq_some_iff.mp hz).1
  have hl := h.1
  rw [List.length_take, Nat.min_eq_left (by omega)] at hl
  refine ⟨by rw [List.length_append, List.length_take, hl, Nat.min_eq_left (by omega)]; rfl, fun i b y hb hy => ?_⟩
  by_cases c : i < n
  · rw [List.getElem?_append_left (by omega)] at hb
    refine h.2 i b y hb ?_
    rw [List.getElem?_take_of_lt (by omega)] at hy
    rw [List.getElem?_take_of_lt (by omega)]
    exact hy
  · have hi : i < (sizes.take (n + 1)).length := (List.getElem?_eq_some_iff.mp hy).1
    rw [List.length_take] at hi
    have : i = n := by omega
    subst this
    rw [List.getElem?_append_right (by omega), hl, Nat.sub_self] at hb
    rw [List.getElem?_take_of_lt (by omega), hz] at hy
    cases hb
    cases hy
    exact ⟨h0, h1⟩
theorem draws_ok (c : Int) (sizes : List Int) (hl : sizes.length ≤ 1000) (hz : ∀ z, z ∈ sizes → 0 < z ∧ z < 1000000) : Ok (m__law_draws c sizes) (Drawn sizes) := by
  unfold m__law_draws
  repeat (with_reducible first | refine Ok.bind ?_ | refine Ok.lt ?_ | refine Ok.ifm ?_ | refine Ok.ok ?_)
  refine Ok.opt (by decide) ?_
  repeat (with_reducible first | refine Ok.bind ?_ | refine Ok.lt ?_ | refine Ok.ifm ?_ | refine Ok.ok ?_)
  refine Ok.range (by omega) ?_
  repeat (with_reducible first | refine Ok.bind ?_ | refine Ok.lt ?_ | refine Ok.ifm ?_ | refine Ok.ok ?_)
  refine Ok.foldRng (fun i s => Drawn (sizes.take i) s.1) ⟨rfl, fun i a z h _ => by simp at h⟩ (fun i hi s hs => ?_) fun s hs => Ok.ok (by rw [Int.toNat_natCast, List.take_length] at hs; exact hs)
  have hin : i < sizes.length := by omega
  have hget : sizes[i]? = some sizes[i] := List.getElem?_eq_getElem hin
  have hzi := hz sizes[i] (List.getElem_mem hin)
  have hs1 : s.1.length < LIM := by
    rw [hs.1, List.length_take]
    exact Nat.lt_of_le_of_lt (Nat.min_le_right _ _) (Nat.lt_of_le_of_lt hl (by decide))
  have at_ : ∀ {Q : Int → Prop}, Q sizes[i] → Ok (R.of (atI sizes (i : Int))) Q := fun q => Ok.at (by omega) (by omega) fun a ha => by
    rw [Int.toNat_natCast, hget] at ha
    cases ha
    exact q
  have big : sizes[i] < 2 ^ 4000 := Int.lt_of_lt_of_le hzi.2 (by decide +kernel)
  unfold m__law_draws_b1
  repeat (with_reducible first | refine Ok.bind ?_ | refine Ok.lt ?_ | refine Ok.ifm ?_ | refine Ok.ok ?_)
  refine Ok.ite (fun _ => ?_) fun _ => ?_
  · repeat (with_reducible first | refine Ok.bind ?_ | refine Ok.lt ?_ | refine Ok.ifm ?_ | refine Ok.ok ?_)
    refine at_ (Ok.mod hzi.1 ?_)
    repeat (with_reducible first | refine Ok.bind ?_ | refine Ok.lt ?_ | refine Ok.ifm ?_ | refine Ok.ok ?_)
    refine Ok.app hs1 ?_
    repeat (with_reducible first | refine Ok.bind ?_ | refine Ok.lt ?_ | refine Ok.ifm ?_ | refine Ok.ok ?_)
    refine at_ (Ok.div hzi.1 big ?_)
    repeat (with_reducible first | refine Ok.bind ?_ | refine Ok.lt ?_ | refine Ok.ifm ?_ | refine Ok.ok ?_)
    exact hs.snoc hget (Int.emod_nonneg _ (by omega)) (Int.emod_lt_of_pos _ hzi.1)
  · repeat (with_reducible first | refine Ok.bind ?_ | refine Ok.lt ?_ | refine Ok.ifm ?_ | refine Ok.ok ?_)
    refine Ok.mul (.inl (by decide)) ?_
    repeat (with_reducible first | refine Ok.bind ?_ | refine Ok.lt ?_ | refine Ok.ifm ?_ | refine Ok.ok ?_)
    refine Ok.mod (by decide) ?_
    repeat (with_reducible first | refine Ok.bind ?_ | refine Ok.lt ?_ | refine Ok.ifm ?_ | refine Ok.ok ?_)
    refine Ok.mul (.inl (by omega)) ?_
    repeat (with_reducible first | refine Ok.bind ?_ | refine Ok.lt ?_ | refine Ok.ifm ?_ | refine Ok.ok ?_)
    refine Ok.mod (by decide) ?_
    repeat (with_reducible first | refine Ok.bind ?_ | refine Ok.lt ?_ | refine Ok.ifm ?_ | refine Ok.ok ?_)
    refine Ok.mul (.inl (by omega)) ?_
    repeat (with_reducible first | refine Ok.bind ?_ | refine Ok.lt ?_ | refine Ok.ifm ?_ | refine Ok.ok ?_)
    refine Ok.mul (.inl (by decide)) ?_
    repeat (with_reducible first | refine Ok.bind ?_ | refine Ok.lt ?_ | refine Ok.ifm ?_ | refine Ok.ok ?_)
    refine Ok.mod (by decide) ?_
    repeat (with_reducible first | refine Ok.bind ?_ | refine Ok.lt ?_ | refine Ok.ifm ?_ | refine Ok.ok ?_)
    refine Ok.div (by decide) (by decide +kernel) ?_
    repeat (with_reducible first | refine Ok.bind ?_ | refine Ok.lt ?_ | refine Ok.ifm ?_ | refine Ok.ok ?_)
    refine at_ (Ok.mod hzi.1 ?_)
    repeat (with_reducible first | refine Ok.bind ?_ | refine Ok.lt ?_ | refine Ok.ifm ?_ | refine Ok.ok ?_)
    refine Ok.app hs1 ?_
    repeat (with_reducible first | refine Ok.bind ?_ | refine Ok.lt ?_ | refine Ok.ifm ?_ | refine Ok.ok ?_)
    exact hs.snoc hget (Int.emod_nonneg _ (by omega)) (Int.emod_lt_of_pos _ hzi.1)
/-! ### rising lists -/
theorem le_last {xs : List Int} {a : Int} (h : xs.Pairwise (· ≤ ·)) (hl : xs[xs.length - 1]? = some a) : ∀ z, z ∈ xs → z ≤ a := fun z hz => by
  obtain ⟨i, hi, e⟩ := List.getElem_of_mem hz
  obtain ⟨hj, ej⟩ := List.getElem?_eq_some_iff.mp hl
  by_cases c : i = xs.length - 1
  · subst c
    omega
  · have := List.pairwise_iff_getElem.mp h i (xs.length - 1) hi hj (by omega)
    omega
theorem pair_snoc {xs : List Int} {a b : Int} (h : xs.Pairwise (· ≤ ·)) (hl : xs[xs.length - 1]? = some a) (hb : a ≤ b) : (xs ++ [b]).Pairwise (· ≤ ·) := by
  rw [List.pairwise_append]
  refine ⟨h, List.pairwise_singleton _ _, fun x hx y hy => ?_⟩
  rw [List.mem_singleton] at hy
  have := le_last h hl x hx
  omega
theorem sum_bits : ∀ xs : List Int, (∀ x, x ∈ xs → 0 ≤ x ∧ x ≤ 1) → 0 ≤ xs.sum ∧ xs.sum ≤ xs.length
  | [], _ => by decide
  | x :: xs, h => by
    have h1 := h x (List.mem_cons_self ..)
    have h2 := sum_bits xs fun y hy => h y (List.mem_cons_of_mem _ hy)
    rw [List.sum_cons, List.length_cons]
    omega
theorem good_ok (x : Scr) (k n b : Int) (hk : 0 ≤ k) (hn : 0 ≤ n ∧ n ≤ 40) : Ok (m__law_good_row x k n b) fun row => row.length = n.toNat ∧ row.Pairwise (· ≤ ·) := by
  unfold m__law_good_row
  repeat (with_reducible first | refine Ok.bind ?_ | refine Ok.lt ?_ | refine Ok.ifm ?_ | refine Ok.ok ?_)
  refine Ok.ite (fun e => ?_) fun e => ?_
  · rw [decide_eq_true_iff] at e
    repeat (with_reducible first | refine Ok.bind ?_ | refine Ok.lt ?_ | refine Ok.ifm ?_ | refine Ok.ok ?_)
    rw [e]
    exact ⟨rfl, List.Pairwise.nil⟩
  · rw [decide_eq_false_iff_not] at e
    repeat (with_reducible first | refine Ok.bind ?_ | refine Ok.lt ?_ | refine Ok.ifm ?_ | refine Ok.ok ?_)
    refine (cell_ok x k hk).imp fun c _ => ?_
    repeat (with_reducible first | refine Ok.bind ?_ | refine Ok.lt ?_ | refine Ok.ifm ?_ | refine Ok.ok ?_)
    refine Ok.range (by omega) ?_
    repeat (with_reducible first | refine Ok.bind ?_ | refine Ok.lt ?_ | refine Ok.ifm ?_ | refine Ok.ok ?_)
    have hl : (((Pv.rng 0 (n - 1)).map fun _ : Int => (6 : Int)).length : Int) = n - 1 := by
      rw [List.length_map, rng_len]
      omega
    refine (draws_ok c _ (by omega) (fun z hz => by
      obtain ⟨_, _, e⟩ := List.mem_map.mp hz
      omega)).imp fun o ho => ?_
    repeat (with_reducible first | refine Ok.bind ?_ | refine Ok.lt ?_ | refine Ok.ifm ?_ | refine Ok.ok ?_)
    generalize hr : (o.map fun x5 : Int => if (decide (b < x5)) then (1 : Int) else 0) = rs
    have hrl : (rs.length : Int) = n - 1 := by
      rw [← hr, List.length_map, ho.1]
      exact hl
    have hrb : ∀ z, z ∈ rs → 0 ≤ z ∧ z ≤ 1 := fun z hz => by
      rw [← hr] at hz
      obtain ⟨y, _, e⟩ := List.mem_map.mp hz
      rw [← e]
      split <;> decide
    have hsum := sum_bits rs hrb
    refine (cell_ok x (k + 1) (by omega)).imp fun c2 _ => ?_
    refine (draws_ok c2 _ (by show 1 ≤ 1000; decide) (fun z hz => by
      rw [List.mem_singleton] at hz
      omega)).imp fun o2 ho2 => ?_
    refine Ok.at (by decide) (by rw [ho2.1]; exact Int.zero_lt_one) fun dep _ => ?_
    repeat (with_reducible first | refine Ok.bind ?_ | refine Ok.lt ?_ | refine Ok.ifm ?_ | refine Ok.ok ?_)
    refine Ok.fold (fun i s => s.length = i + 1 ∧ s.Pairwise (· ≤ ·)) ⟨rfl, List.pairwise_singleton _ _⟩ (fun i hi s hs => ?_) fun s hs => ?_
    · have hb := hrb rs[i] (List.getElem_mem hi)
      unfold m__law_good_row_b1
      repeat (with_reducible first | refine Ok.bind ?_ | refine Ok.lt ?_ | refine Ok.ifm ?_ | refine Ok.ok ?_)
      refine Ok.at (by omega) (by omega) fun a ha => ?_
      repeat (with_reducible first | refine Ok.bind ?_ | refine Ok.lt ?_ | refine Ok.ifm ?_ | refine Ok.ok ?_)
      refine Ok.app (by rw [hs.1]; exact Nat.lt_of_le_of_lt (by omega) (show 50 < LIM by decide)) ?_
      repeat (with_reducible first | refine Ok.bind ?_ | refine Ok.lt ?_ | refine Ok.ifm ?_ | refine Ok.ok ?_)
      refine ⟨by rw [List.length_append, hs.1]; rfl, pair_snoc hs.2 (a := a) ?_ (by omega)⟩
      rw [← ha]
      congr 1
      omega
    · repeat (with_reducible first | refine Ok.bind ?_ | refine Ok.lt ?_ | refine Ok.ifm ?_ | refine Ok.ok ?_)
      exact ⟨by omega, hs.2⟩
theorem lim50 {n : Nat} (h : n ≤ 50) : n ≤ LIM := Nat.le_trans h (by decide)
theorem cut_len {row : List Int} {at_ : Int} (h0 : 0 ≤ at_) : (cutL row none (some at_)).length + (cutL row (some at_) none).length ≤ row.length := by
  rw [cutL_to h0, cutL_from h0, List.length_take, List.length_drop]
  omega
theorem spoilt_ok (row : List Int) (kind index size : Int) (hl : row.length ≤ 40) (hs : 0 ≤ size ∧ size < 3) : Ok (m__law_spoilt row kind index size) fun xs => xs.length ≤ 40 := by
  unfold m__law_spoilt
  repeat (with_reducible first | refine Ok.bind ?_ | refine Ok.lt ?_ | refine Ok.ifm ?_ | refine Ok.ok ?_)
  refine Ok.ite (fun e => ?_) fun e => ?_
  · repeat (with_reducible first | refine Ok.bind ?_ | refine Ok.lt ?_ | refine Ok.ifm ?_ | refine Ok.ok ?_)
    exact hl
  · rw [Bool.or_eq_false_iff, decide_eq_false_iff_not, decide_eq_false_iff_not] at e
    repeat (with_reducible first | refine Ok.bind ?_ | refine Ok.lt ?_ | refine Ok.ifm ?_ | refine Ok.ok ?_)
    refine Ok.mod (by omega) ?_
    have h0 := Int.emod_nonneg index (show (row.length : Int) ≠ 0 from e.1)
    have h1 := Int.emod_lt_of_pos index (show 0 < (row.length : Int) by omega)
    generalize index % (row.length : Int) = at_ at h0 h1 ⊢
    have cl := cut_len (row := row) h0
    repeat (with_reducible first | refine Ok.bind ?_ | refine Ok.lt ?_ | refine Ok.ifm ?_ | refine Ok.ok ?_)
    refine Ok.ite (fun _ => ?_) fun _ => ?_
    · refine Ok.cat (by rw [List.length_map]; exact lim50 (by omega)) ?_
      rw [List.length_append, List.length_map]
      omega
    repeat (with_reducible first | refine Ok.bind ?_ | refine Ok.lt ?_ | refine Ok.ifm ?_ | refine Ok.ok ?_)
    refine Ok.ite (fun _ => ?_) fun _ => ?_
    · refine Ok.cat (by rw [List.length_map]; exact lim50 (by omega)) ?_
      rw [List.length_append, List.length_map]
      omega
    repeat (with_reducible first | refine Ok.bind ?_ | refine Ok.lt ?_ | refine Ok.ifm ?_ | refine Ok.ok ?_)
    refine Ok.ite (fun _ => ?_) fun _ => ?_
    · repeat (with_reducible first | refine Ok.bind ?_ | refine Ok.lt ?_ | refine Ok.ifm ?_ | refine Ok.ok ?_)
      refine Ok.at h0 h1 fun a _ => ?_
      repeat (with_reducible first | refine Ok.bind ?_ | refine Ok.lt ?_ | refine Ok.ifm ?_ | refine Ok.ok ?_)
      refine Ok.opt (by decide) ?_
      repeat (with_reducible first | refine Ok.bind ?_ | refine Ok.lt ?_ | refine Ok.ifm ?_ | refine Ok.ok ?_)
      refine Ok.at hs.1 hs.2 fun _ _ => ?_
      repeat (with_reducible first | refine Ok.bind ?_ | refine Ok.lt ?_ | refine Ok.ifm ?_ | refine Ok.ok ?_)
      have c1 : (cutL row none (some at_)).length ≤ at_.toNat := by rw [cutL_to h0, List.length_take]; omega
      have c2 : (cutL row (some (at_ + 1)) none).length + at_.toNat + 1 ≤ row.length := by rw [cutL_from (by omega), List.length_drop]; omega
      refine Ok.cat (lim50 (by show _ + 1 ≤ 50; omega)) ?_
      repeat (with_reducible first | refine Ok.bind ?_ | refine Ok.lt ?_ | refine Ok.ifm ?_ | refine Ok.ok ?_)
      refine Ok.cat (lim50 (by rw [List.length_append]; show _ + 1 + _ ≤ 50; omega)) ?_
      rw [List.length_append, List.length_append]
      show _ + 1 + _ ≤ 40
      omega
    repeat (with_reducible first | refine Ok.bind ?_ | refine Ok.lt ?_ | refine Ok.ifm ?_ | refine Ok.ok ?_)
    refine Ok.ite (fun _ => ?_) fun _ => ?_
    · repeat (with_reducible first | refine Ok.bind ?_ | refine Ok.lt ?_ | refine Ok.ifm ?_ | refine Ok.ok ?_)
      obtain ⟨a, ea, _⟩ := atI_of (xs := row) (i := 0) (by omega) (by omega)
      refine Ok.comp (fun _ => true) (fun x => x - a + 1 + size) (fun _ _ => rfl) (fun x _ => ?_) ?_
      · rw [ea]
        rfl
      · rw [List.length_map, filter_yes]
        exact hl
    · repeat (with_reducible first | refine Ok.bind ?_ | refine Ok.lt ?_ | refine Ok.ifm ?_ | refine Ok.ok ?_)
      obtain ⟨a, ea, _⟩ := atI_of (xs := row) (i := (row.length : Int) - 1) (by omega) (by omega)
      refine Ok.comp (fun _ => true) (fun x => x - a - 2 - size) (fun _ _ => rfl) (fun x _ => ?_) ?_
      · rw [ea]
        rfl
      · rw [List.length_map, filter_yes]
        exact hl
/-! ### is_row -/
def stepsOk : List Int → Bool
  | a :: b :: r => (decide (b = a) || decide (b = a + 1)) && stepsOk (b :: r)
  | _ => true
def dueB (xs : List Int) : Bool := xs.isEmpty || (stepsOk xs && (decide (xs.getD 0 0 ≤ 0) && decide (-1 ≤ xs.getD (xs.length - 1) 0)))
theorem getD_of {xs : List Int} {i : Nat} {a : Int} (h : xs[i]? = some a) : xs.getD i 0 = a := by
  rw [List.getD_eq_getElem?_getD, h]
  rfl
theorem zip_steps : ∀ xs : List Int, (((zipF xs (xs.drop 1)).map fun x1 : (Tp (Int × Int × Unit)) => (x1.t.2.1 - x1.t.1)).map fun x3 : Int => ((encs (Tp.mk ((0 : Int), (1 : Int), ()) : (Tp (Int × Int × Unit))).t).any fun z => eqP z (enc x3))).all id = stepsOk xs
  | [] => rfl
  | [_] => rfl
  | a :: b :: r => by
    have ih := zip_steps (b :: r)
    show ((eqP (enc (0 : Int)) (enc (b - a)) || (eqP (enc (1 : Int)) (enc (b - a)) || false)) && _) = ((decide (b = a) || decide (b = a + 1)) && stepsOk (b :: r))
    rw [← ih, eqP_dec, eqP_dec, Bool.or_false]
    have e1 : decide ((0 : Int) = b - a) = decide (b = a) := decide_eq_decide.mpr (by omega)
    have e2 : decide ((1 : Int) = b - a) = decide (b = a + 1) := decide_eq_decide.mpr (by omega)
    rw [e1, e2]
    rfl
theorem is_row_is (xs : List Int) : m_is_row xs = .ok (dueB xs) := by
  refine Ok.get ?_
  unfold m_is_row
  repeat (with_reducible first | refine Ok.bind ?_ | refine Ok.lt ?_ | refine Ok.ifm ?_ | refine Ok.ok ?_)
  refine Ok.ite (fun e => ?_) fun e => ?_
  · have e : (!(!xs.isEmpty)) = true := e
    rw [Bool.not_not] at e
    repeat (with_reducible first | refine Ok.bind ?_ | refine Ok.lt ?_ | refine Ok.ifm ?_ | refine Ok.ok ?_)
    unfold dueB
    rw [e]
    rfl
  · have e : (!(!xs.isEmpty)) = false := e
    rw [Bool.not_not] at e
    have hl : 0 < xs.length := by
      cases xs with
      | nil => cases e
      | cons _ _ => exact Nat.succ_pos _
    repeat (with_reducible first | refine Ok.bind ?_ | refine Ok.lt ?_ | refine Ok.ifm ?_ | refine Ok.ok ?_)
    rw [cutL_from (by decide), show (1 : Int).toNat = 1 from rfl, zip_steps]
    unfold dueB
    rw [e, Bool.false_or]
    refine Ok.ite (fun h => ?_) fun h => ?_
    · rw [h, Bool.true_and]
      repeat (with_reducible first | refine Ok.bind ?_ | refine Ok.lt ?_ | refine Ok.ifm ?_ | refine Ok.ok ?_)
      refine Ok.at (by decide) (by omega) fun a ha => ?_
      repeat (with_reducible first | refine Ok.bind ?_ | refine Ok.lt ?_ | refine Ok.ifm ?_ | refine Ok.ok ?_)
      rw [show xs.getD 0 0 = a from getD_of ha]
      refine Ok.ite (fun h => ?_) fun h => ?_
      · rw [h, Bool.true_and]
        repeat (with_reducible first | refine Ok.bind ?_ | refine Ok.lt ?_ | refine Ok.ifm ?_ | refine Ok.ok ?_)
        refine Ok.atEnd (by decide) (by omega) fun b hb => ?_
        repeat (with_reducible first | refine Ok.bind ?_ | refine Ok.lt ?_ | refine Ok.ifm ?_ | refine Ok.ok ?_)
        have e3 : (-1 + (xs.length : Int)).toNat = xs.length - 1 := by omega
        rw [e3] at hb
        rw [getD_of hb]
      · rw [h]
        repeat (with_reducible first | refine Ok.bind ?_ | refine Ok.lt ?_ | refine Ok.ifm ?_ | refine Ok.ok ?_)
        rfl
    · rw [h]
      repeat (with_reducible first | refine Ok.bind ?_ | refine Ok.lt ?_ | refine Ok.ifm ?_ | refine Ok.ok ?_)
      rfl
theorem steps_iff : ∀ xs : List Int, stepsOk xs = true ↔ ∀ k (h : k + 1 < xs.length), xs[k + 1] = xs[k] ∨ xs[k + 1] = xs[k] + 1
  | [] => ⟨fun _ k h => absurd h (Nat.not_lt_zero _), fun _ => rfl⟩
  | [_] => ⟨fun _ k h => by simp at h, fun _ => rfl⟩
  | a :: b :: r => by
    have ih := steps_iff (b :: r)
    unfold stepsOk
    rw [Bool.and_eq_true, Bool.or_eq_true, decide_eq_true_iff, decide_eq_true_iff, ih]
    constructor
    · rintro ⟨h0, h1⟩ k h
      cases k with
      | zero => exact h0
      | succ k => exact h1 k (Nat.lt_of_succ_lt_succ h)
    · intro h
      exact ⟨h 0 (by simp), fun k hk => h (k + 1) (Nat.succ_lt_succ hk)⟩
def stepAt (xs : List Int) (k : Int) : Bool := decide (xs.getD (k.toNat + 1) 0 = xs.getD k.toNat 0) || decide (xs.getD (k.toNat + 1) 0 = xs.getD k.toNat 0 + 1)
theorem due_turn (xs : List Int) (k : Int) (h0 : 0 ≤ k) (h1 : k < (xs.length : Int) - 1) : m__law_due_b1 xs k () = .ok (if stepAt xs k then .nx () else .rt false) := by
  refine Ok.get ?_
  unfold m__law_due_b1
  repeat (with_reducible first | refine Ok.bind ?_ | refine Ok.lt ?_ | refine Ok.ifm ?_ | refine Ok.ok ?_)
  refine Ok.at (by omega) (by omega) fun a ha => ?_
  repeat (with_reducible first | refine Ok.bind ?_ | refine Ok.lt ?_ | refine Ok.ifm ?_ | refine Ok.ok ?_)
  refine Ok.at (by omega) (by omega) fun b hb => ?_
  repeat (with_reducible first | refine Ok.bind ?_ | refine Ok.lt ?_ | refine Ok.ifm ?_ | refine Ok.ok ?_)
  have e1 : (k + 1).toNat = k.toNat + 1 := by omega
  rw [e1] at ha
  have ga := getD_of ha
  have gb := getD_of hb
  unfold stepAt
  rw [ga, gb]
  refine Ok.ite (fun h => ?_) fun h => ?_
  · repeat (with_reducible first | refine Ok.bind ?_ | refine Ok.lt ?_ | refine Ok.ifm ?_ | refine Ok.ok ?_)
    refine Ok.at (by omega) (by omega) fun a2 ha2 => ?_
    repeat (with_reducible first | refine Ok.bind ?_ | refine Ok.lt ?_ | refine Ok.ifm ?_ | refine Ok.ok ?_)
    refine Ok.at (by omega) (by omega) fun b2 hb2 => ?_
    rw [e1, ha] at ha2
    rw [hb] at hb2
    cases ha2
    cases hb2
    repeat (with_reducible first | refine Ok.bind ?_ | refine Ok.lt ?_ | refine Ok.ifm ?_ | refine Ok.ok ?_)
    rw [Bool.not_eq_true', decide_eq_false_iff_not] at h
    refine Ok.ite (fun h2 => ?_) fun h2 => ?_
    · rw [Bool.not_eq_true', decide_eq_false_iff_not] at h2
      repeat (with_reducible first | refine Ok.bind ?_ | refine Ok.lt ?_ | refine Ok.ifm ?_ | refine Ok.ok ?_)
      rw [decide_eq_false h, decide_eq_false h2]
      rfl
    · rw [Bool.not_eq_false', decide_eq_true_iff] at h2
      repeat (with_reducible first | refine Ok.bind ?_ | refine Ok.lt ?_ | refine Ok.ifm ?_ | refine Ok.ok ?_)
      rw [decide_eq_true h2, Bool.or_true]
      rfl
  · rw [Bool.not_eq_false', decide_eq_true_iff] at h
    repeat (with_reducible first | refine Ok.bind ?_ | refine Ok.lt ?_ | refine Ok.ifm ?_ | refine Ok.ok ?_)
    refine Ok.ite (fun h2 => by cases h2) fun _ => ?_
    repeat (with_reducible first | refine Ok.bind ?_ | refine Ok.lt ?_ | refine Ok.ifm ?_ | refine Ok.ok ?_)
    rw [decide_eq_true h, Bool.true_or]
    rfl
theorem mem_rng {lo hi k : Int} : k ∈ Pv.rng lo hi ↔ lo ≤ k ∧ k < hi := by
  unfold Pv.rng
  rw [List.mem_map]
  constructor
  · rintro ⟨j, hj, rfl⟩
    rw [List.mem_range] at hj
    omega
  · intro h
    refine ⟨(k - lo).toNat, by rw [List.mem_range]; omega, by omega⟩
theorem steps_all {xs : List Int} : (Pv.rng 0 ((xs.length : Int) - 1)).all (stepAt xs) = stepsOk xs := by
  rw [Bool.eq_iff_iff, List.all_eq_true, steps_iff]
  have key : ∀ k, (h : k + 1 < xs.length) → (stepAt xs (k : Int) = true ↔ (xs[k + 1] = xs[k] ∨ xs[k + 1] = xs[k] + 1)) := fun k h => by
    unfold stepAt
    rw [Int.toNat_natCast, Bool.or_eq_true, decide_eq_true_iff, decide_eq_true_iff, getD_of (List.getElem?_eq_getElem h), getD_of (List.getElem?_eq_getElem (by omega : k < xs.length))]
  constructor
  · intro h k hk
    exact (key k hk).mp (h k (mem_rng.mpr (by omega)))
  · intro h k hk
    have hk := mem_rng.mp hk
    have := (key k.toNat (by omega)).mpr (h k.toNat (by omega))
    rwa [show (k.toNat : Int) = k by omega] at this
theorem due_is (xs : List Int) (hl : xs.length ≤ 1000) : m__law_due xs = .ok (dueB xs) := by
  refine Ok.get ?_
  unfold m__law_due
  repeat (with_reducible first | refine Ok.bind ?_ | refine Ok.lt ?_ | refine Ok.ifm ?_ | refine Ok.ok ?_)
  refine Ok.ite (fun e => ?_) fun e => ?_
  · rw [decide_eq_true_iff] at e
    have : xs = [] := List.eq_nil_of_length_eq_zero (by omega)
    subst this
    repeat (with_reducible first | refine Ok.bind ?_ | refine Ok.lt ?_ | refine Ok.ifm ?_ | refine Ok.ok ?_)
    rfl
  · rw [decide_eq_false_iff_not] at e
    have he : xs.isEmpty = false := by
      cases xs with
      | nil => exact absurd rfl e
      | cons _ _ => rfl
    repeat (with_reducible first | refine Ok.bind ?_ | refine Ok.lt ?_ | refine Ok.ifm ?_ | refine Ok.ok ?_)
    refine Ok.range (by omega) ?_
    repeat (with_reducible first | refine Ok.bind ?_ | refine Ok.lt ?_ | refine Ok.ifm ?_ | refine Ok.ok ?_)
    refine Ok.eq (loopR_all (p := stepAt xs) (bad := false) _ fun k hk => due_turn xs k (mem_rng.mp hk).1 (mem_rng.mp hk).2) ?_
    rw [steps_all]
    unfold dueB
    rw [he, Bool.false_or]
    cases h : stepsOk xs with
    | false =>
      rw [Bool.false_and]
      exact Ok.ok rfl
    | true =>
      rw [Bool.true_and]
      show Ok (R.bind _ _) _
      repeat (with_reducible first | refine Ok.bind ?_ | refine Ok.lt ?_ | refine Ok.ifm ?_ | refine Ok.ok ?_)
      refine Ok.at (by decide) (by omega) fun a ha => ?_
      repeat (with_reducible first | refine Ok.bind ?_ | refine Ok.lt ?_ | refine Ok.ifm ?_ | refine Ok.ok ?_)
      rw [show xs.getD 0 0 = a from getD_of ha]
      refine Ok.ite (fun h => ?_) fun h => ?_
      · rw [h, Bool.true_and]
        repeat (with_reducible first | refine Ok.bind ?_ | refine Ok.lt ?_ | refine Ok.ifm ?_ | refine Ok.ok ?_)
        refine Ok.at (by omega) (by omega) fun b hb => ?_
        repeat (with_reducible first | refine Ok.bind ?_ | refine Ok.lt ?_ | refine Ok.ifm ?_ | refine Ok.ok ?_)
        have e3 : ((xs.length : Int) - 1).toNat = xs.length - 1 := by omega
        rw [e3] at hb
        rw [getD_of hb]
      · rw [h]
        repeat (with_reducible first | refine Ok.bind ?_ | refine Ok.lt ?_ | refine Ok.ifm ?_ | refine Ok.ok ?_)
        rfl
/-! ### short lists against all orders -/
theorem b3_len {xs ys : List Int} (h : xs.length = ys.length) : m__law_has_order_b3 xs = m__law_has_order_b3 ys := by
  funext k s
  have h2 : m__law_has_order_b2 xs = m__law_has_order_b2 ys := by
    funext a b c
    unfold m__law_has_order_b2
    rw [h]
  unfold m__law_has_order_b3
  rw [h2]
def walksR (n : Nat) : R (List (List Int)) := foldR (m__law_has_order_b3 (List.replicate n 0)) (Pv.rng 0 ((2 : Int) * (n : Int))) [[0]]
def walksOf (n : Nat) : List (List Int) := match walksR n with
  | .ok w => w.map fun x => isortI (cutL x (some (1 : Int)) none)
  | _ => []
def walksOk (n : Nat) : Bool := match walksR n with
  | .ok w => true
  | _ => false
/-- all lists of k + 1 numbers from a on, each equal to the one before it or greater by 1 -/
def chain : Int → Nat → List (List Int)
  | a, 0 => [[a]]
  | a, k + 1 => (chain a k).map (a :: ·) ++ (chain (a + 1) k).map (a :: ·)
theorem in_chain : ∀ (r : List Int) (a : Int), stepsOk (a :: r) = true → (a :: r) ∈ chain a r.length
  | [], a, _ => List.mem_singleton.mpr rfl
  | b :: r, a, h => by
    unfold stepsOk at h
    rw [Bool.and_eq_true, Bool.or_eq_true, decide_eq_true_iff, decide_eq_true_iff] at h
    have ih := in_chain r b h.2
    rw [List.length_cons]
    unfold chain
    rw [List.mem_append, List.mem_map, List.mem_map]
    rcases h.1 with e | e
    · exact .inl ⟨b :: r, e ▸ ih, rfl⟩
    · exact .inr ⟨b :: r, e ▸ ih, rfl⟩
theorem last_le : ∀ (r : List Int) (a : Int), stepsOk (a :: r) = true → (a :: r).getD r.length 0 ≤ a + r.length
  | [], a, _ => by show a ≤ a + 0; omega
  | b :: r, a, h => by
    unfold stepsOk at h
    rw [Bool.and_eq_true, Bool.or_eq_true, decide_eq_true_iff, decide_eq_true_iff] at h
    have ih := last_le r b h.2
    show (b :: r).getD r.length 0 ≤ _
    rw [List.length_cons]
    omega
def inW (n : Nat) (xs : List Int) : Bool := (walksOf n).any fun z => decide (z = xs)
theorem walks_sound : ∀ n, n < 5 → (walksOf n).all dueB = true := by decide +kernel
theorem walks_len : ∀ n, n < 5 → (walksOf n).all (fun x => decide (x.length = n)) = true := by decide +kernel
theorem walks_ok : ∀ n, n < 5 → walksOk n = true := by decide +kernel
theorem walks_full : ∀ n, n < 4 → ([0, -1, -2, -3, -4] : List Int).all (fun a => (chain a n).all fun xs => !dueB xs || inW (n + 1) xs) = true := by decide +kernel
theorem inW_is (xs : List Int) (h : xs.length < 5) : inW xs.length xs = dueB xs := by
  rw [Bool.eq_iff_iff]
  constructor
  · intro e
    obtain ⟨z, hz, e⟩ := List.any_eq_true.mp e
    rw [decide_eq_true_iff] at e
    rw [← e]
    exact List.all_eq_true.mp (walks_sound _ h) z hz
  · intro e
    cases xs with
    | nil => decide +kernel
    | cons a r =>
      have e0 := e
      unfold dueB at e
      rw [List.isEmpty_cons, Bool.false_or, Bool.and_eq_true, Bool.and_eq_true, decide_eq_true_iff, decide_eq_true_iff] at e
      obtain ⟨e1, e2, e3⟩ := e
      have h1 := last_le r a e1
      have e2 : a ≤ 0 := e2
      have e3 : -1 ≤ (a :: r).getD r.length 0 := e3
      rw [List.length_cons] at h
      have ha : a ∈ ([0, -1, -2, -3, -4] : List Int) := by
        simp only [List.mem_cons, List.not_mem_nil, or_false]
        omega
      have := List.all_eq_true.mp (List.all_eq_true.mp (walks_full r.length (by omega)) a ha) _ (in_chain r a e1)
      rw [e0] at this
      exact this
theorem has_order_is (xs : List Int) (h : xs.length < 5) : m__law_has_order xs = .ok (dueB xs) := by
  refine Ok.get ?_
  unfold m__law_has_order
  repeat (with_reducible first | refine Ok.bind ?_ | refine Ok.lt ?_ | refine Ok.ifm ?_ | refine Ok.ok ?_)
  refine Ok.mul (.inl (by decide)) ?_
  refine Ok.range (by omega) ?_
  repeat (with_reducible first | refine Ok.bind ?_ | refine Ok.lt ?_ | refine Ok.ifm ?_ | refine Ok.ok ?_)
  rw [b3_len (ys := List.replicate xs.length 0) (by rw [List.length_replicate])]
  have h1 := walks_ok _ h
  have h2 := inW_is xs h
  show Ok (walksR xs.length) _
  unfold walksOk at h1
  unfold inW walksOf at h2
  cases e : walksR xs.length with
  | bad => rw [e] at h1; cases h1
  | ex x => rw [e] at h1; cases h1
  | ok w =>
    rw [e] at h2
    repeat (with_reducible first | refine Ok.bind ?_ | refine Ok.lt ?_ | refine Ok.ifm ?_ | refine Ok.ok ?_)
    rw [← h2, List.any_map, List.any_map, List.any_map]
    congr 1
    funext z
    show eqP (enc (sortI _)) (enc xs) = decide (isortI _ = xs)
    rw [eqP_dec, sortI_is]
/-! ### what is asked of a list -/
theorem asked_is (xs : List Int) (hl : xs.length ≤ 50) : m__law_asked xs = .ok true := by
  refine Ok.get ?_
  unfold m__law_asked
  repeat (with_reducible first | refine Ok.bind ?_ | refine Ok.lt ?_ | refine Ok.ifm ?_ | refine Ok.ok ?_)
  refine Ok.eq (due_is xs (by omega)) ?_
  repeat (with_reducible first | refine Ok.bind ?_ | refine Ok.lt ?_ | refine Ok.ifm ?_ | refine Ok.ok ?_)
  have go : Ok (R.ite (decide ((xs.length : Int) < (5 : Int))) (R.bind (m__law_has_order xs) fun t2 => (R.ok (!decide (t2 = dueB xs)))) (R.ok false)) (· = false) := by
    refine Ok.ite (fun h => ?_) fun h => ?_
    · rw [decide_eq_true_iff] at h
      repeat (with_reducible first | refine Ok.bind ?_ | refine Ok.lt ?_ | refine Ok.ifm ?_ | refine Ok.ok ?_)
      refine Ok.eq (has_order_is xs (by omega)) ?_
      repeat (with_reducible first | refine Ok.bind ?_ | refine Ok.lt ?_ | refine Ok.ifm ?_ | refine Ok.ok ?_)
      rw [decide_eq_true rfl]
      rfl
    · repeat (with_reducible first | refine Ok.bind ?_ | refine Ok.lt ?_ | refine Ok.ifm ?_ | refine Ok.ok ?_)
      rfl
  refine go.imp fun b hb => ?_
  rw [hb]
  refine Ok.ite (fun h => by cases h) fun _ => ?_
  repeat (with_reducible first | refine Ok.bind ?_ | refine Ok.lt ?_ | refine Ok.ifm ?_ | refine Ok.ok ?_)
  refine Ok.eq (is_row_is xs) ?_
  repeat (with_reducible first | refine Ok.bind ?_ | refine Ok.lt ?_ | refine Ok.ifm ?_ | refine Ok.ok ?_)
  rw [eqP_self, decide_eq_true rfl]
  refine Ok.ite (fun h => by cases h) fun _ => ?_
  repeat (with_reducible first | refine Ok.bind ?_ | refine Ok.lt ?_ | refine Ok.ifm ?_ | refine Ok.ok ?_)
  have go2 : Ok (R.ite (decide ((xs.length : Int) = (0 : Int))) (R.bind (R.ok (1 : Int)) fun a13 => R.bind (R.of (appL xs a13)) fun v_handed_12 => (R.ok (v_handed_12))) (R.bind (R.bind (R.of (atI xs ((xs.length : Int) - (1 : Int)))) fun t14 => (R.ok (t14 + (2 : Int)))) fun a16 => R.bind (R.ok ((xs.length : Int) - (1 : Int))) fun j17 => R.bind (R.of (setL xs j17 a16)) fun v_handed_15 => (R.ok (v_handed_15)))) (fun ys => ys.length ≤ 60) := by
    refine Ok.ite (fun h => ?_) fun h => ?_
    · repeat (with_reducible first | refine Ok.bind ?_ | refine Ok.lt ?_ | refine Ok.ifm ?_ | refine Ok.ok ?_)
      refine Ok.app (Nat.lt_of_le_of_lt hl (by decide)) ?_
      repeat (with_reducible first | refine Ok.bind ?_ | refine Ok.lt ?_ | refine Ok.ifm ?_ | refine Ok.ok ?_)
      rw [List.length_append]
      show _ + 1 ≤ 60
      omega
    · rw [decide_eq_false_iff_not] at h
      repeat (with_reducible first | refine Ok.bind ?_ | refine Ok.lt ?_ | refine Ok.ifm ?_ | refine Ok.ok ?_)
      refine Ok.at (by omega) (by omega) fun a _ => ?_
      repeat (with_reducible first | refine Ok.bind ?_ | refine Ok.lt ?_ | refine Ok.ifm ?_ | refine Ok.ok ?_)
      refine Ok.set (by omega) (by omega) ?_
      repeat (with_reducible first | refine Ok.bind ?_ | refine Ok.lt ?_ | refine Ok.ifm ?_ | refine Ok.ok ?_)
      rw [List.length_set]
      omega
  refine go2.imp fun ys hy => ?_
  repeat (with_reducible first | refine Ok.bind ?_ | refine Ok.lt ?_ | refine Ok.ifm ?_ | refine Ok.ok ?_)
  refine Ok.eq (is_row_is ys) ?_
  repeat (with_reducible first | refine Ok.bind ?_ | refine Ok.lt ?_ | refine Ok.ifm ?_ | refine Ok.ok ?_)
  refine Ok.ite (fun h => by cases h) fun _ => ?_
  repeat (with_reducible first | refine Ok.bind ?_ | refine Ok.lt ?_ | refine Ok.ifm ?_ | refine Ok.ok ?_)
  refine Ok.eq (due_is ys (by omega)) ?_
  repeat (with_reducible first | refine Ok.bind ?_ | refine Ok.lt ?_ | refine Ok.ifm ?_ | refine Ok.ok ?_)
  rw [decide_eq_true rfl]
  refine Ok.ite (fun h => by cases h) fun _ => ?_
  repeat (with_reducible first | refine Ok.bind ?_ | refine Ok.lt ?_ | refine Ok.ifm ?_ | refine Ok.ok ?_)
  refine Ok.eq (is_row_is xs) ?_
  repeat (with_reducible first | refine Ok.bind ?_ | refine Ok.lt ?_ | refine Ok.ifm ?_ | refine Ok.ok ?_)
  rw [decide_eq_true rfl]
  rfl
/-! ### blocks and ends -/
def cnt (xs : List Int) (a : Int) : Int := ((xs.count a : Nat) : Int)
theorem mem_take_more {xs : List Int} {i : Nat} (h : i < xs.length) (z : Int) : z ∈ xs.take (i + 1) ↔ z ∈ xs.take i ∨ z = xs[i] := by
  rw [List.take_succ_eq_append_getElem h, List.mem_append, List.mem_singleton]
theorem take_le {xs : List Int} {i : Nat} (h : xs.Pairwise (· ≤ ·)) (hi : i + 1 < xs.length + 1) (z : Int) (hz : z ∈ xs.take (i + 1)) : z ≤ xs[i] := by
  rw [List.mem_take_iff_getElem] at hz
  obtain ⟨j, hj, e⟩ := hz
  by_cases c : j = i
  · subst c
    omega
  · have := List.pairwise_iff_getElem.mp h j i (by omega) (by omega) (by omega)
    omega
theorem sizes_ok (xs : List Int) (hl : xs.length ≤ 50) (hp : xs.Pairwise (· ≤ ·)) : Ok (m__law_sizes xs) fun s => ∃ L : List Int, s = L.map (cnt xs) ∧ L.Pairwise (· < ·) ∧ ∀ z, z ∈ L ↔ z ∈ xs := by
  unfold m__law_sizes
  repeat (with_reducible first | refine Ok.bind ?_ | refine Ok.lt ?_ | refine Ok.ifm ?_ | refine Ok.ok ?_)
  refine Ok.range (by omega) ?_
  repeat (with_reducible first | refine Ok.bind ?_ | refine Ok.lt ?_ | refine Ok.ifm ?_ | refine Ok.ok ?_)
  refine Ok.foldRng (fun i s => s.length ≤ i ∧ ∃ L : List Int, s = L.map (cnt xs) ∧ L.Pairwise (· < ·) ∧ ∀ z, z ∈ L ↔ z ∈ xs.take i) ⟨Nat.le_refl _, [], rfl, List.Pairwise.nil, fun z => by rw [List.take_zero]⟩ (fun i hi s hs => ?_) fun s hs => ?_
  · obtain ⟨hs1, L, hs2, hs3, hs4⟩ := hs
    have hin : i < xs.length := by omega
    have hg : xs[i]? = some xs[i] := List.getElem?_eq_getElem hin
    have at_ : ∀ {Q : Int → Prop}, Q xs[i] → Ok (R.of (atI xs (i : Int))) Q := fun q => Ok.at (by omega) (by omega) fun a ha => by
      rw [Int.toNat_natCast, hg] at ha
      cases ha
      exact q
    unfold m__law_sizes_b1
    repeat (with_reducible first | refine Ok.bind ?_ | refine Ok.lt ?_ | refine Ok.ifm ?_ | refine Ok.ok ?_)
    have go : Ok (R.ite (decide ((i : Int) = (0 : Int))) (R.ok true) (R.bind (R.of (atI xs (i : Int))) fun t4 => R.bind (R.of (atI xs ((i : Int) - (1 : Int)))) fun t5 => (R.ok (!decide (t4 = t5)))))
        (fun b => (b = true → ∀ z, z ∈ xs.take i → z < xs[i]) ∧ (b = false → xs[i] ∈ xs.take i)) := by
      refine Ok.ite (fun h => ?_) fun h => ?_
      · rw [decide_eq_true_iff] at h
        have : i = 0 := by omega
        subst this
        repeat (with_reducible first | refine Ok.bind ?_ | refine Ok.lt ?_ | refine Ok.ifm ?_ | refine Ok.ok ?_)
        refine ⟨fun _ z hz => ?_, fun h => by cases h⟩
        rw [List.take_zero] at hz
        cases hz
      · rw [decide_eq_false_iff_not] at h
        repeat (with_reducible first | refine Ok.bind ?_ | refine Ok.lt ?_ | refine Ok.ifm ?_ | refine Ok.ok ?_)
        refine at_ ?_
        repeat (with_reducible first | refine Ok.bind ?_ | refine Ok.lt ?_ | refine Ok.ifm ?_ | refine Ok.ok ?_)
        refine Ok.at (by omega) (by omega) fun b hb => ?_
        repeat (with_reducible first | refine Ok.bind ?_ | refine Ok.lt ?_ | refine Ok.ifm ?_ | refine Ok.ok ?_)
        cases i with
        | zero => exact absurd rfl h
        | succ j =>
          rw [show (((j + 1 : Nat) : Int) - 1).toNat = j by omega, List.getElem?_eq_getElem (by omega)] at hb
          cases hb
          refine ⟨fun e z hz => ?_, fun e => ?_⟩
          · rw [Bool.not_eq_true', decide_eq_false_iff_not] at e
            have h1 := take_le hp (by omega) z hz
            have h2 := List.pairwise_iff_getElem.mp hp j (j + 1) (by omega) (by omega) (by omega)
            omega
          · rw [Bool.not_eq_false', decide_eq_true_iff] at e
            rw [e, mem_take_more (by omega)]
            exact .inr rfl
    refine go.imp fun b hb => ?_
    refine Ok.ite (fun h => ?_) fun h => ?_
    · repeat (with_reducible first | refine Ok.bind ?_ | refine Ok.lt ?_ | refine Ok.ifm ?_ | refine Ok.ok ?_)
      obtain ⟨a, ea, ea2⟩ := atI_of (xs := xs) (i := (i : Int)) (by omega) (by omega)
      rw [Int.toNat_natCast, hg] at ea2
      cases ea2
      refine Ok.comp (fun x => decide (x = xs[i])) (fun x => x) (fun x _ => by rw [ea]; rfl) (fun _ _ => rfl) ?_
      repeat (with_reducible first | refine Ok.bind ?_ | refine Ok.lt ?_ | refine Ok.ifm ?_ | refine Ok.ok ?_)
      refine Ok.app (Nat.lt_of_le_of_lt (show s.length ≤ 50 by omega) (by decide)) ?_
      repeat (with_reducible first | refine Ok.bind ?_ | refine Ok.lt ?_ | refine Ok.ifm ?_ | refine Ok.ok ?_)
      refine ⟨by rw [List.length_append]; show _ + 1 ≤ _; omega, L ++ [xs[i]], ?_, ?_, fun z => ?_⟩
      · rw [List.map_append, hs2, List.map_singleton]
        congr 2
        unfold cnt
        rw [List.map_id', List.count_eq_countP, List.countP_eq_length_filter]
        congr 3
      · rw [List.pairwise_append]
        refine ⟨hs3, List.pairwise_singleton _ _, fun x hx y hy => ?_⟩
        rw [List.mem_singleton] at hy
        rw [hy]
        exact hb.1 h x ((hs4 x).mp hx)
      · rw [List.mem_append, List.mem_singleton, mem_take_more hin, hs4]
    · repeat (with_reducible first | refine Ok.bind ?_ | refine Ok.lt ?_ | refine Ok.ifm ?_ | refine Ok.ok ?_)
      refine ⟨by omega, L, hs2, hs3, fun z => ?_⟩
      rw [hs4, mem_take_more hin]
      exact ⟨.inl, fun q => q.elim id fun e => e ▸ hb.2 h⟩
  · obtain ⟨_, L, hs2, hs3, hs4⟩ := hs
    repeat (with_reducible first | refine Ok.bind ?_ | refine Ok.lt ?_ | refine Ok.ifm ?_ | refine Ok.ok ?_)
    rw [Int.toNat_natCast, List.take_length] at hs4
    exact ⟨L, hs2, hs3, hs4⟩
theorem blocks_ok (xs : List Int) (hl : xs.length ≤ 50) (hp : xs.Pairwise (· ≤ ·)) : ∃ s : List Int, m_blocks xs = .ok s ∧ m__law_sizes xs = .ok s ∧ s.length < LIM := by
  obtain ⟨s, e, L, h1, h2, h3⟩ := sizes_ok xs hl hp
  have e2 : sortSet xs = some (sortI (onceI xs)) := if_pos (by omega)
  have e3 : sortI (onceI xs) = L := pair_lt_one (sortI_nodup_lt nodup_onceI) h2 fun k => by rw [(sortI_perm _).mem_iff, mem_onceI, h3]
  have hlen : ∀ ys : List Int, (onceI ys).length ≤ ys.length := fun ys => by
    induction ys with
    | nil => exact Nat.le_refl _
    | cons y ys ih =>
      unfold onceI
      split
      · rw [List.length_cons]; omega
      · rw [List.length_cons, List.length_cons]; omega
  refine ⟨s, ?_, e, ?_⟩
  · unfold m_blocks
    rw [e2, e3, h1]
    rfl
  · rw [h1, List.length_map, ← e3, (sortI_perm _).length_eq]
    exact Nat.lt_of_le_of_lt (Nat.le_trans (hlen xs) hl) (by decide)
theorem ints_ok (xs : List Int) : m__law_is_ints xs = .ok true := by
  refine Ok.get ?_
  unfold m__law_is_ints
  refine Ok.ite (fun _ => ?_) fun h => by cases h
  repeat (with_reducible first | refine Ok.bind ?_ | refine Ok.lt ?_ | refine Ok.ifm ?_ | refine Ok.ok ?_)
  refine Ok.comp (fun _ => true) (fun _ => true) (fun _ _ => rfl) (fun _ _ => rfl) ?_
  repeat (with_reducible first | refine Ok.bind ?_ | refine Ok.lt ?_ | refine Ok.ifm ?_ | refine Ok.ok ?_)
  rw [List.all_map, List.all_eq_true]
  intro x _
  rfl
def lohi (xs : List Int) : Int × Int := if 0 < xs.length then (xs.getD (xs.length - 1) 0 + 1, (xs.length : Int) + xs.getD 0 0) else (0, 0)
theorem span_is (xs : List Int) : m_span_of_row xs = .ok ⟨(lohi xs).1, (lohi xs).2⟩ := by
  refine Ok.get ?_
  unfold m_span_of_row
  repeat (with_reducible first | refine Ok.bind ?_ | refine Ok.lt ?_ | refine Ok.ifm ?_ | refine Ok.ok ?_)
  unfold lohi
  refine Ok.ite (fun e => ?_) fun e => ?_
  · have e : (!(!xs.isEmpty)) = true := e
    rw [Bool.not_not, List.isEmpty_iff] at e
    subst e
    repeat (with_reducible first | refine Ok.bind ?_ | refine Ok.lt ?_ | refine Ok.ifm ?_ | refine Ok.ok ?_)
    rfl
  · have e : (!(!xs.isEmpty)) = false := e
    rw [Bool.not_not] at e
    have hl : 0 < xs.length := by
      cases xs with
      | nil => cases e
      | cons _ _ => exact Nat.succ_pos _
    rw [if_pos hl]
    repeat (with_reducible first | refine Ok.bind ?_ | refine Ok.lt ?_ | refine Ok.ifm ?_ | refine Ok.ok ?_)
    refine Ok.atEnd (by decide) (by omega) fun b hb => ?_
    repeat (with_reducible first | refine Ok.bind ?_ | refine Ok.lt ?_ | refine Ok.ifm ?_ | refine Ok.ok ?_)
    refine Ok.at (by decide) (by omega) fun a ha => ?_
    repeat (with_reducible first | refine Ok.bind ?_ | refine Ok.lt ?_ | refine Ok.ifm ?_ | refine Ok.ok ?_)
    have e3 : (-1 + (xs.length : Int)).toNat = xs.length - 1 := by omega
    rw [e3] at hb
    rw [getD_of hb, show xs.getD 0 0 = a from getD_of ha]
theorem ends_is (xs : List Int) (hl : xs.length ≤ 50) (hp : xs.Pairwise (· ≤ ·)) : m__law_ends xs = .ok true := by
  obtain ⟨bs, e1, e2, e4⟩ := blocks_ok xs hl hp
  refine Ok.get ?_
  unfold m__law_ends
  repeat (with_reducible first | refine Ok.bind ?_ | refine Ok.lt ?_ | refine Ok.ifm ?_ | refine Ok.ok ?_)
  have go : Ok (R.ite (decide ((0 : Int) < (xs.length : Int))) (R.bind (R.bind (R.of (atI xs ((xs.length : Int) - (1 : Int)))) fun t8 => (R.ok (t8 + (1 : Int)))) fun v_lowest_9 => (R.bind (R.bind (R.of (atI xs (0 : Int))) fun t10 => (R.ok ((xs.length : Int) + t10))) fun v_highest_11 => (R.ok (v_lowest_9, v_highest_11)))) (R.ok (0, 0))) (· = lohi xs) := by
    unfold lohi
    refine Ok.ite (fun h => ?_) fun h => ?_
    · rw [decide_eq_true_iff] at h
      rw [if_pos (by omega)]
      repeat (with_reducible first | refine Ok.bind ?_ | refine Ok.lt ?_ | refine Ok.ifm ?_ | refine Ok.ok ?_)
      refine Ok.at (by omega) (by omega) fun b hb => ?_
      repeat (with_reducible first | refine Ok.bind ?_ | refine Ok.lt ?_ | refine Ok.ifm ?_ | refine Ok.ok ?_)
      refine Ok.at (by decide) (by omega) fun a ha => ?_
      repeat (with_reducible first | refine Ok.bind ?_ | refine Ok.lt ?_ | refine Ok.ifm ?_ | refine Ok.ok ?_)
      have e3 : ((xs.length : Int) - 1).toNat = xs.length - 1 := by omega
      rw [e3] at hb
      rw [getD_of hb, show xs.getD 0 0 = a from getD_of ha]
    · rw [decide_eq_false_iff_not] at h
      rw [if_neg (by omega)]
      repeat (with_reducible first | refine Ok.bind ?_ | refine Ok.lt ?_ | refine Ok.ifm ?_ | refine Ok.ok ?_)
      rfl
  refine go.imp fun q hq => ?_
  subst hq
  repeat (with_reducible first | refine Ok.bind ?_ | refine Ok.lt ?_ | refine Ok.ifm ?_ | refine Ok.ok ?_)
  refine Ok.eq e1 ?_
  repeat (with_reducible first | refine Ok.bind ?_ | refine Ok.lt ?_ | refine Ok.ifm ?_ | refine Ok.ok ?_)
  refine Ok.eq (ints_ok bs) ?_
  repeat (with_reducible first | refine Ok.bind ?_ | refine Ok.lt ?_ | refine Ok.ifm ?_ | refine Ok.ok ?_)
  refine Ok.ite (fun h => by cases h) fun _ => ?_
  repeat (with_reducible first | refine Ok.bind ?_ | refine Ok.lt ?_ | refine Ok.ifm ?_ | refine Ok.ok ?_)
  refine Ok.eq e2 ?_
  repeat (with_reducible first | refine Ok.bind ?_ | refine Ok.lt ?_ | refine Ok.ifm ?_ | refine Ok.ok ?_)
  rw [eqP_self]
  refine Ok.ite (fun h => by cases h) fun _ => ?_
  repeat (with_reducible first | refine Ok.bind ?_ | refine Ok.lt ?_ | refine Ok.ifm ?_ | refine Ok.ok ?_)
  rw [eqP_self]
  refine Ok.ite (fun h => by cases h) fun _ => ?_
  repeat (with_reducible first | refine Ok.bind ?_ | refine Ok.lt ?_ | refine Ok.ifm ?_ | refine Ok.ok ?_)
  refine Ok.app e4 ?_
  repeat (with_reducible first | refine Ok.bind ?_ | refine Ok.lt ?_ | refine Ok.ifm ?_ | refine Ok.ok ?_)
  refine Ok.eq e1 ?_
  repeat (with_reducible first | refine Ok.bind ?_ | refine Ok.lt ?_ | refine Ok.ifm ?_ | refine Ok.ok ?_)
  refine Ok.eq (ints_ok bs) ?_
  repeat (with_reducible first | refine Ok.bind ?_ | refine Ok.lt ?_ | refine Ok.ifm ?_ | refine Ok.ok ?_)
  refine Ok.ite (fun h => by cases h) fun _ => ?_
  repeat (with_reducible first | refine Ok.bind ?_ | refine Ok.lt ?_ | refine Ok.ifm ?_ | refine Ok.ok ?_)
  refine Ok.eq e2 ?_
  repeat (with_reducible first | refine Ok.bind ?_ | refine Ok.lt ?_ | refine Ok.ifm ?_ | refine Ok.ok ?_)
  rw [eqP_self]
  refine Ok.ite (fun h => by cases h) fun _ => ?_
  repeat (with_reducible first | refine Ok.bind ?_ | refine Ok.lt ?_ | refine Ok.ifm ?_ | refine Ok.ok ?_)
  refine Ok.eq (span_is xs) ?_
  repeat (with_reducible first | refine Ok.bind ?_ | refine Ok.lt ?_ | refine Ok.ifm ?_ | refine Ok.ok ?_)
  refine Ok.eq (a := false) ?_ ?_
  · rfl
  refine Ok.ite (fun h => by cases h) fun _ => ?_
  repeat (with_reducible first | refine Ok.bind ?_ | refine Ok.lt ?_ | refine Ok.ifm ?_ | refine Ok.ok ?_)
  unfold m_Span_width m__law_is_int
  repeat (with_reducible first | refine Ok.bind ?_ | refine Ok.lt ?_ | refine Ok.ifm ?_ | refine Ok.ok ?_)
  refine Ok.ite (fun h => by cases h) fun _ => ?_
  repeat (with_reducible first | refine Ok.bind ?_ | refine Ok.lt ?_ | refine Ok.ifm ?_ | refine Ok.ok ?_)
  rw [decide_eq_true rfl]
  refine Ok.ite (fun h => by cases h) fun _ => ?_
  repeat (with_reducible first | refine Ok.bind ?_ | refine Ok.lt ?_ | refine Ok.ifm ?_ | refine Ok.ok ?_)
  refine Ok.ite (fun h => by cases h) fun _ => ?_
  repeat (with_reducible first | refine Ok.bind ?_ | refine Ok.lt ?_ | refine Ok.ifm ?_ | refine Ok.ok ?_)
  rw [decide_eq_true rfl, decide_eq_true rfl]
  rfl
/-! ### the law -/
theorem drawn_at {sizes out : List Int} (h : Drawn sizes out) (i : Nat) (z : Int) (hz : sizes[i]? = some z) {j : Int} (hj : j = (i : Int)) {Q : Int → Prop} (q : ∀ a, out[i]? = some a → 0 ≤ a → a < z → Q a) : Ok (R.of (atI out j)) Q := by
  have hi : i < sizes.length := (List.getElem?_eq_some_iff.mp hz).1
  subst hj
  refine Ok.at (by omega) (by rw [h.1]; omega) fun a ha => ?_
  rw [Int.toNat_natCast] at ha
  obtain ⟨h0, h1⟩ := h.2 i a z ha hz
  exact q a ha h0 h1
theorem law_true (ns : List Int) (h : ns.length ≤ 63) : m_law ⟨ns⟩ = .ok true := by
  refine Ok.get ?_
  unfold m_law
  repeat (with_reducible first | refine Ok.bind ?_ | refine Ok.lt ?_ | refine Ok.ifm ?_ | refine Ok.ok ?_)
  refine (cell_ok _ 0 (by decide)).imp fun c0 _ => ?_
  refine (draws_ok c0 _ (by decide) (fun z hz => by
    simp only [List.mem_cons, List.not_mem_nil, or_false] at hz
    omega)).imp fun sh hsh => ?_
  repeat (with_reducible first | refine Ok.bind ?_ | refine Ok.lt ?_ | refine Ok.ifm ?_ | refine Ok.ok ?_)
  refine drawn_at hsh 2 21 rfl rfl fun n2 _ h2a h2b => ?_
  repeat (with_reducible first | refine Ok.bind ?_ | refine Ok.lt ?_ | refine Ok.ifm ?_ | refine Ok.ok ?_)
  refine drawn_at hsh 0 8 rfl rfl fun n0 _ _ _ => ?_
  repeat (with_reducible first | refine Ok.bind ?_ | refine Ok.lt ?_ | refine Ok.ifm ?_ | refine Ok.ok ?_)
  refine (show Ok _ (fun n : Int => 0 ≤ n ∧ n ≤ 20) from Ok.ite (fun _ => by
    repeat (with_reducible first | refine Ok.bind ?_ | refine Ok.lt ?_ | refine Ok.ifm ?_ | refine Ok.ok ?_)
    refine drawn_at hsh 1 5 rfl rfl fun a _ _ _ => ?_
    repeat (with_reducible first | refine Ok.bind ?_ | refine Ok.lt ?_ | refine Ok.ifm ?_ | refine Ok.ok ?_)
    omega) fun _ => by
    repeat (with_reducible first | refine Ok.bind ?_ | refine Ok.lt ?_ | refine Ok.ifm ?_ | refine Ok.ok ?_)
    omega).imp fun n1 hn1 => ?_
  repeat (with_reducible first | refine Ok.bind ?_ | refine Ok.lt ?_ | refine Ok.ifm ?_ | refine Ok.ok ?_)
  refine drawn_at hsh 0 8 rfl rfl fun n0 _ _ _ => ?_
  repeat (with_reducible first | refine Ok.bind ?_ | refine Ok.lt ?_ | refine Ok.ifm ?_ | refine Ok.ok ?_)
  refine (show Ok _ (fun n : Int => 0 ≤ n ∧ n ≤ 40) from Ok.ite (fun _ => by
    repeat (with_reducible first | refine Ok.bind ?_ | refine Ok.lt ?_ | refine Ok.ifm ?_ | refine Ok.ok ?_)
    refine drawn_at hsh 3 41 rfl rfl fun a _ _ _ => ?_
    repeat (with_reducible first | refine Ok.bind ?_ | refine Ok.lt ?_ | refine Ok.ifm ?_ | refine Ok.ok ?_)
    omega) fun _ => by
    repeat (with_reducible first | refine Ok.bind ?_ | refine Ok.lt ?_ | refine Ok.ifm ?_ | refine Ok.ok ?_)
    omega).imp fun n hn => ?_
  repeat (with_reducible first | refine Ok.bind ?_ | refine Ok.lt ?_ | refine Ok.ifm ?_ | refine Ok.ok ?_)
  refine drawn_at hsh 4 3 rfl rfl fun b _ _ _ => ?_
  repeat (with_reducible first | refine Ok.bind ?_ | refine Ok.lt ?_ | refine Ok.ifm ?_ | refine Ok.ok ?_)
  refine Ok.mul (.inl (by decide)) ?_
  refine (good_ok _ 1 n _ (by decide) hn).imp fun row hrow => ?_
  obtain ⟨hr1, hr2⟩ := hrow
  repeat (with_reducible first | refine Ok.bind ?_ | refine Ok.lt ?_ | refine Ok.ifm ?_ | refine Ok.ok ?_)
  refine drawn_at hsh 5 12 rfl rfl fun s5 _ _ _ => ?_
  repeat (with_reducible first | refine Ok.bind ?_ | refine Ok.lt ?_ | refine Ok.ifm ?_ | refine Ok.ok ?_)
  refine drawn_at hsh 6 41 rfl rfl fun s6 _ h6a h6b => ?_
  repeat (with_reducible first | refine Ok.bind ?_ | refine Ok.lt ?_ | refine Ok.ifm ?_ | refine Ok.ok ?_)
  refine drawn_at hsh 7 3 rfl rfl fun s7 _ h7a h7b => ?_
  refine (spoilt_ok row s5 s6 s7 (by omega) ⟨h7a, h7b⟩).imp fun lv hlv => ?_
  repeat (with_reducible first | refine Ok.bind ?_ | refine Ok.lt ?_ | refine Ok.ifm ?_ | refine Ok.ok ?_)
  refine drawn_at hsh 5 12 rfl rfl fun s5 _ _ _ => ?_
  repeat (with_reducible first | refine Ok.bind ?_ | refine Ok.lt ?_ | refine Ok.ifm ?_ | refine Ok.ok ?_)
  refine (show Ok _ (fun xs : List Int => xs.length ≤ 50) from Ok.ite (fun _ => by
    repeat (with_reducible first | refine Ok.bind ?_ | refine Ok.lt ?_ | refine Ok.ifm ?_ | refine Ok.ok ?_)
    refine drawn_at hsh 6 41 rfl rfl fun s6 _ h6a h6b => ?_
    repeat (with_reducible first | refine Ok.bind ?_ | refine Ok.lt ?_ | refine Ok.ifm ?_ | refine Ok.ok ?_)
    refine Ok.mod (by decide) ?_
    have m0 := Int.emod_nonneg s6 (show (2 : Int) ≠ 0 by decide)
    have m1 := Int.emod_lt_of_pos s6 (show (0 : Int) < 2 by decide)
    refine Ok.at m0 m1 fun sz hsz => ?_
    have hz : sz = 7 ∨ sz = 41 := by
      have := List.mem_of_getElem? hsz
      simpa only [List.mem_cons, List.not_mem_nil, or_false] using this
    repeat (with_reducible first | refine Ok.bind ?_ | refine Ok.lt ?_ | refine Ok.ifm ?_ | refine Ok.ok ?_)
    refine (cell_ok _ 3 (by decide)).imp fun c3 _ => ?_
    repeat (with_reducible first | refine Ok.bind ?_ | refine Ok.lt ?_ | refine Ok.ifm ?_ | refine Ok.ok ?_)
    refine Ok.range (by omega) ?_
    repeat (with_reducible first | refine Ok.bind ?_ | refine Ok.lt ?_ | refine Ok.ifm ?_ | refine Ok.ok ?_)
    refine (draws_ok c3 _ (by rw [List.length_map, rng_len]; omega) (fun z hz => by
      obtain ⟨_, _, e⟩ := List.mem_map.mp hz
      omega)).imp fun o ho => ?_
    refine Ok.comp (fun _ => true) (fun x => x - sz / 2) (fun _ _ => rfl) (fun x _ => Ok.get ?_) ?_
    · repeat (with_reducible first | refine Ok.bind ?_ | refine Ok.lt ?_ | refine Ok.ifm ?_ | refine Ok.ok ?_)
      refine Ok.div (by decide) (by decide +kernel) ?_
      repeat (with_reducible first | refine Ok.bind ?_ | refine Ok.lt ?_ | refine Ok.ifm ?_ | refine Ok.ok ?_)
      rfl
    · repeat (with_reducible first | refine Ok.bind ?_ | refine Ok.lt ?_ | refine Ok.ifm ?_ | refine Ok.ok ?_)
      rw [List.length_map, filter_yes, ho.1, List.length_map, rng_len]
      omega) fun _ => by
    repeat (with_reducible first | refine Ok.bind ?_ | refine Ok.lt ?_ | refine Ok.ifm ?_ | refine Ok.ok ?_)
    omega).imp fun lv2 hlv2 => ?_
  repeat (with_reducible first | refine Ok.bind ?_ | refine Ok.lt ?_ | refine Ok.ifm ?_ | refine Ok.ok ?_)
  refine (cell_ok _ 4 (by decide)).imp fun c4 _ => ?_
  refine (draws_ok c4 _ (by show (3 : Nat) ≤ 1000; decide) (fun z hz => by
    simp only [List.mem_cons, List.not_mem_nil, or_false] at hz
    omega)).imp fun cu hcu => ?_
  repeat (with_reducible first | refine Ok.bind ?_ | refine Ok.lt ?_ | refine Ok.ifm ?_ | refine Ok.ok ?_)
  refine drawn_at hcu 1 41 rfl rfl fun u1 _ _ _ => ?_
  repeat (with_reducible first | refine Ok.bind ?_ | refine Ok.lt ?_ | refine Ok.ifm ?_ | refine Ok.ok ?_)
  refine drawn_at hcu 0 (n + 1) rfl rfl fun u0 _ _ _ => ?_
  repeat (with_reducible first | refine Ok.bind ?_ | refine Ok.lt ?_ | refine Ok.ifm ?_ | refine Ok.ok ?_)
  refine Ok.mod (by omega) ?_
  generalize (u1 % (n - u0 + 1)) = hi
  repeat (with_reducible first | refine Ok.bind ?_ | refine Ok.lt ?_ | refine Ok.ifm ?_ | refine Ok.ok ?_)
  refine drawn_at hcu 0 (n + 1) rfl rfl fun u0 _ _ _ => ?_
  repeat (with_reducible first | refine Ok.bind ?_ | refine Ok.lt ?_ | refine Ok.ifm ?_ | refine Ok.ok ?_)
  obtain ⟨u2, eu2, _⟩ := atI_of (xs := cu) (i := 2) (by decide) (by rw [hcu.1]; show (2 : Int) < 3; decide)
  have sb := cutL_sub (xs := row) (lo := some u0) (hi := some (n - hi))
  refine Ok.comp (fun _ => true) (fun x => x + hi + u2) (fun _ _ => rfl) (fun x _ => by rw [eu2]; rfl) ?_
  rw [filter_yes]
  have ml : ((cutL row (some u0) (some (n - hi))).map fun x => x + hi + u2).length ≤ 50 := by
    rw [List.length_map]
    have := sb.length_le
    omega
  have mp : ((cutL row (some u0) (some (n - hi))).map fun x => x + hi + u2).Pairwise (· ≤ ·) := by
    rw [List.pairwise_map]
    exact (hr2.sublist sb).imp fun h => by omega
  repeat (with_reducible first | refine Ok.bind ?_ | refine Ok.lt ?_ | refine Ok.ifm ?_ | refine Ok.ok ?_)
  refine Ok.eq (asked_is lv2 hlv2) ?_
  refine Ok.ite (fun _ => ?_) fun h => by cases h
  repeat (with_reducible first | refine Ok.bind ?_ | refine Ok.lt ?_ | refine Ok.ifm ?_ | refine Ok.ok ?_)
  refine Ok.eq (asked_is _ ml) ?_
  refine Ok.ite (fun _ => ?_) fun h => by cases h
  repeat (with_reducible first | refine Ok.bind ?_ | refine Ok.lt ?_ | refine Ok.ifm ?_ | refine Ok.ok ?_)
  refine Ok.eq (ends_is row (by omega) hr2) ?_
  refine Ok.ite (fun _ => ?_) fun h => by cases h
  exact Ok.eq (ends_is _ ml mp) rfl
end K05

set_option Elab.async false
set_option linter.all false
set_option maxRecDepth 100000
set_option maxHeartbeats 4000000
namespace K05
open PySem PySem.Spec L2 Pv
open Enc (enc)
open Encs (encs)
section
variable {P : Program} {w : World} {K : PySem.W.Frag} {mg : Str → Option Value} {base : Heap}
abbrev s_Span_init : Stmt := inClass (topS 1) 0
theorem sc_Span_init : FnScope ["self", "least", "most"] ["self", "least", "most"] (defScope s_Span_init) := ⟨rfl, rfl, rfl, by decide +kernel, rfl, by decide +kernel, by decide +kernel⟩
set_option maxRecDepth 100000 in
theorem all_mk {l : PySem.W.OpenLaw} {w : World} {K : PySem.W.Frag} {h : Heap} {mg : Str → Option Value} {fa fI0 f1 f2 f3 f4 f5 f6 f7 f8 f9 f10 f11 f12 f13 f14 f15 f16 C0 p14 : Addr} (X : K.In h) (G : h.Ns mainGlobals mg) (hfa : mg "law" = some (.ref fa))
    {odI0 anI0 od1 an1 od2 an2 od3 an3 od4 an4 od5 an5 od6 an6 od7 an7 od8 an8 od9 an9 od10 an10 od11 an11 od12 an12 od13 an13 od14 an14 od15 an15 od16 an16 : Option Addr} {slI0 sl1 sl2 sl3 sl4 sl5 sl6 sl7 sl8 sl9 sl10 sl11 sl12 sl13 sl14 sl15 sl16 : Array (Option Value)} {ocI0 kVI0 dcI0 pmI0 cdI0 ctI0 oc1 kV1 dc1 pm1 cd1 ct1 oc2 kV2 dc2 pm2 cd2 ct2 oc3 kV3 dc3 pm3 cd3 ct3 oc4 kV4 dc4 pm4 cd4 ct4 oc5 kV5 dc5 pm5 cd5 ct5 oc6 kV6 dc6 pm6 cd6 ct6 oc7 kV7 dc7 pm7 cd7 ct7 oc8 kV8 dc8 pm8 cd8 ct8 oc9 kV9 dc9 pm9 cd9 ct9 oc10 kV10 dc10 pm10 cd10 ct10 oc11 kV11 dc11 pm11 cd11 ct11 oc12 kV12 dc12 pm12 cd12 ct12 oc13 kV13 dc13 pm13 cd13 ct13 oc14 kV14 dc14 pm14 cd14 ct14 oc15 kV15 dc15 pm15 cd15 ct15 oc16 kV16 dc16 pm16 cd16 ct16 : Value} {r14 : List Value}
    (aC0 : PySem.W.nsIn K mainGlobals "Span" = some (some (.ref C0)))
    (ai0 : PySem.W.findIn K (.ref C0) "__init__" = some (some (.ref fI0)))
    (ii0 : PySem.W.isFn K (.ref fI0) = true)
    (lI0 : K.lookup fI0 = some ⟨ocI0, odI0, .func (PySem.W.fnOf "__init__" "Span.__init__" (defArgs s_Span_init) (defBody s_Span_init) (defScope s_Span_init) .none kVI0 dcI0 pmI0 anI0 cdI0 ctI0), slI0⟩)
    (cI0 : PySem.W.codeIn K cdI0 "Span.__init__" = true)
    (kI0 : PySem.W.keepIn K (.ref fI0) = true)
    (pg0 : PySem.W.plainGet K C0 Str.empty = true)
    (hd0 : PySem.W.hasDictIn K C0 = true)
    (po0 : PySem.W.plainOver K C0 = true)
    (sa0 : PySem.W.findIn K (.ref C0) "__setattr__" = some (some (.builtin "object.__setattr__")))
    (mk0 : PySem.W.makesIn K C0 = true)
    (kc0 : PySem.W.keepIn K (.ref C0) = true)
    (n0_0 : PySem.W.findIn K (.ref C0) "least" = some none)
    (n0_1 : PySem.W.findIn K (.ref C0) "most" = some none)
    (ha0 : PySem.W.findIn K (.ref C0) "__class__" = some (some (.builtin "object.__class__")))
    (hn0 : PySem.W.specialIn K (.builtin "object.__class__") "__get__" = some (some (.builtin "getset_descriptor.__get__")))
    (ht0 : PySem.W.takesIn K (.builtin "object.__class__") = some true)
    (hm0 : PySem.W.mroIn K C0 (.type "object") = some true)
    (z_abs : PySem.W.nsIn K mainGlobals "abs" = some none)
    (z_all : PySem.W.nsIn K mainGlobals "all" = some none)
    (z_bool : PySem.W.nsIn K mainGlobals "bool" = some none)
    (z_int : PySem.W.nsIn K mainGlobals "int" = some none)
    (z_isinstance : PySem.W.nsIn K mainGlobals "isinstance" = some none)
    (z_len : PySem.W.nsIn K mainGlobals "len" = some none)
    (z_list : PySem.W.nsIn K mainGlobals "list" = some none)
    (z_range : PySem.W.nsIn K mainGlobals "range" = some none)
    (z_set : PySem.W.nsIn K mainGlobals "set" = some none)
    (z_sorted : PySem.W.nsIn K mainGlobals "sorted" = some none)
    (z_sum : PySem.W.nsIn K mainGlobals "sum" = some none)
    (z_zip : PySem.W.nsIn K mainGlobals "zip" = some none)
    (a1 : PySem.W.nsIn K mainGlobals "is_row" = some (some (.ref f1)))
    (l1 : K.lookup f1 = some ⟨oc1, od1, .func (PySem.W.fnOf "is_row" "is_row" (defArgs s_is_row) (defBody s_is_row) (defScope s_is_row) .none kV1 dc1 pm1 an1 cd1 ct1), sl1⟩)
    (c1 : PySem.W.codeIn K cd1 "is_row" = true)
    (k1 : PySem.W.keepIn K (.ref f1) = true)
    (a2 : PySem.W.nsIn K mainGlobals "blocks" = some (some (.ref f2)))
    (l2 : K.lookup f2 = some ⟨oc2, od2, .func (PySem.W.fnOf "blocks" "blocks" (defArgs s_blocks) (defBody s_blocks) (defScope s_blocks) .none kV2 dc2 pm2 an2 cd2 ct2), sl2⟩)
    (c2 : PySem.W.codeIn K cd2 "blocks" = true)
    (k2 : PySem.W.keepIn K (.ref f2) = true)
    (a3 : PySem.W.nsIn K mainGlobals "span_of_row" = some (some (.ref f3)))
    (l3 : K.lookup f3 = some ⟨oc3, od3, .func (PySem.W.fnOf "span_of_row" "span_of_row" (defArgs s_span_of_row) (defBody s_span_of_row) (defScope s_span_of_row) .none kV3 dc3 pm3 an3 cd3 ct3), sl3⟩)
    (c3 : PySem.W.codeIn K cd3 "span_of_row" = true)
    (k3 : PySem.W.keepIn K (.ref f3) = true)
    (a4 : PySem.W.nsIn K mainGlobals "_law_cell" = some (some (.ref f4)))
    (l4 : K.lookup f4 = some ⟨oc4, od4, .func (PySem.W.fnOf "_law_cell" "_law_cell" (defArgs s__law_cell) (defBody s__law_cell) (defScope s__law_cell) .none kV4 dc4 pm4 an4 cd4 ct4), sl4⟩)
    (c4 : PySem.W.codeIn K cd4 "_law_cell" = true)
    (k4 : PySem.W.keepIn K (.ref f4) = true)
    (a5 : PySem.W.nsIn K mainGlobals "_law_draws" = some (some (.ref f5)))
    (l5 : K.lookup f5 = some ⟨oc5, od5, .func (PySem.W.fnOf "_law_draws" "_law_draws" (defArgs s__law_draws) (defBody s__law_draws) (defScope s__law_draws) .none kV5 dc5 pm5 an5 cd5 ct5), sl5⟩)
    (c5 : PySem.W.codeIn K cd5 "_law_draws" = true)
    (k5 : PySem.W.keepIn K (.ref f5) = true)
    (a6 : PySem.W.nsIn K mainGlobals "_law_is_int" = some (some (.ref f6)))
    (l6 : K.lookup f6 = some ⟨oc6, od6, .func (PySem.W.fnOf "_law_is_int" "_law_is_int" (defArgs s__law_is_int) (defBody s__law_is_int) (defScope s__law_is_int) .none kV6 dc6 pm6 an6 cd6 ct6), sl6⟩)
    (c6 : PySem.W.codeIn K cd6 "_law_is_int" = true)
    (k6 : PySem.W.keepIn K (.ref f6) = true)
    (a7 : PySem.W.nsIn K mainGlobals "_law_is_ints" = some (some (.ref f7)))
    (l7 : K.lookup f7 = some ⟨oc7, od7, .func (PySem.W.fnOf "_law_is_ints" "_law_is_ints" (defArgs s__law_is_ints) (defBody s__law_is_ints) (defScope s__law_is_ints) .none kV7 dc7 pm7 an7 cd7 ct7), sl7⟩)
    (c7 : PySem.W.codeIn K cd7 "_law_is_ints" = true)
    (k7 : PySem.W.keepIn K (.ref f7) = true)
    (a8 : PySem.W.nsIn K mainGlobals "_law_good_row" = some (some (.ref f8)))
    (l8 : K.lookup f8 = some ⟨oc8, od8, .func (PySem.W.fnOf "_law_good_row" "_law_good_row" (defArgs s__law_good_row) (defBody s__law_good_row) (defScope s__law_good_row) .none kV8 dc8 pm8 an8 cd8 ct8), sl8⟩)
    (c8 : PySem.W.codeIn K cd8 "_law_good_row" = true)
    (k8 : PySem.W.keepIn K (.ref f8) = true)
    (a9 : PySem.W.nsIn K mainGlobals "_law_spoilt" = some (some (.ref f9)))
    (l9 : K.lookup f9 = some ⟨oc9, od9, .func (PySem.W.fnOf "_law_spoilt" "_law_spoilt" (defArgs s__law_spoilt) (defBody s__law_spoilt) (defScope s__law_spoilt) .none kV9 dc9 pm9 an9 cd9 ct9), sl9⟩)
    (c9 : PySem.W.codeIn K cd9 "_law_spoilt" = true)
    (k9 : PySem.W.keepIn K (.ref f9) = true)
    (a10 : PySem.W.nsIn K mainGlobals "_law_due" = some (some (.ref f10)))
    (l10 : K.lookup f10 = some ⟨oc10, od10, .func (PySem.W.fnOf "_law_due" "_law_due" (defArgs s__law_due) (defBody s__law_due) (defScope s__law_due) .none kV10 dc10 pm10 an10 cd10 ct10), sl10⟩)
    (c10 : PySem.W.codeIn K cd10 "_law_due" = true)
    (k10 : PySem.W.keepIn K (.ref f10) = true)
    (a11 : PySem.W.nsIn K mainGlobals "_law_has_order" = some (some (.ref f11)))
    (l11 : K.lookup f11 = some ⟨oc11, od11, .func (PySem.W.fnOf "_law_has_order" "_law_has_order" (defArgs s__law_has_order) (defBody s__law_has_order) (defScope s__law_has_order) .none kV11 dc11 pm11 an11 cd11 ct11), sl11⟩)
    (c11 : PySem.W.codeIn K cd11 "_law_has_order" = true)
    (k11 : PySem.W.keepIn K (.ref f11) = true)
    (a12 : PySem.W.nsIn K mainGlobals "_law_asked" = some (some (.ref f12)))
    (l12 : K.lookup f12 = some ⟨oc12, od12, .func (PySem.W.fnOf "_law_asked" "_law_asked" (defArgs s__law_asked) (defBody s__law_asked) (defScope s__law_asked) .none kV12 dc12 pm12 an12 cd12 ct12), sl12⟩)
    (c12 : PySem.W.codeIn K cd12 "_law_asked" = true)
    (k12 : PySem.W.keepIn K (.ref f12) = true)
    (a13 : PySem.W.nsIn K mainGlobals "_law_sizes" = some (some (.ref f13)))
    (l13 : K.lookup f13 = some ⟨oc13, od13, .func (PySem.W.fnOf "_law_sizes" "_law_sizes" (defArgs s__law_sizes) (defBody s__law_sizes) (defScope s__law_sizes) .none kV13 dc13 pm13 an13 cd13 ct13), sl13⟩)
    (c13 : PySem.W.codeIn K cd13 "_law_sizes" = true)
    (k13 : PySem.W.keepIn K (.ref f13) = true)
    (pa14 : PySem.W.findIn K (.ref C0) "width" = some (some (.ref p14)))
    (pb14 : PySem.W.specialIn K (.ref p14) "__get__" = some (some (.builtin "property.__get__")))
    (pc14 : PySem.W.takesIn K (.ref p14) = some true)
    (pd14 : PySem.W.recIn K p14 "property" = some (.ref f14 :: r14))
    (l14 : K.lookup f14 = some ⟨oc14, od14, .func (PySem.W.fnOf "width" "Span.width" (defArgs s_Span_width) (defBody s_Span_width) (defScope s_Span_width) .none kV14 dc14 pm14 an14 cd14 ct14), sl14⟩)
    (c14 : PySem.W.codeIn K cd14 "Span.width" = true)
    (k14 : PySem.W.keepIn K (.ref f14) = true)
    (a15 : PySem.W.nsIn K mainGlobals "_law_ends" = some (some (.ref f15)))
    (l15 : K.lookup f15 = some ⟨oc15, od15, .func (PySem.W.fnOf "_law_ends" "_law_ends" (defArgs s__law_ends) (defBody s__law_ends) (defScope s__law_ends) .none kV15 dc15 pm15 an15 cd15 ct15), sl15⟩)
    (c15 : PySem.W.codeIn K cd15 "_law_ends" = true)
    (k15 : PySem.W.keepIn K (.ref f15) = true)
    (a16 : PySem.W.nsIn K mainGlobals "law" = some (some (.ref f16)))
    (l16 : K.lookup f16 = some ⟨oc16, od16, .func (PySem.W.fnOf "law" "law" (defArgs s_law) (defBody s_law) (defScope s_law) .none kV16 dc16 pm16 an16 cd16 ct16), sl16⟩)
    (c16 : PySem.W.codeIn K cd16 "law" = true)
    (k16 : PySem.W.keepIn K (.ref f16) = true)
    : ∃ fd : FuncData, (∀ (s : Shared) (v : Value), BindsTo s fd ⟨[v], []⟩ [("_law_script", v)]) ∧ ∀ base : Heap, K.In base → base.Ns mainGlobals mg → FnOk l.prog w K mg base CX0 6 fa fd ["_law_script"] (spLaw K) := by
  have e := hfa.symm.trans (PySem.W.mg_of X G a16)
  cases e
  have FI0 := fun_mk (st := s_Span_init) lI0 cI0 kI0
  have bI0 := FI0.binds (ps := ["self", "least", "most"]) fun _ _ _ _ _ _ us hl => match us, hl with | [_, _, _], _ => rfl
  have cl0 : Cls K C0 := ⟨pg0, hd0, po0, sa0⟩
  have y_abs := PySem.W.mg_none_of X G z_abs
  have y_all := PySem.W.mg_none_of X G z_all
  have y_bool := PySem.W.mg_none_of X G z_bool
  have y_int := PySem.W.mg_none_of X G z_int
  have y_isinstance := PySem.W.mg_none_of X G z_isinstance
  have y_len := PySem.W.mg_none_of X G z_len
  have y_list := PySem.W.mg_none_of X G z_list
  have y_range := PySem.W.mg_none_of X G z_range
  have y_set := PySem.W.mg_none_of X G z_set
  have y_sorted := PySem.W.mg_none_of X G z_sorted
  have y_sum := PySem.W.mg_none_of X G z_sum
  have y_zip := PySem.W.mg_none_of X G z_zip
  have F1 := fun_mk (st := s_is_row) l1 c1 k1
  have b1 := F1.binds (ps := ["levels"]) fun _ _ _ _ _ _ us hl => match us, hl with | [_], _ => rfl
  have F2 := fun_mk (st := s_blocks) l2 c2 k2
  have b2 := F2.binds (ps := ["row"]) fun _ _ _ _ _ _ us hl => match us, hl with | [_], _ => rfl
  have F3 := fun_mk (st := s_span_of_row) l3 c3 k3
  have b3 := F3.binds (ps := ["row"]) fun _ _ _ _ _ _ us hl => match us, hl with | [_], _ => rfl
  have F4 := fun_mk (st := s__law_cell) l4 c4 k4
  have b4 := F4.binds (ps := ["_law_script", "_law_k"]) fun _ _ _ _ _ _ us hl => match us, hl with | [_, _], _ => rfl
  have F5 := fun_mk (st := s__law_draws) l5 c5 k5
  have b5 := F5.binds (ps := ["_law_cell_here", "_law_sizes_here"]) fun _ _ _ _ _ _ us hl => match us, hl with | [_, _], _ => rfl
  have F6 := fun_mk (st := s__law_is_int) l6 c6 k6
  have b6 := F6.binds (ps := ["_law_x"]) fun _ _ _ _ _ _ us hl => match us, hl with | [_], _ => rfl
  have F7 := fun_mk (st := s__law_is_ints) l7 c7 k7
  have b7 := F7.binds (ps := ["_law_xs"]) fun _ _ _ _ _ _ us hl => match us, hl with | [_], _ => rfl
  have F8 := fun_mk (st := s__law_good_row) l8 c8 k8
  have b8 := F8.binds (ps := ["_law_script", "_law_at", "_law_count", "_law_bar"]) fun _ _ _ _ _ _ us hl => match us, hl with | [_, _, _, _], _ => rfl
  have F9 := fun_mk (st := s__law_spoilt) l9 c9 k9
  have b9 := F9.binds (ps := ["_law_row", "_law_kind", "_law_index", "_law_size"]) fun _ _ _ _ _ _ us hl => match us, hl with | [_, _, _, _], _ => rfl
  have F10 := fun_mk (st := s__law_due) l10 c10 k10
  have b10 := F10.binds (ps := ["_law_levels"]) fun _ _ _ _ _ _ us hl => match us, hl with | [_], _ => rfl
  have F11 := fun_mk (st := s__law_has_order) l11 c11 k11
  have b11 := F11.binds (ps := ["_law_levels"]) fun _ _ _ _ _ _ us hl => match us, hl with | [_], _ => rfl
  have F12 := fun_mk (st := s__law_asked) l12 c12 k12
  have b12 := F12.binds (ps := ["_law_levels"]) fun _ _ _ _ _ _ us hl => match us, hl with | [_], _ => rfl
  have F13 := fun_mk (st := s__law_sizes) l13 c13 k13
  have b13 := F13.binds (ps := ["_law_row"]) fun _ _ _ _ _ _ us hl => match us, hl with | [_], _ => rfl
  have F14 := fun_mk (st := s_Span_width) l14 c14 k14
  have b14 := F14.binds (ps := ["self"]) fun _ _ _ _ _ _ us hl => match us, hl with | [_], _ => rfl
  have F15 := fun_mk (st := s__law_ends) l15 c15 k15
  have b15 := F15.binds (ps := ["_law_row"]) fun _ _ _ _ _ _ us hl => match us, hl with | [_], _ => rfl
  have F16 := fun_mk (st := s_law) l16 c16 k16
  refine ⟨PySem.W.fnOf "law" "law" (defArgs s_law) (defBody s_law) (defScope s_law) .none kV16 dc16 pm16 an16 cd16 ct16, fun s v => .of_eq rfl, fun base _ _ => ?_⟩
  let T : CT := ⟨K, fun c => match c with | 0 => C0 | _ => 0, fun c => match c with | 0 => ["least", "most"] | _ => []⟩
  have y_Span : KdC l.prog w K mg base T 0 "Span" ["least", "most"] ["self", "least", "most"] 1 := ⟨rfl, by decide, cl0, (fun f hf => by simp only [List.mem_cons, List.not_mem_nil, or_false] at hf; rcases hf with rfl | rfl <;> assumption), PySem.W.mg_of X G aC0, ⟨_, _, ⟨mk0, ai0, ii0, kc0⟩, bI0, init_two FI0 sc_Span_init (by decide) cl0 n0_0 n0_1 fun cdv A outer s H E => pss_cons (ps_fld (pv 0) (pv 1) rfl) (pss_cons (ps_fld (pv 0) (pv 2) rfl) pss_nil)⟩, ⟨cl0, ha0, hn0, ht0, hm0, if_pos (beq_self_eq_true _)⟩⟩
  have k_is_row : Kd l.prog w K mg base CX0 "is_row" ["levels"] 1 (Pm T (.val .fr) (fun b : (List Int) × Unit => m_is_row b.1)) := ⟨_, _, PySem.W.mg_of X G a1, k1, b1, ok_is_row F1 rfl y_all y_zip⟩
  have k_blocks : Kd l.prog w K mg base CX0 "blocks" ["row"] 1 (Pm T (.nw .fr) (fun b : (List Int) × Unit => m_blocks b.1)) := ⟨_, _, PySem.W.mg_of X G a2, k2, b2, ok_blocks F2 rfl y_set y_sorted⟩
  have k_span_of_row : Kd l.prog w K mg base CX0 "span_of_row" ["row"] 3 (Pm T (.val .fr) (fun b : (List Int) × Unit => m_span_of_row b.1)) := ⟨_, _, PySem.W.mg_of X G a3, k3, b3, ok_span_of_row F3 rfl y_Span y_len⟩
  have k__law_cell : Kd l.prog w K mg base CX0 "_law_cell" ["_law_script", "_law_k"] 1 (Pm T (.val .fr) (fun b : Scr × Int × Unit => m__law_cell b.1 b.2.1)) := ⟨_, _, PySem.W.mg_of X G a4, k4, b4, ok__law_cell F4 rfl y_int y_len⟩
  have k__law_draws : Kd l.prog w K mg base CX0 "_law_draws" ["_law_cell_here", "_law_sizes_here"] 1 (Pm T (.nw .fr) (fun b : Int × (List Int) × Unit => m__law_draws b.1 b.2.1)) := ⟨_, _, PySem.W.mg_of X G a5, k5, b5, ok__law_draws F5 rfl y_abs y_int y_len y_range⟩
  have k__law_is_int : Kd l.prog w K mg base CX0 "_law_is_int" ["_law_x"] 1 (Pm T (.val .fr) (fun b : Int × Unit => m__law_is_int b.1)) := ⟨_, _, PySem.W.mg_of X G a6, k6, b6, ok__law_is_int F6 rfl y_bool y_int y_isinstance⟩
  have k__law_is_ints : Kd l.prog w K mg base CX0 "_law_is_ints" ["_law_xs"] 2 (Pm T (.val .fr) (fun b : (List Int) × Unit => m__law_is_ints b.1)) := ⟨_, _, PySem.W.mg_of X G a7, k7, b7, ok__law_is_ints F7 rfl k__law_is_int y_all y_isinstance y_list⟩
  have k__law_good_row : Kd l.prog w K mg base CX0 "_law_good_row" ["_law_script", "_law_at", "_law_count", "_law_bar"] 2 (Pm T (.nw .fr) (fun b : Scr × Int × Int × Int × Unit => m__law_good_row b.1 b.2.1 b.2.2.1 b.2.2.2.1)) := ⟨_, _, PySem.W.mg_of X G a8, k8, b8, ok__law_good_row F8 rfl k__law_cell k__law_draws y_int y_len y_range y_sum⟩
  have k__law_spoilt : Kd l.prog w K mg base CX0 "_law_spoilt" ["_law_row", "_law_kind", "_law_index", "_law_size"] 1 (Pm T (.nw .fr) (fun b : (List Int) × Int × Int × Int × Unit => m__law_spoilt b.1 b.2.1 b.2.2.1 b.2.2.2.1)) := ⟨_, _, PySem.W.mg_of X G a9, k9, b9, ok__law_spoilt F9 rfl y_int y_len y_list⟩
  have k__law_due : Kd l.prog w K mg base CX0 "_law_due" ["_law_levels"] 1 (Pm T (.val .fr) (fun b : (List Int) × Unit => m__law_due b.1)) := ⟨_, _, PySem.W.mg_of X G a10, k10, b10, ok__law_due F10 rfl y_len y_range⟩
  have k__law_has_order : Kd l.prog w K mg base CX0 "_law_has_order" ["_law_levels"] 1 (Pm T (.val .fr) (fun b : (List Int) × Unit => m__law_has_order b.1)) := ⟨_, _, PySem.W.mg_of X G a11, k11, b11, ok__law_has_order F11 rfl y_len y_list y_range y_sorted⟩
  have k__law_asked : Kd l.prog w K mg base CX0 "_law_asked" ["_law_levels"] 2 (Pm T (.val .fr) (fun b : (List Int) × Unit => m__law_asked b.1)) := ⟨_, _, PySem.W.mg_of X G a12, k12, b12, ok__law_asked F12 rfl k__law_due k__law_has_order k_is_row y_bool y_isinstance y_len y_list⟩
  have k__law_sizes : Kd l.prog w K mg base CX0 "_law_sizes" ["_law_row"] 1 (Pm T (.nw .fr) (fun b : (List Int) × Unit => m__law_sizes b.1)) := ⟨_, _, PySem.W.mg_of X G a13, k13, b13, ok__law_sizes F13 rfl y_len y_range⟩
  have k_Span_width : ∃ p a fd, PropOf K C0 "width" p a ∧ Binds K fd ["self"] [] ∧ FnOk l.prog w K mg base CX0 3 a fd ["self"] (Pm T (.val .fr) (fun b : O_Span × Unit => m_Span_width b.1)) := ⟨_, _, _, ⟨pa14, pb14, pc14, ⟨_, pd14⟩⟩, b14, ok_Span_width F14 rfl y_Span⟩
  have k__law_ends : Kd l.prog w K mg base CX0 "_law_ends" ["_law_row"] 5 (Pm T (.val .fr) (fun b : (List Int) × Unit => m__law_ends b.1)) := ⟨_, _, PySem.W.mg_of X G a15, k15, b15, ok__law_ends F15 rfl k_Span_width k__law_is_int k__law_is_ints k__law_sizes k_blocks k_span_of_row y_Span y_isinstance y_len y_list⟩
  exact law_pm (T := T) rfl (ok_law F16 rfl k__law_asked k__law_cell k__law_draws k__law_ends k__law_good_row k__law_spoilt y_int y_range) (fun ns hl => law_true ns hl)
end
end K05
open PySem PySem.W PyProof.Rows
set_option maxRecDepth 100000 in
set_option maxHeartbeats 0 in
theorem PySem.Challenge.cw_climbrow_k05_row_or_not_holds : PySem.Challenge.rw_climbrow_k05_row_or_not.Holds := by
  w_on; o_law; k_head; (case hw => w_witness2)
  k_fill
  refine L2.walk_of (l := PySem.Challenge.rw_climbrow_k05_row_or_not) (n := 63) (k := 6) (x := "_law_script") (CX := fun _ => L2.CX0) (sp := fun w => Pv.spLaw _) rfl (by decide) rfl ⟨rfl, by decide, by decide⟩ (fun w h Y => PySem.W.kIn_of Y) ?F (fun _ _ a ns hl _ hS => ⟨a, ns, rfl, hS, hl, fun _ => rfl⟩) (fun _ _ _ _ _ h => h)
  case F =>
    intro w mg fa h KX G hmg
    refine' K05.all_mk KX G hmg ?aC0 ?ai0 ?ii0 ?lI0 ?cI0 ?kI0 ?pg0 ?hd0 ?po0 ?sa0 ?mk0 ?kc0 ?n0_0 ?n0_1 ?ha0 ?hn0 ?ht0 ?hm0 ?z_abs ?z_all ?z_bool ?z_int ?z_isinstance ?z_len ?z_list ?z_range ?z_set ?z_sorted ?z_sum ?z_zip ?a1 ?l1 ?c1 ?k1 ?a2 ?l2 ?c2 ?k2 ?a3 ?l3 ?c3 ?k3 ?a4 ?l4 ?c4 ?k4 ?a5 ?l5 ?c5 ?k5 ?a6 ?l6 ?c6 ?k6 ?a7 ?l7 ?c7 ?k7 ?a8 ?l8 ?c8 ?k8 ?a9 ?l9 ?c9 ?k9 ?a10 ?l10 ?c10 ?k10 ?a11 ?l11 ?c11 ?k11 ?a12 ?l12 ?c12 ?k12 ?a13 ?l13 ?c13 ?k13 ?pa14 ?pb14 ?pc14 ?pd14 ?l14 ?c14 ?k14 ?a15 ?l15 ?c15 ?k15 ?a16 ?l16 ?c16 ?k16
    (case aC0 => k_is)
    (case ai0 => k_is)
    (case ii0 => k_is)
    (case lI0 => k_is)
    (case cI0 => k_is)
    (case kI0 => k_is)
    (case pg0 => k_is)
    (case hd0 => k_is)
    (case po0 => k_is)
    (case sa0 => k_is)
    (case mk0 => k_is)
    (case kc0 => k_is)
    (case n0_0 => k_is)
    (case n0_1 => k_is)
    (case ha0 => k_is)
    (case hn0 => k_is)
    (case ht0 => k_is)
    (case hm0 => k_is)
    (case z_abs => k_is)
    (case z_all => k_is)
    (case z_bool => k_is)
    (case z_int => k_is)
    (case z_isinstance => k_is)
    (case z_len => k_is)
    (case z_list => k_is)
    (case z_range => k_is)
    (case z_set => k_is)
    (case z_sorted => k_is)
    (case z_sum => k_is)
    (case z_zip => k_is)
    (case a1 => k_is)
    (case l1 => k_is)
    (case c1 => k_is)
    (case k1 => k_is)
    (case a2 => k_is)
    (case l2 => k_is)
    (case c2 => k_is)
    (case k2 => k_is)
    (case a3 => k_is)
    (case l3 => k_is)
    (case c3 => k_is)
    (case k3 => k_is)
    (case a4 => k_is)
    (case l4 => k_is)
    (case c4 => k_is)
    (case k4 => k_is)
    (case a5 => k_is)
    (case l5 => k_is)
    (case c5 => k_is)
    (case k5 => k_is)
    (case a6 => k_is)
    (case l6 => k_is)
    (case c6 => k_is)
    (case k6 => k_is)
    (case a7 => k_is)
    (case l7 => k_is)
    (case c7 => k_is)
    (case k7 => k_is)
    (case a8 => k_is)
    (case l8 => k_is)
    (case c8 => k_is)
    (case k8 => k_is)
    (case a9 => k_is)
    (case l9 => k_is)
    (case c9 => k_is)
    (case k9 => k_is)
    (case a10 => k_is)
    (case l10 => k_is)
    (case c10 => k_is)
    (case k10 => k_is)
    (case a11 => k_is)
    (case l11 => k_is)
    (case c11 => k_is)
    (case k11 => k_is)
    (case a12 => k_is)
    (case l12 => k_is)
    (case c12 => k_is)
    (case k12 => k_is)
    (case a13 => k_is)
    (case l13 => k_is)
    (case c13 => k_is)
    (case k13 => k_is)
    (case pa14 => k_is)
    (case pb14 => k_is)
    (case pc14 => k_is)
    (case pd14 => k_is)
    (case l14 => k_is)
    (case c14 => k_is)
    (case k14 => k_is)
    (case a15 => k_is)
    (case l15 => k_is)
    (case c15 => k_is)
    (case k15 => k_is)
    (case a16 => k_is)
    (case l16 => k_is)
    (case c16 => k_is)
    (case k16 => k_is)

