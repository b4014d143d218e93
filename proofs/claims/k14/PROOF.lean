import PyProof.Rows.All
import Wide.All
import OpenK.AllK
import Wide.FinOn
import KE.OsRunLaw
import HandS.ForMost
import HandS.ForExc
import HandS.IsInst
import HandS.Wide
import HandS.Deep
import HandS.SetFor
import HandS.SortInts
import HandS.EndBits
import HandS.Property
import HandS.Codes
import HandS.Strs
import HandS.ExcInit
import HandS.ExcSuper
import HandS.FStr
import KE.KExcSuper
import HandS.ExcCtx
import HandS.HotCalls
import HandS.ExcIs
import HandS.ExcField
import KE.KExcIs
import HandS.Text
import PyProof.Draws
import HandS.Defaults
import HandS.CallSlots
import HandS.MakeKwOnly
import KE.RegKIsAll
import KE.RegKSuper
import HandS.TryMany
import HandS.RevRange
import KE.KRevSl
import OpenK.KMeth
import PyProof.SliceStr2
import HandS.TupLe
import HandS.SortKw
import KE.DatumOrd
import HandS.DictComp
import KE.KDictDisplayH
import PyProof.Rows.NestShow
import HandS.Ends
import PyProof.ReprBulk
import HandS.WordsDict
import HandS.Conv
import HandS.OwnIter
import HandS.IterVal
import HandS.MakeKw
import KE.DataCmp
import KE.DataMinMax
import KE.KDictZip
import HandS.Style
import PySem.Challenge.RW_climbrow_k14_whole_turns_of_the_ring
set_option Elab.async false
set_option linter.all false
set_option maxRecDepth 100000
set_option maxHeartbeats 0
namespace Hd
open PySem PySem.W PyProof.Rows
section
local macro_rules
  | `(tactic| kernel_rfl) => `(tactic| exact False.elim (by assumption))
local macro_rules
  | `(tactic| refine $e) => do
    let f := e.raw[0].getId.eraseMacroScopes
    if f == `PySem.W.holds_open || f == `PySem.W.holds_openC || f == `PySem.W.holds_openN || f == `PySem.W.holds_openCN then `(tactic| exact False.elim (by assumption)) else Lean.Macro.throwUnsupported
theorem pre (h : False) : PySem.Challenge.rw_climbrow_k14_whole_turns_of_the_ring.Holds := by
  w_on; o_law; k_headL
end
abbrev RR := PySem.Challenge.rw_climbrow_k14_whole_turns_of_the_ring.row
noncomputable abbrev RUN (w : World) (os : OsState) := HeadRun.endF (HeadRun.stepQ (HeadRun.denQ HeadRun.tabQ) RR.prog w) 8656 RR.prog w os
abbrev LO : List Str := [PySem.Str.ofString "turn"]
noncomputable abbrev SEEN (s : SharedT) := HeadRun.seenQ pre.view_39 LO (importedModules RR.prog.main.body) (fun s => xlAt pre.view_39 [] s && recOk RR.records s) s.abs
def asL : List Addr := [2, 3, 15, 22, 23, 24, 25, 28, 31, 36, 37, 39, 40, 42, 43, 44, 45, 46, 49, 52, 57, 58, 60, 61, 63, 64, 65, 66, 67, 70, 73, 78, 79, 81, 82, 84, 85, 86, 87, 88, 91, 94, 99, 100, 102, 103, 105, 106, 107, 108, 109, 112, 115, 120, 121, 123, 124, 126, 127, 128, 129, 130, 133, 136, 141, 142, 144, 145, 147, 148, 149, 150, 151, 154, 157, 162, 163, 165, 166, 168, 169, 170, 171, 172, 175, 178, 183, 184, 186, 187, 189, 190, 191, 192, 193, 196, 199, 204, 205, 207, 208, 210, 211, 212, 213, 214, 217, 220, 225, 226, 228, 229, 231, 232, 233, 234, 235, 238, 241, 246, 247, 249, 250, 252, 253, 254, 255, 256, 259, 262, 267, 268, 270, 271, 273, 274, 275, 276, 277, 280, 283, 288, 289, 291, 292, 294, 295, 296, 297, 298, 301, 303, 304, 306, 307, 308, 311, 312, 313, 315, 316, 318, 319, 320, 321, 323, 324, 326, 327, 328, 330, 331, 333, 334, 335, 337, 338, 340, 341, 342, 345, 346, 347, 350, 351, 352, 355, 356, 357, 360, 361, 362, 364, 365, 367, 368, 369, 371, 372, 374, 375, 376, 379, 380, 381, 384, 385, 386, 389, 390, 391, 393, 394, 396, 397, 398, 400, 401, 403, 404, 405, 408, 409, 410, 412, 413, 415, 416, 417, 419, 420, 422, 423, 424, 427, 428]
theorem ek (P : Params) : asL = (pre.heap_39 P).map (·.1) := by kernel_rfl
theorem pick {α A B : Type} {o : Option α} {f : α → A} {g : α → B} {a : A} {b : B} (h : o.map (fun s => (f s, g s)) = some (a, b)) : o.map f = some a ∧ o.map g = some b := by
  cases o with
  | none => cases h
  | some x =>
    have e : (f x, g x) = (a, b) := Option.some.inj h
    exact ⟨congrArg some (congrArg Prod.fst e), congrArg some (congrArg Prod.snd e)⟩
theorem gAC168 (w : World) (os : OsState) : (RUN w os).map (fun s => (HeadRun.looksF RR.prog (boot_heap w.params) s.abs, asL.map (HeadRun.getT s), (SEEN s).2.1, (SEEN s).2.2.2.2.2.2.1, (SEEN s).2.2.2.2.2.2.2.2)) = some ((true), ((pre.heap_39 w.params).map fun x => some x.2), (bltViewBooted), (plainGoodD pre.view_39 LO), (clsGoodW pre.view_39 LO)) := by kernel_rfl
theorem rA (w : World) (os : OsState) : (RUN w os).map (fun s => HeadRun.looksF RR.prog (boot_heap w.params) s.abs) = some (true) := (pick (gAC168 w os)).1
theorem rC (w : World) (os : OsState) : (RUN w os).map (fun s => asL.map (HeadRun.getT s)) = some ((pre.heap_39 w.params).map fun x => some x.2) := (pick (pick (gAC168 w os)).2).1
theorem r1 (w : World) (os : OsState) : (RUN w os).map (fun s => (SEEN s).2.1) = some (bltViewBooted) := (pick (pick (pick (gAC168 w os)).2).2).1
theorem r6 (w : World) (os : OsState) : (RUN w os).map (fun s => (SEEN s).2.2.2.2.2.2.1) = some (plainGoodD pre.view_39 LO) := (pick (pick (pick (pick (gAC168 w os)).2).2).2).1
theorem r8 (w : World) (os : OsState) : (RUN w os).map (fun s => (SEEN s).2.2.2.2.2.2.2.2) = some (clsGoodW pre.view_39 LO) := (pick (pick (pick (pick (gAC168 w os)).2).2).2).2
theorem g24 (w : World) (os : OsState) : (RUN w os).map (fun s => ((SEEN s).2.2.1, (SEEN s).2.2.2.2.1)) = some ((true), (pinGoodD (drecsOf pre.view_39))) := by kernel_rfl
theorem r2 (w : World) (os : OsState) : (RUN w os).map (fun s => (SEEN s).2.2.1) = some (true) := (pick (g24 w os)).1
theorem r4 (w : World) (os : OsState) : (RUN w os).map (fun s => (SEEN s).2.2.2.2.1) = some (pinGoodD (drecsOf pre.view_39)) := (pick (g24 w os)).2
theorem r0 (w : World) (os : OsState) : (RUN w os).map (fun s => (SEEN s).1) = some (expectedOf pre.view_39) := by kernel_rfl
theorem r3 (w : World) (os : OsState) : (RUN w os).map (fun s => (SEEN s).2.2.2.1) = some (true) := by kernel_rfl
theorem r5 (w : World) (os : OsState) : (RUN w os).map (fun s => (SEEN s).2.2.2.2.2.1) = some (plainGoodE pre.view_39 (looseW pre.view_39 LO)) := by kernel_rfl
theorem r7 (w : World) (os : OsState) : (RUN w os).map (fun s => (SEEN s).2.2.2.2.2.2.2.1) = some (wideGood pre.view_39) := by kernel_rfl
theorem two {α β γ : Type} {o : Option α} {f : α → β × γ} {a : β} {b : γ} (h1 : o.map (fun s => (f s).1) = some a) (h2 : o.map (fun s => (f s).2) = some b) : o.map f = some (a, b) := by
  cases o with
  | none => cases h1
  | some x =>
    have e1 : (f x).1 = a := Option.some.inj h1
    have e2 : (f x).2 = b := Option.some.inj h2
    show some (f x) = some (a, b)
    rw [← e1, ← e2]
theorem three {α A B C : Type} {o : Option α} {f : α → A} {g : α → B} {h : α → C} {a : A} {b : B} {c : C} (h1 : o.map f = some a) (h2 : o.map g = some b) (h3 : o.map h = some c) : o.map (fun s => (f s, g s, h s)) = some (a, b, c) := by
  cases o with
  | none => cases h1
  | some x =>
    have e1 : f x = a := Option.some.inj h1
    have e2 : g x = b := Option.some.inj h2
    have e3 : h x = c := Option.some.inj h3
    show some (f x, g x, h x) = some (a, b, c)
    rw [e1, e2, e3]
theorem seen (w : World) (os : OsState) : (RUN w os).map (fun s => SEEN s) = some (openGood pre.view_39 LO) :=
  two (f := fun s => SEEN s) (r0 w os) (two (f := fun s => (SEEN s).2) (r1 w os) (two (f := fun s => (SEEN s).2.2) (r2 w os) (two (f := fun s => (SEEN s).2.2.2) (r3 w os) (two (f := fun s => (SEEN s).2.2.2.2) (r4 w os) (two (f := fun s => (SEEN s).2.2.2.2.2) (r5 w os) (two (f := fun s => (SEEN s).2.2.2.2.2.2) (r6 w os) (two (f := fun s => (SEEN s).2.2.2.2.2.2.2) (r7 w os) (r8 w os))))))))
theorem all (w : World) (os : OsState) : (RUN w os).map (fun s => (HeadRun.looksF RR.prog (boot_heap w.params) s.abs, SEEN s, asL.map (HeadRun.getT s))) = some (true, openGood pre.view_39 LO, (pre.heap_39 w.params).map fun x => some x.2) :=
  three (rA w os) (seen w os) (rC w os)
theorem op : opening RR.prog = plainProg RR.prog.main.scope.names := by kernel_rfl
theorem fn (s : Shared) : fenceModules? RR.prog s = some s := by kernel_rfl
theorem hl : LeftO RR.prog pre.view_39 LO (fun s => xlAt pre.view_39 [] s && recOk RR.records s) (Hook.obs (kHook pre.heap_39 asL ek)) (Hook.val (kHook pre.heap_39 asL ek)) 9356 true :=
  HeadRun.left_oneK (M := 8656) op (by rfl) fn (by rfl) all
end Hd

set_option Elab.async false
set_option linter.all false
set_option maxRecDepth 100000
/-! A pure layer over the hand layer: values without addresses, what represents them, states of slots. -/
namespace Pv
open PySem PySem.Spec PyProof.Rows L2

/-- a pure value -/
inductive PV where
  | non | bl (b : Bool) | int (i : Int) | str (x : Str)
  | lst (xs : List PV) | tup (xs : List PV)
  | obj (c : Nat) (vs : List PV)
  | dic (ks : List Key) (vs : List PV)
  | scr (xs : List Int)

/-- own classes: where they stand, their fields -/
structure CT where
  K : PySem.W.Frag
  addr : Nat → Addr
  fld : Nat → List Str

def LIM : Nat := 1000000
theorem lim_size {n : Nat} (h : n ≤ LIM) : n < sizeLine := Nat.lt_of_le_of_lt h (by decide)

mutual
def Rep (T : CT) (H : Hp) (G : Addr → Prop) : PV → V → Prop
  | .non, v => v = .non
  | .bl b, v => v = .bl b
  | .int i, v => v = .int i
  | .str x, v => v = .str x ∧ x.length ≤ LIM ∧ PyData.canLay0 (.str x) = true
  | .lst xs, v => ∃ a vs, v = .ref a ∧ ¬ G a ∧ H a = some (.lst vs) ∧ vs.length ≤ LIM ∧ Reps T H G xs vs
  | .tup xs, v => ∃ a vs, v = .ref a ∧ ¬ G a ∧ H a = some (.tup vs) ∧ vs.length ≤ LIM ∧ Reps T H G xs vs
  | .obj c xs, v => ∃ a dx vs, v = .ref a ∧ ¬ G a ∧ H a = some (.ins (T.addr c) dx ((T.fld c).zip vs)) ∧ vs.length ≤ (T.fld c).length ∧ Reps T H G xs vs
  | .dic ks xs, v => ∃ a vs, v = .ref a ∧ ¬ G a ∧ H a = some (.dK (ks.zip vs)) ∧ ks.length = vs.length ∧ ks.length ≤ LIM ∧ Reps T H G xs vs
  | .scr ns, v => ∃ a, v = .ref a ∧ ((Rd H a (.lst (ns.map V.int)) ∧ ¬ G a) ∨ SqL T.K (fun _ => none) a (ns.map V.int))
def Reps (T : CT) (H : Hp) (G : Addr → Prop) : List PV → List V → Prop
  | [], vs => vs = []
  | x :: xs, vs => ∃ v r, vs = v :: r ∧ Rep T H G x v ∧ Reps T H G xs r
end

/-! one lemma for all changes of the heap and of what is avoided -/
mutual
theorem Rep.move {T : CT} {H H' : Hp} {G G' : Addr → Prop} (k : ∀ a u, H a = some u → ¬ G a → H' a = some u ∧ ¬ G' a) : ∀ (p : PV) (v : V), Rep T H G p v → Rep T H' G' p v
  | .non, _, h => h
  | .bl _, _, h => h
  | .int _, _, h => h
  | .str _, _, h => h
  | .lst xs, v, h => by
    unfold Rep at h ⊢
    obtain ⟨a, vs, e, g, r, l, q⟩ := h
    exact ⟨a, vs, e, (k _ _ r g).2, (k _ _ r g).1, l, Reps.move k xs vs q⟩
  | .tup xs, v, h => by
    unfold Rep at h ⊢
    obtain ⟨a, vs, e, g, r, l, q⟩ := h
    exact ⟨a, vs, e, (k _ _ r g).2, (k _ _ r g).1, l, Reps.move k xs vs q⟩
  | .obj c xs, v, h => by
    unfold Rep at h ⊢
    obtain ⟨a, dx, vs, e, g, r, l, q⟩ := h
    exact ⟨a, dx, vs, e, (k _ _ r g).2, (k _ _ r g).1, l, Reps.move k xs vs q⟩
  | .dic c xs, v, h => by
    unfold Rep at h ⊢
    obtain ⟨a, vs, e, g, r, l, m, q⟩ := h
    exact ⟨a, vs, e, (k _ _ r g).2, (k _ _ r g).1, l, m, Reps.move k xs vs q⟩
  | .scr ns, v, h => by
    unfold Rep at h ⊢
    obtain ⟨a, e, h⟩ := h
    refine ⟨a, e, ?_⟩
    rcases h with ⟨r | ⟨o, r⟩, g⟩ | h
    · exact .inl ⟨.inl (k _ _ r g).1, (k _ _ r g).2⟩
    · exact .inl ⟨.inr ⟨o, (k _ _ r g).1⟩, (k _ _ r g).2⟩
    · exact .inr h
theorem Reps.move {T : CT} {H H' : Hp} {G G' : Addr → Prop} (k : ∀ a u, H a = some u → ¬ G a → H' a = some u ∧ ¬ G' a) : ∀ (ps : List PV) (vs : List V), Reps T H G ps vs → Reps T H' G' ps vs
  | [], _, h => h
  | x :: xs, vs, h => by
    unfold Reps at h ⊢
    obtain ⟨v, r, e, h1, h2⟩ := h
    exact ⟨v, r, e, Rep.move k x v h1, Reps.move k xs r h2⟩
end
section
variable {T : CT} {H H' : Hp} {G G' : Addr → Prop} {p : PV} {v : V} {ps : List PV} {vs : List V}
theorem Rep.same (e : Same H H') (h : Rep T H G p v) : Rep T H' G p v := Rep.move (fun a u r g => ⟨e _ _ r, g⟩) _ _ h
theorem Reps.same (e : Same H H') (h : Reps T H G ps vs) : Reps T H' G ps vs := Reps.move (fun a u r g => ⟨e _ _ r, g⟩) _ _ h
theorem Rep.weak (e : ∀ a, G' a → G a) (h : Rep T H G p v) : Rep T H G' p v := Rep.move (fun a u r g => ⟨r, fun z => g (e a z)⟩) _ _ h
theorem Reps.weak (e : ∀ a, G' a → G a) (h : Reps T H G ps vs) : Reps T H G' ps vs := Reps.move (fun a u r g => ⟨r, fun z => g (e a z)⟩) _ _ h
theorem Rep.upd {a : Addr} {o : HO} (g : G a) (h : Rep T H G p v) : Rep T (upd H a o) G p v := Rep.move (fun b u r gb => ⟨by rw [upd_ne (fun z : b = a => gb (by rw [z]; exact g))]; exact r, gb⟩) _ _ h
theorem Reps.upd {a : Addr} {o : HO} (g : G a) (h : Reps T H G ps vs) : Reps T (upd H a o) G ps vs := Reps.move (fun b u r gb => ⟨by rw [upd_ne (fun z : b = a => gb (by rw [z]; exact g))]; exact r, gb⟩) _ _ h
/-- what stood before knows nothing of an address that was free -/
theorem Rep.free {a : Addr} (n : H a = none) (h : Rep T H G p v) : Rep T H (fun b => G b ∨ b = a) p v := Rep.move (fun b u r gb => ⟨r, fun z => z.elim gb fun e => by rw [e, n] at r; cases r⟩) _ _ h
theorem Reps.free {a : Addr} (n : H a = none) (h : Reps T H G ps vs) : Reps T H (fun b => G b ∨ b = a) ps vs := Reps.move (fun b u r gb => ⟨r, fun z => z.elim gb fun e => by rw [e, n] at r; cases r⟩) _ _ h
theorem Reps.len : ∀ {ps : List PV} {vs : List V}, Reps T H G ps vs → ps.length = vs.length
  | [], _, h => by unfold Reps at h; rw [h]; rfl
  | _ :: xs, _, h => by
    unfold Reps at h
    obtain ⟨v, r, e, _, h2⟩ := h
    rw [e, List.length_cons, List.length_cons, Reps.len h2]
theorem reps_nil : Reps T H G [] [] := by unfold Reps; rfl
theorem reps_cons (h : Rep T H G p v) (k : Reps T H G ps vs) : Reps T H G (p :: ps) (v :: vs) := by unfold Reps; exact ⟨_, _, rfl, h, k⟩
theorem Reps.app : ∀ {ps qs : List PV} {vs us : List V}, Reps T H G ps vs → Reps T H G qs us → Reps T H G (ps ++ qs) (vs ++ us)
  | [], _, _, _, h, k => by unfold Reps at h; rw [h]; exact k
  | x :: xs, _, _, _, h, k => by
    unfold Reps at h
    obtain ⟨v, r, e, h1, h2⟩ := h
    rw [e]
    exact reps_cons h1 (Reps.app h2 k)
theorem Reps.get : ∀ {ps : List PV} {vs : List V} {i : Nat} {p : PV}, Reps T H G ps vs → ps[i]? = some p → ∃ v, vs[i]? = some v ∧ Rep T H G p v
  | [], _, _, _, _, e => by simp at e
  | x :: xs, _, 0, _, h, e => by
    unfold Reps at h
    obtain ⟨v, r, e1, h1, h2⟩ := h
    rw [e1]
    have e2 := Option.some.inj (show some x = some _ from e)
    rw [← e2]
    exact ⟨v, rfl, h1⟩
  | x :: xs, _, i + 1, _, h, e => by
    unfold Reps at h
    obtain ⟨v, r, e1, h1, h2⟩ := h
    rw [e1]
    exact Reps.get (i := i) h2 (by simpa using e)
theorem Reps.set : ∀ {ps : List PV} {vs : List V} {p : PV} {v : V} (i : Nat), Reps T H G ps vs → Rep T H G p v → Reps T H G (ps.set i p) (vs.set i v)
  | [], _, _, _, _, h, _ => by unfold Reps at h; rw [h]; exact reps_nil
  | x :: xs, _, _, _, 0, h, k => by
    unfold Reps at h
    obtain ⟨v, r, e1, h1, h2⟩ := h
    rw [e1]
    exact reps_cons k h2
  | x :: xs, _, _, _, i + 1, h, k => by
    unfold Reps at h
    obtain ⟨v, r, e1, h1, h2⟩ := h
    rw [e1]
    exact reps_cons h1 (Reps.set i h2 k)
theorem Reps.take : ∀ {ps : List PV} {vs : List V} (n : Nat), Reps T H G ps vs → Reps T H G (ps.take n) (vs.take n)
  | [], _, n, h => by unfold Reps at h; rw [h]; simp; exact reps_nil
  | x :: xs, _, 0, h => by simp; exact reps_nil
  | x :: xs, _, n + 1, h => by
    unfold Reps at h
    obtain ⟨v, r, e1, h1, h2⟩ := h
    rw [e1]
    exact reps_cons h1 (Reps.take n h2)
theorem Reps.drop : ∀ {ps : List PV} {vs : List V} (n : Nat), Reps T H G ps vs → Reps T H G (ps.drop n) (vs.drop n)
  | [], _, n, h => by unfold Reps at h; rw [h]; simp; exact reps_nil
  | x :: xs, _, 0, h => by simpa using h
  | x :: xs, _, n + 1, h => by
    unfold Reps at h
    obtain ⟨v, r, e1, h1, h2⟩ := h
    rw [e1]
    exact Reps.drop n h2
theorem Reps.rev : ∀ {ps : List PV} {vs : List V}, Reps T H G ps vs → Reps T H G ps.reverse vs.reverse
  | [], _, h => by unfold Reps at h; rw [h]; exact reps_nil
  | x :: xs, _, h => by
    unfold Reps at h
    obtain ⟨v, r, e1, h1, h2⟩ := h
    rw [e1, List.reverse_cons, List.reverse_cons]
    exact (Reps.rev h2).app (reps_cons h1 reps_nil)
end

/-! ### typed values -/
class Enc (α : Type) where
  enc : α → PV
open Enc (enc)
instance : Enc PV := ⟨id⟩
instance : Enc Int := ⟨.int⟩
instance : Enc Bool := ⟨.bl⟩
instance : Enc Str := ⟨.str⟩
instance : Enc Unit := ⟨fun _ => .non⟩
instance {α : Type} [Enc α] : Enc (List α) := ⟨fun xs => .lst (xs.map enc)⟩
instance {α : Type} [Enc α] : Enc (Option α) := ⟨fun x => match x with | none => .non | some a => enc a⟩
/-- the script as it comes -/
structure Scr where
  xs : List Int
instance : Enc Scr := ⟨fun s => .scr s.xs⟩
/-- a tuple (its places as a nested pair) -/
structure Tp (α : Type) where
  t : α
class Encs (α : Type) where
  encs : α → List PV
open Encs (encs)
instance : Encs Unit := ⟨fun _ => []⟩
instance {α β : Type} [Enc α] [Encs β] : Encs (α × β) := ⟨fun x => enc x.1 :: encs x.2⟩
instance {α : Type} [Encs α] : Enc (Tp α) := ⟨fun x => .tup (encs x.t)⟩

/-- no address in it -/
class Flat (α : Type) [Enc α] : Prop where
  flat : ∀ a : α, (∃ i, enc a = .int i) ∨ (∃ b, enc a = .bl b) ∨ (∃ x, enc a = .str x) ∨ enc a = .non
instance : Flat Int := ⟨fun i => .inl ⟨i, rfl⟩⟩
instance : Flat Bool := ⟨fun b => .inr (.inl ⟨b, rfl⟩)⟩
instance : Flat Str := ⟨fun x => .inr (.inr (.inl ⟨x, rfl⟩))⟩
instance : Flat Unit := ⟨fun _ => .inr (.inr (.inr rfl))⟩
instance {α : Type} [Enc α] [Flat α] : Flat (Option α) := ⟨fun x => match x with
  | none => .inr (.inr (.inr rfl))
  | some a => Flat.flat a⟩
theorem Rep.flat {T : CT} {H H' : Hp} {G G' : Addr → Prop} {α : Type} [Enc α] [Flat α] {a : α} {v : V} (h : Rep T H G (enc a) v) : Rep T H' G' (enc a) v := by
  rcases Flat.flat a with ⟨i, e⟩ | ⟨i, e⟩ | ⟨i, e⟩ | e <;> rw [e] at h ⊢ <;> exact h
theorem Reps.flat {T : CT} {H H' : Hp} {G G' : Addr → Prop} {α : Type} [Enc α] [Flat α] : ∀ {xs : List α} {vs : List V}, Reps T H G (xs.map enc) vs → Reps T H' G' (xs.map enc) vs
  | [], _, h => h
  | x :: xs, _, h => by
    rw [List.map_cons] at h ⊢
    unfold Reps at h
    obtain ⟨v, r, e1, h1, h2⟩ := h
    rw [e1]
    exact reps_cons (Rep.flat h1) (Reps.flat h2)

/-! ### outcomes -/
/-- how a def hands back: any value, or a list that it made -/
inductive Lv where | raw | pa | fr
inductive RM where
  | val (l : Lv) | nw (l : Lv)
  | dp
structure Exc where
  c : Nat
  vs : List PV
inductive R (α : Type) where
  | ok (a : α) | ex (x : Exc) | bad
def R.bind {α β : Type} (m : R α) (k : α → R β) : R β := match m with
  | .ok a => k a
  | .ex x => .ex x
  | .bad => .bad
def R.of {α : Type} (o : Option α) : R α := match o with
  | some a => .ok a
  | none => .bad
@[simp] theorem R.of_some {α : Type} (a : α) : R.of (some a) = .ok a := rfl
@[simp] theorem R.of_none {α : Type} : R.of (none : Option α) = .bad := rfl
def R.lt {α β : Type} (a : α) (k : α → R β) : R β := k a
def R.ite {α : Type} (b : Bool) (m n : R α) : R α := match b with
  | true => m
  | false => n
def R.ifm {α : Type} (c : R Bool) (m n : R α) : R α := c.bind fun b => R.ite b m n
/-- no exception -/
def R.nox {α : Type} : R α → R α
  | .ok a => .ok a
  | _ => .bad
@[simp] theorem R.bind_ok {α β : Type} (a : α) (k : α → R β) : (R.ok a).bind k = k a := rfl
@[simp] theorem R.bind_bad {α β : Type} (k : α → R β) : (R.bad).bind k = .bad := rfl
@[simp] theorem R.bind_ex {α β : Type} (x : Exc) (k : α → R β) : (R.ex x).bind k = .ex x := rfl
@[simp] theorem R.lt_eq {α β : Type} (a : α) (k : α → R β) : R.lt a k = k a := rfl
@[simp] theorem R.ite_t {α : Type} (m n : R α) : R.ite true m n = m := rfl
@[simp] theorem R.ite_f {α : Type} (m n : R α) : R.ite false m n = n := rfl
@[simp] theorem R.nox_ok {α : Type} (a : α) : (R.ok a).nox = .ok a := rfl
theorem R.bind_assoc {α β γ : Type} (m : R α) (k : α → R β) (l : β → R γ) : (m.bind k).bind l = m.bind fun a => (k a).bind l := by cases m <;> rfl
end Pv

set_option Elab.async false
set_option linter.all false
set_option maxRecDepth 100000
set_option maxHeartbeats 2000000
/-! ### a value all of whose lists are its own: as names their addresses -/
namespace Pv
open PySem PySem.Spec L2
open Enc (enc)
open Encs (encs)
/-- no address in it -/
def flV : PV → Bool
  | .int _ => true
  | .str _ => true
  | .bl _ => true
  | .non => true
  | _ => false
theorem Rep.flV {T : CT} {H H' : Hp} {G G' : Addr → Prop} {p : PV} {v : V} (h : Rep T H G p v) (f : Pv.flV p = true) : Rep T H' G' p v := by
  cases p with
  | int i => exact h
  | str y => exact h
  | bl b => exact h
  | non => exact h
  | lst xs => cases f
  | tup xs => cases f
  | obj c vs => cases f
  | dic c vs => cases f
  | scr xs => cases f
theorem Reps.flV {T : CT} {H H' : Hp} {G G' : Addr → Prop} : ∀ {ps : List PV} {vs : List V}, Reps T H G ps vs → ps.all Pv.flV = true → Reps T H' G' ps vs
  | [], _, h, _ => h
  | p :: ps, vs, h, f => by
    unfold Reps at h
    obtain ⟨v, r, e, h1, h2⟩ := h
    rw [List.all_cons, Bool.and_eq_true] at f
    rw [e]
    exact reps_cons (h1.flV f.1) (h2.flV f.2)
mutual
def Own (T : CT) (H : Hp) : PV → V → List Addr → Prop
  | .lst ps, v, as => ∃ a vs bs, v = .ref a ∧ as = a :: bs ∧ H a = some (.lst vs) ∧ vs.length ≤ LIM ∧ OwnL T H ps vs bs
  | .tup ps, v, as => ∃ t vs, v = .ref t ∧ H t = some (.tup vs) ∧ vs.length ≤ LIM ∧ OwnL T H ps vs as
  | .obj c ps, v, as => ∃ a dx vs bs, v = .ref a ∧ as = a :: bs ∧ H a = some (.ins (T.addr c) dx ((T.fld c).zip vs)) ∧ vs.length ≤ (T.fld c).length ∧ OwnL T H ps vs bs
  | .dic ks ps, v, as => ∃ a vs bs, v = .ref a ∧ as = a :: bs ∧ H a = some (.dK (ks.zip vs)) ∧ ks.length = vs.length ∧ ks.length ≤ LIM ∧ OwnL T H ps vs bs
  | p, v, as => as = [] ∧ flV p = true ∧ Rep T H (fun _ => False) p v
def OwnL (T : CT) (H : Hp) : List PV → List V → List Addr → Prop
  | [], vs, as => vs = [] ∧ as = []
  | p :: ps, vs, as => ∃ v r a1 a2, vs = v :: r ∧ as = a1 ++ a2 ∧ Own T H p v a1 ∧ OwnL T H ps r a2
end
section
variable {T : CT} {H H' : Hp}
mutual
theorem Own.rep : ∀ (p : PV) {v : V} {as : List Addr}, Own T H p v as → Rep T H (fun _ => False) p v
  | .lst ps, v, as, h => by
    unfold Own at h
    obtain ⟨a, vs, bs, e1, e2, e3, e4, e5⟩ := h
    unfold Rep
    exact ⟨a, vs, e1, id, e3, e4, OwnL.rep ps e5⟩
  | .tup ps, v, as, h => by
    unfold Own at h
    obtain ⟨t, vs, e1, e2, e3, e4⟩ := h
    unfold Rep
    exact ⟨t, vs, e1, id, e2, e3, OwnL.rep ps e4⟩
  | .non, v, as, h => by unfold Own at h; exact h.2.2
  | .bl _, v, as, h => by unfold Own at h; exact h.2.2
  | .int _, v, as, h => by unfold Own at h; exact h.2.2
  | .str _, v, as, h => by unfold Own at h; exact h.2.2
  | .obj c ps, v, as, h => by
    unfold Own at h
    obtain ⟨a, dx, vs, bs, e1, e2, e3, e4, e5⟩ := h
    unfold Rep
    exact ⟨a, dx, vs, e1, id, e3, e4, OwnL.rep ps e5⟩
  | .dic ks ps, v, as, h => by
    unfold Own at h
    obtain ⟨a, vs, bs, e1, e2, e3, e4, e5, e6⟩ := h
    unfold Rep
    exact ⟨a, vs, e1, id, e3, e4, e5, OwnL.rep ps e6⟩
  | .scr _, v, as, h => by unfold Own at h; exact h.2.2
theorem OwnL.rep : ∀ (ps : List PV) {vs : List V} {as : List Addr}, OwnL T H ps vs as → Reps T H (fun _ => False) ps vs
  | [], vs, as, h => by
    unfold OwnL at h
    rw [h.1]
    exact reps_nil
  | p :: ps, vs, as, h => by
    unfold OwnL at h
    obtain ⟨v, r, a1, a2, e1, e2, h1, h2⟩ := h
    rw [e1]
    exact reps_cons (Own.rep p h1) (OwnL.rep ps h2)
end
mutual
theorem Own.loc (st : ∀ a us, H a = some (.tup us) → H' a = some (.tup us)) : ∀ (p : PV) {v : V} {as : List Addr}, (∀ a, a ∈ as → H a = H' a) → Own T H p v as → Own T H' p v as
  | .lst ps, v, as, lo, h => by
    unfold Own at h ⊢
    obtain ⟨a, vs, bs, e1, e2, e3, e4, e5⟩ := h
    subst e2
    exact ⟨a, vs, bs, e1, rfl, by rw [← lo a (List.mem_cons_self ..)]; exact e3, e4, OwnL.loc st ps (fun b hb => lo b (List.mem_cons_of_mem _ hb)) e5⟩
  | .tup ps, v, as, lo, h => by
    unfold Own at h ⊢
    obtain ⟨t, vs, e1, e2, e3, e4⟩ := h
    exact ⟨t, vs, e1, st t vs e2, e3, OwnL.loc st ps lo e4⟩
  | .non, v, as, lo, h => by unfold Own at h ⊢; exact ⟨h.1, h.2.1, Rep.flV h.2.2 h.2.1⟩
  | .bl _, v, as, lo, h => by unfold Own at h ⊢; exact ⟨h.1, h.2.1, Rep.flV h.2.2 h.2.1⟩
  | .int _, v, as, lo, h => by unfold Own at h ⊢; exact ⟨h.1, h.2.1, Rep.flV h.2.2 h.2.1⟩
  | .str _, v, as, lo, h => by unfold Own at h ⊢; exact ⟨h.1, h.2.1, Rep.flV h.2.2 h.2.1⟩
  | .obj c ps, v, as, lo, h => by
    unfold Own at h ⊢
    obtain ⟨a, dx, vs, bs, e1, e2, e3, e4, e5⟩ := h
    subst e2
    exact ⟨a, dx, vs, bs, e1, rfl, by rw [← lo a (List.mem_cons_self ..)]; exact e3, e4, OwnL.loc st ps (fun b hb => lo b (List.mem_cons_of_mem _ hb)) e5⟩
  | .dic ks ps, v, as, lo, h => by
    unfold Own at h ⊢
    obtain ⟨a, vs, bs, e1, e2, e3, e4, e5, e6⟩ := h
    subst e2
    exact ⟨a, vs, bs, e1, rfl, by rw [← lo a (List.mem_cons_self ..)]; exact e3, e4, e5, OwnL.loc st ps (fun b hb => lo b (List.mem_cons_of_mem _ hb)) e6⟩
  | .scr _, v, as, lo, h => by unfold Own at h; exact (Bool.noConfusion (show false = true from h.2.1))
theorem OwnL.loc (st : ∀ a us, H a = some (.tup us) → H' a = some (.tup us)) : ∀ (ps : List PV) {vs : List V} {as : List Addr}, (∀ a, a ∈ as → H a = H' a) → OwnL T H ps vs as → OwnL T H' ps vs as
  | [], vs, as, lo, h => by unfold OwnL at h ⊢; exact h
  | p :: ps, vs, as, lo, h => by
    unfold OwnL at h ⊢
    obtain ⟨v, r, a1, a2, e1, e2, h1, h2⟩ := h
    subst e2
    exact ⟨v, r, a1, a2, e1, rfl, Own.loc st p (fun a ha => lo a (List.mem_append_left _ ha)) h1, OwnL.loc st ps (fun a ha => lo a (List.mem_append_right _ ha)) h2⟩
end
/-- what may change -/
def mutO : HO → Bool
  | .lst _ => true
  | .ins _ _ _ => true
  | .dK _ => true
  | _ => false
mutual
theorem Own.lists : ∀ (p : PV) {v : V} {as : List Addr}, Own T H p v as → ∀ a, a ∈ as → ∃ o, H a = some o ∧ mutO o = true
  | .lst ps, v, as, h, a, ha => by
    unfold Own at h
    obtain ⟨b, vs, bs, e1, e2, e3, e4, e5⟩ := h
    subst e2
    rcases List.mem_cons.mp ha with rfl | ha
    · exact ⟨_, e3, rfl⟩
    · exact OwnL.lists ps e5 a ha
  | .tup ps, v, as, h, a, ha => by
    unfold Own at h
    obtain ⟨t, vs, e1, e2, e3, e4⟩ := h
    exact OwnL.lists ps e4 a ha
  | .non, v, as, h, a, ha => by unfold Own at h; rw [h.1] at ha; cases ha
  | .bl _, v, as, h, a, ha => by unfold Own at h; rw [h.1] at ha; cases ha
  | .int _, v, as, h, a, ha => by unfold Own at h; rw [h.1] at ha; cases ha
  | .str _, v, as, h, a, ha => by unfold Own at h; rw [h.1] at ha; cases ha
  | .obj c ps, v, as, h, a, ha => by
    unfold Own at h
    obtain ⟨b, dx, vs, bs, e1, e2, e3, e4, e5⟩ := h
    subst e2
    rcases List.mem_cons.mp ha with rfl | ha
    · exact ⟨_, e3, rfl⟩
    · exact OwnL.lists ps e5 a ha
  | .dic ks ps, v, as, h, a, ha => by
    unfold Own at h
    obtain ⟨b, vs, bs, e1, e2, e3, e4, e5, e6⟩ := h
    subst e2
    rcases List.mem_cons.mp ha with rfl | ha
    · exact ⟨_, e3, rfl⟩
    · exact OwnL.lists ps e6 a ha
  | .scr _, v, as, h, a, ha => by unfold Own at h; rw [h.1] at ha; cases ha
theorem OwnL.lists : ∀ (ps : List PV) {vs : List V} {as : List Addr}, OwnL T H ps vs as → ∀ a, a ∈ as → ∃ o, H a = some o ∧ mutO o = true
  | [], vs, as, h, a, ha => by unfold OwnL at h; rw [h.2] at ha; cases ha
  | p :: ps, vs, as, h, a, ha => by
    unfold OwnL at h
    obtain ⟨v, r, a1, a2, e1, e2, h1, h2⟩ := h
    subst e2
    rcases List.mem_append.mp ha with ha | ha
    · exact Own.lists p h1 a ha
    · exact OwnL.lists ps h2 a ha
end
/- an item: its own part, and what is put back there -/
theorem OwnL.item : ∀ (ps : List PV) {vs : List V} {as : List Addr} {k : Nat} {p : PV}, OwnL T H ps vs as → ps[k]? = some p →
    ∃ v a1 a2 a3, vs[k]? = some v ∧ as = a1 ++ a2 ++ a3 ∧ Own T H p v a2 ∧ ∀ (H2 : Hp) (q : PV), (∀ a us, H a = some (.tup us) → H2 a = some (.tup us)) → (∀ a, a ∈ a1 ∨ a ∈ a3 → H a = H2 a) → Own T H2 q v a2 → OwnL T H2 (ps.set k q) vs as
  | [], _, _, _, _, _, e => by simp at e
  | x :: ps, vs, as, 0, p, h, e => by
    unfold OwnL at h
    obtain ⟨v, r, a1, a2, e1, e2, h1, h2⟩ := h
    simp only [List.getElem?_cons_zero, Option.some.injEq] at e
    subst e
    refine ⟨v, [], a1, a2, by rw [e1]; rfl, by rw [e2]; rfl, h1, fun H2 q st lo hq => ?_⟩
    rw [List.set_cons_zero]
    unfold OwnL
    exact ⟨v, r, a1, a2, e1, e2, hq, OwnL.loc st ps (fun a ha => lo a (.inr ha)) h2⟩
  | x :: ps, vs, as, k + 1, p, h, e => by
    unfold OwnL at h
    obtain ⟨v, r, a1, a2, e1, e2, h1, h2⟩ := h
    rw [List.getElem?_cons_succ] at e
    obtain ⟨u, b1, b2, b3, f1, f2, f3, f4⟩ := OwnL.item ps h2 e
    refine ⟨u, a1 ++ b1, b2, b3, by rw [e1]; exact f1, by rw [e2, f2]; simp, f3, fun H2 q st lo hq => ?_⟩
    rw [List.set_cons_succ]
    unfold OwnL
    exact ⟨v, r, a1, a2, e1, e2, Own.loc st x (fun a ha => lo a (.inl (List.mem_append_left _ ha))) h1, f4 H2 q st (fun a ha => lo a (ha.imp (fun z => List.mem_append_right _ z) id)) hq⟩
/- the same, where other addresses take the place -/
theorem OwnL.item2 : ∀ (ps : List PV) {vs : List V} {as : List Addr} {k : Nat} {p : PV}, OwnL T H ps vs as → ps[k]? = some p →
    ∃ v a1 a2 a3, vs[k]? = some v ∧ as = a1 ++ (a2 ++ a3) ∧ Own T H p v a2 ∧ ∀ (H2 : Hp) (q : PV) (w : V) (b2 : List Addr), (∀ a us, H a = some (.tup us) → H2 a = some (.tup us)) → (∀ a, a ∈ a1 ∨ a ∈ a3 → H a = H2 a) → Own T H2 q w b2 → OwnL T H2 (ps.set k q) (vs.set k w) (a1 ++ (b2 ++ a3))
  | [], _, _, _, _, _, e => by simp at e
  | x :: ps, vs, as, 0, p, h, e => by
    unfold OwnL at h
    obtain ⟨v, r, a1, a2, e1, e2, h1, h2⟩ := h
    simp only [List.getElem?_cons_zero, Option.some.injEq] at e
    subst e
    refine ⟨v, [], a1, a2, by rw [e1]; rfl, by rw [e2]; rfl, h1, fun H2 q w b2 st lo hq => ?_⟩
    rw [e1, List.set_cons_zero, List.set_cons_zero]
    unfold OwnL
    exact ⟨w, r, b2, a2, rfl, rfl, hq, OwnL.loc st ps (fun a ha => lo a (.inr ha)) h2⟩
  | x :: ps, vs, as, k + 1, p, h, e => by
    unfold OwnL at h
    obtain ⟨v, r, a1, a2, e1, e2, h1, h2⟩ := h
    rw [List.getElem?_cons_succ] at e
    obtain ⟨u, b1, b2, b3, f1, f2, f3, f4⟩ := OwnL.item2 ps h2 e
    refine ⟨u, a1 ++ b1, b2, b3, by rw [e1]; exact f1, by rw [e2, f2]; simp, f3, fun H2 q w c2 st lo hq => ?_⟩
    rw [e1, List.set_cons_succ, List.set_cons_succ]
    unfold OwnL
    exact ⟨v, r.set k w, a1, b1 ++ (c2 ++ b3), rfl, by simp, Own.loc st x (fun a ha => lo a (.inl (List.mem_append_left _ ha))) h1, f4 H2 q w c2 st (fun a ha => lo a (ha.imp (fun z => List.mem_append_right _ z) id)) hq⟩
theorem OwnL.app : ∀ (ps : List PV) {qs : List PV} {vs ws : List V} {as bs : List Addr}, OwnL T H ps vs as → OwnL T H qs ws bs → OwnL T H (ps ++ qs) (vs ++ ws) (as ++ bs)
  | [], qs, vs, ws, as, bs, h, k => by
    unfold OwnL at h
    rw [h.1, h.2]
    exact k
  | p :: ps, qs, vs, ws, as, bs, h, k => by
    unfold OwnL at h
    obtain ⟨v, r, a1, a2, e1, e2, h1, h2⟩ := h
    rw [e1, e2, List.cons_append, List.cons_append]
    unfold OwnL
    exact ⟨v, r ++ ws, a1, a2 ++ bs, rfl, by simp, h1, OwnL.app ps h2 k⟩
theorem OwnL.one {p : PV} {v : V} {as : List Addr} (h : Own T H p v as) : OwnL T H [p] [v] as := by
  unfold OwnL
  refine ⟨v, [], as, [], rfl, by simp, h, ?_⟩
  unfold OwnL
  exact ⟨rfl, rfl⟩
theorem Own.keep (s : Same H H') {p : PV} {v : V} {as : List Addr} (h : Own T H p v as) : Own T H' p v as := Own.loc (fun a us e => s _ _ e) p (fun a ha => by
  obtain ⟨o, e, _⟩ := Own.lists p h a ha
  rw [e, s _ _ e]) h
theorem OwnL.keep (s : Same H H') {ps : List PV} {vs : List V} {as : List Addr} (h : OwnL T H ps vs as) : OwnL T H' ps vs as := OwnL.loc (fun a us e => s _ _ e) ps (fun a ha => by
  obtain ⟨o, e, _⟩ := OwnL.lists ps h a ha
  rw [e, s _ _ e]) h
end
end Pv

set_option Elab.async false
set_option linter.all false
set_option maxRecDepth 100000
namespace Pv
open PySem PySem.Spec L2
open Enc (enc)
open Encs (encs)

/-- a slot: nothing is known; a value that is not changed any more; a list that only this slot has -/
inductive Sl where
  | un | sh (l : Lv) (p : PV) | ow (l : Lv) (xs : List PV)
  | xv (a : Addr) (d : Option Addr) (x : Exc)
  | tw (ps : List PV)
  | ce (φ : Addr → HO)
  | rs (v : V) (D : Addr → Prop) (φ : Hp → Prop)
  | ob (r : Option V) (p : PV)
def notOw : Sl → Bool
  | .ow _ _ => false
  | .tw _ => false
  | .ce _ => false
  | .rs _ _ _ => false
  | .ob _ _ => false
  | _ => true
/-- the fields of a caught exception -/
def XvOk (T : CT) (H : Hp) (d : Option Addr) (x : Exc) : Prop :=
  x.vs.all flV = true ∧ ((d = none ∧ x.vs = []) ∨ ∃ dx us, d = some dx ∧ H dx = some (.xd ((T.fld x.c).zip us)) ∧ (T.fld x.c).length = us.length ∧ Reps T H (fun _ => False) x.vs us)
theorem XvOk.same {T : CT} {H H' : Hp} {d : Option Addr} {x : Exc} (h : XvOk T H d x) (s : ∀ a o, H a = some (.xd o) → H' a = some (.xd o)) : XvOk T H' d x := by
  obtain ⟨h1, h2⟩ := h
  refine ⟨h1, h2.imp id ?_⟩
  rintro ⟨dx, us, e, h3, h4, h5⟩
  exact ⟨dx, us, e, s _ _ h3, h4, h5.flV h1⟩
/-- what stands around: the classes, the heap at the entry, the wish about exceptions -/
structure Cn where
  T : CT
  H0 : Hp
  W : Option WX
  M : RM

/-- what a value of this sort has nothing to do with -/
def av (l : Lv) (H0 : Hp) (G : Addr → Prop) (os : List (Option Addr)) (a : Addr) : Prop := match l with
  | .raw => False
  | .pa => G a ∨ some a ∈ os
  | .fr => H0 a ≠ none ∨ G a ∨ some a ∈ os
def Lv.st : Lv → Prop
  | .raw => False
  | _ => True

/-- flat, or a tuple of flat items -/
def imV : PV → Bool
  | .tup ps => ps.all flV
  | p => flV p
theorem Reps.via {T : CT} {H H' : Hp} {A A' : Addr → Prop} (m : ∀ p v, Rep T H A p v → Rep T H' A' p v) : ∀ {ps : List PV} {vs : List V}, Reps T H A ps vs → Reps T H' A' ps vs
  | [], _, h => h
  | p :: ps, vs, h => by
    unfold Reps at h
    obtain ⟨v, r, e, h1, h2⟩ := h
    rw [e]
    exact reps_cons (m _ _ h1) (h2.via m)
/-- the items of a tuple whose one list at the address o is owned, all others are unchangeable -/
def TwOk (T : CT) (H : Hp) (A : Addr → Prop) (o : Option Addr) : List PV → List V → Prop
  | [], vs => vs = []
  | p :: ps, vs => ∃ v r, vs = v :: r ∧ ((imV p = true ∧ Rep T H A p v) ∨ ∃ xs a ws, p = .lst xs ∧ o = some a ∧ v = .ref a ∧ H a = some (.lst ws) ∧ ws.length ≤ LIM ∧ Reps T H A xs ws) ∧ TwOk T H A o ps r
theorem TwOk.move {T : CT} {H H' : Hp} {A A' : Addr → Prop} {o : Option Addr} (k : ∀ a ws, o = some a → H a = some (.lst ws) → H' a = some (.lst ws)) (m : ∀ p v, Rep T H A p v → Rep T H' A' p v) : ∀ {ps : List PV} {vs : List V}, TwOk T H A o ps vs → TwOk T H' A' o ps vs
  | [], _, h => h
  | p :: ps, _, h => by
    obtain ⟨v, r, e, h1, h2⟩ := h
    refine ⟨v, r, e, ?_, h2.move k m⟩
    rcases h1 with ⟨f, r1⟩ | ⟨xs, a, ws, e1, e2, e3, e4, e5, e6⟩
    · exact .inl ⟨f, m _ _ r1⟩
    · exact .inr ⟨xs, a, ws, e1, e2, e3, k a ws e2 e4, e5, e6.via m⟩
def SlOk (C : Cn) (G : Addr → Prop) (os : List (Option Addr)) (H : Hp) (i : Nat) (σ : St) : Sl → Prop
  | .un => os[i]? = some none
  | .sh l p => l.st ∧ os[i]? = some none ∧ ∃ v, σ[i]? = some (some v) ∧ Rep C.T H (av l C.H0 G os) p v
  | .ow l xs => l.st ∧ ∃ a vs, os[i]? = some (some a) ∧ σ[i]? = some (some (.ref a)) ∧ H a = some (.lst vs) ∧ vs.length ≤ LIM ∧ Reps C.T H (av l C.H0 G os) xs vs
  | .xv a d x => os[i]? = some none ∧ σ[i]? = some (some (.ref a)) ∧ XvOk C.T H d x
  | .tw ps => ∃ o t vs, os[i]? = some o ∧ σ[i]? = some (some (.ref t)) ∧ H t = some (.tup vs) ∧ vs.length ≤ LIM ∧ TwOk C.T H (av .fr C.H0 G os) o ps vs
  | .ce φ => ∃ a, os[i]? = some (some a) ∧ σ[i]? = some (some (.ref a)) ∧ H a = some (φ a)
  /- a thing that only this slot has: it stands on the addresses D, all of them avoided by every other value -/
  | .rs v D φ => os[i]? = some none ∧ σ[i]? = some (some v) ∧ (∀ a, D a → G a ∧ C.H0 a = none) ∧ φ H ∧ ∀ H1 H2 : Hp, (∀ a, D a → H1 a = H2 a) → (∀ a us, H1 a = some (.tup us) → H2 a = some (.tup us)) → φ H1 → φ H2

  /- a value all of whose cells are its own (told by ObsOk) -/
  | .ob _ _ => os[i]? = some none
def notOb : Sl → Prop
  | .ob _ _ => False
  | _ => True
/-- the own values: every cell belongs to one slot -/
def ObsOk (C : Cn) (G : Addr → Prop) (Γ : List Sl) (σ : St) (H : Hp) : Prop := ∃ κ : Addr → Nat, ∀ i r p, Γ[i]? = some (.ob r p) → ∃ v as, σ[i]? = some (some v) ∧ (∀ w, r = some w → v = w) ∧ as.Nodup ∧ Own C.T H p v as ∧ ∀ a, a ∈ as → κ a = i ∧ G a ∧ C.H0 a = none
theorem ObsOk.mono {C : Cn} {G G' : Addr → Prop} {Γ Γ' : List Sl} {σ σ' : St} {H H' : Hp} (h : ObsOk C G Γ σ H) (hΓ : ∀ (i : Nat) (r : Option V) (p : PV), Γ'[i]? = some (Sl.ob r p) → Γ[i]? = some (Sl.ob r p) ∧ σ'[i]? = σ[i]?) (hG : ∀ a o, G a → C.H0 a = none → H a = some o → mutO o = true → H' a = some o ∧ G' a)
    (tu : ∀ a us, H a = some (.tup us) → H' a = some (.tup us)) : ObsOk C G' Γ' σ' H' := by
  obtain ⟨κ, h⟩ := h
  refine ⟨κ, fun i r p e => ?_⟩
  obtain ⟨e1, e2⟩ := hΓ i r p e
  obtain ⟨v, as, h1, h0, h2, h3, h4⟩ := h i r p e1
  refine ⟨v, as, by rw [e2]; exact h1, h0, h2, Own.loc tu _ (fun a ha => ?_) h3, fun a ha => ?_⟩
  · obtain ⟨o, eo, mo⟩ := Own.lists _ h3 a ha
    obtain ⟨k1, k2, k3⟩ := h4 a ha
    rw [eo, (hG a o k2 k3 eo mo).1]
  · obtain ⟨o, eo, mo⟩ := Own.lists _ h3 a ha
    obtain ⟨k1, k2, k3⟩ := h4 a ha
    exact ⟨k1, (hG a o k2 k3 eo mo).2, k3⟩
theorem ob_set {Γ : List Sl} {i j : Nat} {s : Sl} {r : Option V} {p : PV} (n : notOb s) (h : (Γ.set i s)[j]? = some (.ob r p)) : Γ[j]? = some (.ob r p) ∧ j ≠ i := by
  by_cases e : i = j
  · subst e
    rw [List.getElem?_set] at h
    simp only [if_true] at h
    split at h
    · cases h; exact n.elim
    · cases h
  · rw [List.getElem?_set_ne e] at h
    exact ⟨h, fun z => e z.symm⟩
/-- one slot takes something else -/
theorem ObsOk.slot {C : Cn} {G G' : Addr → Prop} {Γ : List Sl} {σ : St} {H H' : Hp} {i : Nat} {s : Sl} {x : Option V} (h : ObsOk C G Γ σ H) (n : notOb s) (hG : ∀ a o, G a → C.H0 a = none → H a = some o → mutO o = true → H' a = some o ∧ G' a)
    (tu : ∀ a us, H a = some (.tup us) → H' a = some (.tup us)) : ObsOk C G' (Γ.set i s) (σ.set i x) H' :=
  h.mono (fun j r p e => by
    obtain ⟨e1, e2⟩ := ob_set n e
    exact ⟨e1, List.getElem?_set_ne (fun z => e2 z.symm)⟩) hG tu
theorem ObsOk.slot' {C : Cn} {G G' : Addr → Prop} {Γ : List Sl} {σ : St} {H H' : Hp} {i : Nat} {s : Sl} (h : ObsOk C G Γ σ H) (n : notOb s) (hG : ∀ a o, G a → C.H0 a = none → H a = some o → mutO o = true → H' a = some o ∧ G' a)
    (tu : ∀ a us, H a = some (.tup us) → H' a = some (.tup us)) : ObsOk C G' (Γ.set i s) σ H' :=
  h.mono (fun j r p e => ⟨(ob_set n e).1, rfl⟩) hG tu

/-- values that lie about: they stay what they are -/
abbrev Hid := List (Lv × PV × V)
structure OkW (C : Cn) (G : Addr → Prop) (Γ : List Sl) (hid : Hid) (os : List (Option Addr)) (σ : St) (H : Hp) : Prop where
  lo : os.length = Γ.length
  ls : σ.length = Γ.length
  ext : Same C.H0 H
  dom : ∀ a, G a → H a ≠ none
  new : ∀ a : Addr, some a ∈ os → C.H0 a = none ∧ H a ≠ none ∧ ¬ G a
  inj : ∀ (i j : Nat) (a : Addr), os[i]? = some (some a) → os[j]? = some (some a) → i = j
  sl : ∀ (i : Nat) (s : Sl), Γ[i]? = some s → SlOk C G os H i σ s
  hd : ∀ q ∈ hid, q.1.st ∧ Rep C.T H (av q.1 C.H0 G os) q.2.1 q.2.2
  ob : ObsOk C G Γ σ H

section
variable {C : Cn} {G : Addr → Prop} {Γ : List Sl} {hid : Hid} {os : List (Option Addr)} {σ : St} {H H' : Hp} {l : Lv} {p : PV} {v : V} {a : Addr} {i : Nat}

theorem OkW.avdom (K : OkW C G Γ hid os σ H) (l : Lv) (a : Addr) (h : av l C.H0 G os a) : H a ≠ none := by
  cases l with
  | raw => exact h.elim
  | pa => exact h.elim (K.dom a) fun h => (K.new a h).2.1
  | fr =>
    rcases h with h | h | h
    · intro z
      cases e : C.H0 a with
      | none => exact h e
      | some o => rw [K.ext a o e] at z; cases z
    · exact K.dom a h
    · exact (K.new a h).2.1
theorem OkW.fresh (K : OkW C G Γ hid os σ H) (n : H a = none) (l : Lv) : ¬ av l C.H0 G os a := fun z => K.avdom l a z n
theorem same_ne {H H' : Hp} (e : Same H H') {a : Addr} (h : H a ≠ none) : H' a ≠ none := by
  cases q : H a with
  | none => exact absurd q h
  | some o => rw [e a o q]; exact fun z => nomatch z
theorem OkW.same (K : OkW C G Γ hid os σ H) (e : Same H H') : OkW C G Γ hid os σ H' := by
  refine ⟨K.lo, K.ls, K.ext.trans e, fun a g => same_ne e (K.dom a g), fun a h => ?_, K.inj, fun i s h => ?_, fun q hq => ⟨(K.hd q hq).1, (K.hd q hq).2.same e⟩, K.ob.mono (fun i r p h => ⟨h, rfl⟩) (fun a o g _ z _ => ⟨e _ _ z, g⟩) fun a us z => e _ _ z⟩
  · obtain ⟨h1, h2, h3⟩ := K.new a h
    exact ⟨h1, same_ne e h2, h3⟩
  · have q := K.sl i s h
    cases s with
    | un => exact (show os[i]? = some none from q)
    | sh l p => obtain ⟨q1, q2, v, q3, q4⟩ := q; exact ⟨q1, q2, v, q3, q4.same e⟩
    | ow l xs => obtain ⟨q1, a, vs, q2, q3, q4, q5, q6⟩ := q; exact ⟨q1, a, vs, q2, q3, e _ _ q4, q5, q6.same e⟩
    | xv a d x => obtain ⟨q1, q2, q3⟩ := q; exact ⟨q1, q2, q3.same fun a o h => e _ _ h⟩
    | tw ps => obtain ⟨o, t, vs, q1, q2, q3, q4, q5⟩ := q; exact ⟨o, t, vs, q1, q2, e _ _ q3, q4, q5.move (fun a ws _ h => e _ _ h) fun p v h => h.same e⟩
    | ce φ => obtain ⟨a, q1, q2, q3⟩ := q; exact ⟨a, q1, q2, e _ _ q3⟩
    | rs v D φ =>
      obtain ⟨q1, q2, q3, q4, q5⟩ := q
      refine ⟨q1, q2, q3, q5 _ _ (fun a ha => ?_) (fun a us z => e _ _ z) q4, q5⟩
      cases ea : H a with
      | none => exact absurd ea (K.dom a (q3 a ha).1)
      | some o => exact (e a o ea).symm
    | ob r p => exact q
theorem av_less {os os' : List (Option Addr)} (h : ∀ a : Addr, some a ∈ os' → some a ∈ os) (l : Lv) (a : Addr) : av l C.H0 G os' a → av l C.H0 G os a := by
  cases l with
  | raw => exact id
  | pa => exact fun z => z.imp id (h a)
  | fr => exact fun z => z.imp id fun z => z.imp id (h a)
theorem mem_set_none {os : List (Option Addr)} {i : Nat} {a : Addr} (h : some a ∈ os.set i none) : some a ∈ os := by
  rcases List.mem_or_eq_of_mem_set h with h | h
  · exact h
  · cases h
theorem get_set_none {os : List (Option Addr)} {i j : Nat} {a : Addr} (h : (os.set i none)[j]? = some (some a)) : os[j]? = some (some a) ∧ j ≠ i := by
  by_cases e : i = j
  · subst e
    rw [List.getElem?_set] at h
    simp at h
  · rw [List.getElem?_set_ne e] at h
    exact ⟨h, fun z => e z.symm⟩
/-- the state with a slot forgotten -/
theorem OkW.clear (K : OkW C G Γ hid os σ H) (i : Nat) (hi : i < Γ.length) (x : Option V) : OkW C G (Γ.set i .un) hid (os.set i none) (σ.set i x) H := by
  refine ⟨by simp [K.lo], by simp [K.ls], K.ext, K.dom, fun a h => K.new a (mem_set_none h), fun m n a h h' => K.inj m n a (get_set_none h).1 (get_set_none h').1, fun j s h => ?_, fun q hq => ⟨(K.hd q hq).1, (K.hd q hq).2.weak (av_less (fun a z => mem_set_none z) q.1)⟩, K.ob.slot (s := .un) trivial (fun a o g _ z _ => ⟨z, g⟩) fun a us z => z⟩
  by_cases e : i = j
  · subst e
    rw [List.getElem?_set_self hi] at h
    cases h
    show (os.set i none)[i]? = some none
    rw [List.getElem?_set_self (by rw [K.lo]; exact hi)]
  · rw [List.getElem?_set_ne e] at h
    have q := K.sl j s h
    cases s with
    | un => show (os.set i none)[j]? = some none; rw [List.getElem?_set_ne e]; exact q
    | sh l p =>
      obtain ⟨q1, q2, v, q3, q4⟩ := q
      refine ⟨q1, by rw [List.getElem?_set_ne e]; exact q2, v, by rw [List.getElem?_set_ne e]; exact q3, q4.weak (av_less (fun a z => mem_set_none z) l)⟩
    | ow l xs =>
      obtain ⟨q1, a, vs, q2, q3, q4, q5, q6⟩ := q
      refine ⟨q1, a, vs, by rw [List.getElem?_set_ne e]; exact q2, by rw [List.getElem?_set_ne e]; exact q3, q4, q5, q6.weak (av_less (fun a z => mem_set_none z) l)⟩
    | xv a d x =>
      obtain ⟨q1, q2, q3⟩ := q
      exact ⟨by rw [List.getElem?_set_ne e]; exact q1, by rw [List.getElem?_set_ne e]; exact q2, q3⟩
    | tw ps =>
      obtain ⟨o, t, vs, q1, q2, q3, q4, q5⟩ := q
      exact ⟨o, t, vs, by rw [List.getElem?_set_ne e]; exact q1, by rw [List.getElem?_set_ne e]; exact q2, q3, q4, q5.move (fun a ws _ h => h) fun p v h => h.weak (av_less (fun a z => mem_set_none z) .fr)⟩
    | ce φ =>
      obtain ⟨a, q1, q2, q3⟩ := q
      exact ⟨a, by rw [List.getElem?_set_ne e]; exact q1, by rw [List.getElem?_set_ne e]; exact q2, q3⟩
    | rs v D φ =>
      obtain ⟨q1, q2, q3, q4, q5⟩ := q
      exact ⟨by rw [List.getElem?_set_ne e]; exact q1, by rw [List.getElem?_set_ne e]; exact q2, q3, q4, q5⟩
    | ob r p => show (os.set i none)[j]? = some none; rw [List.getElem?_set_ne e]; exact q
theorem set_set' {α : Type} {xs : List α} {i : Nat} {x y : α} : (xs.set i x).set i y = xs.set i y := by simp
/-- a slot takes a value -/
theorem OkW.put (K : OkW C G Γ hid os σ H) (hi : i < Γ.length) (hl : l.st) (r : Rep C.T H (av l C.H0 G os) p v) : OkW C G (Γ.set i (.sh l p)) hid (os.set i none) (σ.set i (some v)) H := by
  have K1 := K.clear i hi (some v)
  refine ⟨by simp [K.lo], by simp [K.ls], K1.ext, K1.dom, K1.new, K1.inj, fun j s h => ?_, K1.hd, K.ob.slot (s := .sh l p) trivial (fun a o g _ z _ => ⟨z, g⟩) fun a us z => z⟩
  by_cases e : i = j
  · subst e
    rw [List.getElem?_set_self hi] at h
    cases h
    exact ⟨hl, by rw [List.getElem?_set_self (by rw [K.lo]; exact hi)], v, by rw [List.getElem?_set_self (by rw [K.ls]; exact hi)], r.weak (av_less (fun a z => mem_set_none z) l)⟩
  · refine K1.sl j s ?_
    rw [List.getElem?_set_ne e] at h ⊢
    exact h
theorem mem_set_some {os : List (Option Addr)} {i : Nat} {a b : Addr} (h : some b ∈ os.set i (some a)) : some b ∈ os ∨ b = a := by
  rcases List.mem_or_eq_of_mem_set h with h | h
  · exact .inl h
  · exact .inr (Option.some.inj h)
theorem av_more {os : List (Option Addr)} {i : Nat} {a : Addr} (l : Lv) (hr : l.st) (b : Addr) (h : av l C.H0 G (os.set i (some a)) b) : av l C.H0 G (os.set i none) b ∨ b = a := by
  have m : ∀ b, some b ∈ os.set i (some a) → some b ∈ os.set i none ∨ b = a := fun b h => by
    by_cases e : b = a
    · exact .inr e
    · obtain ⟨j, hj⟩ := List.getElem?_of_mem h
      by_cases ij : i = j
      · subst ij
        by_cases hlt : i < os.length
        · rw [List.getElem?_set_self hlt] at hj
          exact absurd (Option.some.inj (Option.some.inj hj)).symm e
        · rw [List.getElem?_eq_none (by simp; omega)] at hj
          cases hj
      · rw [List.getElem?_set_ne ij] at hj
        refine .inl (List.mem_of_getElem? (i := j) ?_)
        rw [List.getElem?_set_ne ij]
        exact hj
  cases l with
  | raw => exact h.elim
  | pa =>
    rcases h with h | h
    · exact .inl (.inl h)
    · exact (m b h).imp .inr id
  | fr =>
    rcases h with h | h | h
    · exact .inl (.inl h)
    · exact .inl (.inr (.inl h))
    · exact (m b h).imp (fun z => .inr (.inr z)) id
/-- a slot takes a new list -/
theorem OkW.own {H1 : Hp} {xs : List PV} {vs : List V} (K : OkW C G Γ hid os σ H1) (hi : i < Γ.length) (hl : l.st) (e : Same H1 H) (n : H1 a = none) (ha : H a = some (.lst vs)) (hv : vs.length ≤ LIM)
    (r : Reps C.T H (fun b => av l C.H0 G os b ∨ b = a) xs vs) : OkW C G (Γ.set i (.ow l xs)) hid (os.set i (some a)) (σ.set i (some (.ref a))) H := by
  have K1 := K.clear i hi (some (.ref a))
  have nos : some a ∉ os := fun z => (K.new a z).2.1 n
  have h0 : C.H0 a = none := by
    cases q : C.H0 a with
    | none => rfl
    | some o => rw [K.ext a o q] at n; cases n
  have hos : i < os.length := by rw [K.lo]; exact hi
  have mv : ∀ (l : Lv), l.st → ∀ p v, Rep C.T H1 (av l C.H0 G (os.set i none)) p v → Rep C.T H (av l C.H0 G (os.set i (some a))) p v := fun l hl p v h =>
    ((h.free n).same e).weak fun b z => av_more l hl b z
  have mvs : ∀ (l : Lv), l.st → ∀ p v, Reps C.T H1 (av l C.H0 G (os.set i none)) p v → Reps C.T H (av l C.H0 G (os.set i (some a))) p v := fun l hl p v h =>
    ((h.free n).same e).weak fun b z => av_more l hl b z
  refine ⟨by simp [K.lo], by simp [K.ls], K.ext.trans e, fun a g => same_ne e (K.dom a g), fun b hb => ?_, fun m n' b h h' => ?_, fun j s h => ?_, fun q hq => ⟨(K1.hd q hq).1, mv q.1 (K1.hd q hq).1 _ _ (K1.hd q hq).2⟩, K.ob.slot (s := .ow l xs) trivial (fun a o g _ z _ => ⟨e _ _ z, g⟩) fun a us z => e _ _ z⟩
  · rcases mem_set_some hb with hb | hb
    · obtain ⟨q1, q2, q3⟩ := K.new b hb
      exact ⟨q1, same_ne e q2, q3⟩
    · rw [hb]
      exact ⟨h0, by rw [ha]; exact (fun z => nomatch z), fun g => K.dom a g n⟩
  · by_cases em : i = m
    · by_cases en : i = n'
      · rw [← em, en]
      · rw [← em, List.getElem?_set_self hos] at h
        rw [List.getElem?_set_ne en] at h'
        have e1 : a = b := Option.some.inj (Option.some.inj h)
        exact absurd (List.mem_of_getElem? h') (e1 ▸ nos)
    · by_cases en : i = n'
      · rw [← en, List.getElem?_set_self hos] at h'
        rw [List.getElem?_set_ne em] at h
        have e1 : a = b := Option.some.inj (Option.some.inj h')
        exact absurd (List.mem_of_getElem? h) (e1 ▸ nos)
      · rw [List.getElem?_set_ne em] at h
        rw [List.getElem?_set_ne en] at h'
        exact K.inj m n' b h h'
  · by_cases ej : i = j
    · subst ej
      rw [List.getElem?_set_self hi] at h
      cases h
      refine ⟨hl, a, vs, by rw [List.getElem?_set_self hos], by rw [List.getElem?_set_self (by rw [K.ls]; exact hi)], ha, hv, r.weak fun b z => ?_⟩
      exact (av_more l hl b z).imp (av_less (fun a z => mem_set_none z) l b) id
    · have q := K1.sl j s (by rw [List.getElem?_set_ne ej] at h ⊢; exact h)
      cases s with
      | un => show (os.set i (some a))[j]? = some none; rw [List.getElem?_set_ne ej]; have q' : (os.set i none)[j]? = some none := q; rw [List.getElem?_set_ne ej] at q'; exact q'
      | sh l p =>
        obtain ⟨q1, q2, v, q3, q4⟩ := q
        rw [List.getElem?_set_ne ej] at q2
        exact ⟨q1, by rw [List.getElem?_set_ne ej]; exact q2, v, q3, mv l q1 _ _ q4⟩
      | ow l xs =>
        obtain ⟨q1, b, us, q2, q3, q4, q5, q6⟩ := q
        rw [List.getElem?_set_ne ej] at q2
        exact ⟨q1, b, us, by rw [List.getElem?_set_ne ej]; exact q2, q3, e _ _ q4, q5, mvs l q1 _ _ q6⟩
      | xv b d x =>
        obtain ⟨q1, q2, q3⟩ := q
        rw [List.getElem?_set_ne ej] at q1
        exact ⟨by rw [List.getElem?_set_ne ej]; exact q1, q2, q3.same fun a o h => e _ _ h⟩
      | tw ps =>
        obtain ⟨o, t, us, q1, q2, q3, q4, q5⟩ := q
        rw [List.getElem?_set_ne ej] at q1
        exact ⟨o, t, us, by rw [List.getElem?_set_ne ej]; exact q1, q2, e _ _ q3, q4, q5.move (fun a ws _ h => e _ _ h) fun p v h => mv .fr trivial p v h⟩
      | ce φ =>
        obtain ⟨b, q1, q2, q3⟩ := q
        rw [List.getElem?_set_ne ej] at q1
        exact ⟨b, by rw [List.getElem?_set_ne ej]; exact q1, q2, e _ _ q3⟩
      | rs v D φ =>
        obtain ⟨q1, q2, q3, q4, q5⟩ := q
        rw [List.getElem?_set_ne ej] at q1
        refine ⟨by rw [List.getElem?_set_ne ej]; exact q1, q2, q3, q5 _ _ (fun b hb => ?_) (fun a us z => e _ _ z) q4, q5⟩
        cases eb : H1 b with
        | none => exact absurd eb (K.dom b (q3 b hb).1)
        | some o => exact (e b o eb).symm
      | ob r p => have q' : (os.set i none)[j]? = some none := q; rw [List.getElem?_set_ne ej] at q'; show (os.set i (some a))[j]? = some none; rw [List.getElem?_set_ne ej]; exact q'
/-- a slot's list is changed -/
theorem OkW.chg {xs xs' : List PV} {vs' : List V} {l' : Lv} (K : OkW C G Γ hid os σ H) (h : Γ[i]? = some (.ow l xs)) (ha : os[i]? = some (some a)) (hl' : l'.st) (hv : vs'.length ≤ LIM) (r : Reps C.T H (av l' C.H0 G os) xs' vs') :
    OkW C G (Γ.set i (.ow l' xs')) hid os σ (upd H a (.lst vs')) := by
  obtain ⟨hl, a', vs, q2, q3, q4, q5, q6⟩ := K.sl i _ h
  obtain rfl : a' = a := Option.some.inj (Option.some.inj (q2.symm.trans ha))
  have hi : i < Γ.length := (List.getElem?_eq_some_iff.mp h).1
  have ma : some a' ∈ os := List.mem_of_getElem? ha
  have inav : ∀ l : Lv, l.st → av l C.H0 G os a' := fun l hl => by
    cases l with
    | raw => exact hl.elim
    | pa => exact .inr ma
    | fr => exact .inr (.inr ma)
  have hne : ∀ b, H b ≠ none → upd H a' (.lst vs') b ≠ none := fun b hb => by
    by_cases e : b = a'
    · rw [e, upd_same]; exact fun z => nomatch z
    · rw [upd_ne e]; exact hb
  refine ⟨by simp [K.lo], by simp [K.ls], fun b o e => ?_, fun b g => hne b (K.dom b g), fun b hb => ?_, K.inj, fun j s hj => ?_, fun q hq => ⟨(K.hd q hq).1, (K.hd q hq).2.upd (inav q.1 (K.hd q hq).1)⟩, K.ob.slot' (s := .ow l' xs') trivial (fun b o g _ z _ => ⟨by rw [upd_ne (fun y : b = a' => (K.new a' ma).2.2 (y ▸ g))]; exact z, g⟩) fun b us z => by rw [upd_ne (fun y : b = a' => by rw [y, q4] at z; cases z)]; exact z⟩
  · rw [upd_ne (fun z : b = a' => by rw [z, (K.new a' ma).1] at e; cases e)]
    exact K.ext b o e
  · obtain ⟨q1, q2, q3⟩ := K.new b hb
    exact ⟨q1, hne b q2, q3⟩
  · by_cases ej : i = j
    · subst ej
      rw [List.getElem?_set_self hi] at hj
      cases hj
      exact ⟨hl', a', vs', ha, q3, upd_same, hv, r.upd (inav l' hl')⟩
    · rw [List.getElem?_set_ne ej] at hj
      have q := K.sl j s hj
      cases s with
      | un => exact q
      | sh l p => obtain ⟨q1, q2, v, q3, q4⟩ := q; exact ⟨q1, q2, v, q3, q4.upd (inav l q1)⟩
      | ow l ys =>
        obtain ⟨q1, b, us, q2, q3, q4, q5, q6⟩ := q
        have nb : b ≠ a' := fun z => ej (K.inj i j a' ha (z ▸ q2))
        exact ⟨q1, b, us, q2, q3, by rw [upd_ne nb]; exact q4, q5, q6.upd (inav l q1)⟩
      | xv b d x =>
        obtain ⟨p1, p2, p3⟩ := q
        exact ⟨p1, p2, p3.same fun c o hc => by
          have nb : c ≠ a' := fun z => by rw [z, q4] at hc; cases hc
          rw [upd_ne nb]
          exact hc⟩
      | tw ps =>
        obtain ⟨o, t, us, p1, p2, p3, p4, p5⟩ := q
        have nt : t ≠ a' := fun z => by rw [z, q4] at p3; cases p3
        refine ⟨o, t, us, p1, p2, by rw [upd_ne nt]; exact p3, p4, p5.move (fun b ws eb hb => ?_) fun p v h => h.upd (inav .fr trivial)⟩
        subst eb
        have nb : b ≠ a' := fun z => ej (K.inj i j a' ha (z ▸ p1))
        rw [upd_ne nb]
        exact hb
      | ce φ =>
        obtain ⟨b, q1, q2, q3⟩ := q
        have nb : b ≠ a' := fun z => ej (K.inj i j a' ha (z ▸ q1))
        exact ⟨b, q1, q2, by rw [upd_ne nb]; exact q3⟩
      | rs v D φ =>
        obtain ⟨p1, p2, p3, p4, p5⟩ := q
        refine ⟨p1, p2, p3, p5 _ _ (fun b hb => ?_) (fun b us z => ?_) p4, p5⟩
        · have nb : b ≠ a' := fun z => (K.new a' ma).2.2 (z ▸ (p3 b hb).1)
          rw [upd_ne nb]
        · rw [upd_ne (fun y : b = a' => by rw [y, q4] at z; cases z)]
          exact z
      | ob r p => exact q
/-- a slot's list is given up: it is not changed any more -/
theorem OkW.share {xs : List PV} (K : OkW C G Γ hid os σ H) (h : Γ[i]? = some (.ow l xs)) : OkW C G (Γ.set i (.sh l (.lst xs))) hid (os.set i none) σ H := by
  obtain ⟨hl, a, vs, q2, q3, q4, q5, q6⟩ := K.sl i _ h
  have hi : i < Γ.length := (List.getElem?_eq_some_iff.mp h).1
  have ma : some a ∈ os := List.mem_of_getElem? q2
  have e1 : σ.set i (some (.ref a)) = σ := by
    apply List.ext_getElem?
    intro j
    by_cases e : i = j
    · subst e
      rw [List.getElem?_set_self (by rw [K.ls]; exact hi), q3]
    · rw [List.getElem?_set_ne e]
  have K1 := K.clear i hi (some (.ref a))
  rw [e1] at K1
  refine ⟨by simp [K.lo], by simp [K.ls], K1.ext, K1.dom, K1.new, K1.inj, fun j s hj => ?_, K1.hd, K.ob.slot' (s := .sh l (.lst xs)) trivial (fun a o g _ z _ => ⟨z, g⟩) fun a us z => z⟩
  by_cases e : i = j
  · subst e
    rw [List.getElem?_set_self hi] at hj
    cases hj
    refine ⟨hl, by rw [List.getElem?_set_self (by rw [K.lo]; exact hi)], .ref a, q3, ?_⟩
    unfold Rep
    refine ⟨a, vs, rfl, ?_, q4, q5, q6.weak (av_less (fun a z => mem_set_none z) l)⟩
    have nm : some a ∉ os.set i none := fun z => by
      obtain ⟨j, hj⟩ := List.getElem?_of_mem z
      obtain ⟨h1, h2⟩ := get_set_none hj
      exact h2 (K.inj j i a h1 q2)
    obtain ⟨n1, n2, n3⟩ := K.new a ma
    cases l with
    | raw => exact hl.elim
    | pa => exact fun z => z.elim n3 nm
    | fr => exact fun z => z.elim (fun z => z n1) fun z => z.elim n3 nm
  · refine K1.sl j s ?_
    rw [List.getElem?_set_ne e] at hj ⊢
    exact hj
/-- less is known of a slot -/
theorem OkW.lose (K : OkW C G Γ hid os σ H) (i : Nat) (hi : i < Γ.length) : OkW C G (Γ.set i .un) hid (os.set i none) σ H := by
  have h : σ.set i (σ[i]'(by rw [K.ls]; exact hi)) = σ := by simp
  have := K.clear i hi (σ[i]'(by rw [K.ls]; exact hi))
  rwa [h] at this
theorem OkW.hide {pins : Hid} (K : OkW C G Γ hid os σ H) (r : ∀ q ∈ pins, q.1.st ∧ Rep C.T H (av q.1 C.H0 G os) q.2.1 q.2.2) : OkW C G Γ (pins ++ hid) os σ H :=
  ⟨K.lo, K.ls, K.ext, K.dom, K.new, K.inj, K.sl, fun q hq => by
    rcases List.mem_append.mp hq with h | h
    · exact r q h
    · exact K.hd q h, K.ob⟩
theorem OkW.bare {pins : Hid} (K : OkW C G Γ (pins ++ hid) os σ H) : OkW C G Γ hid os σ H :=
  ⟨K.lo, K.ls, K.ext, K.dom, K.new, K.inj, K.sl, fun q hq => K.hd q (List.mem_append_right _ hq), K.ob⟩
theorem OkW.pins {pins : Hid} (K : OkW C G Γ (pins ++ hid) os σ H) : ∀ q ∈ pins, q.1.st ∧ Rep C.T H (av q.1 C.H0 G os) q.2.1 q.2.2 := fun q hq => K.hd q (List.mem_append_left _ hq)
/-- weaker knowledge, slot by slot -/
inductive Wk : List Sl → List Sl → Prop
  | nil : Wk [] []
  | keep {s : Sl} {a b : List Sl} : Wk a b → Wk (s :: a) (s :: b)
  | lose {s : Sl} {a b : List Sl} : Wk a b → Wk (s :: a) (.un :: b)
  | share {l : Lv} {xs : List PV} {a b : List Sl} : Wk a b → Wk (.ow l xs :: a) (.sh l (.lst xs) :: b)
  | low {p : PV} {a b : List Sl} : Wk a b → Wk (.sh .fr p :: a) (.sh .pa p :: b)
  | lowo {xs : List PV} {a b : List Sl} : Wk a b → Wk (.ow .fr xs :: a) (.ow .pa xs :: b)
theorem OkW.lower {f g : Sl} (K : OkW C G Γ hid os σ H) (h : Γ[i]? = some f) (fg : ∀ os σ H, SlOk C G os H i σ f → SlOk C G os H i σ g) (ng : notOb g := by trivial) : OkW C G (Γ.set i g) hid os σ H := by
  have hi : i < Γ.length := (List.getElem?_eq_some_iff.mp h).1
  refine ⟨by simp [K.lo], by simp [K.ls], K.ext, K.dom, K.new, K.inj, fun j s hj => ?_, K.hd, K.ob.slot' ng (fun a o g _ z _ => ⟨z, g⟩) fun a us z => z⟩
  by_cases e : i = j
  · subst e
    rw [List.getElem?_set_self hi] at hj
    cases hj
    exact fg _ _ _ (K.sl i _ h)
  · rw [List.getElem?_set_ne e] at hj
    exact K.sl j s hj
theorem lv_less' {os : List (Option Addr)} (h : Rep C.T H (av .fr C.H0 G os) p v) : Rep C.T H (av .pa C.H0 G os) p v := h.weak fun a z => .inr z
theorem Wk.ok : ∀ {a b : List Sl}, Wk a b → ∀ {pre : List Sl} {os : List (Option Addr)}, OkW C G (pre ++ a) hid os σ H → ∃ os', OkW C G (pre ++ b) hid os' σ H
  | _, _, .nil, pre, os, K => ⟨os, K⟩
  | _, _, .keep (s := s) (a := a) (b := b) w, pre, os, K => by
    have := w.ok (pre := pre ++ [s]) (os := os) (by simpa using K)
    simpa using this
  | _, _, .lose (s := s) (a := a) (b := b) w, pre, os, K => by
    have K1 := K.lose pre.length (by simp)
    have e : (pre ++ s :: a).set pre.length .un = (pre ++ [.un]) ++ a := by simp
    rw [e] at K1
    have := w.ok K1
    simpa using this
  | _, _, .share (l := l) (xs := xs) (a := a) (b := b) w, pre, os, K => by
    have K1 := K.share (i := pre.length) (l := l) (xs := xs) (by simp)
    have e : (pre ++ .ow l xs :: a).set pre.length (.sh l (.lst xs)) = (pre ++ [.sh l (.lst xs)]) ++ a := by simp
    rw [e] at K1
    have := w.ok K1
    simpa using this
  | _, _, .low (p := p) (a := a) (b := b) w, pre, os, K => by
    have K1 := K.lower (i := pre.length) (f := .sh .fr p) (g := .sh .pa p) (by simp) (fun os σ H h => by
      obtain ⟨q1, q2, v, q3, q4⟩ := h
      exact ⟨trivial, q2, v, q3, lv_less' q4⟩)
    have e : (pre ++ .sh .fr p :: a).set pre.length (.sh .pa p) = (pre ++ [.sh .pa p]) ++ a := by simp
    rw [e] at K1
    have := w.ok K1
    simpa using this
  | _, _, .lowo (xs := xs) (a := a) (b := b) w, pre, os, K => by
    have K1 := K.lower (i := pre.length) (f := .ow .fr xs) (g := .ow .pa xs) (by simp) (fun os σ H h => by
      obtain ⟨q1, a, vs, q2, q3, q4, q5, q6⟩ := h
      exact ⟨trivial, a, vs, q2, q3, q4, q5, q6.weak fun a z => .inr z⟩)
    have e : (pre ++ .ow .fr xs :: a).set pre.length (.ow .pa xs) = (pre ++ [.ow .pa xs]) ++ a := by simp
    rw [e] at K1
    have := w.ok K1
    simpa using this
theorem Wk.okw {a b : List Sl} (w : Wk a b) (K : OkW C G a hid os σ H) : ∃ os', OkW C G b hid os' σ H := w.ok (pre := []) K
theorem lv_raw {os : List (Option Addr)} {l : Lv} (h : Rep C.T H (av l C.H0 G os) p v) : Rep C.T H (av .raw C.H0 G os) p v := h.weak fun a z => z.elim
end
end Pv

set_option Elab.async false
set_option linter.all false
set_option maxRecDepth 100000
namespace Pv
open PySem PySem.Spec L2
open Enc (enc)
open Encs (encs)

/-! ### what is wanted of an outcome -/
def ExRep (T : CT) (H : Hp) (x : Exc) (cls : Value) (d : Option Addr) : Prop :=
  cls = .ref (T.addr x.c) ∧ ((d = none ∧ x.vs = []) ∨ ∃ dx us, d = some dx ∧ H dx = some (.xd ((T.fld x.c).zip us)) ∧ (T.fld x.c).length = us.length ∧ Reps T H (fun _ => False) x.vs us)
def PoX (C : Cn) (σ : L2.St) (H : Hp) (x : Exc) : Prop := match C.W with
  | none => False
  | some W => ∀ cls d H', Same H H' → ExRep C.T H' x cls d → W cls d σ H'
def PoV {α : Type} [Enc α] (C : Cn) (l : Lv) (G : Addr → Prop) (os : List (Option Addr)) (σ : L2.St) (H : Hp) (Q : VK) : R α → Prop
  | .ok a => ∀ v H', Same H H' → Rep C.T H' (av l C.H0 G os) (enc a) v → Q v H'
  | .ex x => PoX C σ H x
  | .bad => False
def PoN {α : Type} [Enc α] (C : Cn) (l : Lv) (G : Addr → Prop) (os : List (Option Addr)) (σ : L2.St) (H : Hp) (Q : VK) : R (List α) → Prop
  | .ok xs => ∀ p vs H', Same H H' → H p = none → H' p = some (.lst vs) → vs.length ≤ LIM → Reps C.T H' (fun b => av l C.H0 G os b ∨ b = p) (xs.map enc) vs → Q (.ref p) H'
  | .ex x => PoX C σ H x
  | .bad => False
def PoT (C : Cn) (σ : L2.St) (H : Hp) (Q : Bool → Hp → Prop) : R Bool → Prop
  | .ok b => ∀ H', Same H H' → Q b H'
  | .ex x => PoX C σ H x
  | .bad => False
def PoA {β : Type} [Encs β] (C : Cn) (l : Lv) (G : Addr → Prop) (os : List (Option Addr)) (σ : L2.St) (H : Hp) (Q : List V → Hp → Prop) : R β → Prop
  | .ok b => ∀ vs H', Same H H' → Reps C.T H' (av l C.H0 G os) (encs b) vs → Q vs H'
  | .ex x => PoX C σ H x
  | .bad => False

def Evm {α : Type} [Enc α] (C : Cn) (Γ : List Sl) (l : Lv) (t : TE) (m : R α) : Prop := ∀ G hid os σ H Q, OkW C G Γ hid os σ H → PoV C l G os σ H Q m → t σ H Q
def EvN {α : Type} [Enc α] (C : Cn) (Γ : List Sl) (l : Lv) (t : TE) (m : R (List α)) : Prop := ∀ G hid os σ H Q, OkW C G Γ hid os σ H → PoN C l G os σ H Q m → t σ H Q
def EvT (C : Cn) (Γ : List Sl) (t : TT) (m : R Bool) : Prop := ∀ G hid os σ H Q, OkW C G Γ hid os σ H → PoT C σ H Q m → t σ H Q
def EvA {β : Type} [Encs β] (C : Cn) (Γ : List Sl) (l : Lv) (t : TA) (m : R β) : Prop := ∀ G hid os σ H Q, OkW C G Γ hid os σ H → PoA C l G os σ H Q m → t σ H Q

section
variable {C : Cn} {Γ : List Sl} {l l1 l2 : Lv} {α β γ : Type} [Enc α] [Enc β] [Enc γ] {ta tb tc t : TE} {G : Addr → Prop} {os : List (Option Addr)} {σ : L2.St} {H H' : Hp} {x : Exc}
theorem PoX.back (e : Same H H') (h : PoX C σ H x) : PoX C σ H' x := by
  unfold PoX at h ⊢
  cases hw : C.W with
  | none => rw [hw] at h; exact h
  | some W =>
    rw [hw] at h
    exact fun cls d H2 e2 r => h cls d H2 (e.trans e2) r

/-! ### sorts of values -/
theorem evm_raw {m : R α} (h : Evm C Γ l t m) : Evm C Γ .raw t m := fun G hid os σ H Q K q => h G hid os σ H Q K (by
  cases m with
  | ok a => exact fun v H' e r => q v H' e (lv_raw r)
  | ex x => exact q
  | bad => exact q)
theorem evm_flat [Flat α] {m : R α} (h : Evm C Γ l t m) : Evm C Γ l2 t m := fun G hid os σ H Q K q => h G hid os σ H Q K (by
  cases m with
  | ok a => exact fun v H' e r => q v H' e r.flat
  | ex x => exact q
  | bad => exact q)
theorem evn_flat [Flat α] {m : R (List α)} (h : EvN C Γ l t m) : EvN C Γ l2 t m := fun G hid os σ H Q K q => h G hid os σ H Q K (by
  cases m with
  | ok a => exact fun p vs H' e n hp hz r => q p vs H' e n hp hz r.flat
  | ex x => exact q
  | bad => exact q)
theorem rep_lst {T : CT} {xs : List α} {p : Addr} {vs : List V} (g : ¬ G p) (h : H p = some (.lst vs)) (hz : vs.length ≤ LIM) (r : Reps T H G (xs.map enc) vs) : Rep T H G (enc xs) (.ref p) := by
  show Rep T H G (.lst (xs.map enc)) (.ref p)
  unfold Rep
  exact ⟨p, vs, rfl, g, h, hz, r⟩
theorem evn_ev {m : R (List α)} (h : EvN C Γ l t m) : Evm C Γ l t m := fun G hid os σ H Q K q => h G hid os σ H Q K (by
  cases m with
  | ok a => exact fun p vs H' e n hp hz r => q _ H' e (rep_lst (fun z => (K.fresh n l) z) hp hz (r.weak fun a z => .inl z))
  | ex x => exact q
  | bad => exact q)
theorem lst_rep {T : CT} {xs : List α} {v : V} (r : Rep T H G (enc xs) v) : ∃ p vs, v = .ref p ∧ ¬ G p ∧ H p = some (.lst vs) ∧ vs.length ≤ LIM ∧ Reps T H G (xs.map enc) vs := by
  have r : Rep T H G (.lst (xs.map enc)) v := r
  unfold Rep at r
  exact r
theorem int_rep {T : CT} {i : Int} {v : V} (r : Rep T H G (enc i) v) : v = .int i := r
theorem bl_rep {T : CT} {b : Bool} {v : V} (r : Rep T H G (enc b) v) : v = .bl b := r
theorem str_rep {T : CT} {x : Str} {v : V} (r : Rep T H G (enc x) v) : v = .str x ∧ x.length ≤ LIM ∧ PyData.canLay0 (.str x) = true := r

/-! ### names, constants -/
theorem evm_var {i : Nat} {a : α} (h : Γ[i]? = some (.sh l (enc a))) : Evm C Γ l (tVar i) (.ok a) := fun G hid os σ H Q K q => by
  obtain ⟨_, _, v, e, r⟩ := K.sl i _ h
  exact ⟨v, e, q v H (Same.refl H) r⟩
theorem evm_own {i : Nat} {xs : List α} (h : Γ[i]? = some (.ow l (xs.map enc))) : Evm C Γ .raw (tVar i) (.ok xs) := fun G hid os σ H Q K q => by
  obtain ⟨_, a, vs, _, e, ha, hz, r⟩ := K.sl i _ h
  exact ⟨_, e, q _ H (Same.refl H) (rep_lst id ha hz (r.weak fun a z => z.elim))⟩
theorem evm_int {i : Int} : Evm C Γ .fr (tC (.int i)) (.ok i) := fun G hid os σ H Q K q => q _ H (Same.refl H) (by rfl)
theorem evm_bl {i : Bool} : Evm C Γ .fr (tC (.bl i)) (.ok i) := fun G hid os σ H Q K q => q _ H (Same.refl H) (by rfl)
theorem evm_str {x : Str} (hx : x.length ≤ LIM := by decide +kernel) (ho : PyData.canLay0 (.str x) = true := by decide +kernel) : Evm C Γ .fr (tC (.str x)) (.ok x) := fun G hid os σ H Q K q => q _ H (Same.refl H) ⟨rfl, hx, ho⟩

/-! ### operations by values: flat results -/
theorem raw_rep {T : CT} {p : PV} {v : V} (r : Rep T H G p v) : Rep T H (fun _ => False) p v := r.weak fun a z => z.elim
/-- r, asked for values that stand for a and b, gives what o says, a flat value; it changes nothing -/
def RvF (T : CT) (r : R2) (a : α) (b : β) (o : Option γ) : Prop := ∀ H x y Q c, Rep T H (fun _ => False) (enc a) x → Rep T H (fun _ => False) (enc b) y → o = some c →
  (∀ v, Rep T H (fun _ => False) (enc c) v → Q v H) → r x y H Q
theorem evm_op [Flat γ] {r : R2} {m1 : R α} {m2 : R β} {f : α → β → Option γ} (ha : Evm C Γ l1 ta m1) (hb : Evm C Γ l2 tb m2) (hr : ∀ a b, m1 = .ok a → m2 = .ok b → RvF C.T r a b (f a b)) :
    Evm C Γ .fr (tOp r ta tb) (m1.bind fun a => m2.bind fun b => R.of (f a b)) := fun G hid os σ H Q K q => by
  refine ha G hid os σ H _ K ?_
  cases e1 : m1 with
  | bad => rw [e1] at q; exact q
  | ex x => rw [e1] at q; exact q
  | ok a =>
    rw [e1] at q
    intro x H1 s1 r1
    refine hb G hid os σ H1 _ (K.same s1) ?_
    cases e2 : m2 with
    | bad => rw [e2] at q; exact q
    | ex x => rw [e2] at q; exact PoX.back s1 q
    | ok b =>
      rw [e2] at q
      intro y H2 s2 r2
      have q : PoV C .fr G os σ H Q (R.of (f a b)) := q
      cases e3 : f a b with
      | none => rw [e3] at q; exact q.elim
      | some c =>
        rw [e3] at q
        exact hr a b e1 e2 H2 x y Q c (raw_rep (r1.same s2)) (raw_rep r2) e3 fun v r => q v H2 (s1.trans s2) r.flat
theorem evm_opT [Flat γ] {r : R2} {m1 : R α} {m2 : R β} {f : α → β → γ} (ha : Evm C Γ l1 ta m1) (hb : Evm C Γ l2 tb m2) (hr : ∀ a b, RvF C.T r a b (some (f a b))) :
    Evm C Γ .fr (tOp r ta tb) (m1.bind fun a => m2.bind fun b => .ok (f a b)) := evm_op (f := fun a b => some (f a b)) ha hb fun a b _ _ => hr a b
section
variable {T : CT}
theorem rv_II {f : Int → Int → Int} {a b : Int} : RvF T (rI0 fun i j => .int (f i j)) a b (some (f a b)) := fun H x y Q c hx hy e q => by
  cases e
  exact ⟨a, b, hx, hy, q _ rfl⟩
theorem rv_IB {f : Int → Int → Bool} {a b : Int} : RvF T (rI0 fun i j => .bl (f i j)) a b (some (f a b)) := fun H x y Q c hx hy e q => by
  cases e
  exact ⟨a, b, hx, hy, q _ rfl⟩
def optIf {α : Type} (c : Prop) [Decidable c] (a : α) : Option α := if c then some a else none
theorem optIf_some {α : Type} {c : Prop} [Decidable c] {a b : α} (h : optIf c a = some b) : c ∧ a = b := by
  unfold optIf at h
  split at h
  · exact ⟨by assumption, Option.some.inj h⟩
  · cases h
theorem optIf_pos {α : Type} {c : Prop} [Decidable c] {a : α} (h : c) : optIf c a = some a := if_pos h
end
end
end Pv

set_option Elab.async false
set_option linter.all false
set_option maxRecDepth 100000
namespace Pv
open PySem PySem.Spec L2
open Enc (enc)
open Encs (encs)

/-! ### data -/
mutual
def okD : PV → Bool
  | .non => true | .bl _ => true | .int _ => true | .str _ => true
  | .lst xs => okDs xs | .tup xs => okDs xs
  | .obj _ _ => false | .dic _ _ => false | .scr _ => false
def okDs : List PV → Bool
  | [] => true
  | x :: xs => okD x && okDs xs
end
mutual
def toD : PV → PyData
  | .non => .none | .bl b => .bool b | .int i => .int i | .str x => .str x
  | .lst xs => .list (toDs xs) | .tup xs => .tuple (toDs xs)
  | .obj _ _ => .none | .dic _ _ => .none | .scr _ => .none
def toDs : List PV → List PyData
  | [] => []
  | x :: xs => toD x :: toDs xs
end
mutual
def dep : PV → Nat
  | .lst xs => deps xs + 1 | .tup xs => deps xs + 1
  | _ => 0
def deps : List PV → Nat
  | [] => 0
  | x :: xs => max (dep x) (deps xs)
end
mutual
theorem lay_of {T : CT} {H : Hp} {G : Addr → Prop} : ∀ (p : PV) (v : V), okD p = true → Rep T H G p v → (toD p).canLay0 = true ∧ (toD p).depth = dep p
  | .non, _, _, _ => ⟨rfl, rfl⟩
  | .bl _, _, _, _ => ⟨rfl, rfl⟩
  | .int _, _, _, _ => ⟨rfl, rfl⟩
  | .str x, _, _, h => ⟨h.2.2, rfl⟩
  | .lst xs, v, o, h => by
    unfold Rep at h
    obtain ⟨a, vs, e, _, r, _, q⟩ := h
    have h := lays_of xs vs o q
    simp only [toD, PyData.canLay0, PyData.depth, dep]
    exact ⟨h.1, by rw [h.2]⟩
  | .tup xs, v, o, h => by
    unfold Rep at h
    obtain ⟨a, vs, e, _, r, _, q⟩ := h
    have h := lays_of xs vs o q
    simp only [toD, PyData.canLay0, PyData.depth, dep]
    exact ⟨h.1, by rw [h.2]⟩
theorem lays_of {T : CT} {H : Hp} {G : Addr → Prop} : ∀ (ps : List PV) (vs : List V), okDs ps = true → Reps T H G ps vs → PyData.canLayAll0 (toDs ps) = true ∧ PyData.depthAll (toDs ps) = deps ps
  | [], _, _, _ => ⟨rfl, rfl⟩
  | x :: xs, vs, o, h => by
    unfold Reps at h
    obtain ⟨v, r, e, h1, h2⟩ := h
    simp only [okDs, Bool.and_eq_true] at o
    have h1 := lay_of x v o.1 h1
    have h2 := lays_of xs r o.2 h2
    simp only [toDs, PyData.canLayAll0, PyData.depthAll, deps, Bool.and_eq_true]
    exact ⟨⟨h1.1, h2.1⟩, by rw [h1.2, h2.2]⟩
end
mutual
theorem dp_of {T : CT} {K : PySem.W.Frag} {H : Hp} {G : Addr → Prop} : ∀ (p : PV) (v : V), okD p = true → Rep T H G p v → Dp K H v (toD p)
  | .non, v, _, h => by have h : v = .non := h; rw [h]; exact .non
  | .bl b, v, _, h => by have h : v = .bl b := h; rw [h]; exact .bl b
  | .int i, v, _, h => by have h : v = .int i := h; rw [h]; exact .int i
  | .str x, v, _, h => by have h := h.1; rw [h]; exact .str x
  | .lst xs, v, o, h => by
    unfold Rep at h
    obtain ⟨a, vs, e, _, r, _, q⟩ := h
    rw [e]
    exact .lst (.inl (.inl r)) (dps_of xs vs o q)
  | .tup xs, v, o, h => by
    unfold Rep at h
    obtain ⟨a, vs, e, _, r, _, q⟩ := h
    rw [e]
    exact .tup (.inl (.inl r)) (dps_of xs vs o q)
theorem dps_of {T : CT} {K : PySem.W.Frag} {H : Hp} {G : Addr → Prop} : ∀ (ps : List PV) (vs : List V), okDs ps = true → Reps T H G ps vs → DpAll K H vs (toDs ps)
  | [], vs, _, h => by unfold Reps at h; rw [h]; exact .nil
  | x :: xs, vs, o, h => by
    unfold Reps at h
    obtain ⟨v, r, e, h1, h2⟩ := h
    simp only [okDs, Bool.and_eq_true] at o
    rw [e]
    exact .cons (dp_of x v o.1 h1) (dps_of xs r o.2 h2)
end
theorem shaped_of {T : CT} {H : Hp} {G : Addr → Prop} {p : PV} {v : V} (o : okD p = true) (d : dep p ≤ 64) (r : Rep T H G p v) : SeqAt.shaped (toD p) = true := by
  have h := lay_of p v o r
  show ((toD p).canLay0 && decide ((toD p).depth ≤ 64)) = true
  rw [Bool.and_eq_true]
  exact ⟨h.1, decide_eq_true (by rw [h.2]; exact d)⟩
/-- what == tells of two values -/
def eqP (p q : PV) : Bool := PyData.eqv (toD p) (toD q)
/-- values that == may look into -/
class Dta (α : Type) [Enc α] where
  n : Nat
  ok : ∀ a : α, okD (enc a) = true
  dp : ∀ a : α, dep (enc a) ≤ n
class Dtas (α : Type) [Encs α] where
  n : Nat
  ok : ∀ a : α, okDs (encs a) = true
  dp : ∀ a : α, deps (encs a) ≤ n
instance : Dta Int := ⟨0, fun _ => rfl, fun _ => Nat.le_refl _⟩
instance : Dta Bool := ⟨0, fun _ => rfl, fun _ => Nat.le_refl _⟩
instance : Dta Unit := ⟨0, fun _ => rfl, fun _ => Nat.le_refl _⟩
instance : Dta Str := ⟨0, fun _ => rfl, fun _ => Nat.le_refl _⟩
instance {α : Type} [Enc α] [Dta α] : Dta (Option α) := ⟨Dta.n α, fun a => by cases a with
  | none => rfl
  | some a => exact Dta.ok a, fun a => by cases a with
  | none => exact Nat.zero_le _
  | some a => exact Dta.dp a⟩
theorem okDs_map {α : Type} [Enc α] [Dta α] : ∀ xs : List α, okDs (xs.map enc) = true
  | [] => rfl
  | x :: xs => by rw [List.map_cons]; simp only [okDs, Bool.and_eq_true]; exact ⟨Dta.ok x, okDs_map xs⟩
theorem deps_map {α : Type} [Enc α] [Dta α] : ∀ xs : List α, deps (xs.map enc) ≤ Dta.n α
  | [] => Nat.zero_le _
  | x :: xs => by rw [List.map_cons]; exact Nat.max_le.mpr ⟨Dta.dp x, deps_map xs⟩
instance {α : Type} [Enc α] [Dta α] : Dta (List α) := ⟨Dta.n α + 1, fun xs => okDs_map xs, fun xs => Nat.succ_le_succ (deps_map xs)⟩
instance : Dtas Unit := ⟨0, fun _ => rfl, fun _ => Nat.le_refl _⟩
instance {α β : Type} [Enc α] [Encs β] [Dta α] [Dtas β] : Dtas (α × β) := ⟨max (Dta.n α) (Dtas.n β), fun x => by
  show (okD (enc x.1) && okDs (encs x.2)) = true
  rw [Bool.and_eq_true]
  exact ⟨Dta.ok x.1, Dtas.ok x.2⟩, fun x => by
  show max (dep (enc x.1)) (deps (encs x.2)) ≤ _
  have h1 := Dta.dp x.1
  have h2 := Dtas.dp x.2
  omega⟩
instance {α : Type} [Encs α] [Dtas α] : Dta (Tp α) := ⟨Dtas.n α + 1, fun x => Dtas.ok x.t, fun x => Nat.succ_le_succ (Dtas.dp x.t)⟩

section
variable {T : CT} {α β γ : Type} [Enc α] [Enc β] [Enc γ] {K : PySem.W.Frag}
theorem rv_eqI {a b : Int} : RvF T rEq a b (some (decide (a = b))) := fun H x y Q c hx hy e q => by
  cases e
  rw [int_rep hx, int_rep hy]
  refine ⟨rfl, q _ ?_⟩
  show V.bl _ = V.bl _
  simp
theorem rv_neI {a b : Int} : RvF T rNe a b (some (!decide (a = b))) := fun H x y Q c hx hy e q => by
  cases e
  rw [int_rep hx, int_rep hy]
  refine ⟨rfl, q _ ?_⟩
  show V.bl _ = V.bl _
  simp
theorem rv_eqS {a b : Str} : RvF T rEq a b (some (decide (a = b))) := fun H x y Q c hx hy e q => by
  cases e
  rw [(str_rep hx).1, (str_rep hy).1]
  refine ⟨rfl, q _ ?_⟩
  show V.bl _ = V.bl _
  simp
theorem rv_eqD [Dta α] [Dta β] {a : α} {b : β} (h1 : Dta.n α ≤ 64 := by decide) (h2 : Dta.n β ≤ 64 := by decide) : RvF T (rEqD K) a b (some (eqP (enc a) (enc b))) := fun H x y Q c hx hy e q => by
  cases e
  exact ⟨_, _, dp_of _ _ (Dta.ok a) hx, dp_of _ _ (Dta.ok b) hy, shaped_of (Dta.ok a) (Nat.le_trans (Dta.dp a) h1) hx, shaped_of (Dta.ok b) (Nat.le_trans (Dta.dp b) h2) hy, q _ rfl⟩
theorem rv_neD [Dta α] [Dta β] {a : α} {b : β} (h1 : Dta.n α ≤ 64 := by decide) (h2 : Dta.n β ≤ 64 := by decide) : RvF T (rNeD K) a b (some (!eqP (enc a) (enc b))) := fun H x y Q c hx hy e q => by
  cases e
  exact ⟨_, _, dp_of _ _ (Dta.ok a) hx, dp_of _ _ (Dta.ok b) hy, shaped_of (Dta.ok a) (Nat.le_trans (Dta.dp a) h1) hx, shaped_of (Dta.ok b) (Nat.le_trans (Dta.dp b) h2) hy, q _ rfl⟩
end
end Pv

set_option Elab.async false
set_option linter.all false
set_option maxRecDepth 100000
namespace Pv
open PySem PySem.Spec L2
open Enc (enc)
open Encs (encs)

section
variable {C : Cn} {Γ : List Sl} {l l1 l2 : Lv} {α β γ : Type} [Enc α] [Enc β] [Enc γ] {ta tb tc t : TE} {G : Addr → Prop} {os : List (Option Addr)} {σ : L2.St} {H H' : Hp} {x : Exc} {K : PySem.W.Frag} {T : CT}
theorem rd_seqL {K : PySem.W.Frag} {a : Addr} {vs : List V} (h : H a = some (.lst vs)) : SqL K H a vs := .inl (.inl h)
theorem rd_seqT {K : PySem.W.Frag} {a : Addr} {vs : List V} (h : H a = some (.tup vs)) : SqT K H a vs := .inl (.inl h)

/-! ### one operand -/
/-- what follows an operand: from its value x (which stands for a) in a heap H -/
def RvU {β : Type} [Enc β] (C : Cn) (Γ : List Sl) (l l' : Lv) (r : V → Hp → VK → Prop) (a : α) (m : R β) : Prop :=
  ∀ G hid os σ H Q x, OkW C G Γ hid os σ H → Rep C.T H (av l C.H0 G os) (enc a) x → PoV C l' G os σ H Q m → r x H Q
theorem evm_un {r : V → Hp → VK → Prop} {m : R α} {k : α → R β} {l' : Lv} (ha : Evm C Γ l ta m) (hr : ∀ a, m = .ok a → RvU C Γ l l' r a (k a)) : Evm C Γ l' (tUn r ta) (m.bind k) := fun G hid os σ H Q Kw q => by
  refine ha G hid os σ H _ Kw ?_
  cases e : m with
  | bad => rw [e] at q; exact q
  | ex x => rw [e] at q; exact q
  | ok a =>
    rw [e] at q
    intro x H1 s1 r1
    have q : PoV C l' G os σ H Q (k a) := q
    refine hr a e G hid os σ H1 Q x (Kw.same s1) r1 ?_
    cases e2 : k a with
    | bad => rw [e2] at q; exact q
    | ex x => rw [e2] at q; exact PoX.back s1 q
    | ok b => rw [e2] at q; exact fun v H2 s2 r2 => q v H2 (s1.trans s2) r2
theorem ru_neg {a : Int} : RvU C Γ l .fr (rU fun i => .int (-i)) a (.ok (-a)) := fun G hid os σ H Q x Kw r q => ⟨a, r, q _ H (Same.refl H) rfl⟩

/-! ### an item: x[i] -/
theorem evm_op2 {r : R2} {m1 : R α} {m2 : R β} {k : α → β → R γ} {l' : Lv} (ha : Evm C Γ l1 ta m1) (hb : Evm C Γ l2 tb m2)
    (hr : ∀ a b, ∀ G hid os σ H Q x y, OkW C G Γ hid os σ H → Rep C.T H (av l1 C.H0 G os) (enc a) x → Rep C.T H (av l2 C.H0 G os) (enc b) y → PoV C l' G os σ H Q (k a b) → r x y H Q) :
    Evm C Γ l' (tOp r ta tb) (m1.bind fun a => m2.bind fun b => k a b) := fun G hid os σ H Q Kw q => by
  refine ha G hid os σ H _ Kw ?_
  cases e1 : m1 with
  | bad => rw [e1] at q; exact q
  | ex x => rw [e1] at q; exact q
  | ok a =>
    rw [e1] at q
    intro x H1 s1 r1
    refine hb G hid os σ H1 _ (Kw.same s1) ?_
    cases e2 : m2 with
    | bad => rw [e2] at q; exact q
    | ex x => rw [e2] at q; exact PoX.back s1 q
    | ok b =>
      rw [e2] at q
      intro y H2 s2 r2
      have q : PoV C l' G os σ H Q (k a b) := q
      refine hr a b G hid os σ H2 Q x y (Kw.same (s1.trans s2)) (r1.same s2) r2 ?_
      cases e3 : k a b with
      | bad => rw [e3] at q; exact q
      | ex x => rw [e3] at q; exact PoX.back (s1.trans s2) q
      | ok c => rw [e3] at q; exact fun v H3 s3 r3 => q v H3 ((s1.trans s2).trans s3) r3
theorem atI_map {xs : List α} {i : Int} {a : α} (h : atI xs i = some a) : atI (xs.map enc) i = some (enc a) := by
  unfold atI at h ⊢
  rw [List.length_map]
  cases e : ixN xs.length i with
  | none => rw [e] at h; cases h
  | some j =>
    rw [e] at h
    have h : xs[j]? = some a := h
    show (xs.map enc)[j]? = some (enc a)
    rw [List.getElem?_map, h]
    rfl
theorem Reps.atI {ps : List PV} {vs : List V} {i : Int} {p : PV} (r : Reps T H G ps vs) (h : atI ps i = some p) : ∃ v, L2.atI vs i = some v ∧ Rep T H G p v := by
  unfold L2.atI at h ⊢
  rw [← r.len]
  cases e : ixN ps.length i with
  | none => rw [e] at h; cases h
  | some j =>
    rw [e] at h
    exact r.get h
/-- the item of a list -/
theorem evm_ix {m1 : R (List α)} {m2 : R Int} (ha : Evm C Γ l ta m1) (hb : Evm C Γ l2 tb m2) : Evm C Γ l (tOp (rIxL K) ta tb) (m1.bind fun xs => m2.bind fun i => R.of (atI xs i)) :=
  evm_op2 ha hb fun xs i G hid os σ H Q x y Kw rx ry q => by
    obtain ⟨p, vs, e, _, hp, _, rs⟩ := lst_rep rx
    cases e1 : atI xs i with
    | none => rw [e1] at q; exact q.elim
    | some a =>
      rw [e1] at q
      obtain ⟨v, h1, h2⟩ := rs.atI (atI_map e1)
      exact ⟨p, vs, i, v, e, ry, rd_seqL hp, h1, q v H (Same.refl H) h2⟩
/-- the item of an own list -/
theorem evm_ixo {i : Nat} {xs : List α} {m2 : R Int} (h : Γ[i]? = some (.ow l (xs.map enc))) (hb : Evm C Γ l2 tb m2) : Evm C Γ l (tOp (rIxL K) (tVar i) tb) (m2.bind fun i => R.of (atI xs i)) := fun G hid os σ H Q Kw q => by
  obtain ⟨_, a, vs, _, e, ha, hz, r⟩ := Kw.sl i _ h
  refine ⟨_, e, hb G hid os σ H _ Kw ?_⟩
  cases e2 : m2 with
  | bad => rw [e2] at q; exact q
  | ex x => rw [e2] at q; exact q
  | ok b =>
    rw [e2] at q
    intro y H2 s2 r2
    have q : PoV C l G os σ H Q (R.of (atI xs b)) := q
    cases e1 : atI xs b with
    | none => rw [e1] at q; exact q.elim
    | some c =>
      rw [e1] at q
      obtain ⟨v, h1, h2⟩ := (r.same s2).atI (atI_map e1)
      exact ⟨a, vs, b, v, rfl, r2, rd_seqL (s2 _ _ ha), h1, q v H2 s2 h2⟩
/-- the item of the script -/
theorem evm_ixs {m1 : R Scr} {m2 : R Int} (ha : Evm C Γ l ta m1) (hb : Evm C Γ l2 tb m2) : Evm C Γ .fr (tOp (rIxL C.T.K) ta tb) (m1.bind fun s => m2.bind fun i => R.of (atI s.xs i)) :=
  evm_op2 ha hb fun s i G hid os σ H Q x y Kw rx ry q => by
    obtain ⟨p, e, h⟩ := rx
    have hs : SqL C.T.K H p (s.xs.map V.int) := by
      rcases h with ⟨h, _⟩ | h
      · exact .inl h
      · rcases h with (h | ⟨o, h⟩) | h
        · cases h
        · cases h
        · exact .inr h
    cases e1 : atI s.xs i with
    | none => rw [e1] at q; exact q.elim
    | some a =>
      rw [e1] at q
      refine ⟨p, _, i, .int a, e, ry, hs, ?_, q _ H (Same.refl H) rfl⟩
      unfold atI at e1 ⊢
      rw [List.length_map]
      cases e2 : ixN s.xs.length i with
      | none => rw [e2] at e1; cases e1
      | some j =>
        rw [e2] at e1
        have e1 : s.xs[j]? = some a := e1
        show (s.xs.map V.int)[j]? = _
        rw [List.getElem?_map, e1]
        rfl
/-- a place of a tuple, known -/
theorem evm_ixt {δ : Type} [Encs δ] {m1 : R (Tp δ)} {g : δ → α} {j : Nat} (ha : Evm C Γ l ta m1) (hj : ∀ d : δ, (encs d)[j]? = some (enc (g d))) : Evm C Γ l (tOp (rIxT K) ta (tC (.int (j : Int)))) (m1.bind fun s => .ok (g s.t)) := fun G hid os σ H Q Kw q => by
  refine ha G hid os σ H _ Kw ?_
  cases e1 : m1 with
  | bad => rw [e1] at q; exact q
  | ex x => rw [e1] at q; exact q
  | ok a =>
    rw [e1] at q
    intro x H1 s1 r1
    have r1 : Rep C.T H1 _ (.tup (encs a.t)) x := r1
    unfold Rep at r1
    obtain ⟨p, vs, e, _, hp, _, rs⟩ := r1
    obtain ⟨v, h1, h2⟩ := rs.get (hj a.t)
    exact ⟨p, vs, (j : Int), v, e, rfl, rd_seqT hp, atI_nat h1, q v H1 s1 h2⟩

/-! ### arguments -/
theorem eva_nil : EvA C Γ l tNil (.ok ()) := fun G hid os σ H Q Kw q => q [] H (Same.refl H) reps_nil
theorem eva_cons {β : Type} [Encs β] {ta : TE} {tr : TA} {m : R α} {m2 : R β} (h : Evm C Γ l ta m) (hr : EvA C Γ l tr m2) : EvA C Γ l (tCons ta tr) (m.bind fun a => m2.bind fun b => .ok (a, b)) := fun G hid os σ H Q Kw q => by
  refine h G hid os σ H _ Kw ?_
  cases e1 : m with
  | bad => rw [e1] at q; exact q
  | ex x => rw [e1] at q; exact q
  | ok a =>
    rw [e1] at q
    intro x H1 s1 r1
    refine hr G hid os σ H1 _ (Kw.same s1) ?_
    cases e2 : m2 with
    | bad => rw [e2] at q; exact q
    | ex x => rw [e2] at q; exact PoX.back s1 q
    | ok b =>
      rw [e2] at q
      intro vs H2 s2 r2
      exact q (x :: vs) H2 (s1.trans s2) (reps_cons (r1.same s2) r2)
/-- a call of a built-in whose result is flat and that changes nothing -/
def RaF {β : Type} [Encs β] (T : CT) (r : List V → Hp → VK → Prop) (b : β) (o : Option γ) : Prop := ∀ H xs Q c, Reps T H (fun _ => False) (encs b) xs → o = some c → (∀ v, Rep T H (fun _ => False) (enc c) v → Q v H) → r xs H Q
theorem evm_cb {β : Type} [Encs β] [Flat γ] {r : List V → Hp → VK → Prop} {ta : TA} {m : R β} {f : β → Option γ} (ha : EvA C Γ l ta m) (hr : ∀ b, RaF C.T r b (f b)) : Evm C Γ .fr (tCB r ta) (m.bind fun b => R.of (f b)) := fun G hid os σ H Q Kw q => by
  refine ha G hid os σ H _ Kw ?_
  cases e1 : m with
  | bad => rw [e1] at q; exact q
  | ex x => rw [e1] at q; exact q
  | ok b =>
    rw [e1] at q
    intro vs H1 s1 r1
    have q : PoV C .fr G os σ H Q (R.of (f b)) := q
    cases e2 : f b with
    | none => rw [e2] at q; exact q.elim
    | some c =>
      rw [e2] at q
      exact hr b H1 vs Q c (r1.weak fun a z => z.elim) e2 fun v r => q v H1 s1 r.flat
theorem evm_cbT {β : Type} [Encs β] [Flat γ] {r : List V → Hp → VK → Prop} {ta : TA} {m : R β} {f : β → γ} (ha : EvA C Γ l ta m) (hr : ∀ b, RaF C.T r b (some (f b))) : Evm C Γ .fr (tCB r ta) (m.bind fun b => .ok (f b)) := evm_cb (f := fun b => some (f b)) ha hr
theorem reps1 {vs : List V} (r : Reps T H G (encs ((a, ()) : α × Unit)) vs) : ∃ v, vs = [v] ∧ Rep T H G (enc a) v := by
  obtain ⟨v, rr, e, h1, h2⟩ := r
  have h2 : rr = [] := h2
  exact ⟨v, by rw [e, h2], h1⟩
theorem reps2 {a : α} {b : β} {vs : List V} (r : Reps T H G (encs ((a, b, ()) : α × β × Unit)) vs) : ∃ v u, vs = [v, u] ∧ Rep T H G (enc a) v ∧ Rep T H G (enc b) u := by
  obtain ⟨v, rr, e, h1, h2⟩ := r
  obtain ⟨u, e2, h3⟩ := reps1 (a := b) h2
  exact ⟨v, u, by rw [e, e2], h1, h3⟩
theorem ra_abs {b : Int × Unit} : RaF T (fun xs H Q => ∃ i, xs = [.int i] ∧ Q (.int (if i < 0 then -i else i)) H) b (some (if b.1 < 0 then -b.1 else b.1)) := fun H xs Q c r e q => by
  obtain ⟨v, e1, e2⟩ := reps1 (a := b.1) r
  cases e
  exact ⟨b.1, by rw [e1, int_rep e2], q _ rfl⟩
theorem ra_int {b : Int × Unit} : RaF T (fun xs H Q => (∃ i, xs = [.int i] ∧ Q (.int i) H) ∨ ∃ k, xs = [.bl k] ∧ Q (.int (if k then 1 else 0)) H) b (some b.1) := fun H xs Q c r e q => by
  obtain ⟨v, e1, e2⟩ := reps1 (a := b.1) r
  cases e
  exact .inl ⟨b.1, by rw [e1, int_rep e2], q _ rfl⟩
theorem ra_intB {b : Bool × Unit} : RaF T (fun xs H Q => (∃ i, xs = [.int i] ∧ Q (.int i) H) ∨ ∃ k, xs = [.bl k] ∧ Q (.int (if k then 1 else 0)) H) b (some (if b.1 then (1 : Int) else 0)) := fun H xs Q c r e q => by
  obtain ⟨v, e1, e2⟩ := reps1 (a := b.1) r
  cases e
  exact .inr ⟨b.1, by rw [e1, bl_rep e2], q _ rfl⟩
theorem ra_max2 {b : Int × Int × Unit} : RaF T (fun xs H Q => ∃ i j, xs = [.int i, .int j] ∧ Q (.int (if j > i then j else i)) H) b (some (if b.2.1 > b.1 then b.2.1 else b.1)) := fun H xs Q c r e q => by
  obtain ⟨v, u, e1, e2, e3⟩ := reps2 (a := b.1) (b := b.2.1) r
  cases e
  exact ⟨b.1, b.2.1, by rw [e1, int_rep e2, int_rep e3], q _ rfl⟩
theorem ra_min2 {b : Int × Int × Unit} : RaF T (fun xs H Q => ∃ i j, xs = [.int i, .int j] ∧ Q (.int (if j < i then j else i)) H) b (some (if b.2.1 < b.1 then b.2.1 else b.1)) := fun H xs Q c r e q => by
  obtain ⟨v, u, e1, e2, e3⟩ := reps2 (a := b.1) (b := b.2.1) r
  cases e
  exact ⟨b.1, b.2.1, by rw [e1, int_rep e2, int_rep e3], q _ rfl⟩
theorem ra_len {b : List α × Unit} : RaF T (fun xs H Q => ∃ p ys, xs = [.ref p] ∧ (SqL K H p ys ∨ SqT K H p ys) ∧ Q (.int ys.length) H) b (some (b.1.length : Int)) := fun H xs Q c r e q => by
  obtain ⟨v, e1, e2⟩ := reps1 (a := b.1) r
  obtain ⟨p, vs, e3, _, hp, _, rs⟩ := lst_rep e2
  cases e
  refine ⟨p, vs, by rw [e1, e3], .inl (rd_seqL hp), q _ ?_⟩
  have := rs.len
  rw [List.length_map] at this
  rw [this]
  rfl
theorem ra_lenS {b : Scr × Unit} : RaF T (fun xs H Q => ∃ p ys, xs = [.ref p] ∧ (SqL T.K H p ys ∨ SqT T.K H p ys) ∧ Q (.int ys.length) H) b (some (b.1.xs.length : Int)) := fun H xs Q c r e q => by
  obtain ⟨v, e1, p, e3, h⟩ := reps1 (a := b.1) r
  have hs : SqL T.K H p (b.1.xs.map V.int) := by
    rcases h with ⟨h, _⟩ | h
    · exact .inl h
    · rcases h with (h | ⟨o, h⟩) | h
      · cases h
      · cases h
      · exact .inr h
  cases e
  refine ⟨p, _, by rw [e1, e3], .inl hs, q _ ?_⟩
  rw [List.length_map]
  rfl
theorem ra_lenT {δ : Type} [Encs δ] {b : Tp δ × Unit} {n : Nat} (hn : ∀ d : δ, (encs d).length = n) : RaF T (fun xs H Q => ∃ p ys, xs = [.ref p] ∧ (SqL K H p ys ∨ SqT K H p ys) ∧ Q (.int ys.length) H) b (some (n : Int)) := fun H xs Q c r e q => by
  obtain ⟨v, e1, e2⟩ := reps1 (a := b.1) r
  have e2 : Rep T H _ (.tup (encs b.1.t)) v := e2
  unfold Rep at e2
  obtain ⟨p, vs, e3, _, hp, _, rs⟩ := e2
  cases e
  refine ⟨p, vs, by rw [e1, e3], .inr (rd_seqT hp), q _ ?_⟩
  rw [← rs.len, hn]
  rfl
theorem ints_of : ∀ {ns : List Int} {vs : List V}, Reps T H G (ns.map enc) vs → vs = ns.map V.int
  | [], _, h => h
  | n :: ns, _, h => by
    rw [List.map_cons] at h
    unfold Reps at h
    obtain ⟨v, r, e, h1, h2⟩ := h
    rw [e, int_rep h1, ints_of h2]
    rfl
theorem bls_of : ∀ {ns : List Bool} {vs : List V}, Reps T H G (ns.map enc) vs → vs = ns.map V.bl
  | [], _, h => h
  | n :: ns, _, h => by
    rw [List.map_cons] at h
    unfold Reps at h
    obtain ⟨v, r, e, h1, h2⟩ := h
    rw [e, bl_rep h1, bls_of h2]
    rfl
theorem ra_all {b : List Bool × Unit} : RaF T (rAll K) b (some (b.1.all id)) := fun H xs Q c r e q => by
  obtain ⟨v, e1, e2⟩ := reps1 (a := b.1) r
  obtain ⟨p, vs, e3, _, hp, _, rs⟩ := lst_rep e2
  cases e
  refine ⟨p, b.1, by rw [e1, e3], ?_, q _ rfl⟩
  rw [← bls_of rs]
  exact rd_seqL hp
theorem ra_sum {b : List Int × Unit} : RaF T (rSum K) b (some b.1.sum) := fun H xs Q c r e q => by
  obtain ⟨v, e1, e2⟩ := reps1 (a := b.1) r
  obtain ⟨p, vs, e3, _, hp, _, rs⟩ := lst_rep e2
  cases e
  refine ⟨p, b.1, by rw [e1, e3], ?_, q _ rfl⟩
  rw [← ints_of rs]
  exact rd_seqL hp
theorem ra_minL {b : List Int × Unit} : RaF T (rMin K) b b.1.min? := fun H xs Q c r e q => by
  obtain ⟨v, e1, e2⟩ := reps1 (a := b.1) r
  obtain ⟨p, vs, e3, _, hp, _, rs⟩ := lst_rep e2
  refine ⟨p, b.1, by rw [e1, e3], ?_, ?_, fun m hm hb => q _ ?_⟩
  · rw [← ints_of rs]
    exact rd_seqL hp
  · cases e4 : b.1 with
    | nil => rw [e4] at e; cases e
    | cons x xs => simp
  · have := (List.min?_eq_some_iff (xs := b.1) (a := c)).mp e
    have h1 := this.2 m hm
    have h2 := hb c this.1
    show V.int m = V.int c
    have : m = c := by omega
    rw [this]
end
end Pv

set_option Elab.async false
set_option linter.all false
set_option maxRecDepth 100000
namespace Pv
open PySem PySem.Spec L2
open Enc (enc)
open Encs (encs)

section
variable {C : Cn} {Γ : List Sl} {l l1 l2 : Lv} {α β γ δ : Type} [Enc α] [Enc β] [Enc γ] [Encs δ] {ta tb tc te t : TE} {tt tu : TT} {G : Addr → Prop} {os : List (Option Addr)} {σ : L2.St} {H H' : Hp} {x : Exc} {K : PySem.W.Frag} {T : CT}

/-! ### displays -/
theorem same_new {H : Hp} {p : Addr} {o : HO} (n : H p = none) : Same H (upd H p o) := fun b u e => by
  rw [upd_ne (ne_of_none e n)]
  exact e
theorem evn_lst {ta : TA} {m : R δ} {f : δ → List α} (ha : EvA C Γ l ta m) (hf : ∀ b, encs b = (f b).map enc) (hn : ∀ b, (f b).length ≤ 1000) : EvN C Γ l (tLst ta) (m.bind fun b => .ok (f b)) := fun G hid os σ H Q Kw q => by
  refine ha G hid os σ H _ Kw ?_
  cases e1 : m with
  | bad => rw [e1] at q; exact q
  | ex x => rw [e1] at q; exact q
  | ok b =>
    rw [e1] at q
    intro vs H1 s1 r1
    rw [hf b] at r1
    have hl : vs.length ≤ 1000 := by
      have := r1.len
      rw [List.length_map] at this
      rw [← this]
      exact hn b
    exact ⟨Nat.le_of_lt (lim_size (Nat.le_trans hl (by decide))), fun p np => q p vs _ (s1.trans (same_new np)) (s1.free np) upd_same (Nat.le_trans hl (by decide)) ((r1.free np).same (same_new np))⟩
theorem evm_tup {ta : TA} {m : R δ} (ha : EvA C Γ l ta m) (hn : ∀ b : δ, (encs b).length ≤ 1000) : Evm C Γ l (tTup ta) (m.bind fun b => .ok (Tp.mk b)) := fun G hid os σ H Q Kw q => by
  refine ha G hid os σ H _ Kw ?_
  cases e1 : m with
  | bad => rw [e1] at q; exact q
  | ex x => rw [e1] at q; exact q
  | ok b =>
    rw [e1] at q
    intro vs H1 s1 r1
    have hl : vs.length ≤ 1000 := by rw [← r1.len]; exact hn b
    refine ⟨Nat.le_of_lt (lim_size (Nat.le_trans hl (by decide))), fun p np => q (.ref p) _ (s1.trans (same_new np)) ?_⟩
    show Rep C.T _ _ (.tup (encs b)) (.ref p)
    unfold Rep
    exact ⟨p, vs, rfl, (Kw.same s1).fresh np l, upd_same, Nat.le_trans hl (by decide), r1.same (same_new np)⟩
theorem evn_listof {m : R (List α)} (ha : Evm C Γ l ta m) :
    EvN C Γ l (tCB (fun xs H Q => ∃ p ys, xs = [.ref p] ∧ (SqL K H p ys ∨ SqT K H p ys) ∧ ∀ l, H l = none → Q (.ref l) (upd H l (.lst ys))) (tCons ta tNil)) m := fun G hid os σ H Q Kw q => by
  refine ha G hid os σ H _ Kw ?_
  cases e1 : m with
  | bad => rw [e1] at q; exact q
  | ex x => rw [e1] at q; exact q
  | ok xs =>
    rw [e1] at q
    intro x H1 s1 r1
    obtain ⟨p, vs, e, _, hp, hz, rs⟩ := lst_rep r1
    exact ⟨p, vs, by rw [e], .inl (rd_seqL hp), fun d nd => q d vs _ (s1.trans (same_new nd)) (s1.free nd) upd_same hz ((rs.free nd).same (same_new nd))⟩
/-- the same from an own list -/
theorem evn_listofo {i : Nat} {xs : List α} (h : Γ[i]? = some (.ow l (xs.map enc))) :
    EvN C Γ l (tCB (fun xs H Q => ∃ p ys, xs = [.ref p] ∧ (SqL K H p ys ∨ SqT K H p ys) ∧ ∀ l, H l = none → Q (.ref l) (upd H l (.lst ys))) (tCons (tVar i) tNil)) (.ok xs) := fun G hid os σ H Q Kw q => by
  obtain ⟨_, a, vs, _, e, ha, hz, r⟩ := Kw.sl i _ h
  exact ⟨_, e, a, vs, rfl, .inl (rd_seqL ha), fun d nd => q d vs _ (same_new nd) nd upd_same hz ((r.free nd).same (same_new nd))⟩

/-! ### slices -/
def EvO (C : Cn) (Γ : List Sl) (t : TO) (m : R (Option Int)) : Prop := ∀ G hid os σ H (Q : Option Int → Hp → Prop), OkW C G Γ hid os σ H → (match m with | .ok o => ∀ H', Same H H' → Q o H' | .ex x => PoX C σ H x | .bad => False) → t σ H Q
theorem evo_none : EvO C Γ tNoPart (.ok none) := fun G hid os σ H Q Kw q => q H (Same.refl H)
theorem evo_some {m : R Int} (h : Evm C Γ l t m) : EvO C Γ (tPart t) (m.bind fun i => .ok (some i)) := fun G hid os σ H Q Kw q => by
  refine h G hid os σ H _ Kw ?_
  cases e1 : m with
  | bad => rw [e1] at q; exact q
  | ex x => rw [e1] at q; exact q
  | ok i =>
    rw [e1] at q
    exact fun v H1 s1 r1 => ⟨i, r1, q H1 s1⟩
def cutL {α : Type} (xs : List α) (lo hi : Option Int) : List α := (xs.drop (HT.sIx xs.length 0 lo)).take (HT.sIx xs.length xs.length hi - HT.sIx xs.length 0 lo)
theorem cutL_map {xs : List α} {lo hi : Option Int} : (cutL xs lo hi).map enc = cutL (xs.map enc) lo hi := by
  unfold cutL
  rw [List.map_take, List.map_drop, List.length_map]
theorem Reps.cut {ps : List PV} {vs : List V} (lo hi : Option Int) (r : Reps T H G ps vs) : Reps T H G (cutL ps lo hi) (cutV vs lo hi) := by
  unfold cutL cutV
  rw [r.len]
  exact (r.drop _).take _
theorem cutV_len (vs : List V) (lo hi : Option Int) : (cutV vs lo hi).length ≤ vs.length := by
  unfold cutV
  rw [List.length_take, List.length_drop]
  omega
theorem evn_sl {to to2 : TO} {m1 : R (List α)} {m2 m3 : R (Option Int)} (ha : Evm C Γ l ta m1) (hb : EvO C Γ to m2) (hc : EvO C Γ to2 m3) : EvN C Γ l (tSl (rSlL K) ta to to2) (m1.bind fun xs => m2.bind fun a => m3.bind fun b => .ok (cutL xs a b)) := fun G hid os σ H Q Kw q => by
  refine ha G hid os σ H _ Kw ?_
  cases e1 : m1 with
  | bad => rw [e1] at q; exact q
  | ex x => rw [e1] at q; exact q
  | ok xs =>
    rw [e1] at q
    intro x H1 s1 r1
    refine hb G hid os σ H1 _ (Kw.same s1) ?_
    cases e2 : m2 with
    | bad => rw [e2] at q; exact q
    | ex x => rw [e2] at q; exact PoX.back s1 q
    | ok lo =>
      rw [e2] at q
      intro H2 s2
      refine hc G hid os σ H2 _ (Kw.same (s1.trans s2)) ?_
      cases e3 : m3 with
      | bad => rw [e3] at q; exact q
      | ex x => rw [e3] at q; exact PoX.back (s1.trans s2) q
      | ok hi =>
        rw [e3] at q
        intro H3 s3
        obtain ⟨p, vs, e, _, hp, hz, rs⟩ := lst_rep r1
        have s13 := s2.trans s3
        refine ⟨p, vs, e, rd_seqL (s13 _ _ hp), fun d nd => q d _ _ ((s1.trans s13).trans (same_new nd)) ((s1.trans s13).free nd) upd_same (Nat.le_trans (cutV_len _ _ _) hz) ?_⟩
        rw [cutL_map]
        exact (((rs.same s13).cut lo hi).free nd).same (same_new nd)
theorem evn_slo {i : Nat} {xs : List α} {to to2 : TO} {m2 m3 : R (Option Int)} (h : Γ[i]? = some (.ow l (xs.map enc))) (hb : EvO C Γ to m2) (hc : EvO C Γ to2 m3) : EvN C Γ l (tSl (rSlL K) (tVar i) to to2) (m2.bind fun a => m3.bind fun b => .ok (cutL xs a b)) := fun G hid os σ H Q Kw q => by
  obtain ⟨_, p, vs, _, e, hp, hz, rs⟩ := Kw.sl i _ h
  refine ⟨_, e, hb G hid os σ H _ Kw ?_⟩
  cases e2 : m2 with
  | bad => rw [e2] at q; exact q
  | ex x => rw [e2] at q; exact q
  | ok lo =>
    rw [e2] at q
    intro H2 s2
    refine hc G hid os σ H2 _ (Kw.same s2) ?_
    cases e3 : m3 with
    | bad => rw [e3] at q; exact q
    | ex x => rw [e3] at q; exact PoX.back s2 q
    | ok hi =>
      rw [e3] at q
      intro H3 s3
      have s13 := s2.trans s3
      refine ⟨p, vs, rfl, rd_seqL (s13 _ _ hp), fun d nd => q d _ _ (s13.trans (same_new nd)) (s13.free nd) upd_same (Nat.le_trans (cutV_len _ _ _) hz) ?_⟩
      rw [cutL_map]
      exact (((rs.same s13).cut lo hi).free nd).same (same_new nd)

/-! ### + and * of lists -/
def catL {α : Type} (xs ys : List α) : Option (List α) := optIf (xs.length + ys.length ≤ LIM) (xs ++ ys)
theorem evn_cat {m1 m2 : R (List α)} (ha : Evm C Γ l ta m1) (hb : Evm C Γ l tb m2) : EvN C Γ l (tOp rCat ta tb) (m1.bind fun xs => m2.bind fun ys => R.of (catL xs ys)) := fun G hid os σ H Q Kw q => by
  refine ha G hid os σ H _ Kw ?_
  cases e1 : m1 with
  | bad => rw [e1] at q; exact q
  | ex x => rw [e1] at q; exact q
  | ok xs =>
    rw [e1] at q
    intro x H1 s1 r1
    refine hb G hid os σ H1 _ (Kw.same s1) ?_
    cases e2 : m2 with
    | bad => rw [e2] at q; exact q
    | ex x => rw [e2] at q; exact PoX.back s1 q
    | ok ys =>
      rw [e2] at q
      intro y H2 s2 r2
      have q : PoN C l G os σ H Q (R.of (catL xs ys)) := q
      cases e3 : catL xs ys with
      | none => rw [e3] at q; exact q.elim
      | some zs =>
        rw [e3] at q
        obtain ⟨c, e4⟩ := optIf_some e3
        obtain ⟨p, vs, ex, _, hp, _, rs⟩ := lst_rep r1
        obtain ⟨p', us, ey, _, hp', _, rs'⟩ := lst_rep r2
        have l1 := rs.len
        have l2 := rs'.len
        rw [List.length_map] at l1 l2
        refine ⟨p, p', vs, us, ex, ey, s2 _ _ hp, hp', Nat.le_of_lt (lim_size (by omega)), fun d nd => q d _ _ ((s1.trans s2).trans (same_new nd)) ((s1.trans s2).free nd) upd_same (by rw [List.length_append]; omega) ?_⟩
        rw [← e4, List.map_append]
        exact (((rs.same s2).app rs').free nd).same (same_new nd)
def repL {α : Type} (xs : List α) (k : Int) : Option (List α) := optIf (-(2 ^ 63) ≤ k ∧ k < 2 ^ 63 ∧ xs.length * k.toNat ≤ LIM) (List.replicate k.toNat xs).flatten
/-! ### sorted, of ints -/
def sortI (xs : List Int) : List Int := xs.mergeSort fun a b => decide (a ≤ b)
theorem sortI_perm (xs : List Int) : (sortI xs).Perm xs := List.mergeSort_perm _ _
theorem sortI_le (xs : List Int) : (sortI xs).Pairwise (· ≤ ·) := by
  have := List.pairwise_mergeSort (le := fun a b : Int => decide (a ≤ b)) (fun a b c h1 h2 => by simp at h1 h2 ⊢; omega) (fun a b => by simp; omega) xs
  exact this.imp fun h => by simpa using h
theorem sorted_one : ∀ {xs ys : List Int}, xs.Perm ys → xs.Pairwise (· ≤ ·) → ys.Pairwise (· ≤ ·) → xs = ys := fun h h1 h2 =>
  h.eq_of_pairwise (fun a b _ _ h1 h2 => Int.le_antisymm h1 h2) h1 h2
end
end Pv

set_option Elab.async false
set_option linter.all false
set_option maxRecDepth 100000
namespace Pv
open PySem PySem.Spec L2
open Enc (enc)
open Encs (encs)

section
variable {C : Cn} {Γ : List Sl} {l l1 l2 : Lv} {α β γ δ : Type} [Enc α] [Enc β] [Enc γ] [Encs δ] {ta tb tc te t : TE} {tt tu : TT} {G : Addr → Prop} {os : List (Option Addr)} {σ : L2.St} {H H' : Hp} {x : Exc} {K : PySem.W.Frag} {T : CT}

/-! ### tests -/
theorem evt_test {m : R Bool} (h : Evm C Γ l t m) : EvT C Γ (tTest t) m := fun G hid os σ H Q Kw q => h G hid os σ H _ Kw (by
  cases m with
  | bad => exact q
  | ex x => exact q
  | ok b => exact fun v H1 s1 r1 => ⟨b, r1, q H1 s1⟩)
theorem evt_B {m : R Bool} (h : Evm C Γ l t m) : EvT C Γ (tB t) m := fun G hid os σ H Q Kw q => h G hid os σ H _ Kw (by
  cases m with
  | bad => exact q
  | ex x => exact q
  | ok b => exact fun v H1 s1 r1 => ⟨b, r1, q H1 s1⟩)
theorem PoT.back {σ : L2.St} {Q : Bool → Hp → Prop} {m : R Bool} (e : Same H H') (q : PoT C σ H Q m) : PoT C σ H' Q m := by
  cases m with
  | bad => exact q
  | ex x => exact PoX.back e q
  | ok b => exact fun H2 s2 => q H2 (e.trans s2)
theorem PoV.back {σ : L2.St} {Q : VK} {m : R α} (e : Same H H') (q : PoV C l G os σ H Q m) : PoV C l G os σ H' Q m := by
  cases m with
  | bad => exact q
  | ex x => exact PoX.back e q
  | ok b => exact fun v H2 s2 r => q v H2 (e.trans s2) r
theorem evt_and {m1 m2 : R Bool} (h1 : EvT C Γ tt m1) (h2 : EvT C Γ tu m2) : EvT C Γ (tAnd tt tu) (m1.bind fun b => R.ite b m2 (.ok false)) := fun G hid os σ H Q Kw q => h1 G hid os σ H _ Kw (by
  cases m1 with
  | bad => exact q
  | ex x => exact q
  | ok b =>
    intro H1 s1
    cases b with
    | true => exact iteT (h2 G hid os σ H1 Q (Kw.same s1) (PoT.back s1 q))
    | false => exact iteF (q H1 s1))
theorem evt_or {m1 m2 : R Bool} (h1 : EvT C Γ tt m1) (h2 : EvT C Γ tu m2) : EvT C Γ (tOr tt tu) (m1.bind fun b => R.ite b (.ok true) m2) := fun G hid os σ H Q Kw q => h1 G hid os σ H _ Kw (by
  cases m1 with
  | bad => exact q
  | ex x => exact q
  | ok b =>
    intro H1 s1
    cases b with
    | true => exact iteT (q H1 s1)
    | false => exact iteF (h2 G hid os σ H1 Q (Kw.same s1) (PoT.back s1 q)))
theorem evt_not {m : R Bool} (h : EvT C Γ tt m) : EvT C Γ (tNot tt) (m.bind fun b => .ok (!b)) := fun G hid os σ H Q Kw q => h G hid os σ H _ Kw (by
  cases m with
  | bad => exact q
  | ex x => exact q
  | ok b => exact fun H1 s1 => q H1 s1)
/-- the truth of a value -/
class Tru (α : Type) [Enc α] where
  tru : α → Bool
  ok : ∀ (K : PySem.W.Frag) (T : CT) (H : Hp) (G : Addr → Prop) (a : α) (v : V), Rep T H G (enc a) v → TruV K v H (tru a)
instance : Tru Int := ⟨fun i => i != 0, fun K T H G a v r => by rw [int_rep r]; exact rfl⟩
instance : Tru Bool := ⟨id, fun K T H G a v r => by rw [bl_rep r]; exact rfl⟩
instance : Tru Str := ⟨fun x => (x.length : Int) != 0, fun K T H G a v r => by rw [(str_rep r).1]; exact ⟨Nat.le_of_lt (lim_size (str_rep r).2.1), rfl⟩⟩
instance {α : Type} [Enc α] : Tru (List α) := ⟨fun xs => !xs.isEmpty, fun K T H G a v r => by
  obtain ⟨p, vs, e, _, hp, _, rs⟩ := lst_rep r
  rw [e]
  refine .inl ⟨vs, rd_seqL hp, ?_⟩
  have := rs.len
  rw [List.length_map] at this
  cases a with
  | nil => cases vs with
    | nil => rfl
    | cons _ _ => simp at this
  | cons _ _ => cases vs with
    | nil => simp at this
    | cons _ _ => rfl⟩
theorem evt_tru [Tru α] {m : R α} (h : Evm C Γ l ta m) : EvT C Γ (fun σ H Q => ta σ H fun x H' => ∃ k, TruV K x H' k ∧ Q k H') (m.bind fun a => .ok (Tru.tru a)) := fun G hid os σ H Q Kw q => h G hid os σ H _ Kw (by
  cases m with
  | bad => exact q
  | ex x => exact q
  | ok a => exact fun v H1 s1 r1 => ⟨Tru.tru a, Tru.ok K C.T H1 _ a v r1, q H1 s1⟩)

/-! ### and, or, not, if as values -/
theorem evm_and {m1 m2 : R Bool} (h1 : Evm C Γ l1 ta m1) (h2 : Evm C Γ l2 tb m2) : Evm C Γ .fr (tAndV ta tb) (m1.bind fun b => R.ite b m2 (.ok false)) := fun G hid os σ H Q Kw q => h1 G hid os σ H _ Kw (by
  cases m1 with
  | bad => exact q
  | ex x => exact q
  | ok b =>
    intro v H1 s1 r1
    refine ⟨b, r1, ?_⟩
    cases b with
    | true => exact iteT ((evm_flat (l2 := .fr) h2) G hid os σ H1 Q (Kw.same s1) (PoV.back s1 q))
    | false => exact iteF (q _ H1 s1 (by rfl)))
theorem evm_not {m : R Bool} (h : Evm C Γ l ta m) : Evm C Γ .fr (tNotV ta) (m.bind fun b => .ok (!b)) := fun G hid os σ H Q Kw q => h G hid os σ H _ Kw (by
  cases m with
  | bad => exact q
  | ex x => exact q
  | ok b => exact fun v H1 s1 r1 => ⟨b, r1, q _ H1 s1 (by rfl)⟩)
theorem evm_if {m : R Bool} {m1 m2 : R α} (h : EvT C Γ tt m) (h1 : Evm C Γ l ta m1) (h2 : Evm C Γ l tb m2) : Evm C Γ l (tIf tt ta tb) (R.ifm m m1 m2) := fun G hid os σ H Q Kw q => h G hid os σ H _ Kw (by
  cases m with
  | bad => exact q
  | ex x => exact q
  | ok b =>
    intro H1 s1
    cases b with
    | true => exact iteT (h1 G hid os σ H1 Q (Kw.same s1) (PoV.back s1 q))
    | false => exact iteF (h2 G hid os σ H1 Q (Kw.same s1) (PoV.back s1 q)))
end
end Pv

set_option Elab.async false
set_option linter.all false
set_option maxRecDepth 100000
namespace Pv
open PySem PySem.Spec L2
open Enc (enc)
open Encs (encs)

/-! ### what a def promises -/
def avC (l : Lv) (G : Addr → Prop) (H : Hp) (a : Addr) : Prop := match l with
  | .raw => False
  | .pa => G a
  | .fr => H a ≠ none ∨ G a
def PoRet (T : CT) (M : RM) (G : Addr → Prop) (H : Hp) (Q : VK) (p : PV) : Prop := match M with
  | .val l => ∀ v H', Same H H' → Rep T H' (avC l G H) p v → Q v H'
  | .nw l => ∀ a vs H' xs, p = .lst xs → Same H H' → H a = none → H' a = some (.lst vs) → vs.length ≤ LIM → Reps T H' (fun b => avC l G H b ∨ b = a) xs vs → Q (.ref a) H'
  | .dp => ∀ v as H', Same H H' → as.Nodup → (∀ a, a ∈ as → H a = none) → Own T H' p v as → Q v H'
def PoC {α : Type} [Enc α] (T : CT) (M : RM) (G : Addr → Prop) (H : Hp) (Q : VK) (E : XK) : R α → Prop
  | .ok a => PoRet T M G H Q (enc a)
  | .ex x => ∀ cls d H', Same H H' → ExRep T H' x cls d → E cls d H'
  | .bad => False
/-- a quiet def: no exception -/
def PoQ {α : Type} [Enc α] (T : CT) (M : RM) (G : Addr → Prop) (H : Hp) (Q : VK) : R α → Prop
  | .ok a => PoRet T M G H Q (enc a)
  | _ => False
/-- called with what stands for b it hands back what stands for f b -/
def Pm {β α : Type} [Encs β] [Enc α] (T : CT) (M : RM) (f : β → R α) : Sp := fun vs H Q _ => ∃ (b : β) (G : Addr → Prop), (∀ a, G a → H a ≠ none) ∧ Reps T H G (encs b) vs ∧ PoQ T M G H Q (f b)
def PmX {β α : Type} [Encs β] [Enc α] (T : CT) (M : RM) (f : β → R α) : Sp := fun vs H Q E => ∃ (b : β) (G : Addr → Prop), (∀ a, G a → H a ≠ none) ∧ Reps T H G (encs b) vs ∧ PoC T M G H Q E (f b)

section
variable {C : Cn} {Γ : List Sl} {l l1 l2 : Lv} {α : Type} [Enc α] {β : Type} [Encs β] {ta : TA} {E : XK}
theorem pm_at {T : CT} {M : RM} {f : β → R α} {b : β} {vs : List V} {H : Hp} {Q : VK} {G : Addr → Prop} (dom : ∀ a, G a → H a ≠ none) (r : Reps T H G (encs b) vs) (q : PoQ T M G H Q (f b)) : Pm T M f (vs ++ []) H Q E := by
  rw [List.append_nil]
  exact ⟨b, G, dom, r, q⟩
/-- the general step: from what the arguments are worth -/
theorem call_gen {m : R β} {f : β → R α} {M : RM} {P : (Addr → Prop) → List (Option Addr) → L2.St → Hp → VK → R α → Prop} (ha : EvA C Γ l ta m)
    (hb : ∀ G os σ H Q, ¬ P G os σ H Q .bad) (hx : ∀ G os σ H Q x, P G os σ H Q (.ex x) → False)
    (hm : ∀ G hid os σ H Q H1 a, OkW C G Γ hid os σ H → Same H H1 → P G os σ H Q (.ok a) → ∃ G' : Addr → Prop, (∀ b, G' b → H1 b ≠ none) ∧ (∀ b, G' b → av l C.H0 G os b) ∧ PoRet C.T M G' H1 Q (enc a)) :
    ∀ G hid os σ H Q, OkW C G Γ hid os σ H → (match m with | .ok b => P G os σ H Q (f b) | .ex x => PoX C σ H x | .bad => False) → tCall (Pm C.T M f) [] E ta σ H Q := fun G hid os σ H Q Kw q => by
  refine ha G hid os σ H _ Kw ?_
  cases e1 : m with
  | bad => rw [e1] at q; exact q
  | ex x => rw [e1] at q; exact q
  | ok b =>
    rw [e1] at q
    intro vs H1 s1 r1
    have q : P G os σ H Q (f b) := q
    cases e2 : f b with
    | bad => rw [e2] at q; exact absurd q (hb _ _ _ _ _)
    | ex x => rw [e2] at q; exact (hx _ _ _ _ _ _ q).elim
    | ok a =>
      rw [e2] at q
      obtain ⟨G', d, w, z⟩ := hm G hid os σ H Q H1 a Kw s1 q
      exact pm_at d (r1.weak w) (by rw [e2]; exact z)
theorem av_fr_of {G : Addr → Prop} {os : List (Option Addr)} {hid : Hid} {σ : L2.St} {H H1 : Hp} {G' : Addr → Prop} (Kw : OkW C G Γ hid os σ H) (s1 : Same H H1) (a : Addr) (h : av .fr C.H0 G os a) : avC .fr G' H1 a := .inl (by
  rcases h with h | h | h
  · exact same_ne (Kw.ext.trans s1) h
  · exact same_ne s1 (Kw.dom a h)
  · exact same_ne s1 (Kw.new a h).2.1)
/-- the result is made anew at every depth: whatever the arguments are -/
theorem evm_callF {m : R β} {f : β → R α} (hW : C.W = none) (ha : EvA C Γ .raw ta m) : Evm C Γ .fr (tCall (Pm C.T (.val .fr) f) [] E ta) (m.bind f) := fun G hid os σ H Q Kw q => by
  refine call_gen (M := .val .fr) (P := fun G os σ H Q r => PoV C .fr G os σ H Q r) ha (fun _ _ _ _ _ z => z) (fun _ _ _ _ _ x z => by have z : PoX C _ _ x := z; unfold PoX at z; rw [hW] at z; exact z) (fun G hid os σ H Q H1 a Kw s1 q => ⟨fun _ => False, fun _ z => z.elim, fun _ z => z.elim, fun v H2 s2 r => q v H2 (s1.trans s2) (r.weak fun a z => av_fr_of Kw s1 a z)⟩) G hid os σ H Q Kw ?_
  cases m with
  | bad => exact q
  | ex x => exact q
  | ok b => exact q
theorem evn_callF {m : R β} {f : β → R (List α)} (hW : C.W = none) (ha : EvA C Γ .raw ta m) : EvN C Γ .fr (tCall (Pm C.T (.nw .fr) f) [] E ta) (m.bind f) := fun G hid os σ H Q Kw q => by
  refine call_gen (M := .nw .fr) (P := fun G os σ H Q r => PoN C .fr G os σ H Q r) ha (fun _ _ _ _ _ z => z) (fun _ _ _ _ _ x z => by have z : PoX C _ _ x := z; unfold PoX at z; rw [hW] at z; exact z) (fun G hid os σ H Q H1 a Kw s1 q => ⟨fun _ => False, fun _ z => z.elim, fun _ z => z.elim, fun p vs H2 xs e s2 n hp hz r => q p vs H2 (s1.trans s2) (s1.free n) hp hz (by cases e; exact r.weak fun a z => z.imp (fun z => av_fr_of Kw s1 a z) id)⟩) G hid os σ H Q Kw ?_
  cases m with
  | bad => exact q
  | ex x => exact q
  | ok b => exact q
end

/-! ### what is walked -/
/-- an iterator over what stands for xs, as long as the pins are what they are -/
structure ItOv {α : Type} [Enc α] (T : CT) (J : It) (l : Lv) (pins : List (PV × V)) (xs : List α) : Prop where
  go : ∀ (i : Nat) (a : α) (H : Hp) (A : Addr → Prop), xs[i]? = some a → (∀ b, A b → H b ≠ none) → (∀ q ∈ pins, Rep T H A q.1 q.2) → J.go i H ∧ ∀ x H3, J.yld i H x H3 → Same H H3 ∧ Rep T H3 A (enc a) x
  stop : ∀ (i : Nat) (H : Hp) (A : Addr → Prop), xs.length ≤ i → (∀ q ∈ pins, Rep T H A q.1 q.2) → J.stop i H
def PoI {α : Type} [Enc α] (C : Cn) (l : Lv) (G : Addr → Prop) (os : List (Option Addr)) (σ : L2.St) (H : Hp) (Q : It → Hp → Prop) : R (List α) → Prop
  | .ok xs => ∀ J pins H', Same H H' → (∀ q ∈ pins, Rep C.T H' (av l C.H0 G os) q.1 q.2) → xs.length ≤ LIM → ItOv C.T J l pins xs → Q J H'
  | .ex x => PoX C σ H x
  | .bad => False
def EvI {α : Type} [Enc α] (C : Cn) (Γ : List Sl) (l : Lv) (t : TI) (m : R (List α)) : Prop := ∀ G hid os σ H Q, OkW C G Γ hid os σ H → PoI C l G os σ H Q m → t σ H Q
section
variable {C : Cn} {Γ : List Sl} {l l1 l2 : Lv} {α β : Type} [Enc α] [Enc β] {tl t : TE} {ta : TA} {K : PySem.W.Frag}
theorem evi_list {m : R (List α)} (h : Evm C Γ l tl m) : EvI C Γ l (iList K tl) m := fun G hid os σ H Q Kw q => by
  refine h G hid os σ H _ Kw ?_
  cases e1 : m with
  | bad => rw [e1] at q; exact q
  | ex x => rw [e1] at q; exact q
  | ok xs =>
    rw [e1] at q
    intro v H1 s1 r1
    obtain ⟨p, vs, e, _, hp, hz, rs⟩ := lst_rep r1
    have hl := rs.len
    rw [List.length_map] at hl
    refine ⟨p, e, ⟨vs, rd_seqL hp⟩, q _ [(enc xs, v)] H1 s1 (fun z hz => ?_) (by rw [hl]; exact hz) ⟨fun i a H2 A ha hd hpin => ?_, fun i H2 A hi hpin => ?_⟩⟩
    · rw [List.mem_singleton.mp hz]
      exact r1
    · obtain ⟨p2, us, e2, _, hp2, _, rs2⟩ := lst_rep (hpin _ (List.mem_singleton.mpr rfl))
      have e3 : p2 = p := by
        have : V.ref p2 = V.ref p := e2.symm.trans e
        injection this
      rw [e3] at hp2
      obtain ⟨w, hw, rw'⟩ := rs2.get (show (xs.map enc)[i]? = some (enc a) by rw [List.getElem?_map, ha]; rfl)
      refine ⟨⟨us, w, rd_seqL hp2, hw⟩, fun x H3 hy => ?_⟩
      obtain ⟨eH, hx⟩ := hy
      rw [eH]
      have e4 := hx us (rd_seqL hp2)
      rw [hw] at e4
      cases e4
      exact ⟨Same.refl _, rw'⟩
    · obtain ⟨p2, us, e2, _, hp2, _, rs2⟩ := lst_rep (hpin _ (List.mem_singleton.mpr rfl))
      have e3 : p2 = p := by
        have : V.ref p2 = V.ref p := e2.symm.trans e
        injection this
      rw [e3] at hp2
      have := rs2.len
      rw [List.length_map] at this
      exact ⟨us, rd_seqL hp2, by omega⟩
theorem int_rng (lo : Int) (n : Nat) (T : CT) : ItOv T (Itr lo n) l [] ((List.range n).map fun k : Nat => lo + (k : Int)) :=
  ⟨fun i a H A ha hd _ => by
    rw [List.getElem?_map] at ha
    have hi : i < n := by
      by_cases h : i < n
      · exact h
      · rw [List.getElem?_eq_none (by simp; omega)] at ha
        cases ha
    rw [List.getElem?_range hi] at ha
    cases ha
    exact ⟨hi, fun x H3 hy => by
      obtain ⟨e1, e2⟩ := hy
      rw [e1, e2]
      exact ⟨Same.refl _, rfl⟩⟩, fun i H A hi _ => by
    rw [List.length_map, List.length_range] at hi
    exact hi⟩
def rng (lo hi : Int) : List Int := (List.range (hi - lo).toNat).map fun k : Nat => lo + (k : Int)
def rngO (lo hi : Int) : Option (List Int) := optIf (-1000000 ≤ lo ∧ lo ≤ 1000000 ∧ -1000000 ≤ hi ∧ hi ≤ 1000000 ∧ hi - lo ≤ 1000000) (rng lo hi)
theorem evi_rng1 {m : R Int} (h : Evm C Γ l2 t m) : EvI C Γ l (iRng1 (tCons t tNil)) (m.bind fun n => R.of (rngO 0 n)) := fun G hid os σ H Q Kw q => by
  refine h G hid os σ H _ Kw ?_
  cases e1 : m with
  | bad => rw [e1] at q; exact q
  | ex x => rw [e1] at q; exact q
  | ok n =>
    rw [e1] at q
    intro v H1 s1 r1
    have q : PoI C l G os σ H Q (R.of (rngO 0 n)) := q
    cases e2 : rngO 0 n with
    | none => rw [e2] at q; exact q.elim
    | some xs =>
      rw [e2] at q
      obtain ⟨c, e3⟩ := optIf_some e2
      refine ⟨n, by rw [int_rep r1], by omega, by omega, q _ [] H1 s1 (fun z hz => by cases hz) ?_ ?_⟩
      · rw [← e3]
        simp only [rng, List.length_map, List.length_range]
        show _ ≤ 1000000
        omega
      · rw [← e3]
        have := int_rng (l := l) 0 n.toNat C.T
        simpa [rng] using this
def enumF {α : Type} (xs : List α) : List (Tp (Int × α × Unit)) := xs.mapIdx fun i a => ⟨((i : Int), a, ())⟩
theorem evi_enum {m : R (List α)} (h : Evm C Γ l tl m) : EvI C Γ l (iEnum K (tCons tl tNil)) (m.bind fun xs => .ok (enumF xs)) := fun G hid os σ H Q Kw q => by
  refine h G hid os σ H _ Kw ?_
  cases e1 : m with
  | bad => rw [e1] at q; exact q
  | ex x => rw [e1] at q; exact q
  | ok xs =>
    rw [e1] at q
    intro v H1 s1 r1
    obtain ⟨p, vs, e, _, hp, hz, rs⟩ := lst_rep r1
    have hl := rs.len
    rw [List.length_map] at hl
    refine ⟨p, vs, by rw [e], rd_seqL hp, q _ [(enc xs, v)] H1 s1 (fun z hz => ?_) (by simp [enumF, hl, hz]) ⟨fun i a H2 A ha hd hpin => ?_, fun i H2 A hi hpin => ?_⟩⟩
    · rw [List.mem_singleton.mp hz]
      exact r1
    · obtain ⟨p2, us, e2, _, hp2, _, rs2⟩ := lst_rep (hpin _ (List.mem_singleton.mpr rfl))
      have e3 : p2 = p := by
        have : V.ref p2 = V.ref p := e2.symm.trans e
        injection this
      rw [e3] at hp2
      obtain ⟨b, hb, eb⟩ : ∃ b, xs[i]? = some b ∧ a = ⟨((i : Int), b, ())⟩ := by
        simp only [enumF, List.getElem?_mapIdx] at ha
        cases hx : xs[i]? with
        | none => rw [hx] at ha; cases ha
        | some b => rw [hx] at ha; exact ⟨b, rfl, (Option.some.inj ha).symm⟩
      obtain ⟨w, hw, rw'⟩ := rs2.get (show (xs.map enc)[i]? = some (enc b) by rw [List.getElem?_map, hb]; rfl)
      refine ⟨⟨us, w, rd_seqL hp2, hw⟩, fun x H3 hy => ?_⟩
      obtain ⟨d, y, ex, nd, eH, hx⟩ := hy
      have e4 := hx us (rd_seqL hp2)
      rw [hw] at e4
      cases e4
      rw [eH, eb, ex]
      refine ⟨same_new nd, ?_⟩
      show Rep C.T _ _ (.tup (encs ((i : Int), b, ()))) _
      unfold Rep
      exact ⟨d, _, rfl, fun z => hd d z nd, upd_same, (show 2 ≤ LIM by decide), reps_cons (by rfl) (reps_cons (rw'.same (same_new nd)) reps_nil)⟩
    · obtain ⟨p2, us, e2, _, hp2, _, rs2⟩ := lst_rep (hpin _ (List.mem_singleton.mpr rfl))
      have e3 : p2 = p := by
        have : V.ref p2 = V.ref p := e2.symm.trans e
        injection this
      rw [e3] at hp2
      have := rs2.len
      rw [List.length_map] at this
      simp only [enumF, List.length_mapIdx] at hi
      exact ⟨us, rd_seqL hp2, by omega⟩
def zipF {α β : Type} (xs : List α) (ys : List β) : List (Tp (α × β × Unit)) := List.zipWith (fun a b => ⟨(a, b, ())⟩) xs ys
end
end Pv

set_option Elab.async false
set_option linter.all false
set_option maxRecDepth 100000
namespace Pv
open PySem PySem.Spec L2
open Enc (enc)
open Encs (encs)

/-! ### targets -/
theorem wipe_len (σ : L2.St) (vs : List Nat) : (wipe σ vs).length = σ.length := wipe_length σ vs
theorem wipe_get (σ : L2.St) : ∀ (vs : List Nat) (i : Nat), (wipe σ vs)[i]? = if i ∈ vs ∧ i < σ.length then some none else σ[i]?
  | [], i => by simp [wipe]
  | v :: vs, i => by
    unfold wipe
    by_cases h : v = i
    · subst h
      by_cases hl : v < σ.length
      · rw [List.getElem?_set_self (by rw [wipe_len]; exact hl)]
        simp [hl]
      · rw [List.getElem?_eq_none (by simp [wipe_len]; omega)]
        simp [hl]
    · rw [List.getElem?_set_ne h, wipe_get σ vs i]
      have h' : ¬ i = v := fun z => h z.symm
      simp [h']
theorem wipe_ext {σ τ : L2.St} {vs : List Nat} (hl : σ.length = τ.length) (h : ∀ i, i ∉ vs → σ[i]? = τ[i]?) : wipe σ vs = wipe τ vs := by
  apply List.ext_getElem?
  intro i
  rw [wipe_get, wipe_get, hl]
  by_cases hi : i ∈ vs
  · by_cases h2 : i < τ.length
    · simp [hi, h2]
    · simp only [hi, h2, and_false, if_false]
      rw [List.getElem?_eq_none (by omega), List.getElem?_eq_none (by omega)]
  · simp only [hi, false_and, if_false]
    exact h i hi
theorem wipe_out {σ : L2.St} {vs : List Nat} {i : Nat} (h : i ∉ vs) : (wipe σ vs)[i]? = σ[i]? := by
  rw [wipe_get]
  simp [h]

section
variable {C : Cn} {Γ : List Sl} {l l1 l2 : Lv} {α β γ : Type} [Enc α] [Enc β] [Enc γ] {K : PySem.W.Frag}
/-- slots as they were but for vs -/
def Bar (vs : List Nat) (σ σ' : L2.St) : Prop := σ.length = σ'.length ∧ ∀ i, i ∉ vs → σ[i]? = σ'[i]?
theorem Bar.refl (vs : List Nat) (σ : L2.St) : Bar vs σ σ := ⟨rfl, fun _ _ => rfl⟩
theorem Bar.set {vs : List Nat} {σ : L2.St} {j : Nat} {x : Option V} (h : j ∈ vs) : Bar vs σ (σ.set j x) := ⟨by simp, fun i hi => by
  rw [List.getElem?_set_ne (fun z : j = i => hi (by rw [← z]; exact h))]⟩
theorem Bar.trans {vs : List Nat} {σ σ1 σ2 : L2.St} (a : Bar vs σ σ1) (b : Bar vs σ1 σ2) : Bar vs σ σ2 := ⟨a.1.trans b.1, fun i hi => (a.2 i hi).trans (b.2 i hi)⟩
def TgB (C : Cn) (l : Lv) (g : TG) (vs : List Nat) (f : List Sl → α → List Sl) : Prop :=
  ∀ G hid os σ H Q v a Γ, OkW C G Γ hid os σ H → (∀ j ∈ vs, os[j]? = some none) → Rep C.T H (av l C.H0 G os) (enc a) v → (∀ os' σ', OkW C G (f Γ a) hid os' σ' H → Bar vs σ σ' → (∀ b : Addr, some b ∈ os → some b ∈ os') → Q σ' H) → g v σ H Q
theorem lt_of_some {os : List (Option Addr)} {j : Nat} (h : os[j]? = some none) : j < os.length := (List.getElem?_eq_some_iff.mp h).1
theorem keep_none {os : List (Option Addr)} {j : Nat} (h : os[j]? = some none) (b : Addr) (hb : some b ∈ os) : some b ∈ os.set j none := by
  obtain ⟨i, hi⟩ := List.getElem?_of_mem hb
  refine List.mem_of_getElem? (i := i) ?_
  by_cases e : j = i
  · rw [e, hi] at h; cases h
  · rw [List.getElem?_set_ne e]; exact hi
theorem none_set {os : List (Option Addr)} {j k : Nat} (h : os[k]? = some none) : (os.set j none)[k]? = some none := by
  by_cases e : j = k
  · rw [e, List.getElem?_set_self (lt_of_some h)]
  · rw [List.getElem?_set_ne e]; exact h
theorem tg_name {j : Nat} (hl : l.st) : TgB C l (gName j) [j] (fun Γ (a : α) => Γ.set j (.sh l (enc a))) := fun G hid os σ H Q v a Γ Kw hj r q =>
  q _ _ (Kw.put (by rw [← Kw.lo]; exact lt_of_some (hj j (by simp))) hl r) (Bar.set (by simp)) (keep_none (hj j (by simp)))
theorem tg_two {j k : Nat} (hl : l.st) : TgB C l (gTup K 2 (gCons (gName j) (gCons (gName k) gNil))) [j, k] (fun Γ (a : Tp (α × β × Unit)) => (Γ.set j (.sh l (enc a.t.1))).set k (.sh l (enc a.t.2.1))) := fun G hid os σ H Q v a Γ Kw hj r q => by
  have r : Rep C.T H _ (.tup (encs a.t)) v := r
  unfold Rep at r
  obtain ⟨p, vs, e, _, hp, _, rs⟩ := r
  obtain ⟨v1, v2, e2, r1, r2⟩ := reps2 (a := a.t.1) (b := a.t.2.1) rs
  have K1 := Kw.put (by rw [← Kw.lo]; exact lt_of_some (hj j (by simp))) hl r1
  have r2' : Rep C.T H (av l C.H0 G (os.set j none)) (enc a.t.2.1) v2 := r2.weak (av_less (fun a z => mem_set_none z) l)
  have K2 := K1.put (i := k) (by rw [List.length_set, ← Kw.lo]; exact lt_of_some (hj k (by simp))) hl r2'
  refine ⟨p, vs, e, rd_seqT hp, by rw [e2]; rfl, ?_⟩
  rw [e2]
  refine ⟨v1, [v2], rfl, v2, [], rfl, rfl, ?_⟩
  exact q _ _ K2 ((Bar.set (by simp)).trans (Bar.set (by simp))) fun b hb => keep_none (none_set (hj k (by simp))) b (keep_none (hj j (by simp)) b hb)
theorem tg_three {j k m : Nat} (hl : l.st) : TgB C l (gTup K 3 (gCons (gName j) (gCons (gName k) (gCons (gName m) gNil)))) [j, k, m] (fun Γ (a : Tp (α × β × γ × Unit)) => ((Γ.set j (.sh l (enc a.t.1))).set k (.sh l (enc a.t.2.1))).set m (.sh l (enc a.t.2.2.1))) := fun G hid os σ H Q v a Γ Kw hj r q => by
  have r : Rep C.T H _ (.tup (encs a.t)) v := r
  unfold Rep at r
  obtain ⟨p, vs, e, _, hp, _, v1, rr, e1, r1, rs⟩ := r
  obtain ⟨v2, v3, e2, r2, r3⟩ := reps2 (a := a.t.2.1) (b := a.t.2.2.1) rs
  have K1 := Kw.put (by rw [← Kw.lo]; exact lt_of_some (hj j (by simp))) hl r1
  have r2' : Rep C.T H (av l C.H0 G (os.set j none)) (enc a.t.2.1) v2 := r2.weak (av_less (fun a z => mem_set_none z) l)
  have K2 := K1.put (i := k) (by rw [List.length_set, ← Kw.lo]; exact lt_of_some (hj k (by simp))) hl r2'
  have r3' : Rep C.T H (av l C.H0 G ((os.set j none).set k none)) (enc a.t.2.2.1) v3 := r3.weak (av_less (fun a z => mem_set_none (mem_set_none z)) l)
  have K3 := K2.put (i := m) (by rw [List.length_set, List.length_set, ← Kw.lo]; exact lt_of_some (hj m (by simp))) hl r3'
  refine ⟨p, vs, e, rd_seqT hp, by rw [e1, e2]; rfl, ?_⟩
  rw [e1, e2]
  refine ⟨v1, [v2, v3], rfl, v2, [v3], rfl, v3, [], rfl, rfl, ?_⟩
  exact q _ _ K3 (((Bar.set (by simp)).trans (Bar.set (by simp))).trans (Bar.set (by simp))) fun b hb => keep_none (none_set (none_set (hj m (by simp)))) b (keep_none (none_set (hj k (by simp))) b (keep_none (hj j (by simp)) b hb))
end

/-! ### comprehensions -/
/-- the slots vs are forgotten -/
def forget (Γ : List Sl) : List Nat → List Sl
  | [] => Γ
  | v :: vs => (forget Γ vs).set v .un
def mapR {α β : Type} (f : α → R β) : List α → R (List β)
  | [] => .ok []
  | x :: xs => (f x).bind fun y => (mapR f xs).bind fun ys => .ok (y :: ys)
def compR {α β : Type} (t : α → R Bool) (f : α → R β) : List α → R (List β)
  | [] => .ok []
  | x :: xs => (t x).bind fun b => R.ite b ((f x).bind fun y => (compR t f xs).bind fun ys => .ok (y :: ys)) (compR t f xs)
section
variable {C : Cn} {Γ : List Sl} {hid : Hid} {G : Addr → Prop} {os : List (Option Addr)} {σ : L2.St} {H : Hp}
theorem forget_len (Γ : List Sl) : ∀ vs, (forget Γ vs).length = Γ.length
  | [] => rfl
  | v :: vs => by unfold forget; rw [List.length_set, forget_len Γ vs]
theorem OkW.wipe (Kw : OkW C G Γ hid os σ H) : ∀ vs : List Nat, (∀ j ∈ vs, os[j]? = some none) → ∃ os', OkW C G (forget Γ vs) hid os' (L2.wipe σ vs) H ∧ (∀ a : Addr, some a ∈ os' → some a ∈ os) ∧ (∀ a : Addr, some a ∈ os → some a ∈ os') ∧ (∀ j : Nat, os[j]? = some none → os'[j]? = some none)
  | [], _ => ⟨os, Kw, fun _ z => z, fun _ z => z, fun _ z => z⟩
  | v :: vs, h => by
    obtain ⟨os', K1, m, m', n⟩ := OkW.wipe Kw vs fun j hj => h j (List.mem_cons_of_mem _ hj)
    have hv := h v List.mem_cons_self
    exact ⟨_, K1.clear v (by rw [forget_len, ← Kw.lo]; exact lt_of_some hv) none, fun a z => m a (mem_set_none z), fun a z => keep_none (n v hv) a (m' a z), fun j hj => none_set (n j hj)⟩
theorem none_of {Γ : List Sl} (Kw : OkW C G Γ hid os σ H) {j : Nat} (hj : j < Γ.length) (hn : ∀ s, Γ[j]? = some s → notOw s = true) : os[j]? = some none := by
  have hg : Γ[j]? = some Γ[j] := List.getElem?_eq_getElem hj
  have q := Kw.sl j _ hg
  cases e : Γ[j] with
  | un => rw [e] at q; exact q
  | sh l p => rw [e] at q; exact q.2.1
  | ow l xs => rw [e] at hg; exact nomatch hn _ hg
  | tw ps => rw [e] at hg; exact nomatch hn _ hg
  | ce φ => rw [e] at hg; exact nomatch hn _ hg
  | rs v D φ => rw [e] at hg; exact nomatch hn _ hg
  | ob r p => rw [e] at hg; exact nomatch hn _ hg
  | xv a d x => rw [e] at q; exact q.1
end
section
variable {C : Cn} {Γ : List Sl} {l l1 l2 : Lv} {α β γ : Type} [Enc α] [Enc β] [Enc γ] {K : PySem.W.Frag} {wi : TI} {g : TG} {tt : TT} {te : TE} {vs : List Nat}
/-- hidden lists: what is avoided may be more -/
theorem av_ext {H0 : Hp} {G : Addr → Prop} {os : List (Option Addr)} {l : Lv} (hl : l.st) {D a : Addr} (h : av l H0 G os a ∨ a = D) : av l H0 (fun b => G b ∨ b = D) os a := by
  cases l with
  | raw => exact hl.elim
  | pa => rcases h with (h | h) | h
          · exact .inl (.inl h)
          · exact .inr h
          · exact .inl (.inr h)
  | fr => rcases h with (h | h | h) | h
          · exact .inl h
          · exact .inr (.inl (.inl h))
          · exact .inr (.inr h)
          · exact .inr (.inl (.inr h))
theorem av_ext' {H0 : Hp} {G : Addr → Prop} {os : List (Option Addr)} {l : Lv} {D a : Addr} (h : av l H0 (fun b => G b ∨ b = D) os a) : av l H0 G os a ∨ a = D := by
  cases l with
  | raw => exact h.elim
  | pa => rcases h with (h | h) | h
          · exact .inl (.inl h)
          · exact .inr h
          · exact .inl (.inr h)
  | fr => rcases h with h | (h | h) | h
          · exact .inl (.inl h)
          · exact .inl (.inr (.inl h))
          · exact .inr h
          · exact .inl (.inr (.inr h))
theorem OkW.more {G : Addr → Prop} {hid : Hid} {os : List (Option Addr)} {σ : L2.St} {H H' : Hp} {D : Addr} (Kw : OkW C G Γ hid os σ H) (s : Same H H') (n : H D = none) (d : H' D ≠ none) : OkW C (fun b => G b ∨ b = D) Γ hid os σ H' := by
  have mv : ∀ (l : Lv), l.st → ∀ p v, Rep C.T H (av l C.H0 G os) p v → Rep C.T H' (av l C.H0 (fun b => G b ∨ b = D) os) p v := fun l hl p v h => ((h.free n).same s).weak fun b z => av_ext' z
  have mvs : ∀ (l : Lv), l.st → ∀ p v, Reps C.T H (av l C.H0 G os) p v → Reps C.T H' (av l C.H0 (fun b => G b ∨ b = D) os) p v := fun l hl p v h => ((h.free n).same s).weak fun b z => av_ext' z
  refine ⟨Kw.lo, Kw.ls, Kw.ext.trans s, fun a g => g.elim (fun g => same_ne s (Kw.dom a g)) fun e => by rw [e]; exact d, fun a h => ?_, Kw.inj, fun i x h => ?_, fun q hq => ⟨(Kw.hd q hq).1, mv q.1 (Kw.hd q hq).1 _ _ (Kw.hd q hq).2⟩, Kw.ob.mono (fun i r p h => ⟨h, rfl⟩) (fun a o g _ z _ => ⟨s _ _ z, .inl g⟩) fun a us z => s _ _ z⟩
  · obtain ⟨h1, h2, h3⟩ := Kw.new a h
    exact ⟨h1, same_ne s h2, fun z => z.elim h3 fun e => by rw [e] at h2; exact h2 n⟩
  · have q := Kw.sl i x h
    cases x with
    | un => exact q
    | sh l p => obtain ⟨q1, q2, v, q3, q4⟩ := q; exact ⟨q1, q2, v, q3, mv l q1 _ _ q4⟩
    | ow l xs => obtain ⟨q1, a, us, q2, q3, q4, q5, q6⟩ := q; exact ⟨q1, a, us, q2, q3, s _ _ q4, q5, mvs l q1 _ _ q6⟩
    | xv a d x => obtain ⟨q1, q2, q3⟩ := q; exact ⟨q1, q2, q3.same fun a o h => s _ _ h⟩
    | tw ps => obtain ⟨o, t, us, q1, q2, q3, q4, q5⟩ := q; exact ⟨o, t, us, q1, q2, s _ _ q3, q4, q5.move (fun a ws _ h => s _ _ h) fun p v h => mv .fr trivial p v h⟩
    | ce φ => obtain ⟨a, q1, q2, q3⟩ := q; exact ⟨a, q1, q2, s _ _ q3⟩
    | rs v D0 φ =>
      obtain ⟨q1, q2, q3, q4, q5⟩ := q
      refine ⟨q1, q2, fun a ha => ⟨.inl (q3 a ha).1, (q3 a ha).2⟩, q5 _ _ (fun a ha => ?_) (fun a us z => s _ _ z) q4, q5⟩
      cases ea : H a with
      | none => exact absurd ea (Kw.dom a (q3 a ha).1)
      | some o => exact (s a o ea).symm
    | ob r p => exact q
theorem mut_same {H1 H2 : Hp} {D : Addr} {o : HO} (s : Same H1 H2) (n : H1 D = none) : Same H1 (upd H2 D o) := fun b u e => by
  rw [upd_ne (ne_of_none e n)]
  exact s b u e
/-- [e for x in xs if t] -/
theorem evn_lc {l3 : Lv} {m : R (List α)} {fg : List Sl → α → List Sl} {mt : α → R Bool} {me : α → R β} (hW : C.W = none) (hl : l.st) (hl1 : l3.st) (hcv : l1 = l3 ∨ ∀ (H H' : Hp) (A A' : Addr → Prop) (a : α) (v : V), Rep C.T H A (enc a) v → Rep C.T H' A' (enc a) v) (hi : EvI C Γ l1 wi m) (hvs : ∀ j ∈ vs, j < Γ.length ∧ ∀ s, Γ[j]? = some s → notOw s = true) (hg : TgB (α := α) C l3 g vs fg)
    (ht : ∀ a, EvT C (fg (forget Γ vs) a) tt (mt a)) (he : ∀ a, Evm C (fg (forget Γ vs) a) l te (me a)) : EvN C Γ l (tLc wi g tt te vs) (m.bind fun xs => compR mt me xs) := fun G hid os σ H Q Kw q => by
  refine hi G hid os σ H _ Kw ?_
  cases e1 : m with
  | bad => rw [e1] at q; exact q
  | ex x => rw [e1] at q; exact q
  | ok xs =>
    rw [e1] at q
    intro J pins H1 s1 hp hz iv D nD
    have q : PoN C l G os σ H Q (compR mt me xs) := q
    have hno : ∀ j ∈ vs, os[j]? = some none := fun j hj => none_of Kw (hvs j hj).1 (hvs j hj).2
    obtain ⟨os', Kv, mo, mo', mn⟩ := (Kw.same s1).wipe vs hno
    have avw : ∀ l a, av l C.H0 G os' a → av l C.H0 G os a := fun l a => av_less mo l a
    -- what is held before turn i: the list so far, and what is wanted of the rest
    refine ⟨fun i k H2 => k = xs.length - i ∧ i ≤ xs.length ∧ ∃ acc us, Same H1 H2 ∧ H2 D = some (.lst us) ∧ us.length = acc.length ∧ acc.length ≤ i ∧ Reps C.T H2 (fun b => av l C.H0 G os b ∨ b = D) (acc.map enc) us ∧
      (match compR mt me (xs.drop i) with | .ok ys => ∀ us2 H3, Same H1 H3 → H3 D = some (.lst us2) → us2.length ≤ LIM → Reps C.T H3 (fun b => av l C.H0 G os b ∨ b = D) ((acc ++ ys).map enc) us2 → Q (.ref D) H3 | _ => False),
      ⟨xs.length, by simp, Nat.zero_le _, [], [], same_new nD, upd_same, rfl, Nat.le_refl _, reps_nil, ?_⟩, fun i k H2 hk => ?_⟩
    · rw [List.drop_zero]
      cases e2 : compR mt me xs with
      | bad => rw [e2] at q; exact q
      | ex x => rw [e2] at q; have q : PoX C σ H x := q; unfold PoX at q; rw [hW] at q; exact q
      | ok ys =>
        rw [e2] at q
        exact fun us2 H3 s3 h3 hz3 r3 => q D us2 H3 (s1.trans s3) (s1.free nD) h3 hz3 r3
    · obtain ⟨ek, hi', acc, us, s2, hD, hlen, hle, rs, hq⟩ := hk
      have pinsR : ∀ z ∈ pins, Rep C.T H2 (fun b => av l1 C.H0 G os b ∨ b = D) z.1 z.2 := fun z hz => ((hp z hz).free nD).same s2
      have domA : ∀ b, (av l1 C.H0 G os b ∨ b = D) → H2 b ≠ none := fun b hb => by
        rcases hb with hb | hb
        · exact same_ne (s1.trans s2) (Kw.avdom l1 b hb)
        · rw [hb, hD]; exact fun z => nomatch z
      by_cases hlt : i < xs.length
      · right
        have hx : xs[i]? = some xs[i] := List.getElem?_eq_getElem hlt
        obtain ⟨hgo, hy⟩ := iv.go i _ H2 _ hx domA pinsR
        refine ⟨hgo, fun H3 => ∃ k', k' < k ∧ (k' = xs.length - (i + 1) ∧ i + 1 ≤ xs.length ∧ ∃ acc us, Same H1 H3 ∧ H3 D = some (.lst us) ∧ us.length = acc.length ∧ acc.length ≤ i + 1 ∧ Reps C.T H3 (fun b => av l C.H0 G os b ∨ b = D) (acc.map enc) us ∧
          (match compR mt me (xs.drop (i + 1)) with | .ok ys => ∀ us2 H3, Same H1 H3 → H3 D = some (.lst us2) → us2.length ≤ LIM → Reps C.T H3 (fun b => av l C.H0 G os b ∨ b = D) ((acc ++ ys).map enc) us2 → Q (.ref D) H3 | _ => False)), fun H3 hh => hh, fun x H3 hyx => ?_⟩
        obtain ⟨s3, rx⟩ := hy x H3 hyx
        have K3 : OkW C (fun b => G b ∨ b = D) (forget Γ vs) hid os' (L2.wipe σ vs) H3 := Kv.more (s2.trans s3) nD (same_ne s3 (by rw [hD]; exact fun z => nomatch z))
        refine hg _ hid os' _ H3 _ x xs[i] _ K3 (fun j hj => mn j (hno j hj)) (hcv.elim (fun e => by rw [← e]; exact rx.weak fun b z => (av_ext' z).imp (avw l1 b) id) fun k => k _ _ _ _ _ _ rx) (fun os2 σ2 K4 bar mo2 => ⟨?_, ?_⟩)
        · exact (wipe_ext (σ := σ2) (τ := L2.wipe σ vs) bar.1.symm fun j hj => (bar.2 j hj).symm).trans (wipe_ext (wipe_len σ vs) fun j hj => wipe_out hj)
        · -- the test, the element
          have hd : xs.drop i = xs[i] :: xs.drop (i + 1) := List.drop_eq_getElem_cons hlt
          rw [hd] at hq
          unfold compR at hq
          refine ht xs[i] _ hid os2 σ2 H3 _ K4 ?_
          cases e2 : mt xs[i] with
          | bad => rw [e2] at hq; exact hq
          | ex z => rw [e2] at hq; exact hq.elim
          | ok b =>
            rw [e2] at hq
            intro H4 s4
            have hD4 : H4 D = some (.lst us) := s4 _ _ (s3 _ _ hD)
            have s14 := (s2.trans s3).trans s4
            cases b with
            | false =>
              refine iteF ⟨xs.length - (i + 1), by omega, rfl, by omega, acc, us, s14, hD4, hlen, by omega, rs.same (s3.trans s4), ?_⟩
              exact hq
            | true =>
              refine iteT (he xs[i] _ hid os2 σ2 H4 _ (K4.same s4) ?_)
              have hq : (match (me xs[i]).bind fun y => (compR mt me (xs.drop (i + 1))).bind fun ys => R.ok (y :: ys) with | .ok ys => ∀ us2 H3, Same H1 H3 → H3 D = some (.lst us2) → us2.length ≤ LIM → Reps C.T H3 (fun b => av l C.H0 G os b ∨ b = D) ((acc ++ ys).map enc) us2 → Q (.ref D) H3 | _ => False) := hq
              cases e3 : me xs[i] with
              | bad => rw [e3] at hq; exact hq
              | ex z => rw [e3] at hq; exact hq.elim
              | ok y =>
                rw [e3] at hq
                intro v H5 s5 rv
                have hD5 : H5 D = some (.lst us) := s5 _ _ hD4
                have s15 := s14.trans s5
                refine ⟨us, hD5, lim_size (by omega), xs.length - (i + 1), by omega, rfl, by omega, acc ++ [y], us ++ [v], mut_same s15 nD, upd_same, by simp [hlen], by simp; omega, ?_, ?_⟩
                · rw [List.map_append]
                  have gD : (fun b => av l C.H0 G os b ∨ b = D) D := .inr rfl
                  exact Reps.upd gD ((rs.same ((s3.trans s4).trans s5)).app (reps_cons (rv.weak fun b z => av_ext hl (z.imp (av_less (fun a z => mo2 a (mo' a z)) l b) id)) reps_nil))
                · have hq : (match (compR mt me (xs.drop (i + 1))).bind fun ys => R.ok (y :: ys) with | .ok ys => ∀ us2 H3, Same H1 H3 → H3 D = some (.lst us2) → us2.length ≤ LIM → Reps C.T H3 (fun b => av l C.H0 G os b ∨ b = D) ((acc ++ ys).map enc) us2 → Q (.ref D) H3 | _ => False) := hq
                  cases e4 : compR mt me (xs.drop (i + 1)) with
                  | bad => rw [e4] at hq; exact hq
                  | ex z => rw [e4] at hq; exact hq
                  | ok ys =>
                    rw [e4] at hq
                    show ∀ us2 H3, _
                    rw [List.append_assoc]
                    exact hq
      · left
        refine ⟨iv.stop i H2 _ (by omega) pinsR, ?_⟩
        have hd : xs.drop i = [] := List.drop_eq_nil_of_le (by omega)
        rw [hd] at hq
        have hq : ∀ us2 H3, Same H1 H3 → H3 D = some (.lst us2) → us2.length ≤ LIM → Reps C.T H3 (fun b => av l C.H0 G os b ∨ b = D) ((acc ++ []).map enc) us2 → Q (.ref D) H3 := hq
        rw [List.append_nil] at hq
        exact hq us H2 s2 hD (by omega) rs
end
end Pv

set_option Elab.async false
set_option linter.all false
set_option maxRecDepth 100000
namespace Pv
open PySem PySem.Spec L2
open Enc (enc)
open Encs (encs)

/-! ### blocks -/
inductive Oc where
  | nx (Γ : List Sl) | bk (Γ : List Sl) | ct (Γ : List Sl) | rt (p : PV)
  | rs (Γ : List Sl) (p : PV)
def PoO (C : Cn) (G : Addr → Prop) (hid : Hid) (D : Ends) : Oc → Prop
  | .nx Γ => ∀ (G' : Addr → Prop) os σ H, (∀ a, G a → G' a) → OkW C G' Γ hid os σ H → D.nx σ H
  | .bk Γ => ∀ (G' : Addr → Prop) os σ H, (∀ a, G a → G' a) → OkW C G' Γ hid os σ H → D.bk σ H
  | .ct Γ => ∀ (G' : Addr → Prop) os σ H, (∀ a, G a → G' a) → OkW C G' Γ hid os σ H → D.ct σ H
  | .rt p => PoRet C.T C.M G C.H0 D.rt p
  | .rs Γ p => ∀ (G' : Addr → Prop) os σ H v, (∀ a, G a → G' a) → OkW C G' Γ hid os σ H → Rep C.T H (av .fr C.H0 G' os) p v → D.rt v H
def PoXB (C : Cn) (x : Exc) : Prop := match C.W with
  | none => False
  | some W => ∀ σ cls d H, Same C.H0 H → ExRep C.T H x cls d → W cls d σ H
def PoB {β : Type} (C : Cn) (G : Addr → Prop) (hid : Hid) (D : Ends) (out : β → Oc) : R β → Prop
  | .ok b => PoO C G hid D (out b)
  | .ex x => PoXB C x
  | .bad => False
theorem PoRet.mono {T : CT} {M : RM} {G G' : Addr → Prop} {H : Hp} {Q : VK} {p : PV} (m : ∀ a, G a → G' a) (q : PoRet T M G H Q p) : PoRet T M G' H Q p := by
  have w : ∀ (l : Lv) (a : Addr), avC l G H a → avC l G' H a := fun l a h => by
    cases l with
    | raw => exact h
    | pa => exact m a h
    | fr => exact h.imp id (m a)
  unfold PoRet at q ⊢
  cases M with
  | val l => exact fun v H' s r => q v H' s (r.weak (w l))
  | nw l => exact fun a vs H' xs e s n h z r => q a vs H' xs e s n h z (r.weak fun b hb => hb.imp (w l b) id)
  | dp => exact q
theorem PoO.mono {C : Cn} {G G' : Addr → Prop} {hid : Hid} {D : Ends} (m : ∀ a, G a → G' a) : ∀ {o : Oc}, PoO C G hid D o → PoO C G' hid D o
  | .nx _, q => fun G2 os σ H m2 K => q G2 os σ H (fun a z => m2 a (m a z)) K
  | .bk _, q => fun G2 os σ H m2 K => q G2 os σ H (fun a z => m2 a (m a z)) K
  | .ct _, q => fun G2 os σ H m2 K => q G2 os σ H (fun a z => m2 a (m a z)) K
  | .rt _, q => PoRet.mono m q
  | .rs _ _, q => fun G2 os σ H v m2 K r => q G2 os σ H v (fun a z => m2 a (m a z)) K r
theorem PoB.mono {β : Type} {C : Cn} {G G' : Addr → Prop} {hid : Hid} {D : Ends} {out : β → Oc} (m : ∀ a, G a → G' a) {r : R β} (q : PoB C G hid D out r) : PoB C G' hid D out r := by
  cases r with
  | ok b => exact PoO.mono (o := out b) m q
  | ex x => exact q
  | bad => exact q
def BD {β : Type} (C : Cn) (Γ : List Sl) (t : TS) (m : R β) (out : β → Oc) : Prop := ∀ G hid os σ H D, OkW C G Γ hid os σ H → PoB C G hid D out m → t D σ H

section
variable {C : Cn} {Γ Γ' : List Sl} {l l1 l2 : Lv} {α γ : Type} [Enc α] [Enc γ] {β ε : Type} {out : β → Oc} {K : PySem.W.Frag} {te ta tb : TE} {tt : TT} {t u w : TS}
theorem pox_of {x : Exc} {G : Addr → Prop} {hid : Hid} {os : List (Option Addr)} {σ : L2.St} {H : Hp} (Kw : OkW C G Γ hid os σ H) (q : PoXB C x) : PoX C σ H x := by
  unfold PoXB at q
  unfold PoX
  cases hw : C.W with
  | none => rw [hw] at q; exact q
  | some W => rw [hw] at q; exact fun cls d H' s r => q σ cls d H' (Kw.ext.trans s) r
theorem bd_assoc {t1 t2 : TS} {m : R β} (h : BD C Γ (tSeq t1 (tSeq t2 u)) m out) : BD C Γ (tSeq (tSeq t1 t2) u) m out := h
theorem bd_nil {m : R β} (h : BD C Γ u m out) : BD C Γ (tSeq tNext u) m out := h
theorem bd_wk {m : R β} (w : Wk Γ Γ') (h : BD C Γ' t m out) : BD C Γ t m out := fun G hid os σ H D Kw q => by
  obtain ⟨os', K'⟩ := w.okw Kw
  exact h G hid os' σ H D K' q
theorem bd_end {b : β} (w : Wk Γ Γ') (h : out b = .nx Γ') : BD C Γ tNext (.ok b) out := fun G hid os σ H D Kw q => by
  obtain ⟨os', K'⟩ := w.okw Kw
  have q : PoO C G hid D (out b) := q
  rw [h] at q
  exact q G os' σ H (fun _ z => z) K'
/-- behind an expression: what is known of its outcome -/
theorem ex_cases {α : Type} {m : R α} {k : α → R β} {G : Addr → Prop} {hid : Hid} {D : Ends} (q : PoB C G hid D out (m.bind k)) : (∃ a, m = .ok a ∧ PoB C G hid D out (k a)) ∨ (∃ x, m = .ex x ∧ PoXB C x) := by
  cases m with
  | bad => exact q.elim
  | ex x => exact .inr ⟨x, rfl, q⟩
  | ok a => exact .inl ⟨a, rfl, q⟩
theorem bd_set {i : Nat} {m : R α} {k : α → R β} (h : Evm C Γ l te m) (hl : l.st) (hi : i < Γ.length) (hk : ∀ a, BD C (Γ.set i (.sh l (enc a))) u (k a) out) : BD C Γ (tSeq (tAsg te (gName i)) u) (m.bind k) out := fun G hid os σ H D Kw q => by
  refine h G hid os σ H _ Kw ?_
  rcases ex_cases q with ⟨a, e, q⟩ | ⟨x, e, q⟩ <;> rw [e]
  · exact fun v H1 s1 r1 => hk a G hid _ _ H1 D ((Kw.same s1).put hi hl r1) q
  · exact pox_of Kw q
theorem bd_setP {i : Nat} {a : α} {k : α → R β} (h : Evm C Γ l te (.ok a)) (hl : l.st) (hi : i < Γ.length) (hk : ∀ a, BD C (Γ.set i (.sh l (enc a))) u (k a) out) : BD C Γ (tSeq (tAsg te (gName i)) u) (R.lt a k) out := bd_set h hl hi hk
theorem bd_setN {i : Nat} {m : R (List α)} {k : List α → R β} (h : EvN C Γ l te m) (hl : l.st) (hi : i < Γ.length) (hk : ∀ xs, BD C (Γ.set i (.ow l (xs.map enc))) u (k xs) out) : BD C Γ (tSeq (tAsg te (gName i)) u) (m.bind k) out := fun G hid os σ H D Kw q => by
  refine h G hid os σ H _ Kw ?_
  rcases ex_cases q with ⟨a, e, q⟩ | ⟨x, e, q⟩ <;> rw [e]
  · exact fun p vs H1 s1 n hp hz r1 => hk a G hid _ _ H1 D (Kw.own hi hl s1 n hp hz r1) q
  · exact pox_of Kw q
theorem bd_setNP {i : Nat} {a : List α} {k : List α → R β} (h : EvN C Γ l te (.ok a)) (hl : l.st) (hi : i < Γ.length) (hk : ∀ xs, BD C (Γ.set i (.ow l (xs.map enc))) u (k xs) out) : BD C Γ (tSeq (tAsg te (gName i)) u) (R.lt a k) out := bd_setN h hl hi hk
theorem bd_drop {m : R α} {k : R β} (h : Evm C Γ l te m) (hk : BD C Γ u k out) : BD C Γ (tSeq (tDrop te) u) (m.bind fun _ => k) out := fun G hid os σ H D Kw q => by
  refine h G hid os σ H _ Kw ?_
  rcases ex_cases q with ⟨a, e, q⟩ | ⟨x, e, q⟩ <;> rw [e]
  · exact fun v H1 s1 r1 => hk G hid os σ H1 D (Kw.same s1) q
  · exact pox_of Kw q
theorem avC_av {G : Addr → Prop} {H0 : Hp} {os : List (Option Addr)} (a : Addr) (h : avC l G H0 a) : av l H0 G os a := by
  cases l with
  | raw => exact h
  | pa => exact .inl h
  | fr => exact h.imp id .inl
/-- return, a value -/
theorem bd_ret {m : R α} {k : α → β} (hM : C.M = .val l) (h : Evm C Γ l te m) (ho : ∀ a, out (k a) = .rt (enc a)) : BD C Γ (tSeq (tRet te) u) (m.bind fun a => .ok (k a)) out := fun G hid os σ H D Kw q => by
  refine h G hid os σ H _ Kw ?_
  rcases ex_cases q with ⟨a, e, q⟩ | ⟨x, e, q⟩ <;> rw [e]
  · intro v H1 s1 r1
    have q : PoO C G hid D (out (k a)) := q
    rw [ho] at q
    have q : PoRet C.T C.M G C.H0 D.rt (enc a) := q
    unfold PoRet at q
    rw [hM] at q
    exact q v H1 (Kw.ext.trans s1) (r1.weak fun a z => avC_av a z)
  · exact pox_of Kw q
theorem bd_ret1 {out : α → Oc} {m : R α} (hM : C.M = .val l) (h : Evm C Γ l te m) (ho : ∀ a, out a = .rt (enc a)) : BD C Γ (tSeq (tRet te) u) m out := by
  have := bd_ret (u := u) (k := fun a => a) (out := out) hM h ho
  cases m <;> exact this
/-- return, a new list -/
theorem bd_retN {m : R (List α)} {k : List α → β} (hM : C.M = .nw l) (h : EvN C Γ l te m) (ho : ∀ a, out (k a) = .rt (enc a)) : BD C Γ (tSeq (tRet te) u) (m.bind fun a => .ok (k a)) out := fun G hid os σ H D Kw q => by
  refine h G hid os σ H _ Kw ?_
  rcases ex_cases q with ⟨a, e, q⟩ | ⟨x, e, q⟩ <;> rw [e]
  · intro p vs H1 s1 n hp hz r1
    have q : PoO C G hid D (out (k a)) := q
    rw [ho] at q
    have q : PoRet C.T C.M G C.H0 D.rt (enc a) := q
    unfold PoRet at q
    rw [hM] at q
    exact q p vs H1 (a.map enc) rfl (Kw.ext.trans s1) (Kw.ext.free n) hp hz (r1.weak fun a z => z.imp (fun z => avC_av a z) id)
  · exact pox_of Kw q
theorem bd_retN1 {out : List α → Oc} {m : R (List α)} (hM : C.M = .nw l) (h : EvN C Γ l te m) (ho : ∀ a, out a = .rt (enc a)) : BD C Γ (tSeq (tRet te) u) m out := by
  have := bd_retN (u := u) (k := fun a => a) (out := out) hM h ho
  cases m <;> exact this
/-- return, an own list -/
theorem bd_retO {i : Nat} {xs : List α} {k : β} (hM : C.M = .nw l) (h : Γ[i]? = some (.ow l (xs.map enc))) (ho : out k = .rt (enc xs)) : BD C Γ (tSeq (tRet (tVar i)) u) (.ok k) out := fun G hid os σ H D Kw q => by
  have K2 := Kw.share h
  obtain ⟨hl, p, vs, e2, e3, hp, hz, rs⟩ := Kw.sl i _ h
  have q : PoO C G hid D (out k) := q
  rw [ho] at q
  have q : PoRet C.T C.M G C.H0 D.rt (enc xs) := q
  unfold PoRet at q
  rw [hM] at q
  have mp : some p ∈ os := List.mem_of_getElem? e2
  refine ⟨_, e3, q p vs H (xs.map enc) rfl Kw.ext (Kw.new p mp).1 hp hz (rs.weak fun a z => ?_)⟩
  rcases z with z | z
  · exact avC_av a z
  · rw [z]
    cases l with
    | raw => exact hl.elim
    | pa => exact .inr mp
    | fr => exact .inr (.inr mp)
theorem bd_if {c : R Bool} {m1 m2 : R β} (hc : EvT C Γ tt c) (h1 : BD C Γ (tSeq t u) m1 out) (h2 : BD C Γ (tSeq w u) m2 out) : BD C Γ (tSeq (tIfS tt t w) u) (R.ifm c m1 m2) out := fun G hid os σ H D Kw q => by
  refine hc G hid os σ H _ Kw ?_
  rcases ex_cases (k := fun b => R.ite b m1 m2) q with ⟨a, e, q⟩ | ⟨x, e, q⟩ <;> rw [e]
  · intro H1 s1
    cases a with
    | true => exact iteT (h1 G hid os σ H1 D (Kw.same s1) q)
    | false => exact iteF (h2 G hid os σ H1 D (Kw.same s1) q)
  · exact pox_of Kw q
/-- two ways that meet again -/
theorem bd_join {m : R ε} {k : ε → R β} {es : ε → List Sl} (h : BD C Γ t m (fun s => .nx (es s))) (hk : ∀ s, BD C (es s) u (k s) out) : BD C Γ (tSeq t u) (m.bind k) out := fun G hid os σ H D Kw q => by
  refine h G hid os σ H _ Kw ?_
  rcases ex_cases q with ⟨a, e, q⟩ | ⟨x, e, q⟩ <;> rw [e]
  · exact fun G' os' σ' H' m K' => hk a G' hid os' σ' H' D K' (PoB.mono m q)
  · exact q
theorem bd_tail {m : R β} (h : BD C Γ (tSeq t tNext) m out) : BD C Γ t m out := h
/-- xs.append(e) -/
def appL {α : Type} (xs : List α) (a : α) : Option (List α) := optIf (xs.length < LIM) (xs ++ [a])
theorem bd_app {i : Nat} {xs : List α} {m : R α} {k : List α → R β} (h : Γ[i]? = some (.ow l (xs.map enc))) (he : Evm C Γ l te m) (hk : ∀ ys, BD C (Γ.set i (.ow l (ys.map enc))) u (k ys) out) :
    BD C Γ (tSeq (tDrop (tBM K "list" rAppend (tVar i) (tCons te tNil))) u) (m.bind fun a => (R.of (appL xs a)).bind k) out := fun G hid os σ H D Kw q => by
  obtain ⟨hl, p, vs, e2, e3, hp, hz, rs⟩ := Kw.sl i _ h
  refine ⟨_, e3, .inl ⟨rfl, vs, rd_seqL hp⟩, he G hid os σ H _ Kw ?_⟩
  rcases ex_cases q with ⟨a, e, q⟩ | ⟨x, e, q⟩ <;> rw [e]
  · intro v H1 s1 r1
    rcases ex_cases q with ⟨ys, ey, q⟩ | ⟨x, ey, q⟩
    · cases ea : appL xs a with
      | none => rw [ea] at ey; cases ey
      | some zs =>
        rw [ea] at ey
        cases ey
        obtain ⟨c, ez⟩ := optIf_some ea
        have hlen := rs.len
        rw [List.length_map] at hlen
        refine ⟨p, vs, v, rfl, rfl, s1 _ _ hp, lim_size (by omega), ?_⟩
        refine hk ys G hid os σ _ D ?_ q
        refine (Kw.same s1).chg h e2 hl (by rw [List.length_append, List.length_singleton]; omega) ?_
        rw [← ez, List.map_append]
        exact (rs.same s1).app (reps_cons r1 reps_nil)
    · cases ea : appL xs a with
      | none => rw [ea] at ey; cases ey
      | some zs => rw [ea] at ey; cases ey
  · exact pox_of Kw q
/-- xs[i] = e -/
def setL {α : Type} (xs : List α) (i : Int) (a : α) : Option (List α) := (ixN xs.length i).map fun j => xs.set j a
theorem bd_seti {i : Nat} {xs : List α} {m : R α} {mi : R Int} {k : List α → R β} {ti : TE} (h : Γ[i]? = some (.ow l (xs.map enc))) (he : Evm C Γ l te m) (hi : Evm C Γ l2 ti mi) (hk : ∀ ys, BD C (Γ.set i (.ow l (ys.map enc))) u (k ys) out) :
    BD C Γ (tSeq (tAsg te (gSub (tVar i) ti rSetL)) u) (m.bind fun a => mi.bind fun j => (R.of (setL xs j a)).bind k) out := fun G hid os σ H D Kw q => by
  obtain ⟨hl, p, vs, e2, e3, hp, hz, rs⟩ := Kw.sl i _ h
  refine he G hid os σ H _ Kw ?_
  rcases ex_cases q with ⟨a, e, q⟩ | ⟨x, e, q⟩ <;> rw [e]
  · intro v H1 s1 r1
    refine ⟨_, e3, hi G hid os σ H1 _ (Kw.same s1) ?_⟩
    rcases ex_cases q with ⟨j, ej, q⟩ | ⟨x, ej, q⟩ <;> rw [ej]
    · intro y H2 s2 r2
      rcases ex_cases q with ⟨ys, ey, q⟩ | ⟨x, ey, q⟩
      · cases ea : setL xs j a with
        | none => rw [ea] at ey; cases ey
        | some zs =>
          rw [ea] at ey
          cases ey
          unfold setL at ea
          have hlen := rs.len
          rw [List.length_map] at hlen
          cases eo : ixN xs.length j with
          | none => rw [eo] at ea; cases ea
          | some n =>
            rw [eo] at ea
            have ez : xs.set n a = ys := Option.some.inj ea
            refine ⟨p, vs, j, n, rfl, r2, s2 _ _ (s1 _ _ hp), by rw [← hlen]; exact eo, ?_⟩
            refine hk ys G hid os σ _ D ?_ q
            refine (Kw.same (s1.trans s2)).chg h e2 hl (by rw [List.length_set]; exact hz) ?_
            rw [← ez, List.map_set]
            exact (rs.same (s1.trans s2)).set n (r1.same s2)
      · cases ea : setL xs j a with
        | none => rw [ea] at ey; cases ey
        | some zs => rw [ea] at ey; cases ey
    · exact pox_of (Kw.same s1) q
  · exact pox_of Kw q

/-! ### loops -/
inductive Stp (S A : Type) where
  | nx (s : S) | bk (s : S) | rt (a : A)
def loopR {α S A : Type} (f : α → S → R (Stp S A)) : List α → S → R (Stp S A)
  | [], s => .ok (.nx s)
  | x :: xs, s => (f x s).bind fun r => match r with
    | .nx s' => loopR f xs s'
    | .bk s' => .ok (.bk s')
    | .rt a => .ok (.rt a)
def Stp.fin {S A β : Type} (k : S → R β) (ret : A → R β) : Stp S A → R β
  | .nx s => k s
  | .bk s => k s
  | .rt a => ret a
def oStp {S A : Type} (es : S → List Sl) (er : A → PV) : Stp S A → Oc
  | .nx s => .nx (es s)
  | .bk s => .bk (es s)
  | .rt a => .rt (er a)
section
variable {S A : Type} {es : S → List Sl} {er : A → PV} {wi : TI} {g : TG} {vs : List Nat} {fg : List Sl → α → List Sl} {s0 : S}
/-- a loop: the state between two turns is es s -/
theorem bd_for {m : R (List α)} {f : α → S → R (Stp S A)} {k : S → R β} {ret : A → R β} (hi : EvI C Γ l1 wi m) (hl1 : l1.st) (w : Wk Γ (es s0)) (hg : TgB (α := α) C l1 g vs fg) (hvs : ∀ s, ∀ j ∈ vs, (es s)[j]? = some .un)
    (hb : ∀ x s, BD C (fg (es s) x) t (f x s) (oStp es er)) (hk : ∀ s, BD C (es s) u (k s) out) (hr : ∀ a, ∃ b, ret a = .ok b ∧ out b = .rt (er a)) :
    BD C Γ (tSeq (tFor wi g t) u) (m.bind fun xs => (loopR f xs s0).bind (Stp.fin k ret)) out := fun G hid os σ H D Kw q => by
  refine hi G hid os σ H _ Kw ?_
  rcases ex_cases q with ⟨xs, e, q⟩ | ⟨x, e, q⟩ <;> rw [e]
  · intro J pins H1 s1 hp hz iv
    obtain ⟨os0, K0⟩ := w.okw ((Kw.same s1).hide (pins := pins.map fun z => (l1, z.1, z.2)) (fun z hz => by
      obtain ⟨z', h1, h2⟩ := List.mem_map.mp hz
      rw [← h2]
      exact ⟨hl1, hp z' h1⟩))
    refine ⟨fun i n σ2 H2 => n = xs.length - i ∧ i ≤ xs.length ∧ ∃ G2 s os2, (∀ a, G a → G2 a) ∧ OkW C G2 (es s) ((pins.map fun z => (l1, z.1, z.2)) ++ hid) os2 σ2 H2 ∧ PoB C G2 hid D out ((loopR f (xs.drop i) s).bind (Stp.fin k ret)),
      ⟨xs.length, by simp, Nat.zero_le _, G, s0, os0, fun _ z => z, K0, by rw [List.drop_zero]; exact q⟩, fun i n σ2 H2 hw => ?_⟩
    obtain ⟨en, hi', G2, s, os2, m2, K2, q2⟩ := hw
    have pinsR : ∀ z ∈ pins, Rep C.T H2 (av l1 C.H0 G2 os2) z.1 z.2 := fun z hz => (K2.pins _ (List.mem_map.mpr ⟨z, hz, rfl⟩)).2
    by_cases hlt : i < xs.length
    · right
      have hx : xs[i]? = some xs[i] := List.getElem?_eq_getElem hlt
      obtain ⟨hgo, hy⟩ := iv.go i _ H2 _ hx (fun b hb => K2.avdom l1 b hb) pinsR
      have hd : xs.drop i = xs[i] :: xs.drop (i + 1) := List.drop_eq_getElem_cons hlt
      rw [hd] at q2
      unfold loopR at q2
      refine ⟨hgo, fun σ3 H3 => ∃ n', n' < n ∧ (n' = xs.length - (i + 1) ∧ i + 1 ≤ xs.length ∧ ∃ G2 s os2, (∀ a, G a → G2 a) ∧ OkW C G2 (es s) ((pins.map fun z => (l1, z.1, z.2)) ++ hid) os2 σ3 H3 ∧ PoB C G2 hid D out ((loopR f (xs.drop (i + 1)) s).bind (Stp.fin k ret))), fun _ _ hh => hh, fun x H3 hyx => ?_⟩
      obtain ⟨s3, rx⟩ := hy x H3 hyx
      refine hg G2 _ os2 σ2 H3 _ x xs[i] _ (K2.same s3) (fun j hj => ?_) rx (fun os4 σ4 K4 _ _ => ?_)
      · exact K2.sl j _ (hvs s j hj)
      · refine hb xs[i] s G2 _ os4 σ4 H3 _ K4 ?_
        rw [R.bind_assoc] at q2
        rcases ex_cases q2 with ⟨r, er', q3⟩ | ⟨x, ex', q3⟩
        · rw [er']
          cases r with
          | nx s' =>
            intro G5 os5 σ5 H5 m5 K5
            exact ⟨xs.length - (i + 1), by omega, rfl, by omega, G5, s', os5, fun a z => m5 a (m2 a z), K5, PoB.mono m5 q3⟩
          | bk s' =>
            intro G5 os5 σ5 H5 m5 K5
            exact hk s' G5 hid os5 σ5 H5 D K5.bare (PoB.mono m5 q3)
          | rt a =>
            obtain ⟨b, hb1, hb2⟩ := hr a
            have q3 : PoB C G2 hid D out (ret a) := q3
            rw [hb1] at q3
            have q3 : PoO C G2 hid D (out b) := q3
            rw [hb2] at q3
            exact q3
        · rw [ex']
          exact q3
    · left
      have hd : xs.drop i = [] := List.drop_eq_nil_of_le (by omega)
      rw [hd] at q2
      exact ⟨iv.stop i H2 _ (by omega) pinsR, hk s G2 hid os2 σ2 H2 D K2.bare q2⟩
  · exact pox_of Kw q
/-- a loop that is neither left nor broken off -/
def foldR {α S : Type} (f : α → S → R S) : List α → S → R S
  | [], s => .ok s
  | x :: xs, s => (f x s).bind fun s' => foldR f xs s'
theorem foldR_loop {f : α → S → R S} {A : Type} : ∀ (xs : List α) (s : S), loopR (A := A) (fun x s => (f x s).bind fun s' => .ok (.nx s')) xs s = (foldR f xs s).bind fun s' => .ok (.nx s')
  | [], s => rfl
  | x :: xs, s => by
    unfold loopR foldR
    cases f x s with
    | bad => rfl
    | ex z => rfl
    | ok s' => exact foldR_loop xs s'
theorem bd_fold {m : R (List α)} {f : α → S → R S} {k : S → R β} (hi : EvI C Γ l1 wi m) (hl1 : l1.st) (w : Wk Γ (es s0)) (hg : TgB (α := α) C l1 g vs fg) (hvs : ∀ s, ∀ j ∈ vs, (es s)[j]? = some .un)
    (hb : ∀ x s, BD C (fg (es s) x) t (f x s) (fun s => .nx (es s))) (hk : ∀ s, BD C (es s) u (k s) out) :
    BD C Γ (tSeq (tFor wi g t) u) (m.bind fun xs => (foldR f xs s0).bind k) out := by
  have h := bd_for (A := Empty) (er := fun z => nomatch z) (f := fun x s => (f x s).bind fun s' => .ok (.nx s')) (k := k) (ret := fun z => nomatch z) (out := out) (u := u) hi hl1 w hg hvs (fun x s => fun G hid os σ H D Kw q => hb x s G hid os σ H D Kw (by
    cases e : f x s with
    | bad => rw [e] at q; exact q
    | ex z => rw [e] at q; exact q
    | ok s' => rw [e] at q; exact q)) hk (fun z => nomatch z)
  have e : (fun xs => (loopR (A := Empty) (fun x s => (f x s).bind fun s' => .ok (.nx s')) xs s0).bind (Stp.fin k fun z => nomatch z)) = fun xs => (foldR f xs s0).bind k := by
    funext xs
    rw [foldR_loop, R.bind_assoc]
    rfl
  rw [e] at h
  exact h
end
end
end Pv

set_option Elab.async false
set_option linter.all false
set_option maxRecDepth 100000
namespace Pv
open PySem PySem.Spec L2
open Enc (enc)
open Encs (encs)

section
variable {P : Program} {w : World} {K : PySem.W.Frag} {mg : Str → Option Value} {base : Heap} {α β : Type} [Enc α] [Encs β] {T : CT} {M : RM}
/-- the slots at the entry -/
def entry (N : List Str) (ps : List PV) : List Sl := ps.map (Sl.sh .pa) ++ List.replicate (N.length - ps.length) .un
theorem okw_start {H : Hp} {G : Addr → Prop} {N : List Str} {vs : List V} {ps : List PV} {W : Option WX} (dom : ∀ a, G a → H a ≠ none) (r : Reps T H G ps vs) (hn : ps.length ≤ N.length) :
    OkW ⟨T, H, W, M⟩ G (entry N ps) [] (List.replicate N.length none) (L2.start N vs) H := by
  have hl := r.len
  have none_at : ∀ (i : Nat) (a : Addr), (List.replicate N.length (none : Option Addr))[i]? = some (some a) → False := fun i a h => by
    rw [List.getElem?_replicate] at h
    split at h <;> cases h
  refine ⟨by simp [entry]; omega, ?_, Same.refl H, dom, fun a h => ?_, fun i j a h => (none_at i a h).elim, fun i s h => ?_, fun q hq => (by cases hq), ⟨fun _ => 0, fun i r p h => by
    unfold entry at h
    have := List.mem_of_getElem? h
    rcases List.mem_append.mp this with m | m
    · obtain ⟨q, _, e⟩ := List.mem_map.mp m
      cases e
    · cases List.eq_of_mem_replicate m⟩⟩
  · simp [entry, L2.start]; omega
  · obtain ⟨i, hi⟩ := List.getElem?_of_mem h
    exact (none_at i a hi).elim
  · have hi : i < N.length := by
      have := (List.getElem?_eq_some_iff.mp h).1
      simp [entry] at this
      omega
    have hos : (List.replicate N.length (none : Option Addr))[i]? = some none := by
      rw [List.getElem?_replicate, if_pos hi]
    by_cases hlt : i < ps.length
    · have e1 : (entry N ps)[i]? = some (.sh .pa ps[i]) := by
        unfold entry
        rw [List.getElem?_append_left (by simpa using hlt), List.getElem?_map, List.getElem?_eq_getElem hlt]
        rfl
      rw [e1] at h
      cases h
      obtain ⟨v, hv, rv⟩ := r.get (List.getElem?_eq_getElem hlt)
      refine ⟨trivial, hos, v, ?_, rv.weak fun a z => ?_⟩
      · unfold L2.start
        rw [List.getElem?_append_left (by simp; omega), List.getElem?_map, hv]
        rfl
      · rcases z with z | z
        · exact z
        · obtain ⟨i, hi⟩ := List.getElem?_of_mem z
          exact (none_at i a hi).elim
    · have e1 : (entry N ps)[i]? = some .un := by
        unfold entry
        rw [List.getElem?_append_right (by simpa using hlt), List.getElem?_replicate]
        simp
        omega
      rw [e1] at h
      cases h
      exact hos
/-- a quiet def, by its body -/
theorem fn_pm {x qual : Str} {st : Stmt} {f : Addr} {fd : FuncData} {N ps : List Str} {k : Nat} {g : β → R α} (F : Fun K x qual st f fd) (S : FnScope N ps (defScope st)) (hlen : ∀ b : β, (encs b).length = ps.length)
    (hbody : ∀ (cdv : Value) (A : Around) (outer : List Env) (s : Shared) (H : Hp) (E : XK), Room k (A.deeper (PyProof.Rows.envOfC qual (defScope st) s.heap.objs.size f cdv)) →
      ∃ t, PSs (cxOf CX0 P w K mg base N qual (defScope st) f cdv A outer s H E).nox (defBody st) t ∧ ∀ b : β, BD ⟨T, H, none, M⟩ (entry N (encs b)) t (g b) (fun a => .rt (enc a))) :
    FnOk P w K mg base CX0 (k + 1) f fd ps (Pm T M g) := by
  have hpl : ps.length ≤ N.length := by have := congrArg List.length S.pre; rw [List.length_take] at this; omega
  refine F.ok S (fun vs H Q E h => ?_) (fun cdv A outer s H vs Q E hr h => ?_)
  · obtain ⟨b, G, _, r, _⟩ := h
    rw [← r.len, hlen]
  · obtain ⟨b, G, dom, r, q⟩ := h
    obtain ⟨t, ht, hb⟩ := hbody cdv A outer s H E hr
    refine ⟨t, ht, hb b G [] _ _ H _ (okw_start dom r (by rw [hlen]; exact hpl)) ?_⟩
    cases e : g b with
    | bad => rw [e] at q; exact q
    | ex z => rw [e] at q; exact q
    | ok a => rw [e] at q; exact q
/-- the law's own promise, from the mirror's answer -/
def spLaw (K : PySem.W.Frag) : Sp := fun vs H Q _ => ∃ (a : Addr) (ns : List Int), vs = [.ref a] ∧ SqL K H a (ns.map V.int) ∧ ns.length ≤ 63 ∧ ∀ H', Q (.bl true) H'
theorem law_pm {CX : CXT} {k : Nat} {fa : Addr} {fd : FuncData} {x : Str} {g : Scr × Unit → R Bool} (hT : T.K = K) (F : FnOk P w K mg base CX k fa fd [x] (Pm T (.val .fr) g)) (h : ∀ ns : List Int, ns.length ≤ 63 → g (⟨ns⟩, ()) = .ok true) :
    FnOk P w K mg base CX k fa fd [x] (spLaw K) := F.imp fun vs H Q E hq => by
  obtain ⟨a, ns, e, hs, hl, q⟩ := hq
  refine ⟨(⟨ns⟩, ()), fun _ => False, fun _ z => z.elim, ?_, ?_⟩
  · rw [e]
    refine reps_cons ?_ reps_nil
    show Rep T H _ (.scr ns) (.ref a)
    unfold Rep
    refine ⟨a, rfl, ?_⟩
    rcases hs with hs | hs
    · exact .inl ⟨hs, fun z => z⟩
    · rw [hT]
      exact .inr (.inr hs)
  · rw [h ns hl]
    intro v H' s r
    have r : v = .bl true := r
    rw [r]
    exact q H'
end
end Pv

set_option Elab.async false
set_option linter.all false
set_option maxRecDepth 100000
namespace Pv
open PySem PySem.Spec L2
open Enc (enc)
open Encs (encs)
def mulO (a b : Int) : Option Int := optIf ((-(2 ^ 64) < a ∧ a < 2 ^ 64) ∨ (-(2 ^ 64) < b ∧ b < 2 ^ 64)) (a * b)
def modO (a b : Int) : Option Int := optIf (0 < b) (a % b)
def divO (a b : Int) : Option Int := optIf (0 < b ∧ b < 2 ^ 4000) (a / b)
def powO (a b : Int) : Option Int := optIf (0 ≤ b ∧ b ≤ 1000 ∧ -(2 ^ 63) < a ∧ a < 2 ^ 63) (a ^ b.toNat)
section
variable {T : CT} {a b : Int}
theorem rv_mul : RvF T (rI CMul fun i j => .int (i * j)) a b (mulO a b) := fun H x y Q c hx hy e q => by
  obtain ⟨e1, e2⟩ := optIf_some e
  exact ⟨a, b, hx, hy, e1, q _ (by rw [← e2]; rfl)⟩
theorem rv_mod : RvF T (rI (fun _ j => 0 < j) fun i j => .int (i % j)) a b (modO a b) := fun H x y Q c hx hy e q => by
  obtain ⟨e1, e2⟩ := optIf_some e
  exact ⟨a, b, hx, hy, e1, q _ (by rw [← e2]; rfl)⟩
theorem rv_div : RvF T (rI CDivW fun i j => .int (i / j)) a b (divO a b) := fun H x y Q c hx hy e q => by
  obtain ⟨⟨e1, e3⟩, e2⟩ := optIf_some e
  refine ⟨a, b, hx, hy, wide_div (b := 4000) e1 ?_ (by decide) (by decide), q _ (by rw [← e2]; rfl)⟩
  have : (b.natAbs : Int) < ((2 ^ 4000 : Nat) : Int) := by
    rw [Int.natAbs_of_nonneg (by omega)]
    simpa using e3
  exact Int.ofNat_lt.mp this
theorem rv_pow : RvF T (rI CPow fun i j => .int (i ^ j.toNat)) a b (powO a b) := fun H x y Q c hx hy e q => by
  obtain ⟨⟨e1, e3, e4, e5⟩, e2⟩ := optIf_some e
  exact ⟨a, b, hx, hy, ⟨e1, by omega, by omega⟩, q _ (by rw [← e2]; rfl)⟩
end
/-- one entry more -/
theorem lt_of {n : Nat} {xs : List Sl} (h : decide (n < xs.length) = true) : n < xs.length := of_decide_eq_true h
theorem Evm.cast {α : Type} [Enc α] {C : Cn} {Γ : List Sl} {l : Lv} {t : TE} {m m' : R α} (h : Evm C Γ l t m) (e : m = m') : Evm C Γ l t m' := e ▸ h
theorem EvN.cast {α : Type} [Enc α] {C : Cn} {Γ : List Sl} {l : Lv} {t : TE} {m m' : R (List α)} (h : EvN C Γ l t m) (e : m = m') : EvN C Γ l t m' := e ▸ h
theorem EvT.cast {C : Cn} {Γ : List Sl} {t : TT} {m m' : R Bool} (h : EvT C Γ t m) (e : m = m') : EvT C Γ t m' := e ▸ h
theorem EvI.cast {α : Type} [Enc α] {C : Cn} {Γ : List Sl} {l : Lv} {t : TI} {m m' : R (List α)} (h : EvI C Γ l t m) (e : m = m') : EvI C Γ l t m' := e ▸ h
end Pv

set_option Elab.async false
set_option linter.all false
set_option maxRecDepth 100000
namespace Pv
open PySem PySem.Spec L2
open Enc (enc)
open Encs (encs)

/-! ### the form of a mirror -/
theorem R.bind_right {α : Type} (m : R α) : (m.bind fun a => R.ok a) = m := by cases m <;> rfl
theorem compR_map {α β : Type} (f : α → β) : ∀ xs : List α, compR (fun _ => R.ok true) (fun a => R.ok (f a)) xs = R.ok (xs.map f)
  | [] => rfl
  | x :: xs => by
    unfold compR
    rw [compR_map f xs]
    rfl
theorem compR_filter {α β : Type} (p : α → Bool) (f : α → β) : ∀ xs : List α, compR (fun a => R.ok (p a)) (fun a => R.ok (f a)) xs = R.ok ((xs.filter p).map f)
  | [] => rfl
  | x :: xs => by
    unfold compR
    rw [compR_filter p f xs]
    cases h : p x <;> simp [List.filter_cons, h, R.bind, R.ite]
theorem R.ifm_ok {α : Type} (b : Bool) (m n : R α) : R.ifm (R.ok b) m n = R.ite b m n := rfl
theorem R.ite_ok {α : Type} (b : Bool) (x y : α) : R.ite b (R.ok x) (R.ok y) = R.ok (if b then x else y) := by cases b <;> rfl
theorem R.ite_and (b c : Bool) : R.ite b (R.ok c) (R.ok false) = R.ok (b && c) := by cases b <;> rfl
theorem R.ite_or (b c : Bool) : R.ite b (R.ok true) (R.ok c) = R.ok (b || c) := by cases b <;> rfl

/-! ### calls of the text's defs -/
/-- a def of the text that keeps its promise, with all that a caller needs -/
structure Kd (P : Program) (w : World) (K : PySem.W.Frag) (mg : Str → Option Value) (base : Heap) (CX : CXT) (x : Str) (ps : List Str) (k : Nat) (sp : Sp) : Prop where
  ex : ∃ f fd, mg x = some (.ref f) ∧ PySem.W.keepIn K (.ref f) = true ∧ Binds K fd ps [] ∧ FnOk P w K mg base CX k f fd ps sp
theorem pe_kd {X : Cx} {x : Str} {ps : List Str} {k : Nat} {sp : Sp} {e : Expr} {es : List Expr} {t : TA} {p pos : Pos} (h : Kd X.prog X.w X.K X.mg X.base CX0 x ps k sp) (hr : Room k X.A) (hg : Gl X x) (ha : PA X (e :: es) t) (hd : (x == ("__debug__" : Str)) = false := by decide)
    (he : starEach (e :: es) X.env = (false, eval e X.env) :: starEach es X.env := by rfl) (hpl : (backTo pos (starEach es X.env)).any (·.1) = false := by rfl) :
    PE X (.Call (.Name x p) (e :: es) [] pos) (tCall sp [] E0 t) := by
  obtain ⟨f, fd, hm, hk, hb, F⟩ := h.ex
  exact pe_call F hr hg hm hk hb .nil pass0 ha hd he hpl
/-! ### slots that are not own -/
theorem hv1 {Γ : List Sl} {j : Nat} {s : Sl} (h : Γ[j]? = some s) (hs : notOw s = true) : ∀ k ∈ [j], k < Γ.length ∧ ∀ s, Γ[k]? = some s → notOw s = true := fun k hk => by
  rw [List.mem_singleton.mp hk]
  refine ⟨(List.getElem?_eq_some_iff.mp h).1, fun s z => ?_⟩
  rw [h] at z
  cases z
  exact hs
theorem hvc {Γ : List Sl} {j : Nat} {vs : List Nat} {s : Sl} (h : Γ[j]? = some s) (hs : notOw s = true) (r : ∀ k ∈ vs, k < Γ.length ∧ ∀ s, Γ[k]? = some s → notOw s = true) : ∀ k ∈ j :: vs, k < Γ.length ∧ ∀ s, Γ[k]? = some s → notOw s = true := fun k hk => by
  rcases List.mem_cons.mp hk with e | e
  · exact hv1 h hs k (by rw [e]; exact List.mem_singleton.mpr rfl)
  · exact r k e
theorem hu1 {S : Type} {es : S → List Sl} {j : Nat} (h : ∀ s, (es s)[j]? = some .un) : ∀ s, ∀ k ∈ [j], (es s)[k]? = some .un := fun s k hk => by
  rw [List.mem_singleton.mp hk]; exact h s
section
variable {C : Cn} {Γ : List Sl} {l l1 l2 : Lv} {α β γ : Type} [Enc α] [Enc β] [Enc γ] {ta tb tc te t : TE} {G : Addr → Prop} {os : List (Option Addr)} {σ : L2.St} {H H' : Hp} {x : Exc} {K : PySem.W.Frag} {T : CT} {u : TS} {ε : Type} {out : ε → Oc}
/-! ### a test of a yes -/
theorem evt_yes : EvT C Γ tYes (.ok true) := fun G hid os σ H Q Kw q => q H (Same.refl H)
/-! ### isinstance, one class -/
/-- what type a value of this sort has -/
class TyA (α : Type) [Enc α] where
  ty : String
  ok : ∀ (K : PySem.W.Frag) (T : CT) (H : Hp) (G : Addr → Prop) (a : α) (v : V), Rep T H G (enc a) v → TyX K H v (.type ty)
instance : TyA Int := ⟨"int", fun K T H G a v r => by rw [int_rep r]; exact .base (.int a)⟩
instance : TyA Bool := ⟨"bool", fun K T H G a v r => by rw [bl_rep r]; exact .base (.bl a)⟩
instance : TyA Str := ⟨"str", fun K T H G a v r => by rw [(str_rep r).1]; exact .base (.str a)⟩
instance {α : Type} [Enc α] : TyA (List α) := ⟨"list", fun K T H G a v r => by
  obtain ⟨p, vs, e, _, hp, _⟩ := lst_rep r
  rw [e]
  exact .base (.lst hp)⟩
instance {δ : Type} [Encs δ] : TyA (Tp δ) := ⟨"tuple", fun K T H G a v r => by
  have r : Rep T H G (.tup (encs a.t)) v := r
  unfold Rep at r
  obtain ⟨p, vs, e, _, hp, _⟩ := r
  rw [e]
  exact .base (.tup hp)⟩
theorem evm_isi [TyA α] {c : String} {b : Bool} {m : R α} (ha : Evm C Γ l ta m) (hk : kitB (TyA.ty α) c = some b) : Evm C Γ .fr (tCB (rIsi K) (tCons ta (tCons (tC (.ty c)) tNil))) (m.bind fun _ => .ok b) := fun G hid os σ H Q Kw q => by
  refine ha G hid os σ H _ Kw ?_
  cases e1 : m with
  | bad => rw [e1] at q; exact q
  | ex x => rw [e1] at q; exact q
  | ok a =>
    rw [e1] at q
    intro v H1 s1 r1
    exact ⟨v, .ty c, .type (TyA.ty α), .type c, b, rfl, .ty c, TyA.ok K C.T H1 _ a v r1, kit_ty hk, q _ H1 s1 rfl⟩
/-! ### xs.count(k), ints -/
/-! ### x in (a, b, ..) -/
def flatP : PV → Bool
  | .non => true | .bl _ => true | .int _ => true | .str _ => true
  | _ => false
class Flats (δ : Type) [Encs δ] : Prop where
  flat : ∀ d : δ, (encs d).all flatP = true
instance : Flats Unit := ⟨fun _ => rfl⟩
theorem flatP_of {α : Type} [Enc α] [Flat α] (a : α) : flatP (enc a) = true := by
  rcases Flat.flat a with ⟨i, e⟩ | ⟨i, e⟩ | ⟨i, e⟩ | e <;> rw [e] <;> rfl
instance {α δ : Type} [Enc α] [Flat α] [Encs δ] [Flats δ] : Flats (α × δ) := ⟨fun d => by
  show (flatP (enc d.1) && (encs d.2).all flatP) = true
  rw [flatP_of, Flats.flat]
  rfl⟩
end
end Pv

set_option Elab.async false
set_option linter.all false
set_option maxRecDepth 100000
namespace Pv
open PySem PySem.Spec L2
/-! the layer's rules with the written part named -/
section
variable {X : Cx} (K : PySem.W.Frag)
def rLenK : List V → Hp → VK → Prop := fun xs H Q => ∃ p ys, xs = [.ref p] ∧ (SqL K H p ys ∨ SqT K H p ys) ∧ Q (.int ys.length) H
def rListK : List V → Hp → VK → Prop := fun xs H Q => ∃ p ys, xs = [.ref p] ∧ (SqL K H p ys ∨ SqT K H p ys) ∧ ∀ l, H l = none → Q (.ref l) (upd H l (.lst ys))
theorem k_len (h : X.K = K) : CallR X (.builtin "len") (rLenK K) := by subst h; exact call_len_seq
theorem k_list (h : X.K = K) : CallR X (.type "list") (rListK K) := by subst h; exact call_list_of
theorem k_all (h : X.K = K) (hc : X.calm = true) : CallR X (.builtin "all") (rAll K) := by subst h; exact cr_all hc
theorem k_sum (h : X.K = K) (hc : X.calm = true) : CallR X (.builtin "sum") (rSum K) := by subst h; exact cr_sum hc
theorem k_min (h : X.K = K) (hc : X.calm = true) : CallR X (.builtin "min") (rMin K) := by subst h; exact cr_min hc
theorem k_isi (h : X.K = K) : CallR X (.builtin "isinstance") (rIsi K) := by subst h; exact call_isi
theorem k_ixl (h : X.K = K) : IxR X (rIxL K) := by subst h; exact ix_list
theorem k_ixt (h : X.K = K) : IxR X (rIxT K) := by subst h; exact ix_tup
theorem k_sll (h : X.K = K) : SlR X (rSlL K) := by subst h; exact sl_list
theorem k_eqD (h : X.K = K) (hu : X.A.units + 64 < cLine) : OpR X (compareOp .Eq) (rEqD K) := by subst h; exact op_eqD hu
theorem k_neD (h : X.K = K) (hu : X.A.units + 64 < cLine) : OpR X (compareOp .NotEq) (rNeD K) := by subst h; exact op_neD hu
theorem k_pil {tg l : Expr} {tl : TE} (h : X.K = K) (hl : PE X l tl) : PI X tg l (iList K tl) := by subst h; exact pi_list hl
theorem k_enum {e : Expr} {ta : TA} {p pos tpos : Pos} {elts : List Expr} {kk : Nat} (h : X.K = K) (hg : Gl X "enumerate") (hm : X.mg "enumerate" = none) (ha : PA X [e] ta) (hs : starEach [e] X.env = [(false, eval e X.env)] := by rfl) :
    PI X (.Tuple elts kk tpos) (.Call (.Name "enumerate" p) [e] [] pos) (iEnum K ta) := by subst h; exact pi_enum hg hm ha hs
theorem k_gtup {es : List Expr} {k : Nat} {t : TGs} {n : Nat} {pos : Pos} (h : X.K = K) (hc : X.calm = true) (hp : PGs X es t)
    (hn : (assignEach es X.env).length = n := by rfl) (hst : (assignEach es X.env).findIdx? (·.1) = none := by rfl) : PG X (.Tuple es k pos) (gTup K n t) := by subst h; exact pg_tup hc hp hn hst
def tTru (ta : TE) : TT := fun σ H Q => ta σ H fun x H' => ∃ k, TruV K x H' k ∧ Q k H'
theorem k_tru {a : Expr} {ta : TE} (h : X.K = K) (ha : PE X a ta) (he : ∀ whole, isTrue a X.env whole = (do let v ← whole; standAt a.pos; holding [v] (truthy v))) : PT X a (tTru K ta) := by subst h; exact pt_truth ha he
end
end Pv

set_option Elab.async false
set_option linter.all false
set_option maxRecDepth 100000
namespace Pv
open PySem PySem.Spec L2
open Enc (enc)
open Encs (encs)

/-! ### objects of own classes: made, read -/
/-- what an __init__ promises that stores its arguments in order: the fields are fs -/
def SpInit (C : Addr) (fs : List Str) : Sp := fun vs H Q _ => ∃ (x dx : Addr) (us : List V), vs = .ref x :: us ∧ us.length = fs.length ∧ H x = some (.ins C dx []) ∧
  ∀ H', (∀ b o, b ≠ x → H b = some o → H' b = some o) → H' x = some (.ins C dx (fs.zip us)) → Q .non H'
section
variable {C : Cn} {Γ : List Sl} {l l1 l2 : Lv} {α β γ δ : Type} [Enc α] [Enc β] [Enc γ] [Encs δ] {ta tb tc te t : TE} {G : Addr → Prop} {os : List (Option Addr)} {σ : L2.St} {H H' : Hp} {x : Exc} {K : PySem.W.Frag} {T : CT} {E : XK}
theorem zip_lookup : ∀ {fs : List Str} {us : List V} {i : Nat} {f : Str} {v : V}, fs.Nodup → fs[i]? = some f → us[i]? = some v → (fs.zip us).lookup f = some v
  | [], _, _, _, _, _, h, _ => by simp at h
  | _ :: _, [], _, _, _, _, _, h => by simp at h
  | g :: fs, u :: us, 0, f, v, nd, h, h' => by
    have e1 : g = f := Option.some.inj h
    have e2 : u = v := Option.some.inj h'
    subst e1
    subst e2
    show List.lookup g ((g, u) :: fs.zip us) = _
    rw [List.lookup_cons_self]
  | g :: fs, u :: us, i + 1, f, v, nd, h, h' => by
    have h1 : fs[i]? = some f := h
    have ne : (f == g) = false := by
      rw [beq_eq_false_iff_ne]
      intro z
      rw [List.nodup_cons] at nd
      exact nd.1 (z ▸ List.mem_of_getElem? h1)
    show List.lookup f ((g, u) :: fs.zip us) = _
    rw [List.lookup_cons, ne]
    exact zip_lookup (List.nodup_cons.mp nd).2 h1 h'
end
section
variable {P : Program} {w : World} {K : PySem.W.Frag} {mg : Str → Option Value} {base : Heap}
end
end Pv

set_option Elab.async false
set_option linter.all false
set_option maxRecDepth 100000
namespace Pv
section
open PySem PySem.Spec PyProof.Rows L2
variable {P : Program} {w : World} {A : Around} {E : Value → Shared → Prop} {s : Shared}
abbrev setObj (w : World) : Obj := { cls := .type "set", dict := none, data := .set #[] 0 (.fresh 0 0 (!w.params.followText "set-order")) }
end
section
open PySem PySem.Spec L2
variable {X : Cx}
def rSetI (K : PySem.W.Frag) (w : World) : List V → Hp → VK → Prop := fun vs H Q => ∃ (a : Addr) (ns : List Int), vs = [.ref a] ∧ SqL K H a (ns.map V.int) ∧ ns.length + 1 < scanBound ∧
  ∀ p c, H p = none → c ≤ ns.length → Q (.ref p) (upd H p (SetO w p (fun j => decide (j ∈ ns)) c))
end
section
open PySem PySem.Spec L2
open Enc (enc)
open Encs (encs)
variable {C : Cn} {Γ : List Sl} {l : Lv} {ta : TE} {K : PySem.W.Frag} {w : World}
/-- sorted(set(xs)): each number once, rising -/
def onceI : List Int → List Int
  | [] => []
  | x :: xs => if x ∈ onceI xs then onceI xs else x :: onceI xs
def sortSet (xs : List Int) : Option (List Int) := optIf (xs.length < 64) (sortI (onceI xs))
end
end Pv

set_option Elab.async false
set_option linter.all false
set_option maxRecDepth 100000
namespace Pv
open PySem PySem.Spec L2
open Enc (enc)
open Encs (encs)
/-- an own class of plain records: what the top has written of it -/
structure KdC (P : Program) (w : World) (K : PySem.W.Frag) (mg : Str → Option Value) (base : Heap) (T : CT) (c : Nat) (x : Str) (fs ps : List Str) (k : Nat) : Prop where
  fl : T.fld c = fs
  nd : fs.Nodup
  cl : Cls K (T.addr c)
  na : ∀ f, f ∈ fs → NoAttr K (T.addr c) f
  gm : mg x = some (.ref (T.addr c))
  ini : ∃ f fd, Mk K (T.addr c) f ∧ Binds K fd ps [] ∧ FnOk P w K mg base CX0 k f fd ps (SpInit (T.addr c) fs)
  isc : C8.InsC K (T.addr c)
section
variable {C : Cn} {Γ : List Sl} {l l1 l2 : Lv} {α β γ δ : Type} [Enc α] [Enc β] {ta tb tc te t : TE}
end
end Pv


set_option Elab.async false
set_option linter.all false
set_option maxRecDepth 100000
namespace Pv
open PySem PySem.Spec L2
open Enc (enc)
open Encs (encs)

/-! ### what a mirror answers: a calculus of outcomes -/
def Ok {α : Type} (m : R α) (Q : α → Prop) : Prop := ∃ a, m = .ok a ∧ Q a
section
variable {α β S A : Type} {m n : R α} {Q : α → Prop}
theorem Ok.ok {a : α} (h : Q a) : Ok (.ok a) Q := ⟨a, rfl, h⟩
theorem Ok.bind {m : R α} {k : α → R β} {Q : β → Prop} (h : Ok m fun a => Ok (k a) Q) : Ok (m.bind k) Q := by
  obtain ⟨a, e, b, e2, q⟩ := h
  exact ⟨b, by rw [e]; exact e2, q⟩
theorem Ok.lt {a : α} {k : α → R β} {Q : β → Prop} (h : Ok (k a) Q) : Ok (R.lt a k) Q := h
theorem Ok.ite {b : Bool} (h1 : b = true → Ok m Q) (h2 : b = false → Ok n Q) : Ok (R.ite b m n) Q := by
  cases b with
  | true => exact h1 rfl
  | false => exact h2 rfl
theorem Ok.ifm {c : R Bool} (h : Ok c fun b => Ok (R.ite b m n) Q) : Ok (R.ifm c m n) Q := Ok.bind h
theorem Ok.imp {P : α → Prop} (h : Ok m P) (hi : ∀ a, P a → Q a) : Ok m Q := by
  obtain ⟨a, e, p⟩ := h
  exact ⟨a, e, hi a p⟩
theorem Ok.eq {a : α} (e : m = .ok a) (h : Q a) : Ok m Q := ⟨a, e, h⟩
theorem Ok.get {m : R α} {a : α} (h : Ok m (· = a)) : m = .ok a := by
  obtain ⟨b, e, q⟩ := h
  rw [e, q]
theorem Ok.of {o : Option α} {a : α} (e : o = some a) (h : Q a) : Ok (R.of o) Q := ⟨a, by rw [e]; rfl, h⟩
theorem Ok.opt {c : Prop} [Decidable c] {a : α} (hc : c) (h : Q a) : Ok (R.of (optIf c a)) Q := Ok.of (if_pos hc) h
theorem atI_of {xs : List α} {i : Int} (h0 : 0 ≤ i) (h1 : i < xs.length) : ∃ a, atI xs i = some a ∧ xs[i.toNat]? = some a := by
  have hl : i.toNat < xs.length := by omega
  refine ⟨xs[i.toNat], ?_, List.getElem?_eq_getElem hl⟩
  have e : (i.toNat : Int) = i := by omega
  have z := atI_nat (List.getElem?_eq_getElem hl)
  rwa [e] at z
theorem atI_neg {xs : List α} {i : Int} (h0 : i < 0) (h1 : -(xs.length : Int) ≤ i) : atI xs i = xs[(i + xs.length).toNat]? := by
  unfold atI ixN
  rw [if_neg (by omega), if_pos h1]
  rfl
theorem Ok.at {xs : List α} {i : Int} {Q : α → Prop} (h0 : 0 ≤ i) (h1 : i < xs.length) (h : ∀ a, xs[i.toNat]? = some a → Q a) : Ok (R.of (atI xs i)) Q := by
  obtain ⟨a, e, e2⟩ := atI_of h0 h1
  exact Ok.of e (h a e2)
theorem Ok.mul {a b : Int} {Q : Int → Prop} (hc : (-(2 ^ 64) < a ∧ a < 2 ^ 64) ∨ (-(2 ^ 64) < b ∧ b < 2 ^ 64)) (h : Q (a * b)) : Ok (R.of (mulO a b)) Q := Ok.opt hc h
theorem Ok.mod {a b : Int} {Q : Int → Prop} (hc : 0 < b) (h : Q (a % b)) : Ok (R.of (modO a b)) Q := Ok.opt hc h
theorem Ok.div {a b : Int} {Q : Int → Prop} (hc : 0 < b) (hz : b < 2 ^ 4000) (h : Q (a / b)) : Ok (R.of (divO a b)) Q := Ok.opt ⟨hc, hz⟩ h
theorem Ok.app {xs : List α} {a : α} {Q : List α → Prop} (hc : xs.length < LIM) (h : Q (xs ++ [a])) : Ok (R.of (appL xs a)) Q := Ok.opt hc h
theorem Ok.set {xs : List α} {i : Int} {a : α} {Q : List α → Prop} (h0 : 0 ≤ i) (h1 : i < xs.length) (h : Q (xs.set i.toNat a)) : Ok (R.of (setL xs i a)) Q := by
  refine Ok.of (a := xs.set i.toNat a) ?_ h
  unfold setL ixN
  rw [if_pos h0, if_pos h1]
  rfl
theorem Ok.range {lo hi : Int} {Q : List Int → Prop} (h0 : -1000000 ≤ lo ∧ lo ≤ 1000000 ∧ -1000000 ≤ hi ∧ hi ≤ 1000000 ∧ hi - lo ≤ 1000000) (h : Q (rng lo hi)) : Ok (R.of (rngO lo hi)) Q := Ok.opt h0 h
/-- a walk with an invariant: P i s behind i items -/
theorem foldR_inv {f : α → S → R S} {P : Nat → S → Prop} : ∀ (xs : List α) (k : Nat) (s : S), (∀ i (h : i < xs.length) s, P (k + i) s → Ok (f xs[i] s) (P (k + i + 1))) → P k s → Ok (foldR f xs s) (P (k + xs.length))
  | [], k, s, _, h => ⟨s, rfl, h⟩
  | x :: xs, k, s, st, h => by
    obtain ⟨s1, e, p⟩ := st 0 (Nat.succ_pos _) s h
    obtain ⟨s2, e2, p2⟩ := foldR_inv (f := f) (P := P) xs (k + 1) s1 (fun i hi s hp => by
      have := st (i + 1) (Nat.succ_lt_succ hi) s (by rw [show k + (i + 1) = k + 1 + i by omega]; exact hp)
      rw [show k + (i + 1) + 1 = k + 1 + i + 1 by omega] at this
      exact this) p
    refine ⟨s2, ?_, by rw [List.length_cons, show k + (xs.length + 1) = k + 1 + xs.length by omega]; exact p2⟩
    show (f x s).bind _ = _
    have e : f x s = .ok s1 := e
    rw [e]
    exact e2
theorem Ok.fold {f : α → S → R S} (P : Nat → S → Prop) {xs : List α} {s : S} {Q : S → Prop} (h0 : P 0 s) (st : ∀ i (h : i < xs.length) s, P i s → Ok (f xs[i] s) (P (i + 1))) (h : ∀ s, P xs.length s → Q s) : Ok (foldR f xs s) Q :=
  (foldR_inv xs 0 s (fun i hi s hp => by rw [Nat.zero_add] at hp ⊢; exact st i hi s hp) h0).imp fun s hs => h s (by rw [Nat.zero_add] at hs; exact hs)
theorem rng_len {lo hi : Int} : (rng lo hi).length = (hi - lo).toNat := by
  unfold rng
  rw [List.length_map, List.length_range]
theorem rng_get {lo hi : Int} {i : Nat} (h : i < (rng lo hi).length) : (rng lo hi)[i] = lo + (i : Int) := by
  have h2 : i < (hi - lo).toNat := by rwa [rng_len] at h
  have e : (rng lo hi)[i]? = some (lo + (i : Int)) := by
    unfold rng
    rw [List.getElem?_map, List.getElem?_range h2]
    rfl
  rw [List.getElem?_eq_getElem h] at e
  exact Option.some.inj e
theorem Ok.foldRng {f : Int → S → R S} (P : Nat → S → Prop) {n : Int} {s : S} {Q : S → Prop} (h0 : P (0 : Nat) s) (st : ∀ i : Nat, (i : Int) < n → ∀ s, P i s → Ok (f (i : Int) s) (P (i + 1))) (h : ∀ s, P n.toNat s → Q s) : Ok (foldR f (Pv.rng 0 n) s) Q :=
  Ok.fold P h0 (fun i hi s hp => by
    have e := rng_get hi
    rw [rng_len] at hi
    rw [e, Int.zero_add]
    exact st i (by omega) s hp) fun s hs => h s (by rw [rng_len, Int.sub_zero] at hs; exact hs)
/-- a comprehension whose test and item never fail -/
theorem compR_ok {t : α → R Bool} {f : α → R β} {p : α → Bool} {g : α → β} : ∀ {xs : List α}, (∀ x, x ∈ xs → t x = .ok (p x)) → (∀ x, x ∈ xs → f x = .ok (g x)) → compR t f xs = .ok ((xs.filter p).map g)
  | [], _, _ => rfl
  | x :: xs, h1, h2 => by
    have ih := compR_ok (xs := xs) (fun y hy => h1 y (List.mem_cons_of_mem _ hy)) (fun y hy => h2 y (List.mem_cons_of_mem _ hy))
    unfold compR
    rw [h1 x (List.mem_cons_self ..), ih, h2 x (List.mem_cons_self ..)]
    cases e : p x with
    | true => rw [List.filter_cons_of_pos e]; rfl
    | false => rw [List.filter_cons_of_neg (by rw [e]; decide)]; rfl
theorem Ok.comp {t : α → R Bool} {f : α → R β} {xs : List α} {Q : List β → Prop} (p : α → Bool) (g : α → β) (h1 : ∀ x, x ∈ xs → t x = .ok (p x)) (h2 : ∀ x, x ∈ xs → f x = .ok (g x)) (h : Q ((xs.filter p).map g)) : Ok (compR t f xs) Q :=
  ⟨_, compR_ok h1 h2, h⟩
theorem filter_yes {xs : List α} : xs.filter (fun _ => true) = xs := List.filter_eq_self.mpr fun _ _ => rfl
end
/-! ### == of plain values -/
class EqD (α : Type) [Enc α] : Prop where
  eq : ∀ a b : α, eqP (enc a) (enc b) = true ↔ a = b
theorem eqP_self {α : Type} [Enc α] [EqD α] (a : α) : eqP (enc a) (enc a) = true := (EqD.eq a a).mpr rfl
instance : EqD Int := ⟨fun a b => by
  show (a == b) = true ↔ a = b
  rw [beq_iff_eq]⟩
theorem eqs_iff {α : Type} [Enc α] [EqD α] : ∀ xs ys : List α, PyData.eqvAll (toDs (xs.map enc)) (toDs (ys.map enc)) = true ↔ xs = ys
  | [], [] => by simp [toDs, PyData.eqvAll]
  | [], y :: ys => by simp [toDs, PyData.eqvAll]
  | x :: xs, [] => by simp [toDs, PyData.eqvAll]
  | x :: xs, y :: ys => by
    show (eqP (enc x) (enc y) && PyData.eqvAll (toDs (xs.map enc)) (toDs (ys.map enc))) = true ↔ _
    rw [Bool.and_eq_true, EqD.eq, eqs_iff xs ys, List.cons.injEq]
instance {α : Type} [Enc α] [EqD α] : EqD (List α) := ⟨fun xs ys => eqs_iff xs ys⟩
/-! ### slices from one end -/
theorem sIx_of {n d : Nat} {i : Int} (h : 0 ≤ i) : HT.sIx n d (some i) = min i.toNat n := by
  show (if i < 0 then _ else _) = _
  rw [if_neg (by omega)]
theorem cutL_from {α : Type} {xs : List α} {i : Int} (h : 0 ≤ i) : cutL xs (some i) none = xs.drop i.toNat := by
  unfold cutL
  rw [sIx_of h]
  show (xs.drop _).take (xs.length - _) = _
  rw [List.take_of_length_le (by rw [List.length_drop]; omega)]
  by_cases c : i.toNat ≤ xs.length
  · rw [Nat.min_eq_left c]
  · rw [Nat.min_eq_right (by omega), List.drop_length, List.drop_eq_nil_of_le (by omega)]
theorem cutL_to {α : Type} {xs : List α} {i : Int} (h : 0 ≤ i) : cutL xs none (some i) = xs.take i.toNat := by
  unfold cutL
  rw [sIx_of h]
  show (xs.drop 0).take (min i.toNat xs.length - 0) = _
  rw [List.drop_zero, Nat.sub_zero]
  by_cases c : i.toNat ≤ xs.length
  · rw [Nat.min_eq_left c]
  · rw [Nat.min_eq_right (by omega), List.take_length, List.take_of_length_le (by omega)]
/-! ### sorted -/
def insI (x : Int) : List Int → List Int
  | [] => [x]
  | y :: ys => if x ≤ y then x :: y :: ys else y :: insI x ys
def isortI : List Int → List Int
  | [] => []
  | x :: xs => insI x (isortI xs)
end Pv

set_option Elab.async false
set_option linter.all false
set_option maxRecDepth 100000
set_option maxHeartbeats 2000000
namespace Pv
open PySem PySem.Spec PyProof.Rows L2 PySem.W PySem.Calls

/-! ### super().__init__(..) in the __init__ of an own exception class over ValueError -/
section
variable {prog : Program} {w : World} {A : Around} {E : Value → Shared → Prop} {h : Heap} {g : Array GenState} {d : Drawn} {t : Nat} {os : OsState}
variable {nm q : Str} {C N : Addr} {bs bm : List Value} {hdct : Bool} {sn : List Str} {sub : List Value} {ab : Bool} {col : Option Bool} {dd : Option Addr} {k0 k1 k2 k3 k5 : Option Value}
theorem call_mw {u e t0 : Addr} {rest : List Value} {Q : Value → Shared → Prop} (hC : h.get? C = some (excClassObj nm q C N bs bm hdct sn sub ab col dd k0 k1 k2 k3 k5 "ValueError.__new__")) (he : h.get? e = some (PySem.HandSPX.excO C t0))
    (hu : h.get? u = some (kxs_mw "ValueError.__init__" e)) (small : rest.length ≤ sizeLine)
    (hq : ∀ h' t1, (∀ b o, b ≠ e → h.get? b = some o → h'.get? b = some o) → h'.get? e = some (PySem.HandSPX.excO C t1) → Q .none ⟨h', g, d, t, os⟩) : wpAny (model prog w) A (call (.ref u) rest) Q E ⟨h, g, d, t, os⟩ := by
  refine wpAny_call (codeAny_of_tree (show wpAny _ A.in1 (callAny (.ref u) (Args.mk rest [])) _ _ _ from ?_))
  unfold callAny
  have e1 : (Value.type "method-wrapper" == Value.type "method" || Value.type "method-wrapper" == Value.type "builtin_function_or_method" || Value.type "method-wrapper" == Value.type "method-wrapper") = true := by decide
  refine wpAny_bind (wpAny_load hu ?_)
  simp only [kxs_mw, e1, if_true]
  refine KFB.if_so (by decide) (wpAny_bind (ESX.check_bound F.excBase_ValueError hC he rfl (wpAny_bind (wpAny_pure (wpAny_pure ?_)))))
  refine ⟨Code.quiet_builtin _ (by decide +kernel), codeAny_builtin F.excBase_ValueError.initEntry ?_⟩
  rw [Around.under_plainId F.excBase_ValueError.init.plain]
  wp_walk
  refine hq _ h.objs.size (fun b o hb ho => ?_) ?_
  · rw [Heap.get?_update_other _ _ (Ne.symm hb)]; exact Heap.get?_push_of_some _ ho
  · rw [Heap.get?_update_self _ (Heap.get?_push_of_some _ he) rfl]; rfl
end

/-! ### the context of such an __init__ -/
def cxS (CX : CXT) (P : Program) (w : World) (K : PySem.W.Frag) (mg : Str → Option Value) (base : Heap) (N : List Str) (qual : Str) (scope : Scope) (f : Addr) (cd : Value) (cc : Addr) (A : Around) (outer : List Env) (s : Shared) (H : Hp) (E : XK) : Cx :=
  { cxOf CX P w K mg base N qual scope f cd A outer s H E with
    A := A.deeper (ksEnv qual scope s.heap.objs.size f cd cc)
    env := ksEnv qual scope s.heap.objs.size f cd cc
    stack := ksEnv qual scope s.heap.objs.size f cd cc :: outer
    fn := fun y => !(y == ("__class__" : Str))
    xe := fun e s' => wpAny (model P w) (A.deeper (ksEnv qual scope s.heap.objs.size f cd cc)) (leaving (ksEnv qual scope s.heap.objs.size f cd cc) e) (fun _ s'' => CX outer H s E e s'') (fun e' s'' => CX outer H s E e' s'') s' }
structure SupScope (ps : List Str) (sc : Scope) : Prop where
  kind : sc.kind = .function
  co : sc.isCoroutine = false
  gen : sc.isGenerator = false
  nd : ps.Nodup
  par : ∀ x ∈ ps, sc.names.lookup x = some .local
  nocell : ∀ y ∈ sc.names, y.2 ≠ .cell
  free : ∀ y ∈ sc.names, y.2 = .free → y.1 = ("__class__" : Str)
theorem zip_fst_sub : ∀ (ps : List Str) (us : List Value), ((ps.zip us).map Prod.fst).Sublist ps
  | [], _ => List.Sublist.refl _
  | _ :: _, [] => List.nil_sublist _
  | p :: ps, _ :: us => (zip_fst_sub ps us).cons₂ p
theorem lookup_rev {ps : List Str} {us : List Value} {i : Nat} {x : Str} {u : Value} (nd : ps.Nodup) (h1 : ps[i]? = some x) (h2 : us[i]? = some u) : (ps.zip us).reverse.lookup x = some u := by
  have key : ∀ l : List (Str × Value), (l.map Prod.fst).Nodup → (x, u) ∈ l → l.lookup x = some u := fun l => by
    induction l with
    | nil => intro _ h; cases h
    | cons p l ih =>
      intro nd h
      obtain ⟨y, v⟩ := p
      rw [List.map_cons, List.nodup_cons] at nd
      rcases List.mem_cons.mp h with e | h
      · cases e; exact List.lookup_cons_self
      · have ne : (x == y) = false := by
          rw [beq_eq_false_iff_ne]
          intro z
          have m := List.mem_map_of_mem (f := Prod.fst) h
          have z : x = y := z
          rw [← z] at nd
          exact nd.1 m
        rw [List.lookup_cons, ne]
        exact ih nd.2 h
  refine key _ ?_ ?_
  · rw [List.map_reverse, (List.reverse_perm _).nodup_iff]
    refine nd.sublist ?_
    exact zip_fst_sub ps us
  · rw [List.mem_reverse]
    have : (ps.zip us)[i]? = some (x, u) := by
      rw [List.getElem?_zip_eq_some]
      exact ⟨h1, h2⟩
    exact List.mem_of_getElem? this
theorem inv_sup {CX : CXT} {P : Program} {w : World} {K : PySem.W.Frag} {mg : Str → Option Value} {base : Heap} {ps : List Str} {qual : Str} {scope : Scope} {f cc D : Addr} {cd cl : Value} {cld : Option Addr} {csl : Array (Option Value)} {A : Around} {outer : List Env} {s : Shared} {h1 : Heap} {tk : Nat} {H : Hp} {E : XK} {us : List Value} {vs : List V}
    (S : SupScope ps scope) (hd : A.handled = none) (e0 : Env0 P w K mg base A outer s H) (hl : vs.length = ps.length) (r : Vals vs us) (hcell : K.lookup cc = some ⟨cl, cld, .cell (some (.ref D)), csl⟩)
    (hn : h1.Ns s.heap.objs.size (fun x => (ps.zip us).reverse.lookup x)) (hk : ∀ b o, s.heap.get? b = some o → h1.get? b = some o) :
    Inv (cxS CX P w K mg base ps qual scope f cd cc A outer s H E) [] (L2.start ps vs) H { s with heap := h1, toks := tk } := by
  have oc : base.get? cc = some ⟨cl, cld, .cell (some (.ref D)), csl⟩ := e0.mod.kin _ _ hcell
  have os : s.heap.get? cc = some ⟨cl, cld, .cell (some (.ref D)), csl⟩ := (e0.bs _ _ oc).1
  have look : ∀ x c, (cxS CX P w K mg base ps qual scope f cd cc A outer s H E).env.cells.lookup x = some c → x = "__class__" ∧ c = cc := fun x c h => by
    have h : List.lookup x [(("__class__" : Str), cc)] = some c := h
    rw [List.lookup_cons] at h
    by_cases e : x == ("__class__" : Str)
    · rw [e] at h
      exact ⟨beq_iff_eq.mp e, (Option.some.inj h).symm⟩
    · rw [Bool.not_eq_true] at e
      rw [e] at h
      cases h
  have noA : ∀ b : Addr, b ∉ (cxS CX P w K mg base ps qual scope f cd cc A outer s H E).ex := fun b z => absurd (show b ∈ ([] : List Addr) from z) (by simp)
  refine ⟨⟨e0.mod, S.kind, rfl, rfl, Nat.le_refl _, fun y z c h1 h2 => ?_, fun y hy => ?_, fun y c hf h => ?_, fun _ => hd, Around.frames_deeper e0.frames, .inr ⟨rfl, rfl⟩, fun b z => absurd z (noA b), e0.bs, e0.bsz, fun b _ _ => noA b, fun b z => absurd z (noA b), e0.funs, e0.frf⟩,
    rfl, e0.bare, Un.kept hk, ⟨_, hn, fun i y v h1 h2 h3 => ?_⟩, fun y c h => ?_, e0.hok.fresh (Nat.le_refl _), fun y c h => ?_, fun p hp => absurd (show p ∈ ([] : List (Addr × Obj)) from hp) (by simp), e0.hok.kept hk, ?_⟩
  · rw [(look _ _ h1).1, (look _ _ h2).1]
  · have hy : scope.names.lookup y = some .cell ∨ scope.names.lookup y = some .free := hy
    rcases hy with hy | hy
    · exact absurd rfl (S.nocell _ (PySem.mem_of_lookup hy))
    · have e := S.free _ (PySem.mem_of_lookup hy) rfl
      exact ⟨cc, by rw [show y = "__class__" from e]; exact List.lookup_cons_self⟩
  · rw [(look _ _ h).1] at hf
    exact absurd (show (!(("__class__" : Str) == ("__class__" : Str))) = true from hf) (by simp)
  · have hi : i < vs.length := by
      have h1' : ps[i]? = some y := h1
      rw [hl]
      exact (List.getElem?_eq_some_iff.mp h1').1
    have ha : vs[i]? = some v := by
      unfold L2.start at h2
      rw [List.getElem?_append_left (by simpa using hi), List.getElem?_map] at h2
      cases e : vs[i]? with
      | none => rw [e] at h2; cases h2
      | some a => rw [e] at h2; cases h2; rfl
    obtain ⟨u, hu, rv⟩ := r.get ha
    exact ⟨u, rv, .inl ⟨S.par y (List.mem_of_getElem? h1), lookup_rev S.nd h1 hu⟩⟩
  · rw [(look _ _ h).2]
    exact ⟨some (.ref D), _, hk _ _ os, rfl⟩
  · rw [(look _ _ h).2]
    exact (e0.bs _ _ oc).2
  · unfold L2.start
    show _ = ps.length
    rw [List.length_append, List.length_map, List.length_replicate]
    omega

/-- what the written part says of an __init__ of the class D that opens with super().__init__(..), run for an object of the class C -/
structure SupFacts (P : Program) (K : PySem.W.Frag) (mg : Str → Option Value) (scope : Scope) (params : Arguments) (cda cc C D : Addr) (x0 : Str) (i : String) : Prop where
  hp : ∃ ar, (params.posonlyargs ++ params.args).head? = some ar ∧ ar.arg = x0
  code : ∃ ccl cdd ccs vs file tf, K.lookup cda = some ⟨ccl, cdd, .fields vs, ccs⟩ ∧ vs[2]? = some (.str file tf) ∧ ((P.main.file : Str) == file) = true
  cell : ∃ cl cld csl, K.lookup cc = some ⟨cl, cld, .cell (some (.ref D)), csl⟩
  clsD : ∃ cdD, clsIn K D = some cdD
  sub : mroIn K C (.ref D) = some true
  noSuper : mg "super" = none
  hks : scope.names.lookup ("super" : Str) = some .globalImplicit
  hkc : scope.names.lookup ("__class__" : Str) = some .free
  top : (P.main.scope.names.lookup ("super" : Str)).isSome = false
  opq : nsIn K cStatics "thirdparty.any" = some none
  up : ks_superIn K C D "__init__" = some (some (.builtin i))
  base : subIn K (.ref C) (.type "ValueError") = some true
section
variable {CX : CXT} {P : Program} {w : World} {K : PySem.W.Frag} {mg : Str → Option Value} {base : Heap} {ps : List Str} {name qual : Str} {scope : Scope} {params : Arguments} {fbody body : List Stmt} {dV kV doc pm ct oc : Value} {an od : Option Addr} {osl : Array (Option Value)} {f cda cc C D : Addr} {A : Around} {outer : List Env} {s0 : Shared} {H0 : Hp} {E : XK}
theorem at_super {X : Cx} (hX : X = cxS CX P w K mg base ps qual scope f (.ref cda) cc A outer s0 H0 E) {σ : L2.St} {H : Hp} {s : Shared} {a : Addr} {x0 : Str} {e : Expr} {es : List Expr} {t : TA} {p0 p1 p2 p3 p4 : Pos} {rest : List Stmt} {Q : Flow → Shared → Prop} {Qn : L2.St → Hp → Prop}
    (S : SupScope ps scope) (lf : K.lookup f = some ⟨oc, od, .func (ksFn name qual params fbody scope dV kV doc pm an (.ref cda) ct cc), osl⟩) (T : SupFacts P K mg scope params cda cc C D x0 "ValueError.__init__") (h0 : ps[0]? = some x0) (OC : OexC K C)
    (I : Inv X [] σ H s) (hσ : σ[0]? = some (some (.ref a))) (ha : H a = some (exo a C none)) (hargs : PA X (e :: es) t) (ht : t σ H fun vs H1 => vs.length ≤ 1000 ∧ H1 a = some (exo a C none) ∧ Qn σ H1)
    (hrest : ∀ s' H1, Inv X [] σ H1 s' → Qn σ H1 → wpAny (model X.prog X.w) X.A (execs rest X.env) Q X.xe s')
    {pl : Sem Bool} (hcall : eval (.Call (.Attribute (.Call (.Name "super" p0) [] [] p1) "__init__" p2) (e :: es) [] p3) X.env = (do
      let ov ← attributeBase (.Call (.Name "super" p0) [] [] p1) "__init__" X.env (eval (.Call (.Name "super" p0) [] [] p1) X.env)
      standAt p2.atName
      let (f, first) ← holding [ov] (getMethod ov "__init__" pl)
      callWith p3 f first (backTo p3 (starEach (e :: es) X.env)) []) := by rfl)
    (hsw : swapsWith (.Call (.Attribute (.Call (.Name "super" p0) [] [] p1) "__init__" p2) (e :: es) [] p3) none p4.line X.env = pure false := by rfl)
    (he : starEach (e :: es) X.env = (false, eval e X.env) :: starEach es X.env := by rfl) (hpl : (backTo p3 (starEach es X.env)).any (·.1) = false := by rfl) :
    _root_.PySem.wpAt (model X.prog X.w) X.A (.func body X.env) (execs (.Expr (.Call (.Attribute (.Call (.Name "super" p0) [] [] p1) "__init__" p2) (e :: es) [] p3) p4 :: rest) X.env) Q X.xe s := by
  subst hX
  obtain ⟨ar, har, rfl⟩ := T.hp
  obtain ⟨ccl, cdd, ccs, vs, file, tf, lcode, hvs, hfile⟩ := T.code
  obtain ⟨cl, cld, csl, lcell⟩ := T.cell
  obtain ⟨cdD, hD⟩ := T.clsD
  obtain ⟨m, hn, hl⟩ := id I.loc
  obtain ⟨u0, r0, look0⟩ := hl 0 ar.arg (.ref a) h0 hσ (.inl (S.par _ (List.mem_of_getElem? h0)))
  have hka : scope.names.lookup ar.arg = some .local := S.par _ (List.mem_of_getElem? h0)
  obtain rfl : u0 = Value.ref a := r0
  have hv : m ar.arg = some (.ref a) := by
    rcases look0 with ⟨_, z⟩ | ⟨z, _⟩
    · exact z
    · have z : scope.names.lookup ar.arg = some .cell ∨ scope.names.lookup ar.arg = some .free := z
      rw [hka] at z
      rcases z with z | z <;> cases z
  obtain ⟨mb, hb1, hb2⟩ := I.mod.blt
  have hargs' := hargs.run p3
  have KX : K.In s.heap := I.kIn
  obtain ⟨nm, q, N, bs, bm, sn, sub, ab, col, dd, k0, k1, k2, k3, k5, hC, hbm⟩ := OC.cls
  obtain ⟨t1, ho⟩ := exo_at I.hok ha
  obtain ⟨oD, hD1, hD2⟩ : ∃ oD, s.heap.get? D = some oD ∧ oD.data = .cls cdD := by
    have hD := hD
    unfold clsIn at hD
    split at hD
    · rename_i c d cd' sl ho
      cases hD
      exact ⟨_, KX _ _ ho, rfl⟩
    · cases hD
  have hi : interactive (cxS CX P w K mg base ps qual scope f (Value.ref cda) cc A outer s0 H0 E).env = false := by
    show (scope.kind == _ && _) = false
    rw [S.kind]
    rfl
  refine ks_wpAt_execs_cons (ks_wpAt_Expr_any (ks_wpAt_MethodCall ?_ hcall) hi hsw)
  refine ks_wpAt_super_base T.hks T.hkc (by decide) rfl (KX _ _ lf) rfl har rfl (KX _ _ lcode) rfl hvs hfile T.top ?_
  refine ks_loadName_global S.kind T.hks (loadGlobal_builtin (I.mod.glob.keeps I.bk) T.noSuper (hb1.keeps I.bk) ((hb2 _ (by decide +kernel)).trans (by decide +kernel)) ⟨rfl, ?_⟩)
  refine wpAny_loadName_free S.kind T.hkc (show List.lookup ("__class__" : Str) [(("__class__" : Str), cc)] = some cc from List.lookup_cons_self) ⟨_, KX _ _ lcell, rfl⟩ ?_
  refine wpAny_loadName_local S.kind hka hn hv ?_
  obtain ⟨hh, g, d, tk, os⟩ := s
  refine ks_wpAny_isType_cls hD1 hD2 ⟨rfl, ?_⟩
  refine ks_wpAny_call_super hD1 hD2 ho rfl (fun c => by intro z; cases z) (looks_mroIn KX T.sub) (fun h' eso k => ?_)
  have I1 := I.kept (h' := h') (t' := tk) k
  have ho1 := k _ _ ho
  have hxC : a ≠ C := fun z => by
    have y := KX _ _ hC
    rw [← z, ho] at y
    cases y
  cases hc : clsIn K C with
  | none => have := T.up; unfold ks_superIn at this; rw [hc] at this; cases this
  | some cd =>
    have hup := T.up
    unfold ks_superIn at hup
    rw [hc] at hup
    refine kxs_getMethod kxs_ValueError eso (looks_opaque I1.kIn T.opq) (l₀ := cd.mro) (fun A Q E s k q => wpAny_bind ((looks_clsIn I1.kIn hc) A _ E s k (wpAny_pure q))) rfl I1.kIn hup ?_ hxC (by decide) ?_
    · exact (InstAt.type (od := none) ⟨ho1, rfl, rfl, trivial⟩).andThen (looks_subIn I1.kIn T.base)
    · have I2 := I1.kept (h' := h'.push (kxs_mw "ValueError.__init__" a)) (t' := tk + 1) (fun b o z => Heap.get?_push_of_some _ z)
      have hu : (h'.push (kxs_mw "ValueError.__init__" a)).get? h'.objs.size = some (kxs_mw "ValueError.__init__" a) := Heap.get?_push_at rfl rfl
      have I3 := I2.pins_of (pins' := [(h'.objs.size, kxs_mw "ValueError.__init__" a)]) fun p hp => by
        rw [List.mem_singleton] at hp
        subst hp
        exact ⟨hu, I1.hok.fresh (Nat.le_refl _), Nat.ne_of_gt I1.lt, I1.nofs (Nat.le_refl _), fun v z => by cases z⟩
      refine kxs_callWith (i := "ValueError.__init__") (x := a) (by rw [he]; show (false || (backTo p3 (starEach es _)).any (·.1)) = false; rw [hpl]; rfl) ?_
      rw [he] at hargs' ⊢
      refine evalArgs_plain (thn (hargs' _ _ _ _ _ I3 ht) fun us s3 hs3 => ?_)
      obtain ⟨vs3, H3, I4, r4, hz, ha3, q3⟩ := hs3
      refine ⟨(I4.pin _ (List.mem_append_right _ (List.mem_singleton.mpr rfl))).1, ?_⟩
      have I5 := I4.pins_of (pins' := []) fun p hp => by cases hp
      obtain ⟨t3, ho3⟩ := exo_at I5.hok ha3
      have hlen : us.length ≤ sizeLine := by
        rw [← Paired.length r4, sizeLine_eq]
        omega
      obtain ⟨h3, g3, d3, tk3, os3⟩ := s3
      refine call_mw (I5.kIn _ _ hC) ho3 ((I4.pin _ (List.mem_append_right _ (List.mem_singleton.mpr rfl))).1) hlen fun h4 t4 k4 e4 => ?_
      have J := I5.write (t' := tk3) (x := a) (e := a) (o := exo a C none) (by rw [ha3]; exact True.intro) (.inl rfl) k4 ⟨_, e4⟩ (exo_ok e4)
      have eu : upd H3 a (exo a C none) = H3 := by
        funext b
        by_cases hb : b = a
        · rw [hb, upd_same, ha3]
        · rw [upd_ne hb]
      rw [eu] at J
      exact wpAt_of_wpAny (hrest _ H3 J q3)
end
end Pv

set_option Elab.async false
set_option linter.all false
set_option maxRecDepth 100000
set_option maxHeartbeats 2000000
namespace Pv
open PySem PySem.Spec PyProof.Rows L2 PySem.W PySem.Calls
section
variable {CX : CXT} {P : Program} {w : World} {K : PySem.W.Frag} {mg : Str → Option Value} {base : Heap} {ps : List Str} {name qual : Str} {scope : Scope} {params : Arguments} {dV kV doc pm ct oc : Value} {an od : Option Addr} {osl : Array (Option Value)} {f cda cc C D : Addr} {sp : Sp} {k : Nat}
/-- such an __init__ keeps its promise, by the arguments that it hands up and by the rest of its body -/
theorem fn_sup {x0 : Str} {e : Expr} {es : List Expr} {p0 p1 p2 p3 p4 : Pos} {rest : List Stmt} (S : SupScope ps scope)
    (lf : K.lookup f = some ⟨oc, od, .func (ksFn name qual params (.Expr (.Call (.Attribute (.Call (.Name "super" p0) [] [] p1) "__init__" p2) (e :: es) [] p3) p4 :: rest) scope dV kV doc pm an (.ref cda) ct cc), osl⟩)
    (hcd : codeIn K (.ref cda) qual = true) (T : SupFacts P K mg scope params cda cc C D x0 "ValueError.__init__") (h0 : ps[0]? = some x0) (OC : OexC K C) (len : ∀ vs H Q E, sp vs H Q E → vs.length = ps.length)
    (hbody : ∀ (A : Around) (outer : List Env) (s : Shared) (H : Hp) (vs : List V) (Q : VK) (E : XK), Room k (A.deeper (ksEnv qual scope s.heap.objs.size f (.ref cda) cc)) → sp vs H Q E →
      ∃ (a : Addr) (t : TA) (tr : TS), (L2.start ps vs)[0]? = some (some (.ref a)) ∧ H a = some (exo a C none) ∧ PA (cxS CX P w K mg base ps qual scope f (.ref cda) cc A outer s H E) (e :: es) t ∧ PSs (cxS CX P w K mg base ps qual scope f (.ref cda) cc A outer s H E) rest tr ∧
        t (L2.start ps vs) H (fun us H1 => us.length ≤ 1000 ∧ H1 a = some (exo a C none) ∧ tr { nx := fun _ H' => Q .non H', rt := Q } (L2.start ps vs) H1))
    {pl : Sem Bool} (hcall : ∀ X : Env, eval (.Call (.Attribute (.Call (.Name "super" p0) [] [] p1) "__init__" p2) (e :: es) [] p3) X = (do
      let ov ← attributeBase (.Call (.Name "super" p0) [] [] p1) "__init__" X (eval (.Call (.Name "super" p0) [] [] p1) X)
      standAt p2.atName
      let (f, first) ← holding [ov] (getMethod ov "__init__" pl)
      callWith p3 f first (backTo p3 (starEach (e :: es) X)) []))
    (hsw : ∀ X : Env, swapsWith (.Call (.Attribute (.Call (.Name "super" p0) [] [] p1) "__init__" p2) (e :: es) [] p3) none p4.line X = pure false)
    (he : ∀ X : Env, starEach (e :: es) X = (false, eval e X) :: starEach es X) (hpl : ∀ X : Env, (backTo p3 (starEach es X)).any (·.1) = false) :
    FnOk P w K mg base CX (k + 1) f (ksFn name qual params (.Expr (.Call (.Attribute (.Call (.Name "super" p0) [] [] p1) "__init__" p2) (e :: es) [] p3) p4 :: rest) scope dV kV doc pm an (.ref cda) ct cc) ps sp := by
  refine ⟨len, fun A outer s H args us vs Q E hr e0 hb r hsp => ?_⟩
  have hl := len _ _ _ _ hsp
  have KX : K.In s.heap := e0.mod.kin.keeps fun b o e => (e0.bs b o e).1
  have lim : s.heap.NoLimit := e0.mod.nolimit.keeps fun b o e => (e0.bs b o e).1
  obtain ⟨cl, cld, csl, lcell⟩ := T.cell
  obtain ⟨a, t, tr, h1, h2, h3, h4, h5⟩ := hbody A outer s H vs Q E (hr.deeper _) hsp
  refine ks_codeAny_call_defAt hr.depth (KX _ _ lf) rfl lim (codeRec_of KX hcd) rfl hb S.nocell (fun y hy => S.par y.1 (List.of_mem_zip hy).1) (fun g1 hns hk => ?_) S.co S.gen S.kind
  have I := inv_sup (CX := CX) (E := E) (qual := qual) (f := f) (cd := .ref cda) (tk := s.toks + (ps.zip us).length) S hr.hd e0 hl r lcell hns hk
  refine ks_wpAt_mono (at_super (X := cxS CX P w K mg base ps qual scope f (.ref cda) cc A outer s H E) rfl S lf T h0 OC I h1 h2 h3 h5 (Q := SP (cxS CX P w K mg base ps qual scope f (.ref cda) cc A outer s H E) [] { nx := fun _ H' => Q .non H', rt := Q })
    (fun s' H1 J q => h4.run [] s' _ H1 _ J q) (hcall _) (hsw _) (he _) (hpl _)) (fun fl s' hs => ?_) fun e s' hs => hs
  have fin : ∀ {σ' : L2.St} {H' : Hp} {v : V} {u : Value}, L2.Inv (cxS CX P w K mg base ps qual scope f (.ref cda) cc A outer s H E) [] σ' H' s' → RelV v u → Q v H' → CE outer P w H s Q u s' :=
    fun {σ' H' v u} J rv q => ⟨v, H', J.os, J.bare, J.base, J.hok, rv, q⟩
  cases fl with
  | ret u =>
    obtain ⟨v, σ', H', J, rv, q⟩ := hs
    exact fin J rv q
  | next =>
    obtain ⟨σ', H', J, q⟩ := hs
    exact fin (v := V.non) (u := Value.none) J rfl q
  | brk =>
    obtain ⟨_, _, _, q⟩ := hs
    exact False.elim q
  | cont =>
    obtain ⟨_, _, _, q⟩ := hs
    exact False.elim q
end
/-! ### the text that is handed up -/
def PrV (v : V) : Prop := (∃ y : Str, v = .str y ∧ y.length ≤ 2000) ∨ ∃ i : Int, v = .int i ∧ i.natAbs.log2 < 1920
def Prt (σ : L2.St) (t : TE) : Prop := ∀ (H : Hp) (Q : VK), (∀ y : Str, y.length ≤ 2000 → Q (.str y) H) → t σ H Q
theorem prt_c {σ : L2.St} {c : Str} (h : c.length ≤ 2000 := by decide) : Prt σ (tC (.str c)) := fun H Q q => q c h
theorem prt_f {σ : L2.St} {i : Nat} {v : V} (hv : σ[i]? = some (some v)) (h : PrV v) : Prt σ (tFmt (tVar i)) := fun H Q q => by
  refine ⟨v, hv, ?_⟩
  rcases h with ⟨y, e, hz⟩ | ⟨n, e, hz⟩
  · exact .inl ⟨y, e, Nat.le_trans hz (by rw [sizeLine_eq]; decide), q y hz⟩
  · exact .inr ⟨n, e, hz, q _ (Nat.le_trans (PyProof.Rows.int_text_len_1921 hz) (by decide))⟩
theorem prt_js {σ : L2.St} : ∀ (ts : List TE) (acc : Str) (H : Hp) (Q : Str → Hp → Prop), (∀ t, t ∈ ts → Prt σ t) → acc.length + 2000 * ts.length ≤ 100000 → (∀ y : Str, Q y H) → tJs ts acc σ H Q
  | [], acc, H, Q, _, _, q => q acc
  | t :: ts, acc, H, Q, h, hl, q => by
    rw [List.length_cons] at hl
    refine h t (List.mem_cons_self ..) H _ fun y hy => ⟨y, rfl, ?_, prt_js ts (acc ++ y) H Q (fun u hu => h u (List.mem_cons_of_mem _ hu)) ?_ q⟩
    · rw [Str.length_append, sizeLine_eq]
      omega
    · rw [Str.length_append]
      omega
end Pv

set_option Elab.async false
set_option linter.all false
set_option maxRecDepth 100000
set_option maxHeartbeats 2000000
namespace Pv
open PySem PySem.Spec PyProof.Rows L2 PySem.W PySem.Calls
/-! ### the fields, stored one after the other -/
def trF (K : PySem.W.Frag) : List (Str × Nat) → TS
  | [] => tNext
  | (f, i) :: r => tSeq (tOst K f (tVar 0) (tVar i)) (trF K r)
def SpExI (C : Addr) (fs : List Str) : Sp := fun vs H Q _ => ∃ (a : Addr) (us : List V), vs = .ref a :: us ∧ us.length = fs.length ∧ (∀ u, u ∈ us → PrV u) ∧ H a = some (exo a C none) ∧
  ∀ (d : Addr) (H' : Hp), H d = none → d ≠ a → (∀ b, b ≠ a → b ≠ d → H' b = H b) → H' a = some (exo a C (some d)) → H' d = some (exd d (fs.zip us).reverse) → Q .non H'
theorem tr_more {K : PySem.W.Frag} {a C d : Addr} {σ : L2.St} {D : Ends} (h0 : σ[0]? = some (some (.ref a))) (OC : OexC K C) (ne : d ≠ a) : ∀ (l : List (Str × Nat × V)) (acc : List (Str × V)) (H : Hp), H a = some (exo a C (some d)) → H d = some (exd d acc) → acc.length + l.length ≤ 900 →
    (∀ x, x ∈ l → σ[x.2.1]? = some (some x.2.2) ∧ findIn K (.ref C) x.1 = some none) →
    (∀ H', (∀ b, b ≠ a → b ≠ d → H' b = H b) → H' a = some (exo a C (some d)) → H' d = some (exd d ((l.map fun x => (x.1, x.2.2)).reverse ++ acc)) → D.nx σ H') → trF K (l.map fun x => (x.1, x.2.1)) D σ H
  | [], acc, H, ha, hd, _, _, q => q H (fun _ _ _ => rfl) ha hd
  | (f, i, u) :: l, acc, H, ha, hd, hl, hx, q => by
    rw [List.length_cons] at hl
    obtain ⟨e1, e2⟩ := hx _ (List.mem_cons_self ..)
    refine ⟨u, e1, .ref a, h0, a, C, rfl, OC, e2, .inr ⟨d, acc, ha, hd, by omega, ?_⟩⟩
    refine tr_more h0 OC ne l ((f, u) :: acc) _ (by rw [upd_ne (Ne.symm ne)]; exact ha) upd_same (by rw [List.length_cons]; omega) (fun x h => hx x (List.mem_cons_of_mem _ h)) fun H' k k1 k2 => q H' (fun b hb hb2 => ?_) k1 ?_
    · rw [k b hb hb2, upd_ne hb2]
    · rw [k2, List.map_cons, List.reverse_cons, List.append_assoc]
      rfl
theorem tr_first {K : PySem.W.Frag} {a C : Addr} {σ : L2.St} {D : Ends} (h0 : σ[0]? = some (some (.ref a))) (OC : OexC K C) {f : Str} {i : Nat} {u : V} {l : List (Str × Nat × V)} {H : Hp} (ha : H a = some (exo a C none)) (hl : l.length ≤ 800)
    (hx : ∀ x, x ∈ (f, i, u) :: l → σ[x.2.1]? = some (some x.2.2) ∧ findIn K (.ref C) x.1 = some none)
    (q : ∀ d H', H d = none → d ≠ a → (∀ b, b ≠ a → b ≠ d → H' b = H b) → H' a = some (exo a C (some d)) → H' d = some (exd d (((f, i, u) :: l).map fun x => (x.1, x.2.2)).reverse) → D.nx σ H') :
    trF K (((f, i, u) :: l).map fun x => (x.1, x.2.1)) D σ H := by
  obtain ⟨e1, e2⟩ := hx _ (List.mem_cons_self ..)
  refine ⟨u, e1, .ref a, h0, a, C, rfl, OC, e2, .inl ⟨ha, fun dx hn ne => ?_⟩⟩
  refine tr_more h0 OC ne l [(f, u)] _ upd_same (by rw [upd_ne ne, upd_same]) (by show 1 + _ ≤ 900; omega) (fun x h => hx x (List.mem_cons_of_mem _ h)) fun H' k k1 k2 => q dx H' hn ne (fun b hb hb2 => ?_) k1 ?_
  · rw [k b hb hb2, upd_ne hb, upd_ne hb2]
  · rw [k2, List.map_cons, List.reverse_cons]
section
variable {CX : CXT} {P : Program} {w : World} {K : PySem.W.Frag} {mg : Str → Option Value} {base : Heap} {x0 : Str} {xs : List Str} {name qual : Str} {scope : Scope} {params : Arguments} {dV kV doc pm ct oc : Value} {an od : Option Addr} {osl : Array (Option Value)} {f cda cc C D : Addr}
def ixs : Nat → List Str → List (Str × Nat)
  | _, [] => []
  | i, f :: r => (f, i) :: ixs (i + 1) r
def ixv : Nat → List Str → List V → List (Str × Nat × V)
  | i, f :: r, u :: us => (f, i, u) :: ixv (i + 1) r us
  | _, _, _ => []
theorem ixv_fst : ∀ (i : Nat) (fs : List Str) (us : List V), us.length = fs.length → (ixv i fs us).map (fun x => (x.1, x.2.1)) = ixs i fs
  | _, [], [], _ => rfl
  | i, f :: r, u :: us, h => by
    show (f, i) :: _ = (f, i) :: _
    rw [ixv_fst (i + 1) r us (Nat.succ.inj h)]
theorem ixv_val : ∀ (i : Nat) (fs : List Str) (us : List V), (ixv i fs us).map (fun x => (x.1, x.2.2)) = fs.zip us
  | _, [], _ => by simp [ixv]
  | _, _ :: _, [] => by simp [ixv]
  | i, f :: r, u :: us => by
    show (f, u) :: _ = (f, u) :: _
    rw [ixv_val (i + 1) r us]
    rfl
theorem ixv_len : ∀ (i : Nat) (fs : List Str) (us : List V), (ixv i fs us).length ≤ fs.length
  | _, [], _ => by simp [ixv]
  | _, _ :: _, [] => by simp [ixv]
  | i, f :: r, u :: us => Nat.succ_le_succ (ixv_len (i + 1) r us)
theorem ixv_mem : ∀ (i : Nat) (fs : List Str) (us : List V) (x : Str × Nat × V), x ∈ ixv i fs us → x.1 ∈ fs ∧ ∃ j, x.2.1 = i + j ∧ us[j]? = some x.2.2
  | _, [], _, _, h => by simp [ixv] at h
  | _, _ :: _, [], _, h => by simp [ixv] at h
  | i, f :: r, u :: us, x, h => by
    rcases List.mem_cons.mp (show x ∈ (f, i, u) :: ixv (i + 1) r us from h) with e | h
    · subst e
      exact ⟨List.mem_cons_self .., 0, rfl, rfl⟩
    · obtain ⟨h1, j, h2, h3⟩ := ixv_mem (i + 1) r us x h
      exact ⟨List.mem_cons_of_mem _ h1, j + 1, by omega, h3⟩
/-- the __init__ of an exception class: a text of its arguments handed up, then each argument stored under the field of its place -/
theorem fn_exi {fs : List Str} {e : Expr} {es : List Expr} {p0 p1 p2 p3 p4 : Pos} {rest : List Stmt} {t : TA} (S : SupScope (x0 :: xs) scope)
    (lf : K.lookup f = some ⟨oc, od, .func (ksFn name qual params (.Expr (.Call (.Attribute (.Call (.Name "super" p0) [] [] p1) "__init__" p2) (e :: es) [] p3) p4 :: rest) scope dV kV doc pm an (.ref cda) ct cc), osl⟩)
    (hcd : codeIn K (.ref cda) qual = true) (T : SupFacts P K mg scope params cda cc C D x0 "ValueError.__init__") (OC : OexC K C) (hfs : fs.length = xs.length) (hf0 : 0 < fs.length) (hf9 : fs.length ≤ 800) (na : ∀ g, g ∈ fs → findIn K (.ref C) g = some none)
    (ha : ∀ (A : Around) (outer : List Env) (s : Shared) (H : Hp) (E : XK), PA (cxS CX P w K mg base (x0 :: xs) qual scope f (.ref cda) cc A outer s H E) (e :: es) t)
    (hr : ∀ (A : Around) (outer : List Env) (s : Shared) (H : Hp) (E : XK), PSs (cxS CX P w K mg base (x0 :: xs) qual scope f (.ref cda) cc A outer s H E) rest (trF K (ixs 1 fs)))
    (ht : ∀ (v : V) (us : List V) (H : Hp) (Q : List V → Hp → Prop), us.length = fs.length → (∀ u, u ∈ us → PrV u) → (∀ y : Str, Q [.str y] H) → t ((v :: us).map some) H Q)
    {pl : Sem Bool} (hcall : ∀ X : Env, eval (.Call (.Attribute (.Call (.Name "super" p0) [] [] p1) "__init__" p2) (e :: es) [] p3) X = (do
      let ov ← attributeBase (.Call (.Name "super" p0) [] [] p1) "__init__" X (eval (.Call (.Name "super" p0) [] [] p1) X)
      standAt p2.atName
      let (f, first) ← holding [ov] (getMethod ov "__init__" pl)
      callWith p3 f first (backTo p3 (starEach (e :: es) X)) []))
    (hsw : ∀ X : Env, swapsWith (.Call (.Attribute (.Call (.Name "super" p0) [] [] p1) "__init__" p2) (e :: es) [] p3) none p4.line X = pure false)
    (he : ∀ X : Env, starEach (e :: es) X = (false, eval e X) :: starEach es X) (hpl : ∀ X : Env, (backTo p3 (starEach es X)).any (·.1) = false) :
    FnOk P w K mg base CX 1 f (ksFn name qual params (.Expr (.Call (.Attribute (.Call (.Name "super" p0) [] [] p1) "__init__" p2) (e :: es) [] p3) p4 :: rest) scope dV kV doc pm an (.ref cda) ct cc) (x0 :: xs) (SpExI C fs) := by
  refine fn_sup S lf hcd T rfl OC (fun vs H Q E h => ?_) (fun A outer s H vs Q E _ h => ?_) hcall hsw he hpl
  · obtain ⟨a, us, rfl, hl, _⟩ := h
    rw [List.length_cons, List.length_cons, hl, hfs]
  · obtain ⟨a, us, rfl, hl, hp, hH, q⟩ := h
    have est : L2.start (x0 :: xs) (.ref a :: us) = (V.ref a :: us).map some := by
      unfold L2.start
      rw [List.length_cons, List.length_cons, hl, hfs, Nat.sub_self, List.replicate_zero, List.append_nil]
    rw [est]
    refine ⟨a, t, trF K (ixs 1 fs), rfl, hH, ha A outer s H E, hr A outer s H E, ht _ us H _ hl hp fun y => ⟨by show (1 : Nat) ≤ 1000; decide, hH, ?_⟩⟩
    match fs, us, hl, hf0 with
    | g :: gs, u :: us, hl, _ =>
      rw [← ixv_fst 1 (g :: gs) (u :: us) hl]
      refine tr_first (f := g) (i := 1) (u := u) (l := ixv 2 gs us) rfl OC hH (Nat.le_trans (ixv_len 2 gs us) (by rw [List.length_cons] at hf9; omega)) (fun x hx => ?_) fun d H' n ne k k1 k2 => q d H' n ne k k1 ?_
      · obtain ⟨h1, j, h2, h3⟩ := ixv_mem 1 (g :: gs) (u :: us) x hx
        refine ⟨?_, na _ h1⟩
        rw [h2, List.getElem?_map, Nat.add_comm 1 j, List.getElem?_cons_succ, h3]
        rfl
      · rw [k2]
        have e := ixv_val 1 (g :: gs) (u :: us)
        rw [← e]
        rfl
end
end Pv

set_option Elab.async false
set_option linter.all false
set_option maxRecDepth 100000
namespace Pv
open PySem PySem.Spec L2
open Enc (enc)
open Encs (encs)
/-! ### exceptions whose context is known to be None -/
theorem tk0 {X : Cx} : L2N.Takes X (fun _ _ _ _ => False) := fun u s' ⟨_, _, _, _, _, _, _, _, _, _, _, _, _, _, _, _, z⟩ => z.elim
theorem okXN {P : Program} {w : World} {K : PySem.W.Frag} {mg : Str → Option Value} {base : Heap} {x qual : Str} {st : Stmt} {f : Addr} {fd : FuncData} {N ps : List Str} {k : Nat} {sp : Sp} (F : Fun K x qual st f fd) (S : FnScope N ps (defScope st)) (len : ∀ vs H Q E, sp vs H Q E → vs.length = ps.length)
    (hb : ∀ (cdv : Value) (A : Around) (outer : List Env) (s : Shared) (H : Hp) (vs : List V) (Q : VK) (E : XK), Room k (A.deeper (PyProof.Rows.envOfC qual (defScope st) s.heap.objs.size f cdv)) → sp vs H Q E →
      ∃ t, PSs (cxOf (L2N.CX P w) P w K mg base N qual (defScope st) f cdv A outer s H E) (defBody st) t ∧ t { nx := fun _ H' => Q .non H', rt := Q } (start N vs) H) : FnOk P w K mg base (L2N.CX P w) (k + 1) f fd ps sp := by
  obtain ⟨_, _, _, _, _, _, cdv, _, _, rfl, lk, hc⟩ := F.ex
  exact fn_of lk hc S len (hb cdv)
section
variable {X : Cx} {x : Str} {C fI : Addr} {k : Nat} {fd : FuncData} {ps : List Str} {sp : Sp} {e : Expr} {es : List Expr} {ta : TA} {p pos : Pos} {CX : CXT}
/-- C(e, ..), C's __init__ a def of its own -/
theorem pmk_oexN (T : OexC X.K C) (iC : PySem.W.findIn X.K (.ref C) "__init__" = some (some (.ref fI))) (tI : PySem.W.typeIn X.K (.ref fI) = some (.type "function"))
    (Fi : FnOk X.prog X.w X.K X.mg X.base CX k fI fd ps sp) (hr : Room (k + 1) X.A) (hb : Binds X.K fd ps []) (hx : Passes CX X (fun _ _ _ => False)) (hg : Gl X x) (hm : X.mg x = some (.ref C)) (ha : PA X (e :: es) ta)
    (hdb : (x == ("__debug__" : Str)) = false := by decide) (he : starEach (e :: es) X.env = (false, eval e X.env) :: starEach es X.env := by rfl) (hpl : (backTo pos (starEach es X.env)).any (·.1) = false := by rfl) :
    L2N.PMk X (.Call (.Name x p) (e :: es) [] pos) (tMkO C sp [] ta) := by
  intro pins s σ H Q I h
  refine wpAny_Call_Name_kw (ld_glob I hg hm ?_ hdb)
  refine PySem.W.callWith_K (h₀ := X.base) I.ok.mod.kin T.kC (thn (ha.run pos pins s σ H _ I h) fun us ⟨hp, g, dr, tk, os⟩ ⟨vs, H1, J, rv, hz, q⟩ => ⟨J.kIn, ?_⟩) he hpl
  obtain ⟨_, _, _, _, bm, _, _, _, _, _, _, _, _, _, _, hC, hbm⟩ := T.cls
  have below : hp.objs.size ≤ hp.objs.size + 1 := Nat.le_succ _
  have sp0 := q (hp.objs.size + 1) (J.hok.fresh below)
  rw [List.append_nil] at sp0
  have old : ∀ b o, hp.get? b = some o → ((hp.push (PySem.W.kdv_tup us)).push (PySem.HandSPX.excO C hp.objs.size)).get? b = some o := fun b o z => Heap.get?_push_of_some _ (Heap.get?_push_of_some _ z)
  have J2 := J.laid (t' := tk) (o := exo (hp.objs.size + 1) C none) (h' := (hp.push (PySem.W.kdv_tup us)).push (PySem.HandSPX.excO C hp.objs.size)) old below (exo_ok (by heap_get))
  have rv2 : Vals (V.ref (hp.objs.size + 1) :: vs) (Value.ref (hp.objs.size + 1) :: us) := .cons rfl rv
  have cnt := rv2.length.symm.trans (Fi.len _ _ _ _ sp0)
  have fits : us.length ≤ sizeLine := by rw [← Paired.length rv, sizeLine_eq]; omega
  have bs := hb _ (Value.ref (hp.objs.size + 1) :: us) J2.kIn (by rw [List.append_nil]; exact cnt)
  rw [List.append_nil] at bs
  show wpAny _ _ (call (.ref C) us) _ _ _
  refine wpAny_call (PySem.HandSPX.call_own PySem.F.excBase_ValueError (fun Y => PySem.HandSPX.refsVE_contains Y bm hbm) (J.kIn _ _ hC) (PySem.W.looks_findIn J.kIn iC) (fun self => PySem.W.bind_fn J.kIn self tI) fits
    (codeAny_mono (Fi.run _ X.stack _ _ ⟨Value.ref (hp.objs.size + 1) :: us, []⟩ (Value.ref (hp.objs.size + 1) :: us) _ _ (fun _ _ _ => False) (hr.make C us []) (J2.env0.make C us []) bs rv2 sp0) fun r s2 hq => ?_))
  match r, hq with
  | .error er, hq => exact hx pins σ _ _ er s2 J2 hq
  | .ok (.ret u), hq =>
    obtain ⟨_, H2, o2, b2, un2, ok2, ru, rfl, d, fs, ea, ed, hd1, q2⟩ := hq
    obtain ⟨h2, g2, d2, t2, os2⟩ := s2
    obtain ⟨t0, G, J3, kG, nG, hoe, na⟩ := mk_end0 (d2 := d2) (t2 := t2) J below old un2 ok2 o2 b2 ea ed hd1
    exact ⟨ru, hp.objs.size + 1, _, _, ⟨G, g2, d2, t2, os2⟩, _, .ref C, some d, rfl, J3, kG, nG, hoe, ⟨rfl, rfl, fun vs hv => by cases hv; rfl⟩, rfl, rfl, na, rfl, b2, raises_own T.exC T.tyC, q2⟩
  | .ok .next, hq => exact False.elim hq
  | .ok .brk, hq => exact False.elim hq
  | .ok .cont, hq => exact False.elim hq
end
/-! ### raise C(..) -/
def prB : PV → Bool
  | .int i => decide (i.natAbs.log2 < 1920)
  | .str y => decide (y.length ≤ 2000)
  | _ => false
def R.raise {α : Type} (c : Nat) (ps : List PV) : R α := if ps.all prB then .ex ⟨c, ps.reverse⟩ else .bad
theorem prv_of {T : CT} {H : Hp} {G : Addr → Prop} {p : PV} {v : V} (r : Rep T H G p v) (h : prB p = true) : PrV v := by
  cases p with
  | int i => exact .inr ⟨i, r, of_decide_eq_true h⟩
  | str y =>
    have r : v = .str y ∧ _ := r
    exact .inl ⟨y, r.1, of_decide_eq_true h⟩
  | non => cases h
  | bl b => cases h
  | lst xs => cases h
  | tup xs => cases h
  | obj c vs => cases h
  | dic c vs => cases h
  | scr xs => cases h
theorem prvs_of {T : CT} {H : Hp} {G : Addr → Prop} : ∀ {ps : List PV} {vs : List V}, Reps T H G ps vs → ps.all prB = true → ∀ u, u ∈ vs → PrV u
  | [], vs, r, _, u, hu => by
    have r : vs = [] := r
    rw [r] at hu
    cases hu
  | p :: ps, vs, r, h, u, hu => by
    unfold Reps at r
    obtain ⟨v, r', e, r1, r2⟩ := r
    rw [List.all_cons, Bool.and_eq_true] at h
    rw [e] at hu
    rcases List.mem_cons.mp hu with z | z
    · rw [z]
      exact prv_of r1 h.1
    · exact prvs_of r2 h.2 u z
/-- an own exception class: what the top has written of it -/
structure KdX (P : Program) (w : World) (K : PySem.W.Frag) (mg : Str → Option Value) (base : Heap) (T : CT) (c : Nat) (x : Str) (fs ps : List Str) : Prop where
  fl : T.fld c = fs.reverse
  oc : OexC K (T.addr c)
  gm : mg x = some (.ref (T.addr c))
  ini : ∃ fI fd, PySem.W.findIn K (.ref (T.addr c)) "__init__" = some (some (.ref fI)) ∧ PySem.W.typeIn K (.ref fI) = some (.type "function") ∧ Binds K fd ps [] ∧ FnOk P w K mg base CX0 3 fI fd ps (SpExI (T.addr c) fs)
theorem pmk_kdx {X : Cx} {T : CT} {c : Nat} {x : Str} {fs ps : List Str} {e : Expr} {es : List Expr} {ta : TA} {p pos : Pos} (y : KdX X.prog X.w X.K X.mg X.base T c x fs ps) (hr : Room 4 X.A) (hg : Gl X x) (ha : PA X (e :: es) ta)
    (hdb : (x == ("__debug__" : Str)) = false := by decide) (he : starEach (e :: es) X.env = (false, eval e X.env) :: starEach es X.env := by rfl) (hpl : (backTo pos (starEach es X.env)).any (·.1) = false := by rfl) :
    L2N.PMk X (.Call (.Name x p) (e :: es) [] pos) (tMkO (T.addr c) (SpExI (T.addr c) fs) [] ta) := by
  obtain ⟨fI, fd, h1, h2, h3, h4⟩ := y.ini
  exact pmk_oexN y.oc h1 h2 h4 hr h3 C8.pass0 hg y.gm ha hdb he hpl
theorem zip_rev : ∀ {fs : List Str} {us : List V}, fs.length = us.length → (fs.zip us).reverse = fs.reverse.zip us.reverse
  | [], [], _ => rfl
  | f :: fs, u :: us, h => by
    have h' : fs.length = us.length := Nat.succ.inj h
    show ((f, u) :: fs.zip us).reverse = _
    rw [List.reverse_cons, List.reverse_cons, List.reverse_cons, zip_rev h', List.zip_append (by rw [List.length_reverse, List.length_reverse, h'])]
    rfl
theorem bd_raise {C : Cn} {Γ : List Sl} {l : Lv} {β δ : Type} [Encs δ] {ta : TA} {m : R δ} {c : Nat} {fs : List Str} {u : TS} {out : β → Oc} {W : WX} (hW : C.W = some W) (fl : C.T.fld c = fs.reverse) (ha : EvA C Γ l ta m) (hl : ∀ d : δ, (encs d).length = fs.length) (h9 : fs.length ≤ 1000) :
    BD C Γ (tSeq (fun _ σ H => tMkO (C.T.addr c) (SpExI (C.T.addr c) fs) [] ta σ H fun cls d H' => W cls d σ H') u) (m.bind fun d => (R.raise c (encs d) : R β)) out := fun G hid os σ H D Kw q => by
  refine ha G hid os σ H _ Kw ?_
  cases e1 : m with
  | bad => rw [e1] at q; exact q
  | ex x => rw [e1] at q; exact pox_of Kw q
  | ok d =>
    rw [e1] at q
    have q : PoB C G hid D out (R.raise c (encs d) : R β) := q
    unfold R.raise at q
    cases e2 : (encs d).all prB with
    | false => rw [e2] at q; exact q.elim
    | true =>
      rw [e2] at q
      have q : PoXB C ⟨c, (encs d).reverse⟩ := q
      unfold PoXB at q
      rw [hW] at q
      intro vs H1 s1 r1
      have hlen : vs.length = fs.length := by rw [← r1.len, hl]
      refine ⟨by omega, fun a na => ⟨a, vs, by rw [List.append_nil], hlen, prvs_of r1 e2, upd_same, fun dx H2 nd ne k k1 k2 => ⟨rfl, dx, (fs.zip vs).reverse, k1, k2, ?_, ?_⟩⟩⟩
      · rw [upd_ne ne] at nd
        exact nd
      · rw [upd_ne ne] at nd
        have s2 : Same H1 (upd (del H2 a) dx (.xd (fs.zip vs).reverse)) := fun b o hb => by
          have n1 : b ≠ a := fun z => by rw [z, na] at hb; cases hb
          have n2 : b ≠ dx := fun z => by rw [z, nd] at hb; cases hb
          rw [upd_ne n2, del_ne n1, k b n1 n2, upd_ne n1]
          exact hb
        refine q σ _ _ _ ((Kw.ext.trans s1).trans s2) ⟨rfl, .inr ⟨dx, vs.reverse, rfl, ?_, ?_, ?_⟩⟩
        · rw [upd_same, fl, zip_rev hlen.symm]
        · rw [fl, List.length_reverse, List.length_reverse, hlen]
        · exact ((r1.same s2).weak fun _ z => z.elim).rev
/-! ### defs that may raise -/
section
variable {P : Program} {w : World} {K : PySem.W.Frag} {mg : Str → Option Value} {base : Heap} {α β : Type} [Enc α] [Encs β] {T : CT} {M : RM}
theorem fn_pmX {x qual : Str} {st : Stmt} {f : Addr} {fd : FuncData} {N ps : List Str} {k : Nat} {g : β → R α} (F : Fun K x qual st f fd) (S : FnScope N ps (defScope st)) (hlen : ∀ b : β, (encs b).length = ps.length)
    (hbody : ∀ (cdv : Value) (A : Around) (outer : List Env) (s : Shared) (H : Hp) (E : XK), Room k (A.deeper (PyProof.Rows.envOfC qual (defScope st) s.heap.objs.size f cdv)) →
      ∃ t, PSs (cxOf (L2N.CX P w) P w K mg base N qual (defScope st) f cdv A outer s H E) (defBody st) t ∧ ∀ b : β, BD ⟨T, H, some (fun cls d _ H' => E cls d H'), M⟩ (entry N (encs b)) t (g b) (fun a => .rt (enc a))) :
    FnOk P w K mg base (L2N.CX P w) (k + 1) f fd ps (PmX T M g) := by
  have hpl : ps.length ≤ N.length := by have := congrArg List.length S.pre; rw [List.length_take] at this; omega
  refine okXN F S (fun vs H Q E h => ?_) (fun cdv A outer s H vs Q E hr h => ?_)
  · obtain ⟨b, G, _, r, _⟩ := h
    rw [← r.len, hlen]
  · obtain ⟨b, G, dom, r, q⟩ := h
    obtain ⟨t, ht, hb⟩ := hbody cdv A outer s H E hr
    refine ⟨t, ht, hb b G [] _ _ H _ (okw_start dom r (by rw [hlen]; exact hpl)) ?_⟩
    cases e : g b with
    | bad => rw [e] at q; exact q
    | ex z => rw [e] at q; exact fun _ cls d H' s r => q cls d H' s r
    | ok a => rw [e] at q; exact q
/-- one that hands back nothing -/
theorem fn_pmXU {x qual : Str} {st : Stmt} {f : Addr} {fd : FuncData} {N ps : List Str} {k : Nat} {g : β → R Unit} (F : Fun K x qual st f fd) (S : FnScope N ps (defScope st)) (hlen : ∀ b : β, (encs b).length = ps.length)
    (hbody : ∀ (cdv : Value) (A : Around) (outer : List Env) (s : Shared) (H : Hp) (E : XK), Room k (A.deeper (PyProof.Rows.envOfC qual (defScope st) s.heap.objs.size f cdv)) →
      ∃ t, PSs (cxOf (L2N.CX P w) P w K mg base N qual (defScope st) f cdv A outer s H E) (defBody st) t ∧ ∀ b : β, BD ⟨T, H, some (fun cls d _ H' => E cls d H'), .val .fr⟩ (entry N (encs b)) t (g b) (fun _ => .nx (List.replicate N.length .un))) :
    FnOk P w K mg base (L2N.CX P w) (k + 1) f fd ps (PmX T (.val .fr) g) := by
  have hpl : ps.length ≤ N.length := by have := congrArg List.length S.pre; rw [List.length_take] at this; omega
  refine okXN F S (fun vs H Q E h => ?_) (fun cdv A outer s H vs Q E hr h => ?_)
  · obtain ⟨b, G, _, r, _⟩ := h
    rw [← r.len, hlen]
  · obtain ⟨b, G, dom, r, q⟩ := h
    obtain ⟨t, ht, hb⟩ := hbody cdv A outer s H E hr
    refine ⟨t, ht, hb b G [] _ _ H _ (okw_start dom r (by rw [hlen]; exact hpl)) ?_⟩
    cases e : g b with
    | bad => rw [e] at q; exact q
    | ex z => rw [e] at q; exact fun _ cls d H' s r => q cls d H' s r
    | ok a =>
      rw [e] at q
      intro _ os σ H2 _ K2
      exact q .non H2 K2.ext rfl
end
end Pv

set_option Elab.async false
set_option linter.all false
set_option maxRecDepth 100000
namespace Pv
open PySem PySem.Spec L2
open Enc (enc)
open Encs (encs)
/-! ### isinstance(e, ..) in an except suite, e an exception of an own class with fields -/
section
variable {X : Cx} {a : Addr} {cls : Value} {d : Option Addr} {oe : Obj} {pn : List (Addr × Obj)}
def rIsX (K : PySem.W.Frag) (a : Addr) (cls : Value) (d : Option Addr) : List V → Hp → VK → Prop := fun xs H Q => ∃ (D : Addr) (c : V) (cv : Value) (b : Bool) (dd : Addr) (fs : List (Str × V)), cls = .ref D ∧ ExcC K D ∧ xs = [.ref a, c] ∧ ClsV c cv ∧ PySem.W.kitOne K (.ref D) cv = some b ∧ (d = none ∨ (d = some dd ∧ H dd = some (.xd fs))) ∧ Q (.bl b) H
def rIsXT (K : PySem.W.Frag) (a : Addr) (cls : Value) (d : Option Addr) : List V → Hp → VK → Prop := fun xs H Q => ∃ (D tp : Addr) (cs : List V) (us : List Value) (b : Bool) (dd : Addr) (fs : List (Str × V)), cls = .ref D ∧ ExcC K D ∧ xs = [.ref a, .ref tp] ∧ H tp = some (.tup cs) ∧ Paired ClsV cs us ∧ PySem.W.kitAny K (.ref D) us = some b ∧ (d = none ∨ (d = some dd ∧ H dd = some (.xd fs))) ∧ Q (.bl b) H
theorem xinst {pins : List (Addr × Obj)} {σ : L2.St} {H : Hp} {s : Shared} {D dd : Addr} {d : Option Addr} {fs : List (Str × V)} (I : Inv (X.suite a ((a, oe) :: pn)) pins σ H s) (hz : Zc (.ref D) d oe) (hf : ∃ vs, oe.data = .fields vs) (hd : d = none ∨ (d = some dd ∧ H dd = some (.xd fs))) : ∃ od, PySem.W.InstAt s.heap a oe D od := by
  obtain ⟨ha, _⟩ := I.pin (a, oe) (List.mem_append_left _ List.mem_cons_self)
  obtain ⟨vs, hv⟩ := hf
  rcases hd with rfl | ⟨rfl, hd⟩
  · exact ⟨none, ha, hz.1, by unfold PySem.W.notCls; rw [hv] <;> rfl, by rw [hz.2]; trivial⟩
  have hx : ObjOk X.prog X.w H s.heap dd (.xd fs) := I.hok dd _ hd
  obtain ⟨mA, hns, hr⟩ := hx
  obtain ⟨od, ho, _⟩ := lookIn_ns hns
  exact ⟨some od, ha, hz.1, by unfold PySem.W.notCls; rw [hv] <;> rfl, by rw [hz.2]; exact ho⟩
theorem xkit {K : PySem.W.Frag} {D x : Addr} {ox : Obj} {od : Option Obj} (C : ExcC K D) : PySem.W.KitX K (.ref x) (.ref D) (fun h => PySem.W.InstAt h x ox D od) := by
  obtain ⟨cd, hc, _⟩ := PySem.W.any_some C.hd
  exact PySem.W.kitx_exc (by rw [hc]; rfl) C.hg C.hk C.hs C.ha C.hn C.ht C.hm
theorem call_isX (hz : Zc cls d oe) (hf : ∃ vs, oe.data = .fields vs) : CallR (X.suite a ((a, oe) :: pn)) (.builtin "isinstance") (rIsX X.K a cls d) := by
  intro pins s σ H xs us Q I r h
  obtain ⟨D, c, cv, b, dd, fs, e1, C, rfl, k, e, hd, q⟩ := h
  subst e1
  obtain ⟨u1, u2, rfl, r1, r2⟩ := vals2 r
  cases (show u1 = Value.ref a from r1)
  have e3 := k.eq r2
  subst e3
  obtain ⟨od, J⟩ := xinst I hz hf hd
  exact PySem.W.kia_one (xkit C) I.kIn J e (fun z => nomatch z) fun tk => ⟨.bl b, H, I.tok tk, rfl, q⟩
theorem call_isXT (hz : Zc cls d oe) (hf : ∃ vs, oe.data = .fields vs) : CallR (X.suite a ((a, oe) :: pn)) (.builtin "isinstance") (rIsXT X.K a cls d) := by
  intro pins s σ H xs us Q I r h
  obtain ⟨D, tp, cs, ws, b, dd, fs, e1, C, rfl, hT, k, e, hd, q⟩ := h
  subst e1
  obtain ⟨u1, u2, rfl, r1, r2⟩ := vals2 r
  cases (show u1 = Value.ref a from r1)
  cases (show u2 = Value.ref tp from r2)
  obtain ⟨od, J⟩ := xinst I hz hf hd
  obtain ⟨_, its, rv, o, h1, h2, n, h3⟩ := (show ObjOk X.prog X.w H s.heap tp (.tup cs) from I.hok tp _ hT)
  have e3 := ClsV.all k rv
  subst e3
  obtain ⟨oc, od', dt, sl⟩ := o
  simp only at h2 h3
  subst h2 h3
  exact PySem.W.kia_tup (xkit C) I.kIn J h1 e (fun z => nomatch z) fun tk => ⟨.bl b, H, I.tok tk, rfl, q⟩
end
/-- the classes in a tuple, as they are read -/
def tCls : List V → TA
  | [] => tNil
  | c :: r => tCons (tC c) (tCls r)
theorem tcls_at {σ : L2.St} {H : Hp} : ∀ (cs : List V) (Q : List V → Hp → Prop), Q cs H → tCls cs σ H Q
  | [], _, q => q
  | c :: r, Q, q => tcls_at r (fun xs H2 => Q (c :: xs) H2) q
section
variable {C : Cn} {Γ : List Sl} {l : Lv} {i : Nat} {a : Addr} {d : Option Addr} {x : Exc} {K : PySem.W.Frag}
theorem xv_at {G : Addr → Prop} {hid : Hid} {os : List (Option Addr)} {σ : L2.St} {H : Hp} (Kw : OkW C G Γ hid os σ H) (h : Γ[i]? = some (.xv a d x)) (hne : x.vs ≠ []) : σ[i]? = some (some (.ref a)) ∧ ∃ dx us, d = some dx ∧ H dx = some (.xd ((C.T.fld x.c).zip us)) ∧ (C.T.fld x.c).length = us.length ∧ Reps C.T H (fun _ => False) x.vs us := by
  obtain ⟨_, h2, _, h3⟩ := Kw.sl i _ h
  refine ⟨h2, h3.elim (fun z => absurd z.2 hne) id⟩
/-- isinstance(e, C') -/
theorem evm_isXz {c : V} {cv : Value} {b : Bool} (h : Γ[i]? = some (.xv a d x)) (XC : ExcC K (C.T.addr x.c)) (k : ClsV c cv) (hk : PySem.W.kitOne K (.ref (C.T.addr x.c)) cv = some b) :
    Evm C Γ .fr (tCB (rIsX K a (.ref (C.T.addr x.c)) d) (tCons (tVar i) (tCons (tC c) tNil))) (.ok b) := fun G hid os σ H Q Kw q => by
  obtain ⟨_, h2, _, h3⟩ := Kw.sl i _ h
  rcases h3 with ⟨e, _⟩ | ⟨dx, us, e, h3, _⟩
  · exact ⟨.ref a, h2, C.T.addr x.c, c, cv, b, 0, [], rfl, XC, rfl, k, hk, .inl e, q _ H (Same.refl H) rfl⟩
  · exact ⟨.ref a, h2, C.T.addr x.c, c, cv, b, dx, _, rfl, XC, rfl, k, hk, .inr ⟨e, h3⟩, q _ H (Same.refl H) rfl⟩
theorem evm_isX {c : V} {cv : Value} {b : Bool} (h : Γ[i]? = some (.xv a d x)) (hne : x.vs ≠ []) (XC : ExcC K (C.T.addr x.c)) (k : ClsV c cv) (hk : PySem.W.kitOne K (.ref (C.T.addr x.c)) cv = some b) :
    Evm C Γ .fr (tCB (rIsX K a (.ref (C.T.addr x.c)) d) (tCons (tVar i) (tCons (tC c) tNil))) (.ok b) := evm_isXz h XC k hk
/-- isinstance(e, (C1, C2, ..)) -/
theorem evm_isXTz {cs : List V} {cvs : List Value} {b : Bool} (h : Γ[i]? = some (.xv a d x)) (XC : ExcC K (C.T.addr x.c)) (hl : cs.length ≤ 1000) (k : Paired ClsV cs cvs) (hk : PySem.W.kitAny K (.ref (C.T.addr x.c)) cvs = some b) :
    Evm C Γ .fr (tCB (rIsXT K a (.ref (C.T.addr x.c)) d) (tCons (tVar i) (tCons (tTup (tCls cs)) tNil))) (.ok b) := fun G hid os σ H Q Kw q => by
  obtain ⟨_, h2, _, h3⟩ := Kw.sl i _ h
  refine ⟨.ref a, h2, tcls_at cs _ ⟨Nat.le_of_lt (lim_size (Nat.le_trans hl (by decide))), fun p np => ?_⟩⟩
  rcases h3 with ⟨e, _⟩ | ⟨dx, us, e, h3, _⟩
  · exact ⟨C.T.addr x.c, p, cs, cvs, b, 0, [], rfl, XC, rfl, upd_same, k, hk, .inl e, q _ _ (same_new np) rfl⟩
  have h4 : upd H p (.tup cs) dx = some (.xd ((C.T.fld x.c).zip us)) := by
    rw [upd_ne (fun z => by rw [z, np] at h3; cases h3)]
    exact h3
  exact ⟨C.T.addr x.c, p, cs, cvs, b, dx, _, rfl, XC, rfl, upd_same, k, hk, .inr ⟨e, h4⟩, q _ _ (same_new np) rfl⟩
theorem evm_isXT {cs : List V} {cvs : List Value} {b : Bool} (h : Γ[i]? = some (.xv a d x)) (hne : x.vs ≠ []) (XC : ExcC K (C.T.addr x.c)) (hl : cs.length ≤ 1000) (k : Paired ClsV cs cvs) (hk : PySem.W.kitAny K (.ref (C.T.addr x.c)) cvs = some b) :
    Evm C Γ .fr (tCB (rIsXT K a (.ref (C.T.addr x.c)) d) (tCons (tVar i) (tCons (tTup (tCls cs)) tNil))) (.ok b) := evm_isXTz h XC hl k hk
end
/-! ### try .. except C as e -/
def Cn.w (C : Cn) (W : WX) : Cn := { C with W := some W }
theorem OkW.toW {C : Cn} {W : WX} {G : Addr → Prop} {Γ : List Sl} {hid : Hid} {os : List (Option Addr)} {σ : L2.St} {H : Hp} (K : OkW C G Γ hid os σ H) : OkW (C.w W) G Γ hid os σ H :=
  ⟨K.lo, K.ls, K.ext, K.dom, K.new, K.inj, fun i s h => by
    have q := K.sl i s h
    cases s <;> exact q, K.hd, K.ob⟩
/-- a try's body: what it raises it raises ahead of any change -/
def PoY {β : Type} (C : Cn) (W : WX) (G : Addr → Prop) (hid : Hid) (σ : L2.St) (H : Hp) (D : Ends) (out : β → Oc) : R (R β) → Prop
  | .ok k => PoB C G hid D out k
  | .ex x => PoX (C.w W) σ H x
  | .bad => False
def BDx {β : Type} (C : Cn) (W : WX) (Γ : List Sl) (t : TS) (m : R (R β)) (out : β → Oc) : Prop := ∀ G hid os σ H D, OkW C G Γ hid os σ H → PoY C W G hid σ H D out m → t D σ H
section
variable {C : Cn} {W : WX} {Γ : List Sl} {l : Lv} {α β : Type} [Enc α] {out : β → Oc} {te : TE} {tt : TT} {t u w : TS}
theorem bdx_end {m : R α} {k : R β} (h : Evm (C.w W) Γ l te m) (hk : BD C Γ u k out) : BDx C W Γ (tSeq (tDrop te) u) (m.bind fun _ => .ok k) out := fun G hid os σ H D Kw q => by
  refine h G hid os σ H _ Kw.toW ?_
  cases e : m with
  | bad => rw [e] at q; exact q
  | ex x => rw [e] at q; exact q
  | ok a => rw [e] at q; exact fun v H1 s1 r1 => hk G hid os σ H1 D (Kw.same s1) q
theorem bdx_assoc {t1 t2 : TS} {m : R (R β)} (h : BDx C W Γ (tSeq t1 (tSeq t2 u)) m out) : BDx C W Γ (tSeq (tSeq t1 t2) u) m out := h
def R.tryC (okc : Exc → Bool) (m : R (R β)) (ms : Exc → R β) : R β := match m with
  | .ok k => k
  | .ex x => if okc x then ms x else .bad
  | .bad => .bad
/-- on, or back -/
inductive Lr (S A : Type) where
  | nx (s : S) | rt (a : A)
def oLr {S A : Type} (es : S → List Sl) (er : A → PV) : Lr S A → Oc
  | .nx s => .nx (es s)
  | .rt a => .rt (er a)
def Lr.fin {S A β : Type} (k : S → R β) (ret : A → R β) : Lr S A → R β
  | .nx s => k s
  | .rt a => ret a
theorem bd_seqL {S A : Type} {m : R (Lr S A)} {k : S → R β} {ret : A → R β} {es : S → List Sl} {er : A → PV} (h : BD C Γ t m (oLr es er)) (hk : ∀ s, BD C (es s) u (k s) out) (hr : ∀ a, ∃ b, ret a = .ok b ∧ out b = .rt (er a)) : BD C Γ (tSeq t u) (m.bind (Lr.fin k ret)) out := fun G hid os σ H D Kw q => by
  refine h G hid os σ H _ Kw ?_
  cases e : m with
  | bad => rw [e] at q; exact q
  | ex x => rw [e] at q; exact q
  | ok s =>
    rw [e] at q
    cases s with
    | nx s =>
      intro G' os' σ' H' m' K'
      exact hk s G' hid os' σ' H' D K' (PoB.mono m' q)
    | rt a =>
      obtain ⟨b, e1, e2⟩ := hr a
      have q : PoB C G hid D out (ret a) := q
      rw [e1] at q
      have q : PoO C G hid D (out b) := q
      rw [e2] at q
      exact q
/-- the name of an except clause is gone behind it -/
def tClr (i : Nat) : TS := fun D σ H => D.nx (σ.set i none) H
end
end Pv

set_option Elab.async false
set_option linter.all false
set_option maxRecDepth 100000
namespace Pv
open PySem PySem.Spec L2
open Enc (enc)
open Encs (encs)
/-- a def that may raise, under its name -/
structure KdR (P : Program) (w : World) (K : PySem.W.Frag) (mg : Str → Option Value) (base : Heap) (x : Str) (ps : List Str) (k : Nat) (sp : Sp) : Prop where
  ex : ∃ f fd, mg x = some (.ref f) ∧ PySem.W.keepIn K (.ref f) = true ∧ Binds K fd ps [] ∧ FnOk P w K mg base (L2N.CX P w) k f fd ps sp
theorem pe_kr {X : Cx} {W : WX} {x : Str} {ps : List Str} {k : Nat} {sp : Sp} {e : Expr} {es : List Expr} {t : TA} {p pos : Pos} (h : KdR X.prog X.w X.K X.mg X.base x ps k sp) (tk : L2N.Takes X W) (hr : Room k X.A) (hg : Gl X x) (ha : PA X (e :: es) t) (hd : (x == ("__debug__" : Str)) = false := by decide)
    (he : starEach (e :: es) X.env = (false, eval e X.env) :: starEach es X.env := by rfl) (hpl : (backTo pos (starEach es X.env)).any (·.1) = false := by rfl) :
    PE X (.Call (.Name x p) (e :: es) [] pos) (tCallS sp (WE W) t) := by
  obtain ⟨f, fd, hm, hk, hb, F⟩ := h.ex
  exact pe_callS F hr hg hm hk hb (fun σ => L2N.passAt tk σ) ha hd he hpl
/-- .. where nothing is let out -/
theorem pe_krq {X : Cx} {x : Str} {ps : List Str} {k : Nat} {sp : Sp} {e : Expr} {es : List Expr} {t : TA} {p pos : Pos} (h : KdR X.prog X.w X.K X.mg X.base x ps k sp) (hr : Room k X.A) (hg : Gl X x) (ha : PA X (e :: es) t) (hd : (x == ("__debug__" : Str)) = false := by decide)
    (he : starEach (e :: es) X.env = (false, eval e X.env) :: starEach es X.env := by rfl) (hpl : (backTo pos (starEach es X.env)).any (·.1) = false := by rfl) :
    PE X (.Call (.Name x p) (e :: es) [] pos) (tCallS sp (WE fun _ _ _ _ => False) t) := pe_kr h tk0 hr hg ha hd he hpl
section
variable {C : Cn} {Γ : List Sl} {l l1 l2 : Lv} {α : Type} [Enc α] {β : Type} [Encs β] {ta : TA} {W : WX}
theorem callx_gen {m : R β} {f : β → R α} {M : RM} {P : (Addr → Prop) → List (Option Addr) → L2.St → Hp → VK → R α → Prop} (hW : C.W = some W) (ha : EvA C Γ l ta m)
    (hb : ∀ G os σ H Q, ¬ P G os σ H Q .bad) (hx : ∀ G os σ H Q x, P G os σ H Q (.ex x) → PoX C σ H x)
    (hm : ∀ G hid os σ H Q H1 a, OkW C G Γ hid os σ H → Same H H1 → P G os σ H Q (.ok a) → ∃ G' : Addr → Prop, (∀ b, G' b → H1 b ≠ none) ∧ (∀ b, G' b → av l C.H0 G os b) ∧ PoRet C.T M G' H1 Q (enc a)) :
    ∀ G hid os σ H Q, OkW C G Γ hid os σ H → (match m with | .ok b => P G os σ H Q (f b) | .ex x => PoX C σ H x | .bad => False) → tCallS (PmX C.T M f) (WE W) ta σ H Q := fun G hid os σ H Q Kw q => by
  refine ha G hid os σ H _ Kw ?_
  cases e1 : m with
  | bad => rw [e1] at q; exact q
  | ex x => rw [e1] at q; exact q
  | ok b =>
    rw [e1] at q
    intro vs H1 s1 r1
    have q : P G os σ H Q (f b) := q
    cases e2 : f b with
    | bad => rw [e2] at q; exact absurd q (hb _ _ _ _ _)
    | ex x =>
      rw [e2] at q
      have q := hx _ _ _ _ _ _ q
      unfold PoX at q
      rw [hW] at q
      exact ⟨b, fun _ => False, fun _ z => z.elim, r1.weak (fun _ z => z.elim), by rw [e2]; exact fun cls d H' s2 r => q cls d H' (s1.trans s2) r⟩
    | ok a =>
      rw [e2] at q
      obtain ⟨G', d, w, z⟩ := hm G hid os σ H Q H1 a Kw s1 q
      exact ⟨b, G', d, r1.weak w, by rw [e2]; exact z⟩
theorem evm_callXF {m : R β} {f : β → R α} (hW : C.W = some W) (ha : EvA C Γ .raw ta m) : Evm C Γ .fr (tCallS (PmX C.T (.val .fr) f) (WE W) ta) (m.bind f) := fun G hid os σ H Q Kw q => by
  refine callx_gen (M := .val .fr) (P := fun G os σ H Q r => PoV C .fr G os σ H Q r) hW ha (fun _ _ _ _ _ z => z) (fun _ _ _ _ _ x z => z) (fun G hid os σ H Q H1 a Kw s1 q => ⟨fun _ => False, fun _ z => z.elim, fun _ z => z.elim, fun v H2 s2 r => q v H2 (s1.trans s2) (r.weak fun a z => av_fr_of Kw s1 a z)⟩) G hid os σ H Q Kw ?_
  cases m with
  | bad => exact q
  | ex x => exact q
  | ok b => exact q
theorem callq_gen {m : R β} {f : β → R α} {M : RM} {P : (Addr → Prop) → List (Option Addr) → L2.St → Hp → VK → R α → Prop} (ha : EvA C Γ l ta m)
    (hb : ∀ G os σ H Q, ¬ P G os σ H Q .bad) (hx : ∀ G os σ H Q x, P G os σ H Q (.ex x) → False)
    (hm : ∀ G hid os σ H Q H1 a, OkW C G Γ hid os σ H → Same H H1 → P G os σ H Q (.ok a) → ∃ G' : Addr → Prop, (∀ b, G' b → H1 b ≠ none) ∧ (∀ b, G' b → av l C.H0 G os b) ∧ PoRet C.T M G' H1 Q (enc a)) :
    ∀ G hid os σ H Q, OkW C G Γ hid os σ H → (match m with | .ok b => P G os σ H Q (f b) | .ex x => PoX C σ H x | .bad => False) → tCallS (PmX C.T M f) (WE fun _ _ _ _ => False) ta σ H Q := fun G hid os σ H Q Kw q => by
  refine ha G hid os σ H _ Kw ?_
  cases e1 : m with
  | bad => rw [e1] at q; exact q
  | ex x => rw [e1] at q; exact q
  | ok b =>
    rw [e1] at q
    intro vs H1 s1 r1
    have q : P G os σ H Q (f b) := q
    cases e2 : f b with
    | bad => rw [e2] at q; exact absurd q (hb _ _ _ _ _)
    | ex x => rw [e2] at q; exact (hx _ _ _ _ _ _ q).elim
    | ok a =>
      rw [e2] at q
      obtain ⟨G', d, w, z⟩ := hm G hid os σ H Q H1 a Kw s1 q
      exact ⟨b, G', d, r1.weak w, by rw [e2]; exact z⟩
/-! ### calls that let nothing out, wherever -/
end
end Pv

set_option Elab.async false
set_option linter.all false
set_option maxRecDepth 100000
namespace Pv
open PySem PySem.Spec L2
open Enc (enc)
open Encs (encs)
/-! ### texts -/
def addS (x y : Str) : Option Str := optIf (x.length + y.length ≤ LIM) (x ++ y)
def atS (x : Str) (i : Int) : Option Str := (atI x.cps.toList i).map fun c => ⟨#[c]⟩
def strL (x : Str) : List Str := x.cps.toList.map fun c => ⟨#[c]⟩
def joinS (a : Str) (ys : List Str) : Option Str := optIf ((ys.map (·.length)).sum + ys.length * a.length ≤ LIM) (Txt.join a ys)
section
variable {T : CT} {x y : Str} {i : Int}
end
section
variable {C : Cn} {Γ : List Sl} {l l1 l2 : Lv} {ta tb : TE} {to to2 : TO} {K : PySem.W.Frag}
end
end Pv

set_option Elab.async false
set_option linter.all false
set_option maxRecDepth 100000
namespace Pv
open PySem PySem.Spec L2
open Enc (enc)
open Encs (encs)
section
variable {C : Cn} {Γ : List Sl} {l l1 l2 : Lv} {α β γ : Type} [Enc α] [Enc β] [Enc γ] {K : PySem.W.Frag} {wi : TI} {g : TG} {tt : TT} {te : TE} {vs : List Nat}
end
end Pv
namespace Pv
theorem bd_castB {β : Type} {C : Cn} {Γ : List Sl} {t : L2.TS} {m m' : R β} {out : β → Oc} (h : BD C Γ t m out) (e : m = m') : BD C Γ t m' out := e ▸ h
end Pv

set_option Elab.async false
set_option linter.all false
set_option maxRecDepth 100000
namespace Pv
open PySem PySem.Spec PyProof.Rows L2
/-! ### enumerate(a text) -/
def Ites (x : Str) : It := ⟨fun i _ => i < x.cps.size, fun i H v H' => ∃ T c, v = .ref T ∧ H T = none ∧ H' = upd H T (.tup [.int (i : Nat), .str ⟨#[c]⟩]) ∧ x.cps[i]? = some c, fun i _ => x.cps.size ≤ i⟩
def iEnumS (ta : TA) : TI := fun σ H R => ta σ H fun vs H1 => ∃ x, vs = [.str x] ∧ R (Ites x) H1
section
open Enc (enc)
open Encs (encs)
variable {C : Cn} {Γ : List Sl} {l : Lv} {ta : TE}
end
end Pv

set_option Elab.async false
set_option linter.all false
set_option maxRecDepth 100000
namespace Pv
open PySem PySem.Spec L2
open Enc (enc)
open Encs (encs)
/-! ### defaults and keywords -/
/-- a def, called without the parameters whose defaults are dvs -/
structure KdV (P : Program) (w : World) (K : PySem.W.Frag) (mg : Str → Option Value) (base : Heap) (CX : CXT) (x : Str) (ps : List Str) (dvs : List V) (k : Nat) (sp : Sp) : Prop where
  ex : ∃ f fd ds, mg x = some (.ref f) ∧ PySem.W.keepIn K (.ref f) = true ∧ Binds K fd ps ds ∧ Vals dvs ds ∧ FnOk P w K mg base CX k f fd ps sp
/-- a def, called with n values by position and the keywords ks behind them, in the parameters' order -/
structure KdN (P : Program) (w : World) (K : PySem.W.Frag) (mg : Str → Option Value) (base : Heap) (CX : CXT) (x : Str) (ps : List Str) (n : Nat) (ks : List Str) (k : Nat) (sp : Sp) : Prop where
  ex : ∃ f fd g, mg x = some (.ref f) ∧ PySem.W.keepIn K (.ref f) = true ∧ KBn K fd ps n ks g (fun vs zs => vs ++ zs) ∧ FnOk P w K mg base CX k f fd ps sp
section
variable {X : Cx} {W : WX} {E : XK} {x : Str} {ps ks : List Str} {dvs : List V} {n k : Nat} {sp : Sp} {e : Expr} {es : List Expr} {kws : List Keyword} {t tk : TA} {p pos : Pos}
theorem pe_kvX (h : KdV X.prog X.w X.K X.mg X.base (L2N.CX X.prog X.w) x ps dvs k sp) (hx : L2N.Takes X W) (hr : Room k X.A) (hg : Gl X x) (ha : PA X (e :: es) t) (hd : (x == ("__debug__" : Str)) = false := by decide)
    (he : starEach (e :: es) X.env = (false, eval e X.env) :: starEach es X.env := by rfl) (hpl : (backTo pos (starEach es X.env)).any (·.1) = false := by rfl) :
    PE X (.Call (.Name x p) (e :: es) [] pos) (tCallSD sp dvs (WE W) t) := by
  obtain ⟨f, fd, ds, hm, hk, hb, hv, F⟩ := h.ex
  exact pe_callSD F hr hg hm hk hb hv (fun σ => L2N.passAt hx σ) ha hd he hpl
theorem pe_knX (h : KdN X.prog X.w X.K X.mg X.base (L2N.CX X.prog X.w) x ps n ks k sp) (hx : L2N.Takes X (fun cls d _ H => E cls d H)) (hr : Room k X.A) (hg : Gl X x) (ha : PA X (e :: es) t) (hkw : PK X kws tk)
    (hall : (backToKw pos (keywordEach kws X.env)).all (·.1.isSome) = true := by rfl) (hks : (backToKw pos (keywordEach kws X.env)).filterMap (·.1) = ks := by rfl) (hdb : (x == ("__debug__" : Str)) = false := by decide)
    (he : starEach (e :: es) X.env = (false, eval e X.env) :: starEach es X.env := by rfl) (hpl : ((backTo pos (starEach (e :: es) X.env)).any (·.1) || (backToKw pos (keywordEach kws X.env)).any (·.1.isNone)) = false := by rfl) :
    PE X (.Call (.Name x p) (e :: es) kws pos) (tCallN n ks.length sp (fun vs zs => vs ++ zs) E t tk) := by
  obtain ⟨f, fd, g, hm, hk, hb, F⟩ := h.ex
  exact pe_callN F hr hg hm hk hb (L2N.passes_call hx fun _ _ _ _ h => h) ha hkw hall hks hdb he hpl
end
section
variable {C : Cn} {Γ : List Sl} {l : Lv} {α : Type} [Enc α] {β β' γ δ : Type} [Encs β] [Encs β'] [Encs γ] {ta : TA} {W : WX}
theorem eva_more {m : R β} {c : β → β'} {dps : List PV} {dvs : List V} (hc : ∀ b, encs (c b) = encs b ++ dps) (hd : ∀ H G, Reps C.T H G dps dvs) (ha : EvA C Γ l ta m) : EvA C Γ l (fun σ H Q => ta σ H fun vs H1 => Q (vs ++ dvs) H1) (m.bind fun b => .ok (c b)) := fun G hid os σ H Q Kw q => by
  refine ha G hid os σ H _ Kw ?_
  cases e : m with
  | bad => rw [e] at q; exact q
  | ex x => rw [e] at q; exact q
  | ok b =>
    rw [e] at q
    intro vs H1 s1 r1
    refine q _ H1 s1 ?_
    rw [hc]
    exact r1.app (hd _ _)
/-- arguments by position, then those by keyword -/
theorem eva_two {m : R β} {mk : R γ} {c : β → γ → β'} {tk : TA} {n k : Nat} (hn : ∀ b : β, (encs b).length = n) (hk : ∀ z : γ, (encs z).length = k) (hc : ∀ b z, encs (c b z) = encs b ++ encs z) (ha : EvA C Γ l ta m) (hz : EvA C Γ l tk mk) :
    EvA C Γ l (fun σ H Q => ta σ H fun vs H1 => tk σ H1 fun zs H2 => vs.length = n ∧ zs.length = k ∧ Q (vs ++ zs) H2) (m.bind fun b => mk.bind fun z => .ok (c b z)) := fun G hid os σ H Q Kw q => by
  refine ha G hid os σ H _ Kw ?_
  cases e : m with
  | bad => rw [e] at q; exact q
  | ex x => rw [e] at q; exact q
  | ok b =>
    rw [e] at q
    intro vs H1 s1 r1
    refine hz G hid os σ H1 _ (Kw.same s1) ?_
    cases e2 : mk with
    | bad => rw [e2] at q; exact q
    | ex x => rw [e2] at q; exact PoX.back s1 q
    | ok z =>
      rw [e2] at q
      intro zs H2 s2 r2
      refine ⟨by rw [← r1.len, hn], by rw [← r2.len, hk], q _ H2 (s1.trans s2) ?_⟩
      rw [hc]
      exact (r1.same s2).app r2
end
end Pv

set_option Elab.async false
set_option linter.all false
set_option maxRecDepth 100000
set_option maxHeartbeats 2000000
namespace Pv
open PySem PySem.Spec PyProof.Rows L2 PySem.W PySem.Calls
open Enc (enc)
open Encs (encs)
/-! ### quiet defs without inner names, called wherever (within an except suite too) -/
def cxQ (P : Program) (w : World) (K : PySem.W.Frag) (mg : Str → Option Value) (base : Heap) (N : List Str) (qual : Str) (scope : Scope) (f : Addr) (cd : Value) (A : Around) (outer : List Env) (s : Shared) (H : Hp) : Cx :=
  { cxOf CX0 P w K mg base N qual scope f cd A outer s H E0 with
    A := A.deeper (envX qual scope s.heap.objs.size f cd [])
    env := envX qual scope s.heap.objs.size f cd []
    stack := envX qual scope s.heap.objs.size f cd [] :: outer
    calm := false
    xe := fun _ _ => False }
structure PlainScope (ps : List Str) (sc : Scope) : Prop where
  kind : sc.kind = .function
  co : sc.isCoroutine = false
  gen : sc.isGenerator = false
  nd : ps.Nodup
  par : ∀ x ∈ ps, sc.names.lookup x = some .local
  nocell : ∀ y ∈ sc.names, y.2 ≠ .cell
  nofree : ∀ y ∈ sc.names, y.2 ≠ .free
structure FnQ (P : Program) (w : World) (K : PySem.W.Frag) (mg : Str → Option Value) (base : Heap) (k : Nat) (f : Addr) (fd : FuncData) (ps : List Str) (sp : Sp) : Prop where
  len : ∀ vs H Q E, sp vs H Q E → vs.length = ps.length
  run : ∀ (A : Around) (outer : List Env) (s : Shared) (H : Hp) (args : Args) (us : List Value) (vs : List V) (Q : VK), L2H.RoomH k A → Env0 P w K mg base A outer s H → BindsTo s fd args (ps.zip us) → Vals vs us → sp vs H Q E0 →
    codeAny (model P w) A (.call (.ref f) args) (CR CX0 outer P w H s Q E0) s
theorem inv_q {P : Program} {w : World} {K : PySem.W.Frag} {mg : Str → Option Value} {base : Heap} {ps : List Str} {qual : Str} {scope : Scope} {f : Addr} {cd : Value} {A : Around} {outer : List Env} {s : Shared} {h1 : Heap} {tk : Nat} {H : Hp} {us : List Value} {vs : List V}
    (S : PlainScope ps scope) (e0 : Env0 P w K mg base A outer s H) (hl : vs.length = ps.length) (r : Vals vs us) (hn : h1.Ns s.heap.objs.size (fun x => (ps.zip us).reverse.lookup x)) (hk : ∀ b o, s.heap.get? b = some o → h1.get? b = some o) :
    L2.Inv (cxQ P w K mg base ps qual scope f cd A outer s H) [] (L2.start ps vs) H { s with heap := h1, toks := tk } := by
  have noC : ∀ x c, (cxQ P w K mg base ps qual scope f cd A outer s H).env.cells.lookup x = some c → False := fun x c h => by
    have h : List.lookup x ([] : List (Str × Addr)) = some c := h
    cases h
  have noA : ∀ b : Addr, b ∉ (cxQ P w K mg base ps qual scope f cd A outer s H).ex := fun b z => absurd (show b ∈ ([] : List Addr) from z) (by simp)
  refine ⟨⟨e0.mod, S.kind, rfl, rfl, Nat.le_refl _, fun y z c h1 _ => (noC _ _ h1).elim, fun y hy => ?_, fun y c _ h => (noC _ _ h).elim, fun z => Bool.noConfusion (show false = true from z), Around.frames_deeper e0.frames, .inr ⟨rfl, rfl⟩, fun b z => absurd z (noA b), e0.bs, e0.bsz, fun b _ _ => noA b, fun b z => absurd z (noA b), e0.funs, e0.frf⟩,
    rfl, e0.bare, Un.kept hk, ⟨_, hn, fun i y v h1 h2 h3 => ?_⟩, fun y c h => (noC _ _ h).elim, e0.hok.fresh (Nat.le_refl _), fun y c h => (noC _ _ h).elim, fun p hp => absurd (show p ∈ ([] : List (Addr × Obj)) from hp) (by simp), e0.hok.kept hk, ?_⟩
  · have hy : scope.names.lookup y = some .cell ∨ scope.names.lookup y = some .free := hy
    rcases hy with hy | hy
    · exact absurd rfl (S.nocell _ (PySem.mem_of_lookup hy))
    · exact absurd rfl (S.nofree _ (PySem.mem_of_lookup hy))
  · have hi : i < vs.length := by
      have h1' : ps[i]? = some y := h1
      rw [hl]
      exact (List.getElem?_eq_some_iff.mp h1').1
    have ha : vs[i]? = some v := by
      unfold L2.start at h2
      rw [List.getElem?_append_left (by simpa using hi), List.getElem?_map] at h2
      cases e : vs[i]? with
      | none => rw [e] at h2; cases h2
      | some a => rw [e] at h2; cases h2; rfl
    obtain ⟨u, hu, rv⟩ := r.get ha
    exact ⟨u, rv, .inl ⟨S.par y (List.mem_of_getElem? h1), lookup_rev S.nd h1 hu⟩⟩
  · unfold L2.start
    show _ = ps.length
    rw [List.length_append, List.length_map, List.length_replicate]
    omega
theorem fn_q {P : Program} {w : World} {K : PySem.W.Frag} {mg : Str → Option Value} {base : Heap} {k : Nat} {f : Addr} {name qual : Str} {params : Arguments} {body : List Stmt} {scope : Scope} {dV kV doc pm cdv ct oc : Value} {an od : Option Addr} {osl : Array (Option Value)} {ps : List Str} {sp : Sp}
    (lk : K.lookup f = some ⟨oc, od, .func (PySem.W.fnOf name qual params body scope dV kV doc pm an cdv ct), osl⟩) (hcd : codeIn K cdv qual = true) (S : PlainScope ps scope) (len : ∀ vs H Q E, sp vs H Q E → vs.length = ps.length)
    (hbody : ∀ (A : Around) (outer : List Env) (s : Shared) (H : Hp) (vs : List V) (Q : VK), L2H.RoomH k (A.deeper (envX qual scope s.heap.objs.size f cdv [])) → sp vs H Q E0 →
      ∃ t, PSs (cxQ P w K mg base ps qual scope f cdv A outer s H) body t ∧ t { nx := fun _ H' => Q .non H', rt := Q } (L2.start ps vs) H) : FnQ P w K mg base (k + 1) f (PySem.W.fnOf name qual params body scope dV kV doc pm an cdv ct) ps sp := by
  refine ⟨len, fun A outer s H args us vs Q hr e0 hb r hsp => ?_⟩
  have hl := len _ _ _ _ hsp
  have KX : K.In s.heap := e0.mod.kin.keeps fun b o e => (e0.bs b o e).1
  have lim : s.heap.NoLimit := e0.mod.nolimit.keeps fun b o e => (e0.bs b o e).1
  obtain ⟨t, ht, hq⟩ := hbody A outer s H vs Q (hr.deeper _) hsp
  refine ks_codeAny_call_defAt hr.depth (KX _ _ lk) rfl lim (codeRec_of KX hcd) rfl hb S.nocell (fun y hy => S.par y.1 (List.of_mem_zip hy).1) (fun g1 hns hk => ?_) S.co S.gen S.kind
  have I := inv_q (qual := qual) (f := f) (cd := cdv) (tk := s.toks + (ps.zip us).length) S e0 hl r hns hk
  refine wpAt_of_wpAny (wpAny_mono (ht.run [] _ _ H _ I hq) (fun fl s' hs => ?_) fun e s' hs => hs.elim)
  have fin : ∀ {σ' : L2.St} {H' : Hp} {v : V} {u : Value}, L2.Inv (cxQ P w K mg base ps qual scope f cdv A outer s H) [] σ' H' s' → RelV v u → Q v H' → CE outer P w H s Q u s' :=
    fun {σ' H' v u} J rv q => ⟨v, H', J.os, J.bare, J.base, J.hok, rv, q⟩
  cases fl with
  | ret u =>
    obtain ⟨v, σ', H', J, rv, q⟩ := hs
    exact fin J rv q
  | next =>
    obtain ⟨σ', H', J, q⟩ := hs
    exact fin (v := V.non) (u := Value.none) J rfl q
  | brk =>
    obtain ⟨_, _, _, q⟩ := hs
    exact False.elim q
  | cont =>
    obtain ⟨_, _, _, q⟩ := hs
    exact False.elim q
/-- such a def under its name -/
structure KdQ (P : Program) (w : World) (K : PySem.W.Frag) (mg : Str → Option Value) (base : Heap) (x : Str) (ps : List Str) (k : Nat) (sp : Sp) : Prop where
  ex : ∃ f fd, mg x = some (.ref f) ∧ PySem.W.keepIn K (.ref f) = true ∧ Binds K fd ps [] ∧ FnQ P w K mg base k f fd ps sp
section
variable {X : Cx} {x : Str} {ps : List Str} {k : Nat} {sp : Sp} {e : Expr} {es : List Expr} {t : TA} {p pos : Pos}
theorem pe_kdq (h : KdQ X.prog X.w X.K X.mg X.base x ps k sp) (hr : L2H.RoomH k X.A) (hg : Gl X x) (ha : PA X (e :: es) t) (hd : (x == ("__debug__" : Str)) = false := by decide)
    (he : starEach (e :: es) X.env = (false, eval e X.env) :: starEach es X.env := by rfl) (hpl : (backTo pos (starEach es X.env)).any (·.1) = false := by rfl) :
    PE X (.Call (.Name x p) (e :: es) [] pos) (tCall sp [] E0 t) := by
  obtain ⟨f, fd, hm, hk, hb, F⟩ := h.ex
  refine ⟨fun pins s σ H Q I h => ?_⟩
  refine wpAny_Call_Name_kw (ld_glob I hg hm ?_ hd)
  refine PySem.W.callWith_K (h₀ := X.base) I.ok.mod.kin hk (thn (ha.run pos pins s σ H _ I h) fun us s1 ⟨vs, H1, I1, r, q⟩ => ⟨I1.kIn, ?_⟩) he hpl
  have q : sp (vs ++ []) H1 Q E0 := q
  rw [List.append_nil] at q
  have hl : us.length = ps.length := by rw [← r.length]; exact F.len _ _ _ _ q
  have b := hb s1 us I1.kIn (by rw [List.append_nil]; exact hl)
  rw [List.append_nil] at b
  refine wpAny_call (codeAny_mono (F.run X.A X.stack s1 H1 ⟨us, []⟩ us vs Q hr I1.env0 b r q) fun rr s' hq => ?_)
  cases rr with
  | error e => exact hq.elim
  | ok fl =>
    cases fl with
    | ret u => exact I1.after hq
    | next => exact False.elim hq
    | brk => exact False.elim hq
    | cont => exact False.elim hq
end

theorem fn_pmQ {P : Program} {w : World} {K : PySem.W.Frag} {mg : Str → Option Value} {base : Heap} {α β : Type} [Enc α] [Encs β] {T : CT} {M : RM} {x qual : Str} {st : Stmt} {f : Addr} {fd : FuncData} {ps : List Str} {k : Nat} {g : β → R α} (F : Fun K x qual st f fd) (S : PlainScope ps (defScope st)) (hlen : ∀ b : β, (encs b).length = ps.length)
    (hbody : ∀ (cdv : Value) (A : Around) (outer : List Env) (s : Shared) (H : Hp), L2H.RoomH k (A.deeper (envX qual (defScope st) s.heap.objs.size f cdv [])) →
      ∃ t, PSs (cxQ P w K mg base ps qual (defScope st) f cdv A outer s H) (defBody st) t ∧ ∀ b : β, BD ⟨T, H, none, M⟩ (entry ps (encs b)) t (g b) (fun a => .rt (enc a))) : FnQ P w K mg base (k + 1) f fd ps (Pm T M g) := by
  obtain ⟨oc, od, kV, doc, pm, an, cdv, ct, osl, rfl, lk, hcd⟩ := F.ex
  refine fn_q lk hcd S (fun vs H Q E h => ?_) (fun A outer s H vs Q hr h => ?_)
  · obtain ⟨b, G, _, r, _⟩ := h
    rw [← r.len, hlen]
  · obtain ⟨b, G, dom, r, q⟩ := h
    obtain ⟨t, ht, hb⟩ := hbody cdv A outer s H hr
    refine ⟨t, ht, hb b G [] _ _ H _ (okw_start dom r (by rw [hlen]; exact Nat.le_refl _)) ?_⟩
    cases e : g b with
    | bad => rw [e] at q; exact q
    | ex z => rw [e] at q; exact q
    | ok a => rw [e] at q; exact q
theorem roomH_mark {k : Nat} {A : Around} {h : Option Value} (r : Room k A) : L2H.RoomH k (A.mark h) := ⟨r.dp, r.un⟩
/-! ### the fields of a caught exception, typed -/
class FromPV (α : Type) [Enc α] where
  get : PV → Option α
  ok : ∀ p a, get p = some a → p = enc a ∧ flV p = true
instance : FromPV Int := ⟨fun p => match p with | .int i => some i | _ => none, fun p a h => by
  cases p <;> simp at h
  subst h
  exact ⟨rfl, rfl⟩⟩
instance : FromPV Str := ⟨fun p => match p with | .str i => some i | _ => none, fun p a h => by
  cases p <;> simp at h
  subst h
  exact ⟨rfl, rfl⟩⟩
section
variable {C : Cn} {Γ : List Sl} {t : TS} {β : Type} {out : β → Oc} {a1 a2 a3 : Type} [Enc a1] [FromPV a1] [Enc a2] [FromPV a2] [Enc a3] [FromPV a3]
def R.f1 (vs : List PV) (k : a1 → R β) : R β := match vs with
  | [p] => (R.of (FromPV.get p)).bind k
  | _ => .bad
def R.f2 (vs : List PV) (k : a1 → a2 → R β) : R β := match vs with
  | [p, q] => (R.of (FromPV.get p)).bind fun a => (R.of (FromPV.get q)).bind (k a)
  | _ => .bad
def R.f3 (vs : List PV) (k : a1 → a2 → a3 → R β) : R β := match vs with
  | [p, q, r] => (R.of (FromPV.get p)).bind fun a => (R.of (FromPV.get q)).bind fun b => (R.of (FromPV.get r)).bind (k a b)
  | _ => .bad
theorem bd_bad : BD C Γ t (R.bad : R β) out := fun G hid os σ H D Kw q => q.elim
theorem bd_f2 {vs : List PV} {k : a1 → a2 → R β} (h : ∀ a b, vs = [enc a, enc b] → BD C Γ t (k a b) out) : BD C Γ t (R.f2 vs k) out := by
  match vs with
  | [p, q] =>
    show BD C Γ t ((R.of (FromPV.get p)).bind fun a => (R.of (FromPV.get q)).bind (k a)) out
    cases e : (FromPV.get p : Option a1) with
    | none => exact bd_bad
    | some a =>
      obtain ⟨rfl, _⟩ := FromPV.ok p a e
      show BD C Γ t ((R.of (FromPV.get q)).bind (k a)) out
      cases e2 : (FromPV.get q : Option a2) with
      | none => exact bd_bad
      | some b =>
        obtain ⟨rfl, _⟩ := FromPV.ok q b e2
        exact h a b rfl
  | [] => exact bd_bad
  | [_] => exact bd_bad
  | _ :: _ :: _ :: _ => exact bd_bad
end
/-- a derivation whose reading is found first -/
theorem ex_t {X : Cx} {body : List Stmt} {tb : TS} (h : ∃ t, PSs X body t ∧ t = tb) : PSs X body tb := by
  obtain ⟨t, h1, h2⟩ := h
  exact h2 ▸ h1
end Pv
namespace Pv
open PySem PySem.Spec L2
end Pv
namespace Pv
open PySem PySem.Spec L2
def tTry (tb : WX → TS) (K : PySem.W.Frag) (c : Value) (i : Nat) (ts : Addr → Value → Option Addr → TS) (Wout : WX) : TS := fun D σ H => tb (wAs K c i ts Wout D) D σ H
end Pv

set_option Elab.async false
set_option linter.all false
set_option maxRecDepth 100000
namespace Pv
open PySem PySem.Spec L2
open Enc (enc)
open Encs (encs)
/-! ### what the end needs: defs with keyword-only defaults -/
theorem funD_mk {K : PySem.W.Frag} {x qual : Str} {st : Stmt} {f D : Addr} {oc doc pm cd ct : Value} {od an : Option Addr} {sl : Array (Option Value)} {kws : List (Str × V)}
    (l : K.lookup f = some ⟨oc, od, .func (PySem.W.fnOf x qual (defArgs st) (defBody st) (defScope st) .none (.ref D) doc pm an cd ct), sl⟩) (c : PySem.W.codeIn K cd qual = true) (k : PySem.W.keepIn K (.ref f) = true)
    (hk : ∀ q ∈ kws, ∃ u, PySem.W.nsIn K D q.1 = some (some u) ∧ RelV q.2 u) : FunD K x qual (defArgs st) (defBody st) (defScope st) [] kws f (PySem.W.fnOf x qual (defArgs st) (defBody st) (defScope st) .none (.ref D) doc pm an cd ct) :=
  ⟨⟨_, _, _, _, _, _, _, _, _, _, rfl, l, c, .inl ⟨rfl, rfl⟩, .inr ⟨_, rfl, hk⟩⟩, k⟩
section
variable {P : Program} {w : World} {K : PySem.W.Frag} {mg : Str → Option Value} {base : Heap} {CX : CXT} {x qual : Str} {params : Arguments} {body : List Stmt} {scope : Scope} {kws : List (Str × V)} {f : Addr} {fd : FuncData} {ps ks : List Str} {k : Nat} {sp : Sp}
theorem kdv0 (hm : mg x = some (.ref f)) (hkp : PySem.W.keepIn K (.ref f) = true) (FD : FunD K x qual params body scope [] kws f fd) (F : FnOk P w K mg base CX k f fd ps sp) (n : Nat) (hk : kws ≠ []) (hn : n + kws.length = ps.length)
    (h : ∀ (D : Addr) (doc pm : Value) (an : Option Addr) (cdv ct : Value) (us ks : List Value), us.length = n → ks.length = kws.length →
      KwChain D ((kws.map (·.1)).zip ks) (bindArgs (PySem.W.fnOf x qual params body scope .none (.ref D) doc pm an cdv ct) ⟨us, []⟩) (ps.zip (us ++ ks))) : KdV P w K mg base CX x ps (kws.map (·.2)) k sp := by
  obtain ⟨ds, hv, hb⟩ := FD.binds0 n hk hn h
  exact ⟨_, _, ds, hm, hkp, hb, hv, F⟩
theorem kdn0 (hm : mg x = some (.ref f)) (hkp : PySem.W.keepIn K (.ref f) = true) (FD : FunD K x qual params body scope [] kws f fd) (F : FnOk P w K mg base CX k f fd ps sp) (n : Nat) (hk : kws ≠ [])
    (h : ∀ (D : Addr) (doc pm : Value) (an : Option Addr) (cdv ct : Value) (us mv ws : List Value), us.length = n → mv.length = ([] : List (Str × V)).length → ws.length = ks.length →
      KwChain D ((([] : List (Str × V)).map (·.1)).zip mv) (bindArgs (PySem.W.fnOf x qual params body scope .none (.ref D) doc pm an cdv ct) ⟨us, ks.zip ws⟩) (ps.zip (us ++ ws))) : KdN P w K mg base CX x ps n ks k sp := by
  obtain ⟨mv, hb⟩ := FD.kbinds0 n ks [] (fun {α} (us mv ws : List α) => us ++ ws) hk (fun q hq => by cases hq) (fun r1 _ r3 => r1.append r3) h
  exact ⟨_, _, _, hm, hkp, hb, F⟩
end
/-! ### the text that an own exception hands up -/
theorem sup_text {v : V} {us : List V} {H : Hp} {Q : List V → Hp → Prop} {ts : List TE} (hl : ts.length ≤ 40) (hp : ∀ t, t ∈ ts → Prt ((v :: us).map some) t) (q : ∀ y : Str, Q [.str y] H) :
    tCons (fun σ H Q => tJs ts Str.empty σ H fun out H1 => Q (.str out) H1) tNil ((v :: us).map some) H Q := by
  refine prt_js ts Str.empty H _ hp ?_ fun y => ?_
  · show 0 + _ ≤ _
    omega
  · exact q y
theorem prt_at {v : V} {us : List V} {i : Nat} (hp : ∀ u, u ∈ us → PrV u) (hi : i < us.length) : Prt ((v :: us).map some) (tFmt (tVar (i + 1))) := by
  refine prt_f (v := us[i]) ?_ (hp _ (List.getElem_mem hi))
  rw [List.map_cons, List.getElem?_cons_succ, List.getElem?_map, List.getElem?_eq_getElem hi]
  rfl
end Pv

set_option Elab.async false
set_option linter.all false
set_option maxRecDepth 100000
namespace Pv
open PySem PySem.Spec L2
open Enc (enc)
open Encs (encs)
/-! ### words: texts by their codes -/
abbrev ch (c : Nat) : Str := ⟨#[c]⟩
abbrev cps (x : Str) : List Nat := x.cps.toList
theorem ch_inj {a b : Nat} : ch a = ch b ↔ a = b := ⟨fun h => by
  have := congrArg (fun x : Str => x.cps.toList) h
  simpa using this, fun h => by rw [h]⟩
theorem ch_dec (a b : Nat) : decide (ch a = ch b) = (a == b) := by
  rw [Bool.eq_iff_iff, decide_eq_true_iff, ch_inj, beq_iff_eq]
theorem ofM : PySem.Str.ofString "M" = ch 77 := by decide +kernel
instance : EqD Str := ⟨fun a b => by
  show (a == b) = true ↔ a = b
  rw [beq_iff_eq]⟩
/-- a letter -/
def okL (c : Nat) : Bool := c == 77 || c == 84
/-! ### the first wrong letter -/
/-- the number of the letters ahead of the first wrong one -/
def firstBad : List Nat → Option Nat
  | [] => none
  | c :: cs => if okL c then (firstBad cs).map (· + 1) else some 0
def raiseAt (c k : Nat) : Option Nat → R Unit
  | none => .ok ()
  | some i => R.raise c [enc (((k + i : Nat) : Int))]
end Pv

set_option Elab.async false
set_option linter.all false
set_option maxRecDepth 100000
namespace Pv
open PySem PySem.Spec L2
open Enc (enc)
open Encs (encs)
/-! ### values of unknown sort: PV itself, and tuples of unknown places -/
structure TpD where
  t : List PV
instance : Enc TpD := ⟨fun x => .tup x.t⟩
/-- what a plain value may be read as -/
class Dec (α : Type) [Enc α] where
  dec : PV → Option α
  ok : ∀ p a, dec p = some a → p = enc a
def decL {α : Type} [Enc α] [Dec α] : List PV → Option (List α)
  | [] => some []
  | p :: ps => (Dec.dec p).bind fun a => (decL ps).map fun as => a :: as
theorem decL_ok {α : Type} [Enc α] [Dec α] : ∀ (ps : List PV) (xs : List α), decL ps = some xs → ps = xs.map enc
  | [], xs, h => by cases h; rfl
  | p :: ps, xs, h => by
    unfold decL at h
    obtain ⟨a, h1, h2⟩ := Option.bind_eq_some_iff.mp h
    obtain ⟨as, h3, rfl⟩ := Option.map_eq_some_iff.mp h2
    rw [Dec.ok p a h1, decL_ok ps as h3, List.map_cons]
instance : Dec PV := ⟨some, fun p a h => by cases h; rfl⟩
instance : Dec Int := ⟨fun p => match p with | .int i => some i | _ => none, fun p a h => by cases p <;> simp at h; subst h; rfl⟩
instance : Dec Bool := ⟨fun p => match p with | .bl i => some i | _ => none, fun p a h => by cases p <;> simp at h; subst h; rfl⟩
instance : Dec Str := ⟨fun p => match p with | .str i => some i | _ => none, fun p a h => by cases p <;> simp at h; subst h; rfl⟩
instance : Dec Unit := ⟨fun p => match p with | .non => some () | _ => none, fun p a h => by cases p <;> simp at h; rfl⟩
instance {α : Type} [Enc α] [Dec α] : Dec (List α) := ⟨fun p => match p with | .lst xs => decL xs | _ => none, fun p a h => by
  cases p <;> simp at h
  rw [decL_ok _ _ h]
  rfl⟩
instance : Dec TpD := ⟨fun p => match p with | .tup xs => some ⟨xs⟩ | _ => none, fun p a h => by cases p <;> simp at h; subst h; rfl⟩
class Decs (α : Type) [Encs α] where
  decs : List PV → Option α
  ok : ∀ p a, decs p = some a → p = encs a
instance : Decs Unit := ⟨fun p => match p with | [] => some () | _ => none, fun p a h => by cases p <;> simp at h; rfl⟩
instance {α β : Type} [Enc α] [Dec α] [Encs β] [Decs β] : Decs (α × β) := ⟨fun p => match p with | x :: xs => (Dec.dec x).bind fun a => (Decs.decs xs).map fun b => (a, b) | [] => none, fun p a h => by
  cases p with
  | nil => simp at h
  | cons x xs =>
    obtain ⟨u, h1, h2⟩ := Option.bind_eq_some_iff.mp h
    obtain ⟨b, h3, rfl⟩ := Option.map_eq_some_iff.mp h2
    rw [Dec.ok x u h1, Decs.ok xs b h3]
    rfl⟩
instance {α : Type} [Encs α] [Decs α] : Dec (Tp α) := ⟨fun p => match p with | .tup xs => (Decs.decs xs).map Tp.mk | _ => none, fun p a h => by
  cases p <;> simp at h
  obtain ⟨b, h3, rfl⟩ := h
  rw [Decs.ok _ b h3]
  rfl⟩
section
variable {C : Cn} {Γ : List Sl} {l l1 l2 : Lv} {α β γ : Type} [Enc α] [Enc β] [Enc γ] {ta tb tc te t : TE} {K : PySem.W.Frag} {T : CT}
/-- read in another sort that shows it alike -/
theorem evm_co {m : R α} {f : α → β} (ha : Evm C Γ l t m) (h : ∀ a, enc (f a) = enc a) : Evm C Γ l t (m.bind fun a => .ok (f a)) := fun G hid os σ H Q Kw q => by
  refine ha G hid os σ H _ Kw ?_
  cases e1 : m with
  | bad => rw [e1] at q; exact q
  | ex x => rw [e1] at q; exact q
  | ok a =>
    rw [e1] at q
    intro v H1 s1 r1
    refine q v H1 s1 ?_
    rw [h a]
    exact r1
theorem compR_idF {α : Type} (p : α → Bool) (xs : List α) : compR (fun a => R.ok (p a)) (fun a => R.ok a) xs = R.ok ((xs.filter p).map fun a => a) := compR_filter p (fun a => a) xs
theorem compR_id {α : Type} (xs : List α) : compR (fun _ => R.ok true) (fun a => R.ok a) xs = R.ok (xs.map fun a => a) := compR_map (fun a => a) xs
/-! ### == of values of unknown sort -/
def eqQ (p q : PV) : Option Bool := optIf (okD p = true ∧ okD q = true ∧ dep p ≤ 64 ∧ dep q ≤ 64) (eqP p q)
theorem rv_neQ {a : α} {b : β} : RvF T (rNeD K) a b ((eqQ (enc a) (enc b)).map (!·)) := fun H x y Q c hx hy e q => by
  unfold eqQ optIf at e
  split at e
  · rename_i h
    cases e
    exact ⟨_, _, dp_of _ _ h.1 hx, dp_of _ _ h.2.1 hy, shaped_of h.1 h.2.2.1 hx, shaped_of h.2.1 h.2.2.2 hy, q _ rfl⟩
  · cases e
def inQ (p : PV) (zs : List PV) : Option Bool := optIf (okD p = true ∧ okDs zs = true ∧ dep p ≤ 64 ∧ deps zs + 1 ≤ 64) (zs.any fun z => eqP z p)
/-! ### is None -/
def rIsNo : R2 := fun x y H Q => y = .non ∧ Q (.bl (decide (x = .non))) H
def rNotNo : R2 := fun x y H Q => y = .non ∧ Q (.bl (!decide (x = .non))) H
def nonP : PV → Bool
  | .non => true
  | _ => false
/-! ### isinstance of a value of unknown sort -/
def tyP : PV → Option String
  | .non => some "NoneType"
  | .bl _ => some "bool"
  | .int _ => some "int"
  | .str _ => some "str"
  | .lst _ => some "list"
  | .tup _ => some "tuple"
  | _ => none
def isD (p : PV) (c : String) : Option Bool := (tyP p).bind fun s => kitB s c
/-! ### tuples of unknown places -/
end
end Pv

set_option Elab.async false
set_option linter.all false
set_option maxRecDepth 100000
set_option maxHeartbeats 2000000
namespace Pv
open PySem PySem.Spec PyProof.Rows L2
/-! ### several except clauses, some with a name -/
abbrev Cls1 := Value × Option Nat × (Addr → Value → Option Addr → TS)
def endsAs (D : Ends) : Option Nat → Ends
  | none => D
  | some i => { nx := fun τ G => D.nx (τ.set i none) G, rt := D.rt, bk := fun τ G => D.bk (τ.set i none) G, ct := fun τ G => D.ct (τ.set i none) G }
def slotAs (σ : L2.St) (a : Addr) : Option Nat → L2.St
  | none => σ
  | some i => σ.set i (some (.ref a))
/-- what the clauses wish of an exception, the first one first -/
def wMix (K : PySem.W.Frag) (Wout : WX) (D : Ends) : List Cls1 → WX
  | [] => Wout
  | (c, o, ts) :: r => fun cls d σ H => ∃ b, PySem.W.exmOne K cls c = some b ∧ (b = true → ∀ a, H a = none → ts a cls d (endsAs D o) (slotAs σ a o) H) ∧ (b = false → wMix K Wout D r cls d σ H)
inductive MixOk (X : Cx) : List ExceptHandler → List Cls1 → Prop
  | nil : MixOk X [] []
  | bare {x : Str} {c : Value} {ts : Addr → Value → Option Addr → TS} {b₀ : Stmt} {su : List Stmt} {np p2 : Pos} {hds : List ExceptHandler} {l : List Cls1} (hc : Names X x c)
      (hsu : ∀ (a : Addr) (oe : Obj) (cls : Value) (d : Option Addr) (pn : List (Addr × Obj)), L2N.Zn cls d oe → (∃ fs, oe.data = .fields fs) → PSs (X.suite a ((a, oe) :: pn)) (b₀ :: su) (ts a cls d)) (r : MixOk X hds l) : MixOk X (.ExceptHandler (some (.Name x np)) none (b₀ :: su) p2 :: hds) ((c, none, ts) :: l)
  | named {x n : Str} {c : Value} {i : Nat} {ts : Addr → Value → Option Addr → TS} {b₀ : Stmt} {su : List Stmt} {np p2 : Pos} {hds : List ExceptHandler} {l : List Cls1} (hi : X.N[i]? = some n) (hln : X.env.kindOf n = some .local) (hc : Names X x c)
      (hsu : ∀ (a : Addr) (oe : Obj) (cls : Value) (d : Option Addr) (pn : List (Addr × Obj)), L2N.Zn cls d oe → (∃ fs, oe.data = .fields fs) → PSs (X.suite a ((a, oe) :: pn)) (b₀ :: su) (ts a cls d)) (r : MixOk X hds l) : MixOk X (.ExceptHandler (some (.Name x np)) (some n) (b₀ :: su) p2 :: hds) ((c, some i, ts) :: l)
def tTryM (tb : WX → TS) (K : PySem.W.Frag) (l : List Cls1) (Wout : WX) : TS := fun D σ H => tb (wMix K Wout D l) D σ H
theorem ps_tryM {X : Cx} {body : List Stmt} {h1 : ExceptHandler} {hds : List ExceptHandler} {l : List Cls1} {pos : Pos} {tb : WX → TS} {Wout : WX} (hN : X.N.Nodup) (hs : X.stack = X.env :: X.outer) (hf : X.env.frame = some X.env.locals) (tk : L2N.Takes X Wout) (hh : MixOk X (h1 :: hds) l)
    (hb : ∀ (W : WX) (pn : List (Addr × Obj)) (xe : Value → Shared → Prop), L2N.Takes (X.tr pn xe) W → PassesOwn (model X.prog X.w) X.A X.env xe → PSs (X.tr pn xe) body (tb W)) : PS X (.Try body (h1 :: hds) [] [] pos) (tTryM tb X.K l Wout) := by
  refine ⟨fun pins s σ H D I h => ?_⟩
  have okX := I.ok
  have hfr := okX.frames.trans (congrArg some hs)
  refine wpAny_Try_except (wpAny_mono ((hb (wMix X.K Wout D l) (X.pn ++ pins) (fun e s₁ => wpAny (model X.prog X.w) X.A (noteFrame e X.env) (fun _ s₂ => wpAny (model X.prog X.w) X.A (setFlight e none) (fun _ s₃ => wpAny (model X.prog X.w) X.A (handleBy e X.env (h1 :: hds)) (SP X pins D) X.xe s₃) X.xe s₂) X.xe s₁)
    (fun u z xx => ?_) PassesOwn.looking).run [] s σ H D (I.toTry _) h) (fun f s1 hsp => ?_) fun e s1 he => he)
  · obtain ⟨a, B, sI, pn2, τ, G, cls, d, rfl, Jt, nb, up, sky, na, os, ag, w⟩ := xx
    have J : Inv X pins τ G sI := Jt.ofTry okX
    rw [hs] at sky
    show wpAny (model X.prog X.w) X.A (noteFrame (.ref a) X.env) _ _ _
    refine L2N.Sky.land L2N.Zn.steady hfr hf sky fun h3 fl3 up3 => ?_
    have J3 : Inv X pins τ G { z with heap := h3 } := J.landed nb fl3.1 (up.trans up3) os ag
    obtain ⟨oe3, vs3, he3, hz3, hd3⟩ := fl3.there
    have nfr : a ∉ frs (X.env :: X.outer) := fun hm => by
      obtain ⟨_, o2, e2, hnf⟩ := fl3.2.2.1.mem hm
      cases he3.symm.trans e2
      exact hnf _ hd3
    have nL : a ≠ X.env.locals := fun y => nfr (List.mem_filterMap.mpr ⟨X.env, List.mem_cons_self, hf.trans (congrArg some y.symm)⟩)
    have nF : a ∉ X.fs := fun hm => by
      obtain ⟨e, h5, h6⟩ := List.mem_filterMap.mp hm
      exact nfr (List.mem_filterMap.mpr ⟨e, List.mem_cons_of_mem _ h5, h6⟩)
    have S3 := J3.suite he3 hd3 na nL nF
    have named : ∀ {x : Str} {np : Pos} {c : Value} {Q E : Value → Shared → Prop}, Names X x c → Q c { z with heap := h3 } → wpAny (model X.prog X.w) (X.A.mark (some (.ref a))) (eval (.Name x np) X.env) Q E { z with heap := h3 } := fun hc q => by
      obtain ⟨hg, hdb, hm | ⟨hm, hv, hnn⟩⟩ := hc
      · exact ld_glob (X := X.suite a ((a, oe3) :: (X.pn ++ pins))) S3 hg hm q hdb
      · exact ld_blt (X := X.suite a ((a, oe3) :: (X.pn ++ pins))) S3 hg hm hv q hnn hdb
    have LT : PySem.W.Looks (model X.prog X.w) h3 (typeOf (.ref a)) cls := fun A2 Q E y k q => wpAny_typeOf_ref (k _ _ he3) (hz3.1.symm ▸ q)
    have go : ∀ {hds2 : List ExceptHandler} {l2 : List Cls1}, MixOk X hds2 l2 → wMix X.K Wout D l2 cls d τ G → wpAny (model X.prog X.w) X.A (handleBy (.ref a) X.env hds2) (SP X pins D) X.xe { z with heap := h3 } := fun {hds2 l2} hk => by
      induction hk with
      | nil =>
        intro w
        obtain ⟨k1, k2, k3, oe, fs, T, oT, t2, he, hz, hd, h8, hr⟩ := id fl3
        refine wpAny_handleBy_nil ?_
        unfold PySem.passOn
        refine wpAny_bind (wpAny_field he hd h8 ?_)
        rw [if_neg (show ¬ ((Value.ref T == Value.none) = true) by simp)]
        have last : wpAny (model X.prog X.w) X.A (setFlight (.ref a) X.env.frame) (fun _ s4 => wpAny (model X.prog X.w) X.A (throw (.ref a) : Sem Flow) (SP X pins D) X.xe s4) X.xe { z with heap := h3 } := by
          rw [hf]
          exact HandSPX.setFlight_upZ fl3 fun h4 hh4 up4 => wpAny_throw (tk _ _ ⟨a, B, sI, pins, τ, G, cls, d, rfl, J, nb, (up.trans up3).trans up4, .inr (.inr (hs.symm ▸ hh4)), na, os, ag, w⟩)
        first | exact wpAny_bind (wpAny_pure (wpAny_bind last)) | exact wpAny_bind last
      | @bare x c ts b₀ su np p2 hds3 l3 hc hsu r ih =>
        rintro ⟨b, hb1, hy, hn⟩
        refine wpAny_handleBy_cons (codeAny_handlers_test (named hc ((PySem.W.exm_one (M := model X.prog X.w) J3.kIn LT hb1).here ?_))) (fun q => by cases q)
        cases b with
        | false => exact ih (hn rfl)
        | true =>
          refine codeAny_handlers_suite (HandSPX.lands_againZ fl3 fun h4 fl4 up4 => ?_)
          obtain ⟨oe4, vs4, he4, hz4, hd4⟩ := fl4.there
          have J4 : Inv X pins τ G { z with heap := h4 } := J.landed nb fl4.1 ((up.trans up3).trans up4) os ag
          have S4 := J4.suite he4 hd4 na nL nF
          refine wpAny_mono ((hsu a oe4 cls d (X.pn ++ pins) hz4 ⟨_, hd4⟩).run [] _ _ G _ S4 (hy rfl a na)) (fun f s6 hsp => ?_) fun _ _ y => y.elim
          cases f with
          | ret u => obtain ⟨v, σ6, H6, S6, r6, q6⟩ := hsp; exact ⟨v, σ6, H6, S6.unsuite okX, r6, q6⟩
          | next => obtain ⟨σ6, H6, S6, q6⟩ := hsp; exact ⟨σ6, H6, S6.unsuite okX, q6⟩
          | brk => obtain ⟨σ6, H6, S6, q6⟩ := hsp; exact ⟨σ6, H6, S6.unsuite okX, q6⟩
          | cont => obtain ⟨σ6, H6, S6, q6⟩ := hsp; exact ⟨σ6, H6, S6.unsuite okX, q6⟩
      | @named x n c i ts b₀ su np p2 hds3 l3 hi hln hc hsu r ih =>
        rintro ⟨b, hb1, hy, hn⟩
        refine wpAny_handleBy_cons (codeAny_handlers_test (named hc ((PySem.W.exm_one (M := model X.prog X.w) J3.kIn LT hb1).here ?_))) (fun q => by cases q)
        cases b with
        | false => exact ih (hn rfl)
        | true =>
          refine codeAny_handlers_suite_as (HandSPX.lands_againZ fl3 fun h4 fl4 up4 => ?_)
          obtain ⟨oe4, vs4, he4, hz4, hd4⟩ := fl4.there
          have J4 : Inv X pins τ G { z with heap := h4 } := J.landed nb fl4.1 ((up.trans up3).trans up4) os ag
          have S4 := J4.suite he4 hd4 na nL nF
          refine store_ok (X := X.suite a ((a, oe4) :: (X.pn ++ pins))) (v := .ref a) S4 hN hi (.inl hln) rfl (fun s5 S5 => ?_) (.inr hln)
          refine wpAny_mono ((hsu a oe4 cls d (X.pn ++ pins) hz4 ⟨_, hd4⟩).run [] s5 _ G _ S5 (hy rfl a na)) (fun f s6 hsp => ?_) fun _ _ y => y.elim
          cases f with
          | ret u => obtain ⟨v, σ6, H6, S6, r6, q6⟩ := hsp; exact gone_ok (S6.unsuite okX) hN hi hln fun s7 J7 => ⟨_, _, _, J7, r6, q6⟩
          | next => obtain ⟨σ6, H6, S6, q6⟩ := hsp; exact gone_ok (S6.unsuite okX) hN hi hln fun s7 J7 => ⟨_, _, J7, q6⟩
          | brk => obtain ⟨σ6, H6, S6, q6⟩ := hsp; exact gone_ok (S6.unsuite okX) hN hi hln fun s7 J7 => ⟨_, _, J7, q6⟩
          | cont => obtain ⟨σ6, H6, S6, q6⟩ := hsp; exact gone_ok (S6.unsuite okX) hN hi hln fun s7 J7 => ⟨_, _, J7, q6⟩
    exact go hh w
  · cases f with
    | ret u => obtain ⟨v, τ, G, J, r, q⟩ := hsp; exact ⟨v, τ, G, J.ofTry okX, r, q⟩
    | next => obtain ⟨τ, G, J, q⟩ := hsp; exact wpAny_execs_nil ⟨τ, G, J.ofTry okX, q⟩
    | brk => obtain ⟨τ, G, J, q⟩ := hsp; exact ⟨τ, G, J.ofTry okX, q⟩
    | cont => obtain ⟨τ, G, J, q⟩ := hsp; exact ⟨τ, G, J.ofTry okX, q⟩
/-! ### the mirror -/
/-- how the clauses l answer the exception x: by mx -/
inductive MixB {β : Type} (C : Cn) (Γ : List Sl) (out : β → Oc) (K : PySem.W.Frag) (x : Exc) (mx : R β) : List Cls1 → Prop
  | named {c : Value} {i : Nat} {ts : Addr → Value → Option Addr → TS} {r : List Cls1} (e : PySem.W.exmOne K (.ref (C.T.addr x.c)) c = some true) (hi : i < Γ.length)
      (h : ∀ a d, BD C (Γ.set i (.xv a d x)) (tSeq (ts a (.ref (C.T.addr x.c)) d) (tSeq (tClr i) tNext)) mx out) : MixB C Γ out K x mx ((c, some i, ts) :: r)
  | bare {c : Value} {ts : Addr → Value → Option Addr → TS} {r : List Cls1} (e : PySem.W.exmOne K (.ref (C.T.addr x.c)) c = some true) (h : ∀ a d, BD C Γ (tSeq (ts a (.ref (C.T.addr x.c)) d) tNext) mx out) : MixB C Γ out K x mx ((c, none, ts) :: r)
  | no {c : Value} {o : Option Nat} {ts : Addr → Value → Option Addr → TS} {r : List Cls1} (e : PySem.W.exmOne K (.ref (C.T.addr x.c)) c = some false) (h : MixB C Γ out K x mx r) : MixB C Γ out K x mx ((c, o, ts) :: r)
theorem bd_tryM {β : Type} {C : Cn} {Γ : List Sl} {out : β → Oc} {m : R (R β)} {ms : Exc → R β} {okc : Exc → Bool} {tb : WX → TS} {l : List Cls1} {Wout : WX} {K : PySem.W.Frag}
    (ho : ∀ b, (∃ Γ', out b = .nx Γ') ∨ ∃ p, out b = .rt p) (hv : ∀ x, okc x = true → x.vs.all flV = true) (hx : ∀ x, okc x = true → MixB C Γ out K x (ms x) l) (hb : ∀ W, BDx C W Γ (tSeq (tb W) tNext) m out) :
    BD C Γ (tTryM tb K l Wout) (R.tryC okc m ms) out := fun G hid os σ H D Kw q => by
  refine hb _ G hid os σ H D Kw ?_
  cases e : m with
  | bad => rw [e] at q; exact q
  | ok k => rw [e] at q; exact q
  | ex x =>
    rw [e] at q
    have q : PoB C G hid D out (if okc x then ms x else .bad) := q
    cases hok : okc x with
    | false => rw [hok] at q; exact q.elim
    | true =>
      rw [hok] at q
      have q : PoB C G hid D out (ms x) := q
      intro cls d H2 s1 r
      obtain ⟨rfl, r0⟩ := r
      have K1 := Kw.same s1
      have hv := hv x hok
      have h0 := hx x hok
      clear hx hb
      have r : (d = none ∧ x.vs = []) ∨ ∃ dx us, d = some dx ∧ H2 dx = some (.xd ((C.T.fld x.c).zip us)) ∧ (C.T.fld x.c).length = us.length ∧ Reps C.T H2 (fun _ => False) x.vs us := r0
      clear r0
      show wMix K Wout D l (.ref (C.T.addr x.c)) d σ H2
      generalize ms x = mx at q h0
      clear e hok
      induction h0 with
      | no e3 h ih => exact ⟨false, e3, (fun y => nomatch y), fun _ => ih⟩
      | bare e3 h => exact ⟨true, e3, fun _ a na => h a d G hid _ _ H2 D K1 q, fun y => nomatch y⟩
      | @named c i ts r2 e3 hi h =>
        refine ⟨true, e3, fun _ a na => ?_, fun y => nomatch y⟩
        have K2 := K1.clear i hi (some (.ref a))
        have K3 : OkW C G (Γ.set i (.xv a d x)) hid (os.set i none) (σ.set i (some (.ref a))) H2 := ⟨by simp [K1.lo], by simp [K1.ls], K2.ext, K2.dom, K2.new, K2.inj, fun j s h4 => by
          by_cases ej : i = j
          · subst ej
            rw [List.getElem?_set_self hi] at h4
            cases h4
            exact ⟨by rw [List.getElem?_set_self (by rw [K1.lo]; exact hi)], by rw [List.getElem?_set_self (by rw [K1.ls]; exact hi)], hv, r⟩
          · refine K2.sl j s ?_
            rw [List.getElem?_set_ne ej] at h4 ⊢
            exact h4, K2.hd, K1.ob.slot (s := .xv a d x) trivial (fun a o g _ z _ => ⟨z, g⟩) fun a us z => z⟩
        refine h a d G hid _ _ H2 { nx := D.nx, rt := D.rt, bk := fun τ G => D.bk (τ.set i none) G, ct := fun τ G => D.ct (τ.set i none) G } K3 ?_
        cases em : mx with
        | bad => rw [em] at q; exact q
        | ex z => rw [em] at q; exact q
        | ok b =>
          rw [em] at q
          have q : PoO C G hid D (out b) := q
          show PoO C G hid _ (out b)
          rcases ho b with ⟨Γ', e⟩ | ⟨p, e⟩
          · rw [e] at q ⊢
            exact q
          · rw [e] at q ⊢
            exact q
end Pv

set_option Elab.async false
set_option linter.all false
set_option maxRecDepth 100000
set_option maxHeartbeats 2000000
namespace Pv
open PySem PySem.Spec PyProof.Rows L2 PySem.W PySem.Calls
/-! ### super().__init__(..) where the class above has its own __init__ -/
/-- as SupFacts, the method above being the def at fb -/
structure SupFactsF (P : Program) (K : PySem.W.Frag) (mg : Str → Option Value) (scope : Scope) (params : Arguments) (cda cc C D fb : Addr) (x0 : Str) : Prop where
  hp : ∃ ar, (params.posonlyargs ++ params.args).head? = some ar ∧ ar.arg = x0
  code : ∃ ccl cdd ccs vs file tf, K.lookup cda = some ⟨ccl, cdd, .fields vs, ccs⟩ ∧ vs[2]? = some (.str file tf) ∧ ((P.main.file : Str) == file) = true
  cell : ∃ cl cld csl, K.lookup cc = some ⟨cl, cld, .cell (some (.ref D)), csl⟩
  clsD : ∃ cdD, clsIn K D = some cdD
  sub : mroIn K C (.ref D) = some true
  noSuper : mg "super" = none
  hks : scope.names.lookup ("super" : Str) = some .globalImplicit
  hkc : scope.names.lookup ("__class__" : Str) = some .free
  top : (P.main.scope.names.lookup ("super" : Str)).isSome = false
  opq : nsIn K cStatics "thirdparty.any" = some none
  up : ks_superIn K C D "__init__" = some (some (.ref fb))
  ty : typeIn K (.ref fb) = some (.type "function")
  fn : fnIn K fb = true
section
variable {CX : CXT} {P : Program} {w : World} {K : PySem.W.Frag} {mg : Str → Option Value} {base : Heap} {ps psb : List Str} {name qual : Str} {scope : Scope} {params : Arguments} {fbody body : List Stmt} {dV kV doc pm ct oc : Value} {an od : Option Addr} {osl : Array (Option Value)} {f fb cda cc C D : Addr} {fdb : FuncData} {kb : Nat} {spb : Sp} {A : Around} {outer : List Env} {s0 : Shared} {H0 : Hp} {E : XK}
end
end Pv
namespace Pv
open PySem PySem.Spec L2
open Enc (enc)
open Encs (encs)
/-! ### a target of several names; a range walked from its end -/
section
variable {C : Cn} {Γ : List Sl} {l l2 : Lv} {α β : Type} [Enc α] {te t : TE} {u : TS} {out : β → Oc} {g : TG} {vs : List Nat} {fg : List Sl → α → List Sl}
theorem bd_tgt {m : R α} {k : α → R β} (h : Evm C Γ l te m) (hg : TgB (α := α) C l g vs fg) (hvs : ∀ j ∈ vs, Γ[j]? = some .un) (hk : ∀ a, BD C (fg Γ a) u (k a) out) : BD C Γ (tSeq (tAsg te g) u) (m.bind k) out := fun G hid os σ H D Kw q => by
  refine h G hid os σ H _ Kw ?_
  rcases ex_cases q with ⟨a, e, q⟩ | ⟨x, e, q⟩ <;> rw [e]
  · intro v H1 s1 r1
    exact hg G hid os σ H1 _ v a Γ (Kw.same s1) (fun j hj => Kw.sl j _ (hvs j hj)) r1 fun os' σ' K' _ _ => hk a G hid os' σ' H1 D K' q
  · exact pox_of Kw q
end
end Pv
namespace Pv
open PySem PySem.Spec L2
open Enc (enc)
open Encs (encs)
/-! ### e.f in an except suite, whatever the class of e -/
def tXfU (K : PySem.W.Frag) (a : Addr) (cls : Value) (d : Option Addr) (f : Str) (te : TE) : TE := fun σ H Q => te σ H fun x H1 => x = .ref a ∧ ∃ (C dd : Addr) (fs : List (Str × V)) (v : V), cls = .ref C ∧ XfC K C ∧ PySem.W.findIn K (.ref C) f = some none ∧ d = some dd ∧ H1 dd = some (.xd fs) ∧ fs.lookup f = some v ∧ Q v H1
theorem pe_mono {X : Cx} {e : Expr} {t t' : TE} (h : PE X e t) (m : ∀ σ H Q, t' σ H Q → t σ H Q) : PE X e t' := ⟨fun pins s σ H Q I q => h.run pins s σ H Q I (m σ H Q q)⟩
theorem pe_xfU {X : Cx} {a : Addr} {i : Nat} {oe : Obj} {cls : Value} {d : Option Addr} {pn : List (Addr × Obj)} {e : Expr} {pos : Pos} {n : Str}
    (hz : Zc cls d oe) (hf : ∃ vs, oe.data = .fields vs) (he : PE (X.suite a ((a, oe) :: pn)) e (tVar i)) (hb : attributeBase e n X.env (eval e X.env) = eval e X.env := by rfl) :
    PE (X.suite a ((a, oe) :: pn)) (.Attribute e n pos) (tXfU X.K a cls d n (tVar i)) := by
  by_cases hC : ∃ C, cls = .ref C ∧ XfC X.K C ∧ PySem.W.findIn X.K (.ref C) n = some none
  · obtain ⟨C, rfl, T, hno⟩ := hC
    refine pe_mono (pe_xf T hno hz hf he hb) fun σ H Q q => ?_
    obtain ⟨x, h1, e1, C', dd, fs, v, e2, _, _, e3, e4, e5, q⟩ := q
    cases e2
    exact ⟨x, h1, e1, rfl, dd, fs, v, e3, e4, e5, q⟩
  · refine ⟨fun pins s σ H Q I h => ?_⟩
    obtain ⟨x, h1, e1, C', dd, fs, v, e2, e3, e4, _⟩ := h
    exact absurd ⟨C', e2, e3, e4⟩ hC
section
variable {C : Cn} {Γ : List Sl} {i : Nat} {a : Addr} {d : Option Addr} {x : Exc} {K : PySem.W.Frag}
theorem evm_xfU {α : Type} [Enc α] {f : Str} {v : α} {j : Nat} (h : Γ[i]? = some (.xv a d x)) (hne : x.vs ≠ []) (nd : (C.T.fld x.c).Nodup) (hf : (C.T.fld x.c)[j]? = some f) (hv : x.vs[j]? = some (enc v)) (fl : flV (enc v) = true) (T : XfC K (C.T.addr x.c)) (hno : PySem.W.findIn K (.ref (C.T.addr x.c)) f = some none) :
    Evm C Γ .fr (tXfU K a (.ref (C.T.addr x.c)) d f (tVar i)) (.ok v) := fun G hid os σ H Q Kw q => by
  obtain ⟨h2, dx, us, e, h3, _, rs⟩ := xv_at Kw h hne
  obtain ⟨u, hu, ru⟩ := rs.get hv
  exact ⟨.ref a, h2, rfl, _, dx, _, u, rfl, T, hno, e, h3, zip_lookup nd hf hu, q u H (Same.refl H) (ru.flV fl)⟩
end
end Pv

set_option Elab.async false
set_option linter.all false
set_option maxRecDepth 100000
namespace Pv
open PySem PySem.Spec L2
open Enc (enc)
open Encs (encs)
/-! ### what the laws have in common, apart from their mirrors -/
def Drawn (sizes out : List Int) : Prop := out.length = sizes.length ∧ ∀ (i : Nat) (a z : Int), out[i]? = some a → sizes[i]? = some z → 0 ≤ a ∧ a < z
theorem Drawn.snoc {sizes out : List Int} {n : Nat} {a z : Int} (h : Drawn (sizes.take n) out) (hz : sizes[n]? = some z) (h0 : 0 ≤ a) (h1 : a < z) : Drawn (sizes.take (n + 1)) (out ++ [a]) := by
  have hn : n < sizes.length := (List.getElem?_eq_some_iff.mp hz).1
  have hl := h.1
  rw [List.length_take, Nat.min_eq_left (by omega)] at hl
  refine ⟨by rw [List.length_append, List.length_take, hl, Nat.min_eq_left (by omega)]; rfl, fun i b y hb hy => ?_⟩
  by_cases c : i < n
  · rw [List.getElem?_append_left (by omega)] at hb
    refine h.2 i b y hb ?_
    rw [List.getElem?_take_of_lt (by omega)] at hy
    rw [List.getElem?_take_of_lt (by omega)]
    exact hy
  · have hi : i < (sizes.take (n + 1)).length := (List.getElem?_eq_some_iff.mp hy).1
    rw [List.length_take] at hi
    have : i = n := by omega
    subst this
    rw [List.getElem?_append_right (by omega), hl, Nat.sub_self] at hb
    rw [List.getElem?_take_of_lt (by omega), hz] at hy
    cases hb
    cases hy
    exact ⟨h0, h1⟩
theorem drawn_get {sizes out : List Int} (h : Drawn sizes out) (i : Nat) (z : Int) (hz : sizes[i]? = some z) : ∃ a, atI out (i : Int) = some a ∧ 0 ≤ a ∧ a < z := by
  have hi : i < sizes.length := (List.getElem?_eq_some_iff.mp hz).1
  have hi2 : i < out.length := by rw [h.1]; exact hi
  obtain ⟨h0, h1⟩ := h.2 i out[i] z (List.getElem?_eq_getElem hi2) hz
  exact ⟨out[i], atI_nat (List.getElem?_eq_getElem hi2), h0, h1⟩
/-! #### strikes -/
def st1 (b : Bool) (row : List Int) : List Int := if b then row.drop 1 else (row.take (row.length - 1)).map (· + 1)
def strikes (many : Nat) (row : List Int) : List Nat → List Int
  | [] => row
  | c :: cs => strikes many (st1 (c == many) row) cs
theorem cut_last {α : Type} (xs : List α) : cutL xs none (some (-(1 : Int))) = xs.take (xs.length - 1) := by
  unfold cutL
  show (xs.drop 0).take ((if (-(1 : Int)) < 0 then ((-(1 : Int)) + (xs.length : Int)).toNat else min (-(1 : Int)).toNat xs.length) - 0) = _
  rw [if_pos (by decide), List.drop_zero]
  congr 1
  omega
def manyS (m : Nat) : Str := if m = 77 then PySem.Str.ofString "mine" else PySem.Str.ofString "theirs"
theorem mt_ne : (PySem.Str.ofString "theirs" = PySem.Str.ofString "mine") = False ∧ (PySem.Str.ofString "mine" = PySem.Str.ofString "theirs") = False := by
  constructor <;> exact eq_false (by decide +kernel)
theorem st1_len (b : Bool) (row : List Int) : (st1 b row).length = row.length - 1 := by
  unfold st1
  split
  · rw [List.length_drop]
  · rw [List.length_map, List.length_take]; omega
theorem st1_map (b : Bool) (row : List Int) (k : Int) : st1 b (row.map (· + k)) = (st1 b row).map (· + k) := by
  cases b with
  | true => exact List.map_drop.symm
  | false =>
    unfold st1
    rw [if_neg (by decide), if_neg (by decide), List.length_map, ← List.map_take, List.map_map, List.map_map]
    congr 1
    funext x
    show x + k + 1 = x + 1 + k
    omega
/-! #### texts -/
theorem Ok.addS {x y : Str} {Q : Str → Prop} (hl : x.length + y.length ≤ 100000) (q : Q (x ++ y)) : Ok (R.of (Pv.addS x y)) Q :=
  Ok.opt (Nat.le_trans hl (by decide)) q
theorem Ok.atS {x : Str} {i : Int} {Q : Str → Prop} (h0 : 0 ≤ i) (h1 : i < ((cps x).length : Int)) (q : ∀ c, (cps x)[i.toNat]? = some c → Q (ch c)) : Ok (R.of (Pv.atS x i)) Q := by
  obtain ⟨a, e1, e2⟩ := atI_of (xs := cps x) (i := i) h0 h1
  refine Ok.of (a := ch a) ?_ (q a e2)
  unfold Pv.atS
  rw [e1]
  rfl
/-! #### == over sorts that show themselves -/
class EqDs (α : Type) [Encs α] : Prop where
  eq : ∀ a b : α, PyData.eqvAll (toDs (encs a)) (toDs (encs b)) = true ↔ a = b
instance : EqD Bool := ⟨fun a b => by
  show (a == b) = true ↔ a = b
  rw [beq_iff_eq]⟩
instance : EqDs Unit := ⟨fun _ _ => by simp [encs, Encs.encs, toDs, PyData.eqvAll]⟩
instance {α β : Type} [Enc α] [EqD α] [Encs β] [EqDs β] : EqDs (α × β) := ⟨fun x y => by
  show (eqP (enc x.1) (enc y.1) && PyData.eqvAll (toDs (encs x.2)) (toDs (encs y.2))) = true ↔ _
  rw [Bool.and_eq_true, EqD.eq, EqDs.eq]
  exact (Prod.ext_iff).symm⟩
instance {α : Type} [Encs α] [EqDs α] : EqD (Tp α) := ⟨fun x y => by
  show PyData.eqvAll (toDs (encs x.t)) (toDs (encs y.t)) = true ↔ _
  rw [EqDs.eq]
  cases x
  cases y
  simp⟩
theorem eqQ_enc {α : Type} [Enc α] [Dta α] [EqD α] (a b : α) (h : Dta.n α ≤ 64 := by decide) : eqQ (enc a) (enc b) = some (eqP (enc a) (enc b)) :=
  if_pos ⟨Dta.ok a, Dta.ok b, Nat.le_trans (Dta.dp a) h, Nat.le_trans (Dta.dp b) h⟩
/-! #### walks -/
theorem rng_nat (n : Nat) : rng 0 (n : Int) = (List.range n).map fun i : Nat => (i : Int) := by
  unfold rng
  rw [Int.sub_zero, Int.toNat_natCast]
  exact List.map_congr_left fun a _ => by omega
theorem atI_last {α : Type} (xs : List α) : atI xs (-(1 : Int)) = xs.getLast? := by
  by_cases c : xs = []
  · subst c; rfl
  · have h : 0 < xs.length := List.length_pos_iff.mpr c
    rw [atI_neg (by decide) (by omega), List.getLast?_eq_getElem?]
    congr 1
    omega
end Pv

set_option Elab.async false
set_option linter.all false
set_option maxRecDepth 100000
namespace Pv
open PySem PySem.Spec L2
open Enc (enc)
open Encs (encs)
/-! ### xs[::-1] -/
def tRsl (K : PySem.W.Frag) (te : TE) (to : TO) : TE := fun σ H Q => te σ H fun x H1 => to σ H1 fun o H2 => o = some (-1) ∧ ∃ (a : Addr) (xs : List V), x = .ref a ∧ SqL K H2 a xs ∧ ∀ p, H2 p = none → Q (.ref p) (upd H2 p (.lst xs.reverse))
section
variable {C : Cn} {Γ : List Sl} {l l1 l2 : Lv} {α β γ : Type} [Enc α] [Enc β] [Enc γ] {ta tb tc te t : TE} {K : PySem.W.Frag} {T : CT}
theorem EvA.cast {β : Type} [Encs β] {t : TA} {m m' : R β} (h : EvA C Γ l t m) (e : m = m') : EvA C Γ l t m' := e ▸ h
theorem EvO.cast {to : TO} {m m' : R (Option Int)} (h : EvO C Γ to m) (e : m = m') : EvO C Γ to m' := e ▸ h
/-! ### a text, several times -/
def repS (x : Str) (n : Int) : Option Str := optIf (-1000000 ≤ n ∧ n ≤ 1000000 ∧ x.length * n.toNat ≤ LIM) (Txt.mul x n)
def rMulS : R2 := fun x y H Q => ∃ (z : Str) (n : Int), x = .str z ∧ y = .int n ∧ MulOk z n ∧ Q (.str (Txt.mul z n)) H
/-! ### xs.index(y) -/
def idxQ (zs : List PV) (p : PV) : Option Int := (optIf (okDs zs = true ∧ okD p = true ∧ deps zs + 1 ≤ 64 ∧ dep p ≤ 64) (zs.findIdx? fun z => eqP z p)).bind fun o => o.map fun j : Nat => (j : Int)
end
/-! ### keywords, what is raised being wished for at the caller's slots -/
section
variable {X : Cx} {CX : CXT} {k n : Nat} {f : Addr} {fd : FuncData} {ps ks : List Str} {sp : Sp} {W : WX} {x : Str} {p pos : Pos} {e : Expr} {es : List Expr} {kws : List Keyword} {t tk : TA} {g : List Value → List Value → List Value} {gV : List V → List V → List V}
def tCallNS (n m : Nat) (sp : Sp) (gV : List V → List V → List V) (E : L2.St → XK) (t tk : TA) : TE := fun σ H Q => t σ H fun vs H1 => tk σ H1 fun zs H2 => vs.length = n ∧ zs.length = m ∧ sp (gV vs zs) H2 Q (E σ)
end
section
variable {C : Cn} {Γ : List Sl} {l : Lv} {α : Type} [Enc α] {β β' γ : Type} [Encs β] [Encs β'] [Encs γ] {ta tk : TA} {W : WX} {n k : Nat} {m : R β} {mk : R γ} {c : β → γ → β'}
end
/-! ### a, b = x, y -/
section
variable {C : Cn} {Γ : List Sl} {l : Lv} {α β δ : Type} [Enc α] [Enc β] {ta : TA} {u : TS} {out : δ → Oc}
end
end Pv

set_option Elab.async false
set_option linter.all false
set_option maxRecDepth 100000
set_option maxHeartbeats 2000000
namespace Pv
open PySem PySem.Spec PyProof.Rows L2 PySem.W PySem.Calls
open Enc (enc)
open Encs (encs)
/-! ### quiet defs, called within an except suite -/
structure KdH (P : Program) (w : World) (K : PySem.W.Frag) (mg : Str → Option Value) (base : Heap) (x : Str) (ps : List Str) (k : Nat) (sp : Sp) : Prop where
  ex : ∃ f fd, mg x = some (.ref f) ∧ PySem.W.keepIn K (.ref f) = true ∧ Binds K fd ps [] ∧ L2H.FnH P w K mg base CX0 k f fd ps sp
section
variable {X : Cx} {x : Str} {ps : List Str} {k : Nat} {sp : Sp} {e : Expr} {es : List Expr} {t : TA} {p pos : Pos}
end
end Pv

set_option Elab.async false
set_option linter.all false
set_option maxRecDepth 100000
set_option maxHeartbeats 2000000
/-! ### walks over a list while an exception is handled -/
namespace Pv
open PySem PySem.Spec PyProof.Rows L2 PySem.W PySem.Calls HotX
open Enc (enc)
open Encs (encs)
section
variable {prog : Program} {w : World} {A : Around} {E : Value → Shared → Prop} {s : Shared}
end
section
variable {X : Cx}
end
end Pv

set_option Elab.async false
set_option linter.all false
set_option maxRecDepth 100000
set_option maxHeartbeats 2000000
/-! ### sorted, of tuples of ints of one length -/
namespace Srt3
open PySem PySem.Spec PyProof.Rows SrtO Srt
/-- in the order of the words -/
def lexL : List Int → List Int → Bool
  | [], [] => false
  | [], _ :: _ => true
  | _ :: _, [] => false
  | a :: r, b :: q => if a = b then lexL r q else decide (a < b)
theorem lexL_asym : ∀ p q : List Int, lexL p q = true → lexL q p = false
  | [], [], _ => rfl
  | [], _ :: _, _ => rfl
  | _ :: _, [], h => by cases h
  | a :: r, b :: q, h => by
    unfold lexL at h ⊢
    by_cases e : a = b
    · rw [if_pos e] at h
      rw [if_pos e.symm]
      exact lexL_asym r q h
    · rw [if_neg e, decide_eq_true_iff] at h
      rw [if_neg (fun z => e z.symm), decide_eq_false_iff_not]
      omega
theorem lexL_tot : ∀ p q : List Int, lexL p q = false → lexL q p = false → p = q
  | [], [], _, _ => rfl
  | [], _ :: _, h, _ => by cases h
  | _ :: _, [], _, h => by cases h
  | a :: r, b :: q, h1, h2 => by
    unfold lexL at h1 h2
    by_cases e : a = b
    · rw [if_pos e] at h1
      rw [if_pos e.symm] at h2
      rw [e, lexL_tot r q h1 h2]
    · rw [if_neg e, decide_eq_false_iff_not] at h1
      rw [if_neg (fun z => e z.symm), decide_eq_false_iff_not] at h2
      omega
theorem lexL_tr : ∀ x y z : List Int, lexL y x = false → lexL z y = false → lexL z x = false
  | [], y, [], _, _ => rfl
  | _ :: _, [], _, h, _ => by cases h
  | [], [], _ :: _, _, _ => rfl
  | _ :: _, _ :: _, [], _, h => by cases h
  | [], _ :: _, _ :: _, _, _ => rfl
  | a :: r, b :: q, c :: t, h1, h2 => by
    unfold lexL at h1 h2 ⊢
    by_cases e1 : b = a
    · rw [if_pos e1] at h1
      by_cases e2 : c = b
      · rw [if_pos e2] at h2
        rw [if_pos (e2.trans e1)]
        exact lexL_tr r q t h1 h2
      · rw [if_neg e2, decide_eq_false_iff_not] at h2
        rw [if_neg (fun z => e2 (z.trans e1.symm)), decide_eq_false_iff_not]
        omega
    · rw [if_neg e1, decide_eq_false_iff_not] at h1
      by_cases e2 : c = b
      · rw [if_neg (fun z => e1 (e2.symm.trans z)), decide_eq_false_iff_not]
        omega
      · rw [if_neg e2, decide_eq_false_iff_not] at h2
        rw [if_neg (by omega), decide_eq_false_iff_not]
        omega
theorem swo_lexL {α : Type} (k : α → List Int) : Swo fun v u => lexL (k v) (k u) := ⟨fun _ _ h => lexL_asym _ _ h, fun _ _ _ h1 h2 => lexL_tr _ _ _ h1 h2⟩
section
variable {prog : Program} {w : World} {A : Around} {E : Value → Shared → Prop} {s : Shared}
theorem kat_rows {xs : List Value} {ns : List Int} (hx : IntsAre xs ns) : ∀ {ys : List Value} {ms : List Int} (i : Nat), IntsAre ys ms → ns.length = ms.length →
    PySem.W.KatLex prog w A true false (fun r s' => s' = s ∧ r = lexL ns ms) (xs.zip ys) i s := by
  induction hx with
  | nil =>
    intro ys ms i hy hl
    cases hy with
    | nil => exact PySem.W.kat_nil ⟨rfl, rfl⟩
    | cons m u hy => cases hl
  | @cons n t xs ns hx ih =>
    intro ys ms i hy hl
    cases hy with
    | nil => cases hl
    | @cons m u ys ms hy =>
      rw [List.zip_cons_cons]
      refine PySem.W.kat_cons (SeqAt.EqAt.int_int n t m u prog w _ _ ?_)
      refine PySem.W.kat_go (fun e1 => ?_) (fun e1 => ?_)
      · have ex : n = m := by simpa using e1
        have e2 : lexL (n :: ns) (m :: ms) = lexL ns ms := by rw [lexL, if_pos ex]
        rw [e2]
        exact PySem.W.kat_yes (ih (i + 1) hy (Nat.succ.inj hl))
      · have ex : ¬ n = m := by simpa using e1
        have e2 : lexL (n :: ns) (m :: ms) = decide (n < m) := by rw [lexL, if_neg ex]
        rw [e2]
        exact PySem.W.kat_no (TS.oneLt_ints _ ⟨rfl, rfl⟩)
theorem rows_cmp {vs : List Value} {k : Value → List Int} {d : Nat} (hp : ∀ v ∈ vs, TS.TupInts s.heap v (k v) ∧ (k v).length = d) : SrtO.Cmp prog w A s (tuples' true) (fun p => p.1 ∈ vs) (lt2 fun v u => lexL (k v) (k u)) := by
  intro p q hm hm'
  obtain ⟨h1, l1⟩ := hp _ hm
  obtain ⟨h2, l2⟩ := hp _ hm'
  show wpAny (model prog w) A (keyLt' (tuples' true) p.1 q.1) (fun r s' => s' = s ∧ r = lexL (k p.1) (k q.1)) (fun _ _ => False) s
  generalize k p.1 = ns at h1 l1 ⊢
  generalize k q.1 = ms at h2 l2 ⊢
  obtain ⟨a, xs, e, ⟨o, ho, hc, n, hd⟩, i1⟩ := h1
  obtain ⟨b, ys, e', ⟨o', ho', hc', n', hd'⟩, i2⟩ := h2
  rw [e, e']
  refine PySem.W.kat_lt ho hd ho' hd' ?_
  have e3 : decide (xs.size < ys.size) = false := by
    have z1 := i1.length
    have z2 := i2.length
    rw [Array.length_toList] at z1 z2
    rw [decide_eq_false_iff_not]
    omega
  rw [e3]
  exact kat_rows i1 0 i2 (l1.trans l2.symm)
theorem heads_of {h : Heap} {d : Nat} {k : Value → List Int} : ∀ vs : List Value, (∀ v ∈ vs, TS.TupInts h v (k v) ∧ (k v).length = d + 1) → ∃ fs, PySem.W.KatTups h vs fs ∧ fs.length = vs.length ∧ ∀ f ∈ fs, ∃ n t, f = Value.int n t
  | [], _ => ⟨[], PySem.W.KatTups.nil, rfl, fun f hf => by simp at hf⟩
  | v :: vs, x => by
    obtain ⟨fs, kt, hl, hi⟩ := heads_of vs fun u hu => x u (List.mem_cons_of_mem _ hu)
    obtain ⟨⟨a, xs, rfl, ⟨o, ho, hc, n, hdt⟩, i⟩, hn⟩ := x v (List.mem_cons_self ..)
    have hz := i.length
    rw [Array.length_toList, hn] at hz
    have h0 : 0 < xs.size := by omega
    have e0 : xs[0]? = some xs[0] := Array.getElem?_eq_getElem h0
    obtain ⟨m, t, hy⟩ := i.all xs[0] (by rw [Array.mem_toList_iff]; exact Array.getElem_mem h0)
    refine ⟨xs[0] :: fs, PySem.W.KatTups.cons ho hc hdt e0 kt, by rw [List.length_cons, List.length_cons, hl], fun f hf => ?_⟩
    rcases List.mem_cons.mp hf with rfl | hf
    · exact ⟨m, t, hy⟩
    · exact hi f hf
theorem rows_sortable {a : Addr} {vs : List Value} {k : Value → List Int} {d : Nat} (h0 : 0 < vs.length) (hp : ∀ v ∈ vs, TS.TupInts s.heap v (k v) ∧ (k v).length = d + 1) (ha : ∀ o, s.heap.get? a = some o → o.cls ≠ .type "tuple") : SortableO prog w A s a vs fun v u => lexL (k v) (k u) := by
  intro h' keep
  have hp' : ∀ v ∈ vs, TS.TupInts h' v (k v) ∧ (k v).length = d + 1 := fun v hm => ⟨(hp v hm).1.keeps fun b o e c => keep b o (fun z => by subst z; exact ha o e c) e, (hp v hm).2⟩
  obtain ⟨fs, h1, h2, h3⟩ := heads_of vs hp'
  refine ⟨tuples' true, fun Q E hq => ?_, rows_cmp hp'⟩
  refine PySem.W.kat_kind (T := .type "int") h1 (by omega) (fun f hm => ?_) (by rfl) ?_
  · obtain ⟨x, t, rfl⟩ := h3 f hm
    exact PySem.W.Looks.now
  · have e : (Value.type "int" != Value.type "tuple") = true := by first | decide +kernel | rfl | decide
    rw [e]
    exact hq
end
end Srt3
namespace L2
open PySem PySem.Spec PyProof.Rows Srt3
/-- sorted(xs), xs a list of tuples of ints of one length -/
def rSortedR (K : PySem.W.Frag) : List V → Hp → VK → Prop := fun vs H Q => ∃ (a : Addr) (xs : List V) (k : V → List Int) (d : Nat), vs = [V.ref a] ∧ SqL K H a xs ∧ (∀ x ∈ xs, (k x).length = d + 1 ∧ ∃ t, x = V.ref t ∧ H t = some (.tup ((k x).map V.int))) ∧
  ∀ ys p, ys.Perm xs → ys.Pairwise (fun x y => lexL (k y) (k x) = false) → H p = none → Q (.ref p) (upd H p (.lst ys))
section
variable {X : Cx}
theorem cr_sortedR : CallR X (.builtin "sorted") (rSortedR X.K) := by
  intro pins s σ H vs us Q I r h
  obtain ⟨a, xs, k, d, rfl, hs, hx, q⟩ := h
  obtain ⟨its, rv, hl, hz⟩ := I.list hs
  obtain ⟨u, rfl, ru⟩ := vals1 r
  obtain rfl : u = Value.ref a := ru
  obtain ⟨e1, e2⟩ := refs_back rv fun x m => by
    obtain ⟨_, t, e, _⟩ := hx x m
    exact ⟨t, e⟩
  have tup : ∀ v ∈ its, TS.TupInts s.heap v (k (backV v)) ∧ (k (backV v)).length = d + 1 := fun v hv => by
    obtain ⟨t, rfl⟩ := e2 v hv
    have hm : V.ref t ∈ xs := by rw [e1]; exact List.mem_map.mpr ⟨_, hv, rfl⟩
    obtain ⟨hd, t', e, ht⟩ := hx _ hm
    cases e
    obtain ⟨_, its2, r2, o, ho, hc, n, hdt⟩ := I.hok _ _ ht
    exact ⟨⟨t, its2.toArray, rfl, ⟨o, ho, hc, n, hdt⟩, by rw [List.toList_toArray]; exact r2.ints⟩, hd⟩
  refine SrtO.sorted_ord (swo_lexL fun u => k (backV u)) hl.isList (by rw [← rv.length]; exact hz) (fun h2 h₁ a' ha kk => ?_) fun out h1 h2 => ?_
  · refine rows_sortable (s := { s with heap := h₁ }) (d := d) (by omega) (fun v hm => ⟨(tup v hm).1.keeps fun b o e _ => (kk b o e).2, (tup v hm).2⟩) fun o e => ?_
    have e' : some o = some (seqObj "list" its.toArray 0) := e.symm.trans ha
    cases e'
    intro c
    exact absurd (Value.type.inj c) (by decide)
  · have h3 : ∀ u ∈ out, ∃ a, u = Value.ref a := fun u hu => e2 u (h2.perm.mem_iff.mp hu)
    have pm : (out.map backV).Perm xs := by rw [e1]; exact h2.perm.map backV
    obtain ⟨ep, he'⟩ := PyProof.Rows.sortedAll_at s.heap its out.toArray
    refine ⟨.ref _, upd H (s.heap.objs.size + 1) (.lst (out.map backV)), I.laid (t' := s.toks) (fun _ _ => PyProof.Rows.sortedAll_old) (Nat.le_succ _) ⟨by rw [pm.length_eq]; exact hz, out, ep, vals_back h3, he'⟩, rfl, q _ _ pm (List.pairwise_map.mpr h1) (I.hok.fresh (Nat.le_succ _))⟩
end
end L2
namespace Pv
open PySem PySem.Spec L2 Srt3
open Enc (enc)
open Encs (encs)
/-- tuples of ints alone -/
class IntsT (β : Type) [Encs β] where
  nums : β → List Int
  d : Nat
  len : ∀ b, (nums b).length = d
  enc : ∀ b, encs b = (nums b).map (Enc.enc : Int → PV)
  inj : ∀ a b, nums a = nums b → a = b
instance : IntsT (Int × Unit) := ⟨fun b => [b.1], 1, fun _ => rfl, fun _ => rfl, fun a b h => by
  obtain ⟨x, ⟨⟩⟩ := a
  obtain ⟨y, ⟨⟩⟩ := b
  cases h
  rfl⟩
instance {β : Type} [Encs β] [i : IntsT β] : IntsT (Int × β) := ⟨fun b => b.1 :: i.nums b.2, i.d + 1, fun b => by rw [List.length_cons, i.len], fun b => by
  show Enc.enc b.1 :: encs b.2 = _
  rw [i.enc]
  rfl, fun a b h => by
  obtain ⟨x, u⟩ := a
  obtain ⟨y, v⟩ := b
  have h : x :: i.nums u = y :: i.nums v := h
  obtain ⟨rfl, h2⟩ := List.cons.inj h
  rw [i.inj _ _ h2]⟩
def leT {β : Type} [Encs β] [IntsT β] (a b : Tp β) : Bool := !lexL (IntsT.nums b.t) (IntsT.nums a.t)
def sortT {β : Type} [Encs β] [IntsT β] (xs : List (Tp β)) : List (Tp β) := xs.mergeSort leT
section
variable {β : Type} [Encs β] [i : IntsT β]
theorem leT_tr (a b c : Tp β) (h1 : leT a b = true) (h2 : leT b c = true) : leT a c = true := by
  unfold leT at *
  rw [Bool.not_eq_true'] at *
  exact lexL_tr _ _ _ h1 h2
theorem leT_tot (a b : Tp β) : (leT a b || leT b a) = true := by
  unfold leT
  cases e : lexL (IntsT.nums b.t) (IntsT.nums a.t) with
  | false => rfl
  | true => rw [lexL_asym _ _ e]; rfl
theorem sortT_perm (xs : List (Tp β)) : (sortT xs).Perm xs := List.mergeSort_perm _ _
theorem sortT_le (xs : List (Tp β)) : (sortT xs).Pairwise fun a b => leT a b = true := List.pairwise_mergeSort leT_tr leT_tot xs
theorem sortT_one {xs ys : List (Tp β)} (h : xs.Perm ys) (h1 : xs.Pairwise fun a b => leT a b = true) (h2 : ys.Pairwise fun a b => leT a b = true) : xs = ys :=
  h.eq_of_pairwise (fun a b _ _ h1 h2 => by
    obtain ⟨u⟩ := a
    obtain ⟨v⟩ := b
    unfold leT at h1 h2
    rw [Bool.not_eq_true'] at h1 h2
    exact congrArg Tp.mk (i.inj _ _ (lexL_tot _ _ h2 h1))) h1 h2
end
section
variable {T : CT} {H : Hp} {G : Addr → Prop}
/-- the ints of a tuple, read off a heap -/
def numV : V → Int
  | .int i => i
  | _ => 0
def kOf (H : Hp) (v : V) : List Int := match v with
  | .ref t => match H t with
    | some (.tup us) => us.map numV
    | _ => []
  | _ => []
theorem num_ints : ∀ ns : List Int, (ns.map V.int).map numV = ns
  | [] => rfl
  | n :: ns => by
    rw [List.map_cons, List.map_cons, num_ints ns]
    rfl
theorem tup_nums {β : Type} [Encs β] [i : IntsT β] {z : Tp β} {v : V} (r : Rep T H G (enc z) v) : kOf H v = i.nums z.t ∧ ∃ t, v = .ref t ∧ H t = some (.tup ((kOf H v).map V.int)) := by
  have r : Rep T H G (.tup (encs z.t)) v := r
  unfold Rep at r
  obtain ⟨a, vs, rfl, _, ha, _, rs⟩ := r
  rw [i.enc] at rs
  have e := ints_of rs
  subst e
  have e2 : kOf H (.ref a) = i.nums z.t := by
    show (match H a with
      | some (.tup us) => us.map numV
      | _ => []) = _
    rw [ha]
    exact num_ints _
  rw [e2]
  exact ⟨rfl, a, rfl, ha⟩
theorem reps_perm {α : Type} [Enc α] {vs ys : List V} (h : vs.Perm ys) : ∀ xs : List α, Reps T H G (xs.map enc) vs → ∃ zs : List α, zs.Perm xs ∧ Reps T H G (zs.map enc) ys := by
  induction h with
  | nil => intro xs r; exact ⟨xs, .refl _, r⟩
  | cons v h ih =>
    intro xs r
    cases xs with
    | nil => have r : (_ :: _ : List V) = [] := r; cases r
    | cons x xs =>
      rw [List.map_cons] at r
      unfold Reps at r
      obtain ⟨v', r', e, r1, r2⟩ := r
      obtain ⟨rfl, rfl⟩ := List.cons.inj e
      obtain ⟨zs, pz, rz⟩ := ih xs r2
      exact ⟨x :: zs, pz.cons x, reps_cons r1 rz⟩
  | swap v u l =>
    intro xs r
    match xs with
    | [] => have r : (_ :: _ : List V) = [] := r; cases r
    | [x] =>
      rw [List.map_cons] at r
      unfold Reps at r
      obtain ⟨v', r', e, r1, r2⟩ := r
      obtain ⟨rfl, rfl⟩ := List.cons.inj e
      have r2 : (_ :: _ : List V) = [] := r2
      cases r2
    | x :: y :: xs =>
      rw [List.map_cons, List.map_cons] at r
      unfold Reps at r
      obtain ⟨v', r', e, r1, r2⟩ := r
      obtain ⟨rfl, rfl⟩ := List.cons.inj e
      unfold Reps at r2
      obtain ⟨v2, r'2, e2, r3, r4⟩ := r2
      obtain ⟨rfl, rfl⟩ := List.cons.inj e2
      exact ⟨y :: x :: xs, .swap x y xs, reps_cons r3 (reps_cons r1 r4)⟩
  | trans h1 h2 ih1 ih2 =>
    intro xs r
    obtain ⟨zs, pz, rz⟩ := ih1 xs r
    obtain ⟨us, pu, ru⟩ := ih2 zs rz
    exact ⟨us, pu.trans pz, ru⟩
theorem reps_mem {α : Type} [Enc α] : ∀ {xs : List α} {vs : List V}, Reps T H G (xs.map enc) vs → (∀ v, v ∈ vs → ∃ x, x ∈ xs ∧ Rep T H G (enc x) v) ∧ ∀ x, x ∈ xs → ∃ v, v ∈ vs ∧ Rep T H G (enc x) v
  | [], vs, r => by
    have r : vs = [] := r
    subst r
    exact ⟨fun v h => absurd h (by simp), fun x h => absurd h (by simp)⟩
  | x :: xs, vs, r => by
    rw [List.map_cons] at r
    unfold Reps at r
    obtain ⟨v, r', rfl, r1, r2⟩ := r
    obtain ⟨h1, h2⟩ := reps_mem r2
    refine ⟨fun u h => ?_, fun y h => ?_⟩
    · rcases List.mem_cons.mp h with rfl | h
      · exact ⟨x, List.mem_cons_self .., r1⟩
      · obtain ⟨y, hy, r⟩ := h1 u h
        exact ⟨y, List.mem_cons_of_mem _ hy, r⟩
    · rcases List.mem_cons.mp h with rfl | h
      · exact ⟨v, List.mem_cons_self .., r1⟩
      · obtain ⟨u, hu, r⟩ := h2 y h
        exact ⟨u, List.mem_cons_of_mem _ hu, r⟩
theorem reps_sorted {β : Type} [Encs β] [i : IntsT β] : ∀ {zs : List (Tp β)} {ys : List V}, Reps T H G (zs.map enc) ys → ys.Pairwise (fun x y => lexL (kOf H y) (kOf H x) = false) → zs.Pairwise fun a b => leT a b = true
  | [], _, _, _ => .nil
  | z :: zs, ys, r, h => by
    rw [List.map_cons] at r
    unfold Reps at r
    obtain ⟨v, r', rfl, r1, r2⟩ := r
    rw [List.pairwise_cons] at h
    refine List.pairwise_cons.mpr ⟨fun b hb => ?_, reps_sorted r2 h.2⟩
    obtain ⟨u, hu, ru⟩ := (reps_mem r2).2 b hb
    have := h.1 u hu
    rw [(tup_nums r1).1, (tup_nums ru).1] at this
    unfold leT
    rw [this]
    rfl
end
section
variable {C : Cn} {Γ : List Sl} {l : Lv} {ta : TE} {K : PySem.W.Frag} {β : Type} [Encs β] [i : IntsT β]
theorem evn_sortT {m : R (List (Tp β))} (ha : Evm C Γ l ta m) (hd : i.d - 1 + 1 = i.d := by rfl) : EvN C Γ l (tCB (rSortedR K) (tCons ta tNil)) (m.bind fun xs => .ok (sortT xs)) := fun G hid os σ H Q Kw q => by
  refine ha G hid os σ H _ Kw ?_
  cases e1 : m with
  | bad => rw [e1] at q; exact q
  | ex x => rw [e1] at q; exact q
  | ok xs =>
    rw [e1] at q
    intro x H1 s1 r1
    obtain ⟨p, vs, e, _, hp, hz, rs⟩ := lst_rep r1
    refine ⟨p, vs, kOf H1, i.d - 1, by rw [e], rd_seqL hp, fun v hv => ?_, fun ys d pm pw nd => ?_⟩
    · obtain ⟨z, _, r⟩ := (reps_mem rs).1 v hv
      obtain ⟨e2, t, e3, h3⟩ := tup_nums r
      exact ⟨by rw [e2, i.len, hd], t, e3, h3⟩
    · obtain ⟨zs, pz, rz⟩ := reps_perm pm.symm xs rs
      have e2 : zs = sortT xs := sortT_one (pz.trans (sortT_perm xs).symm) (reps_sorted rz pw) (sortT_le xs)
      subst e2
      exact q d ys _ (s1.trans (same_new nd)) (s1.free nd) upd_same (by rw [pm.length_eq]; exact hz) ((rz.free nd).same (same_new nd))
/-- the same of an own list -/
theorem evn_sortTo {j : Nat} {xs : List (Tp β)} (h : Γ[j]? = some (.ow l (xs.map enc))) (hd : i.d - 1 + 1 = i.d := by rfl) : EvN C Γ l (tCB (rSortedR K) (tCons (tVar j) tNil)) (.ok (sortT xs)) := fun G hid os σ H Q Kw q => by
  obtain ⟨_, a, vs, _, e, hp, hz, rs⟩ := Kw.sl j _ h
  refine ⟨_, e, a, vs, kOf H, i.d - 1, rfl, rd_seqL hp, fun v hv => ?_, fun ys d pm pw nd => ?_⟩
  · obtain ⟨z, _, r⟩ := (reps_mem rs).1 v hv
    obtain ⟨e2, t, e3, h3⟩ := tup_nums r
    exact ⟨by rw [e2, i.len, hd], t, e3, h3⟩
  · obtain ⟨zs, pz, rz⟩ := reps_perm pm.symm xs rs
    have e2 : zs = sortT xs := sortT_one (pz.trans (sortT_perm xs).symm) (reps_sorted rz pw) (sortT_le xs)
    subst e2
    exact q d ys _ (same_new nd) nd upd_same (by rw [pm.length_eq]; exact hz) ((rz.free nd).same (same_new nd))
theorem k_sortedR {X : Cx} (h : X.K = K) : CallR X (.builtin "sorted") (rSortedR K) := by subst h; exact cr_sortedR
end
end Pv

set_option Elab.async false
set_option linter.all false
set_option maxRecDepth 100000
set_option maxHeartbeats 2000000
/-! ### a tuple that came out of a call, with a list in it that is changed then -/
namespace Pv
open PySem PySem.Spec L2
open Enc (enc)
open Encs (encs)
def flatL : PV → Bool
  | .lst xs => xs.all imV
  | _ => false
/-- at most one list, of unchangeable items; all others are unchangeable -/
def twL : List PV → Bool
  | [] => true
  | p :: ps => if imV p then twL ps else flatL p && ps.all imV
def twB : PV → Bool
  | .tup ps => twL ps
  | _ => false
section
variable {C : Cn} {G : Addr → Prop} {Γ : List Sl} {hid : Hid} {os : List (Option Addr)} {σ : L2.St} {H H' : Hp} {i j : Nat} {T : CT}
theorem Rep.offL {A : Addr → Prop} {a : Addr} {ws : List V} (ha : H a = some (.lst ws)) : ∀ {p : PV} {v : V}, imV p = true → Rep T H A p v → Rep T H (fun b => A b ∨ b = a) p v := fun {p v} f r => by
  cases p with
  | tup ps =>
    have f : ps.all Pv.flV = true := f
    unfold Rep at r ⊢
    obtain ⟨t, vs, e, na, ht, hz, rs⟩ := r
    exact ⟨t, vs, e, (fun z => z.elim na fun e' => by rw [e', ha] at ht; cases ht), ht, hz, Reps.flV rs f⟩
  | int i => exact Rep.flV r f
  | str y => exact Rep.flV r f
  | bl b => exact Rep.flV r f
  | non => exact Rep.flV r f
  | lst xs => cases f
  | obj c vs => cases f
  | dic c vs => cases f
  | scr xs => cases f
theorem Reps.offL {A : Addr → Prop} {a : Addr} {ws : List V} (ha : H a = some (.lst ws)) : ∀ {ps : List PV} {vs : List V}, ps.all imV = true → Reps T H A ps vs → Reps T H (fun b => A b ∨ b = a) ps vs
  | [], _, _, h => h
  | p :: ps, vs, f, h => by
    unfold Reps at h
    obtain ⟨v, r, e, h1, h2⟩ := h
    rw [List.all_cons, Bool.and_eq_true] at f
    rw [e]
    exact reps_cons (h1.offL ha f.1) (h2.offL ha f.2)
theorem tw_flat {o : Option Addr} {A : Addr → Prop} : ∀ {ps : List PV} {vs : List V}, Reps T H A ps vs → ps.all imV = true → TwOk T H A o ps vs
  | [], _, r, _ => r
  | p :: ps, vs, r, h => by
    unfold Reps at r
    obtain ⟨v, r', e, r1, r2⟩ := r
    rw [List.all_cons, Bool.and_eq_true] at h
    exact ⟨v, r', e, .inl ⟨h.1, r1⟩, tw_flat r2 h.2⟩
theorem tw_one {A : Addr → Prop} : ∀ {ps : List PV} {vs : List V}, Reps T H' A ps vs → twL ps = true → ∃ o, TwOk T H' A o ps vs ∧ ∀ a, o = some a → ¬ A a ∧ ∃ ws xs, H' a = some (.lst ws) ∧ ws.length ≤ LIM ∧ Reps T H' A xs ws ∧ xs.all imV = true
  | [], vs, r, _ => ⟨none, r, fun a e => by cases e⟩
  | p :: ps, vs, r, h => by
    unfold Reps at r
    obtain ⟨v, r', e, r1, r2⟩ := r
    unfold twL at h
    cases f : imV p with
    | true =>
      rw [if_pos f] at h
      obtain ⟨o, h1, h2⟩ := tw_one r2 h
      exact ⟨o, ⟨v, r', e, .inl ⟨f, r1⟩, h1⟩, h2⟩
    | false =>
      rw [if_neg (by rw [f]; decide), Bool.and_eq_true] at h
      obtain ⟨h1, h2⟩ := h
      cases p with
      | lst xs =>
        unfold Rep at r1
        obtain ⟨a, ws, ev, ng, ha, hz, rs⟩ := r1
        exact ⟨some a, ⟨v, r', e, .inr ⟨xs, a, ws, rfl, rfl, ev, ha, hz, rs⟩, tw_flat r2 h2⟩, fun b eb => by
          cases eb
          exact ⟨ng, ws, xs, ha, hz, rs, h1⟩⟩
      | int _ => cases h1
      | str _ => cases h1
      | bl _ => cases h1
      | non => cases h1
      | tup _ => cases h1
      | obj _ _ => cases h1
      | dic _ _ => cases h1
      | scr _ => cases h1
theorem TwOk.offL {A : Addr → Prop} {a : Addr} {us : List V} (ha : H a = some (.lst us)) : ∀ {ps : List PV} {vs : List V}, twL ps = true → TwOk T H A (some a) ps vs → TwOk T H (fun b => A b ∨ b = a) (some a) ps vs
  | [], _, _, h => h
  | p :: ps, _, f, h => by
    obtain ⟨v, r, e, h1, h2⟩ := h
    unfold twL at f
    cases fp : imV p with
    | true =>
      rw [if_pos fp] at f
      refine ⟨v, r, e, ?_, h2.offL ha f⟩
      rcases h1 with ⟨g, r1⟩ | ⟨xs, b, ws, e1, e2, e3, e4, e5, e6⟩
      · exact .inl ⟨g, r1.offL ha g⟩
      · subst e1; cases fp
    | false =>
      rw [if_neg (by rw [fp]; decide), Bool.and_eq_true] at f
      have tl : twL ps = true := by
        have : ∀ qs : List PV, qs.all imV = true → twL qs = true := fun qs => by
          induction qs with
          | nil => intro _; rfl
          | cons q qs ih =>
            intro hq
            rw [List.all_cons, Bool.and_eq_true] at hq
            unfold twL
            rw [if_pos hq.1]
            exact ih hq.2
        exact this ps f.2
      refine ⟨v, r, e, ?_, h2.offL ha tl⟩
      rcases h1 with ⟨g, r1⟩ | ⟨xs, b, ws, e1, e2, e3, e4, e5, e6⟩
      · rw [g] at fp; cases fp
      · subst e1
        exact .inr ⟨xs, b, ws, rfl, e2, e3, e4, e5, e6.offL ha f.1⟩
theorem SlOk.at {s : Sl} {σ' : L2.St} (h : SlOk C G os H i σ s) (e : σ'[i]? = σ[i]?) : SlOk C G os H i σ' s := by
  cases s with
  | un => exact h
  | sh l p => obtain ⟨q1, q2, v, q3, q4⟩ := h; exact ⟨q1, q2, v, e.trans q3, q4⟩
  | ow l xs => obtain ⟨q1, a, vs, q2, q3, q4, q5, q6⟩ := h; exact ⟨q1, a, vs, q2, e.trans q3, q4, q5, q6⟩
  | xv a d x => obtain ⟨q1, q2, q3⟩ := h; exact ⟨q1, e.trans q2, q3⟩
  | tw ps => obtain ⟨o, t, vs, q1, q2, q3⟩ := h; exact ⟨o, t, vs, q1, e.trans q2, q3⟩
  | ce φ => obtain ⟨a, q1, q2, q3⟩ := h; exact ⟨a, q1, e.trans q2, q3⟩
  | rs v D φ => obtain ⟨q1, q2, q3⟩ := h; exact ⟨q1, e.trans q2, q3⟩
  | ob r p => exact h
theorem OkW.swap {x : Option V} {s : Sl} (K : OkW C G Γ hid os σ H) (hi : i < Γ.length) (h : SlOk C G os H i (σ.set i x) s) (ns : notOb s := by trivial) : OkW C G (Γ.set i s) hid os (σ.set i x) H := by
  refine ⟨by simp [K.lo], by simp [K.ls], K.ext, K.dom, K.new, K.inj, fun j u hj => ?_, K.hd, K.ob.slot ns (fun a o g _ z _ => ⟨z, g⟩) fun a us z => z⟩
  by_cases e : i = j
  · subst e
    rw [List.getElem?_set_self hi] at hj
    cases hj
    exact h
  · rw [List.getElem?_set_ne e] at hj
    exact (K.sl j u hj).at (by rw [List.getElem?_set_ne e])
/-- a slot takes such a tuple -/
theorem OkW.tw {ps : List PV} {v : V} (K : OkW C G Γ hid os σ H) (hi : i < Γ.length) (e : Same H H') (r : Rep C.T H' (fun b => H b ≠ none) (.tup ps) v) (h : twL ps = true) : ∃ os', OkW C G (Γ.set i (.tw ps)) hid os' (σ.set i (some v)) H' := by
  unfold Rep at r
  obtain ⟨t, vs, rfl, _, ht, hz, rs⟩ := r
  obtain ⟨o, h1, h2⟩ := tw_one rs h
  have hos : i < os.length := by rw [K.lo]; exact hi
  have hs : i < σ.length := by rw [K.ls]; exact hi
  have dom : ∀ b, av .fr C.H0 G (os.set i none) b → H b ≠ none := fun b z => K.avdom .fr b (av_less (fun a z => mem_set_none z) .fr b z)
  cases o with
  | none =>
    have K1 := (K.same e).clear i hi none
    have h3 : TwOk C.T H' (av .fr C.H0 G (os.set i none)) none ps vs := h1.move (fun _ _ _ h => h) fun p v h => h.weak dom
    have K2 := K1.swap (i := i) (x := some (.ref t)) (s := .tw ps) (by simpa using hi) ⟨none, t, vs, by rw [List.getElem?_set_self hos], by rw [List.getElem?_set_self (by simpa using hs)], ht, hz, h3⟩
    rw [set_set', set_set'] at K2
    exact ⟨_, K2⟩
  | some a =>
    obtain ⟨nA, ws, xs, ha, hw, rw', fx⟩ := h2 a rfl
    have na : H a = none := Classical.byContradiction fun z => nA z
    have K1 := K.own hi (l := .fr) trivial e na ha hw ((rw'.offL ha fx).weak fun b z => z.imp (K.avdom .fr b) id)
    have h3 : TwOk C.T H' (av .fr C.H0 G (os.set i (some a))) (some a) ps vs := (h1.offL ha h).move (fun _ _ _ h => h) fun p v h => h.weak fun b z => (av_more .fr trivial b z).imp (dom b) id
    have K2 := K1.swap (i := i) (x := some (.ref t)) (s := .tw ps) (by simpa using hi) ⟨some a, t, vs, by rw [List.getElem?_set_self hos], by rw [List.getElem?_set_self (by simpa using hs)], ht, hz, h3⟩
    rw [set_set', set_set'] at K2
    exact ⟨_, K2⟩
theorem TwOk.rep {o : Option Addr} {A : Addr → Prop} : ∀ {ps : List PV} {vs : List V}, TwOk T H A o ps vs → Reps T H (fun _ => False) ps vs
  | [], _, h => h
  | p :: ps, _, h => by
    obtain ⟨v, r, rfl, h1, h2⟩ := h
    refine reps_cons ?_ h2.rep
    rcases h1 with ⟨f, r1⟩ | ⟨xs, a, ws, rfl, e2, rfl, e4, e5, e6⟩
    · exact r1.weak fun b z => z.elim
    · unfold Rep
      exact ⟨a, ws, rfl, id, e4, e5, e6.weak fun b z => z.elim⟩
theorem TwOk.get {o : Option Addr} {A : Addr → Prop} : ∀ {ps : List PV} {vs : List V} {k : Nat} {xs : List PV}, TwOk T H A o ps vs → ps[k]? = some (.lst xs) → ∃ a ws, o = some a ∧ vs[k]? = some (.ref a) ∧ H a = some (.lst ws) ∧ ws.length ≤ LIM ∧ Reps T H A xs ws
  | [], _, k, xs, h, e => by cases e
  | p :: ps, _, 0, xs, h, e => by
    obtain ⟨v, r, rfl, h1, h2⟩ := h
    obtain rfl : p = .lst xs := Option.some.inj e
    rcases h1 with ⟨f, r1⟩ | ⟨ys, a, ws, e1, e2, rfl, e4, e5, e6⟩
    · cases f
    · cases e1
      exact ⟨a, ws, e2, rfl, e4, e5, e6⟩
  | p :: ps, _, k + 1, xs, h, e => by
    obtain ⟨v, r, rfl, h1, h2⟩ := h
    exact h2.get (k := k) e
/-- its list goes to a slot of its own -/
theorem OkW.move {ps xs : List PV} {k : Nat} (K : OkW C G Γ hid os σ H) (h : Γ[i]? = some (.tw ps)) (hk : ps[k]? = some (.lst xs)) (hij : i ≠ j) (hj : j < Γ.length) :
    ∃ (t a : Addr) (vs : List V) (os' : List (Option Addr)), σ[i]? = some (some (.ref t)) ∧ H t = some (.tup vs) ∧ vs[k]? = some (.ref a) ∧ OkW C G ((Γ.set i .un).set j (.ow .fr xs)) hid os' (σ.set j (some (.ref a))) H := by
  have hi : i < Γ.length := (List.getElem?_eq_some_iff.mp h).1
  obtain ⟨o, t, vs, q1, q2, q3, q4, q5⟩ := K.sl i _ h
  obtain ⟨a, ws, rfl, hv, ha, hw, rs⟩ := q5.get hk
  have ma : some a ∈ os := List.mem_of_getElem? q1
  have sub : ∀ b : Addr, some b ∈ (os.set i none).set j (some a) → some b ∈ os := fun b hb => by
    rcases mem_set_some hb with hb | rfl
    · exact mem_set_none hb
    · exact ma
  have lj : j < (os.set i none).length := by rw [List.length_set, K.lo]; exact hj
  have at_j : ((os.set i none).set j (some a))[j]? = some (some a) := List.getElem?_set_self lj
  have off : ∀ m, m ≠ j → ((os.set i none).set j (some a))[m]? = (os.set i none)[m]? := fun m hm => List.getElem?_set_ne (fun z => hm z.symm)
  refine ⟨t, a, vs, _, q2, q3, hv, ⟨by simp [K.lo], by simp [K.ls], K.ext, K.dom, fun b hb => K.new b (sub b hb), fun m n b h1 h2 => ?_, fun m s hm => ?_, fun q hq => ⟨(K.hd q hq).1, (K.hd q hq).2.weak (av_less sub q.1)⟩, (K.ob.slot' (i := i) (s := .un) trivial (fun a o g _ z _ => ⟨z, g⟩) fun a us z => z).slot (s := .ow .fr xs) trivial (fun a o g _ z _ => ⟨z, g⟩) fun a us z => z⟩⟩
  · have other : ∀ m, m ≠ j → ((os.set i none).set j (some a))[m]? = some (some b) → os[m]? = some (some b) ∧ m ≠ i := fun m hm e => by
      rw [off m hm] at e
      exact get_set_none e
    by_cases em : m = j
    · by_cases en : n = j
      · rw [em, en]
      · subst em
        rw [at_j] at h1
        cases h1
        obtain ⟨e1, e2⟩ := other n en h2
        exact absurd (K.inj n i _ e1 q1) e2
    · by_cases en : n = j
      · subst en
        rw [at_j] at h2
        cases h2
        obtain ⟨e1, e2⟩ := other m em h1
        exact absurd (K.inj m i _ e1 q1) e2
      · exact K.inj m n b (other m em h1).1 (other n en h2).1
  · by_cases em : m = j
    · subst em
      rw [List.getElem?_set_self (by simpa using hj)] at hm
      cases hm
      exact ⟨trivial, a, ws, at_j, by rw [List.getElem?_set_self (by rw [K.ls]; exact hj)], ha, hw, rs.weak (av_less sub .fr)⟩
    · rw [List.getElem?_set_ne (fun z => em z.symm)] at hm
      by_cases ei : m = i
      · subst ei
        rw [List.getElem?_set_self hi] at hm
        cases hm
        show ((os.set m none).set j (some a))[m]? = some none
        rw [off m em, List.getElem?_set_self (by rw [K.lo]; exact hi)]
      · rw [List.getElem?_set_ne (fun z => ei z.symm)] at hm
        have eo : ((os.set i none).set j (some a))[m]? = os[m]? := by rw [off m em, List.getElem?_set_ne (fun z => ei z.symm)]
        have es : (σ.set j (some (.ref a)))[m]? = σ[m]? := List.getElem?_set_ne (fun z => em z.symm)
        refine SlOk.at ?_ es
        have q := K.sl m s hm
        cases s with
        | un => exact eo.trans q
        | sh l p => obtain ⟨p1, p2, v, p3, p4⟩ := q; exact ⟨p1, eo.trans p2, v, p3, p4.weak (av_less sub l)⟩
        | ow l ys => obtain ⟨p1, b, us, p2, p3, p4, p5, p6⟩ := q; exact ⟨p1, b, us, eo.trans p2, p3, p4, p5, p6.weak (av_less sub l)⟩
        | xv b d x => obtain ⟨p1, p2, p3⟩ := q; exact ⟨eo.trans p1, p2, p3⟩
        | tw qs => obtain ⟨o, u, us, p1, p2, p3, p4, p5⟩ := q; exact ⟨o, u, us, eo.trans p1, p2, p3, p4, p5.move (fun _ _ _ h => h) fun p v h => h.weak (av_less sub .fr)⟩
        | ce φ => obtain ⟨b, p1, p2, p3⟩ := q; exact ⟨b, eo.trans p1, p2, p3⟩
        | rs v D φ => obtain ⟨p1, p2, p3⟩ := q; exact ⟨eo.trans p1, p2, p3⟩
        | ob r p => exact eo.trans q
end
/-! ### its rules -/
/-- what a call hands back is new -/
def PoF {α : Type} [Enc α] (C : Cn) (σ : L2.St) (H : Hp) (Q : VK) : R α → Prop
  | .ok a => ∀ v H', Same H H' → Rep C.T H' (fun b => H b ≠ none) (enc a) v → Q v H'
  | .ex x => PoX C σ H x
  | .bad => False
def EvF {α : Type} [Enc α] (C : Cn) (Γ : List Sl) (t : TE) (m : R α) : Prop := ∀ G hid os σ H Q, OkW C G Γ hid os σ H → PoF C σ H Q m → t σ H Q
section
variable {C : Cn} {Γ : List Sl} {l : Lv} {α β : Type} [Enc α] [Encs β] {ta : TA} {E : XK} {i j : Nat} {te : TE} {γ : Type} {u : TS} {out : γ → Oc} {K : PySem.W.Frag}
theorem EvF.cast {t : TE} {m m' : R α} (h : EvF C Γ t m) (e : m = m') : EvF C Γ t m' := e ▸ h
/-- at most one list in it -/
def R.tw (a : α) (k : R γ) : R γ := R.ite (twB (enc a)) k R.bad
/-- the mirror: the list at k, if there is one -/
def lstAt {δ : Type} [Enc δ] [Dec δ] (ps : List PV) (k : Nat) : Option (List δ) := (ps[k]?).bind fun p => (Dec.dec p : Option (List δ))
end
/-! ### tuples of ints by < -/
section
variable {T : CT} {K : PySem.W.Frag} {β : Type} [Encs β] [i : IntsT β]
def ltT (a b : Tp β) : Bool := HT.lexLt (i.nums a.t) (i.nums b.t)
end
/-! ### xs.reverse() -/
section
variable {C : Cn} {Γ : List Sl} {l : Lv} {α β : Type} [Enc α] {u : TS} {out : β → Oc} {K : PySem.W.Frag}
end
/-! ### a, (b, c) as a target -/
section
variable {C : Cn} {l : Lv} {α β γ : Type} [Enc α] [Enc β] [Enc γ] {K : PySem.W.Frag}
end
/-! ### a list that comes out of a call as a value of unknown sort, and is changed then -/
section
variable {C : Cn} {Γ : List Sl} {te : TE} {γ : Type} {u : TS} {out : γ → Oc} {i : Nat}
end
end Pv

set_option Elab.async false
set_option linter.all false
set_option maxRecDepth 100000
set_option maxHeartbeats 2000000
/-! ### operators of own classes: x in o, o + o -/
namespace L2
open PySem PySem.Spec PyProof.Rows
section
variable {prog : Program} {w : World} {A : Around} {E : Value → Shared → Prop} {s : Shared} {K : PySem.W.Frag} {x C f : Addr} {ox : Obj} {od : Option Obj} {b : Value}
def BoolB (Q : Bool → Shared → Prop) (v : Value) (s' : Shared) : Prop := ∃ r, v = .bool r ∧ Q r s'
end
end L2
namespace L2
open PySem PySem.Spec PyProof.Rows
section
variable {X : Cx} {CX : CXT} {k : Nat} {C : Addr} {ps : List Str} {sp : Sp}
/-- a method of an own class, by its name -/
def KdM (P : Program) (w : World) (K : PySem.W.Frag) (mg : Str → Option Value) (base : Heap) (C : Addr) (x : Str) (ps : List Str) (k : Nat) (sp : Sp) : Prop :=
  ∃ f fd, PySem.W.findIn K (.ref C) x = some (some (.ref f)) ∧ PySem.W.isFn K (.ref f) = true ∧ PySem.W.selfFirst K C = true ∧ Binds K fd ps [] ∧ FnOk P w K mg base CX0 k f fd ps sp
def rInC (C : Addr) (sp : Sp) (g : Bool → Bool) : R2 := fun x y H Q => ∃ a dx fs, y = .ref a ∧ H a = some (.ins C dx fs) ∧ sp [.ref a, x] H (fun v H' => ∃ b, v = .bl b ∧ Q (.bl (g b)) H') E0
/-- o + o, both of the class -/
def rAddC (C : Addr) (sp : Sp) : R2 := fun x y H Q => ∃ a b dx dy fs gs, x = .ref a ∧ y = .ref b ∧ H a = some (.ins C dx fs) ∧ H b = some (.ins C dy gs) ∧ sp [.ref a, .ref b] H (fun v H' => (∃ r, v = .ref r) ∧ Q v H') E0
end
end L2
namespace Pv
open PySem PySem.Spec L2
open Enc (enc)
open Encs (encs)
section
variable {C : Cn} {Γ : List Sl} {l l1 l2 : Lv} {α β γ : Type} [Enc α] [Enc β] [Enc γ] {ta tb : TE}
end
end Pv

set_option Elab.async false
set_option linter.all false
set_option maxRecDepth 100000
namespace Pv
open PySem PySem.Spec L2
open Enc (enc)
open Encs (encs)
/-! ### a def that calls itself: its promise by fuel -/
end Pv

set_option Elab.async false
set_option linter.all false
set_option maxRecDepth 100000
namespace Pv
open PySem PySem.Spec L2
open Enc (enc)
open Encs (encs)
/-! ### x[::-1] of a text -/
def revS (x : Str) : Str := ⟨(cps x).reverse.toArray⟩
def tRslS (te : TE) (to : TO) : TE := fun σ H Q => te σ H fun x H1 => to σ H1 fun o H2 => o = some (-1) ∧ ∃ z, x = .str z ∧ z.length ≤ sizeLine ∧ Q (.str (revS z)) H2
section
variable {C : Cn} {Γ : List Sl} {l : Lv} {ta : TE} {to : TO}
end
end Pv

set_option Elab.async false
set_option linter.all false
set_option maxRecDepth 100000
namespace Pv
open PySem PySem.Spec L2
open Enc (enc)
open Encs (encs)
/-! ### return of one list or another -/
section
variable {C : Cn} {Γ : List Sl} {β : Type} {tt : TT} {ta tb : TE} {u : TS} {out : β → Oc}
end
end Pv

set_option Elab.async false
set_option linter.all false
set_option maxRecDepth 100000
set_option maxHeartbeats 2000000
/-! ### tuples of ints by > -/
namespace L2
open PySem PySem.Spec PyProof.Rows
/-- the first place where they differ decides -/
def gtL (p q : List Int) : Bool := Ob.lexAt (fun j => decide (p.getD j 0 = q.getD j 0)) (fun j => decide (q.getD j 0 < p.getD j 0)) (decide (q.length < p.length)) 0 (min p.length q.length)
def rGtT (K : PySem.W.Frag) : R2 := fun x y H Q => ∃ (c d : Addr) (p q : List Int), x = .ref c ∧ y = .ref d ∧ SqT K H c (p.map V.int) ∧ SqT K H d (q.map V.int) ∧ Q (.bl (gtL p q)) H
end L2
namespace Pv
open PySem PySem.Spec L2
open Enc (enc)
open Encs (encs)
section
variable {T : CT} {K : PySem.W.Frag} {β : Type} [Encs β] [i : IntsT β]
def gtT (a b : Tp β) : Bool := gtL (i.nums a.t) (i.nums b.t)
end
end Pv

set_option Elab.async false
set_option linter.all false
set_option maxRecDepth 100000
set_option maxHeartbeats 2000000
/-! ### a cell that only one slot has: a set of ints -/
namespace Pv
open PySem PySem.Spec L2
open Enc (enc)
open Encs (encs)
section
variable {C : Cn} {G : Addr → Prop} {Γ : List Sl} {hid : Hid} {os : List (Option Addr)} {σ : L2.St} {H : Hp} {i : Nat} {a : Addr} {φ ψ : Addr → HO}
end
/-! #### sets of ints -/
/-- the set of the members of xs -/
def cset (w : World) (xs : List Int) : Addr → HO := fun a => SetO w a (fun k => decide (k ∈ xs)) xs.length
def addQ (xs : List Int) (k : Int) : Option (List Int) := optIf (xs.length < 1000) (if k ∈ xs then xs else xs ++ [k])
section
variable {C : Cn} {Γ : List Sl} {l : Lv} {β : Type} {u : TS} {out : β → Oc} {w : World} {i j : Nat} {xs : List Int} {te : TE}
end
end Pv

set_option Elab.async false
set_option linter.all false
set_option maxRecDepth 100000
set_option maxHeartbeats 2000000
/-! ### a store within a try; ((a, b), c) as a target; t[k].append(e) -/
namespace Pv
open PySem PySem.Spec L2
open Enc (enc)
open Encs (encs)
section
variable {C : Cn} {W : WX} {Γ : List Sl} {l : Lv} {α β γ δ : Type} [Enc α] [Enc γ] [Enc δ] {out : β → Oc} {te : TE} {u : TS} {K : PySem.W.Frag}
end
/-- a comprehension in a comprehension -/
def inScope (scope sc : Scope) : Scope := { scope with names := scope.names.map fun (n, k) => if (k == .free && sc.kind == .function && sc.names.lookup n == some .cell) then (n, .cell) else (n, k) }
end Pv

set_option Elab.async false
set_option linter.all false
set_option maxRecDepth 100000
set_option maxHeartbeats 2000000
/-! ### the caught exception handed to a def, within its suite -/
namespace Pv
open PySem PySem.Spec PyProof.Rows L2 PySem.W PySem.Calls
open Enc (enc)
open Encs (encs)
/-- what a def is promised to do of the exception at a, of class cls, with its fields at d -/
abbrev SpXa := Addr → Value → Option Addr → Sp
structure FnE (P : Program) (w : World) (K : PySem.W.Frag) (mg : Str → Option Value) (base : Heap) (k : Nat) (f : Addr) (fd : FuncData) (ps : List Str) (sp : SpXa) : Prop where
  len : ∀ a cls d vs H Q E, sp a cls d vs H Q E → vs.length = ps.length
  run : ∀ (A : Around) (outer : List Env) (s : Shared) (H : Hp) (args : Args) (us : List Value) (vs : List V) (Q : VK) (E : XK) (p : Addr × Obj) (cls : Value) (d : Option Addr), L2H.RoomH k A → L2H.Hot1 A p → L2N.Zn cls d p.2 → (∃ fs, p.2.data = .fields fs) → L2H.PinOk outer H s p →
    Env0 P w K mg base A outer s H → BindsTo s fd args (ps.zip us) → Vals vs us → sp p.1 cls d vs H Q E → codeAny (model P w) A (.call (.ref f) args) (CR CX0 outer P w H s Q E) s
structure KdE (P : Program) (w : World) (K : PySem.W.Frag) (mg : Str → Option Value) (base : Heap) (x : Str) (ps : List Str) (k : Nat) (sp : SpXa) : Prop where
  ex : ∃ f fd, mg x = some (.ref f) ∧ PySem.W.keepIn K (.ref f) = true ∧ Binds K fd ps [] ∧ FnE P w K mg base k f fd ps sp
section
variable {X : Cx} {x : Str} {ps : List Str} {k : Nat} {sp : SpXa} {e : Expr} {es : List Expr} {t : TA} {p pos : Pos} {a : Addr} {oe : Obj} {cls : Value} {d : Option Addr} {pn : List (Addr × Obj)}
end
/-- one exception in, what is made anew out -/
def PmE {α : Type} [Enc α] (T : CT) (g : Exc → R α) : SpXa := fun a cls d vs H Q _ => ∃ x : Exc, vs = [.ref a] ∧ cls = .ref (T.addr x.c) ∧ x.vs ≠ [] ∧ XvOk T H d x ∧ PoQ T (.val .fr) (fun _ => False) H Q (g x)
/-- the slots of such a def: the exception, nothing else -/
def entryE (N : List Str) (a : Addr) (d : Option Addr) (x : Exc) : List Sl := .xv a d x :: List.replicate (N.length - 1) .un
section
variable {C : Cn} {Γ : List Sl} {i : Nat} {a : Addr} {d : Option Addr} {x : Exc} {α : Type} [Enc α] {g : Exc → R α}
end
/-! #### isinstance of it, there -/
section
variable {X : Cx} {a : Addr} {cls : Value} {d : Option Addr} {oe : Obj}
end
end Pv

set_option Elab.async false
set_option linter.all false
set_option maxRecDepth 100000
set_option maxHeartbeats 2000000
/-! ### while; max(xs, default=d), min(xs, default=d) of numbers -/
namespace Pv
open PySem PySem.Spec L2
open Enc (enc)
open Encs (encs)
/-- at most n turns -/
def whileR {S : Type} : Nat → (S → R Bool) → (S → R S) → S → R S
  | 0, _, _, _ => .bad
  | n + 1, c, f, s => (c s).bind fun b => R.ite b ((f s).bind fun s' => whileR n c f s') (.ok s)
section
variable {C : Cn} {Γ : List Sl} {β S : Type} {out : β → Oc} {tc : TT} {t u : TS} {es : S → List Sl} {s0 : S}
end
/-! #### max(xs, default=d) -/
def rMaxDf (K : PySem.W.Frag) : List V → List V → Hp → VK → Prop := fun xs zs H Q => ∃ (a : Addr) (ns : List Int) (d : V), xs = [V.ref a] ∧ zs = [d] ∧ SqL K H a (ns.map V.int) ∧ (ns = [] → Q d H) ∧ ∀ m, ns.max? = some m → Q (.int m) H
section
variable {C : Cn} {Γ : List Sl} {l l2 : Lv} {K : PySem.W.Frag} {ta tk : TA}
end
end Pv

set_option Elab.async false
set_option linter.all false
set_option maxRecDepth 100000
set_option maxHeartbeats 2000000
/-! ### things that only one slot has: taken, changed -/
namespace Pv
open PySem PySem.Spec L2
open Enc (enc)
open Encs (encs)
section
variable {C : Cn} {G : Addr → Prop} {Γ : List Sl} {hid : Hid} {os : List (Option Addr)} {σ : L2.St} {H H' : Hp} {l : Lv} {i : Nat} {D : Addr → Prop} {v : V} {φ ψ : Hp → Prop}
theorem av_extD {H0 : Hp} {a : Addr} (h : av l H0 (fun b => G b ∨ D b) os a) : av l H0 G os a ∨ D a := by
  cases l with
  | raw => exact h.elim
  | pa => rcases h with (h | h) | h
          · exact .inl (.inl h)
          · exact .inr h
          · exact .inl (.inr h)
  | fr => rcases h with h | (h | h) | h
          · exact .inl (.inl h)
          · exact .inl (.inr (.inl h))
          · exact .inr h
          · exact .inl (.inr (.inr h))
/-- new addresses: all that stood before knows nothing of them -/
theorem OkW.moreD (K : OkW C G Γ hid os σ H) (s : Same H H') (n : ∀ a, D a → H a = none) (d : ∀ a, D a → H' a ≠ none) : OkW C (fun b => G b ∨ D b) Γ hid os σ H' := by
  have mv : ∀ (l : Lv), ∀ p v, Rep C.T H (av l C.H0 G os) p v → Rep C.T H' (av l C.H0 (fun b => G b ∨ D b) os) p v := fun l p v h =>
    Rep.move (fun a u r g => ⟨s _ _ r, fun z => (av_extD z).elim g fun da => by rw [n a da] at r; cases r⟩) _ _ h
  have mvs : ∀ (l : Lv), ∀ p v, Reps C.T H (av l C.H0 G os) p v → Reps C.T H' (av l C.H0 (fun b => G b ∨ D b) os) p v := fun l p v h =>
    Reps.move (fun a u r g => ⟨s _ _ r, fun z => (av_extD z).elim g fun da => by rw [n a da] at r; cases r⟩) _ _ h
  refine ⟨K.lo, K.ls, K.ext.trans s, fun a g => g.elim (fun g => same_ne s (K.dom a g)) (d a), fun a h => ?_, K.inj, fun j x h => ?_, fun q hq => ⟨(K.hd q hq).1, mv q.1 _ _ (K.hd q hq).2⟩, K.ob.mono (fun i r p h => ⟨h, rfl⟩) (fun a o g _ z _ => ⟨s _ _ z, .inl g⟩) fun a us z => s _ _ z⟩
  · obtain ⟨h1, h2, h3⟩ := K.new a h
    exact ⟨h1, same_ne s h2, fun z => z.elim h3 fun e => h2 (n a e)⟩
  · have q := K.sl j x h
    cases x with
    | un => exact q
    | sh l p => obtain ⟨q1, q2, v, q3, q4⟩ := q; exact ⟨q1, q2, v, q3, mv l _ _ q4⟩
    | ow l xs => obtain ⟨q1, a, us, q2, q3, q4, q5, q6⟩ := q; exact ⟨q1, a, us, q2, q3, s _ _ q4, q5, mvs l _ _ q6⟩
    | xv a d x => obtain ⟨q1, q2, q3⟩ := q; exact ⟨q1, q2, q3.same fun a o h => s _ _ h⟩
    | tw ps => obtain ⟨o, t, us, q1, q2, q3, q4, q5⟩ := q; exact ⟨o, t, us, q1, q2, s _ _ q3, q4, q5.move (fun a ws _ h => s _ _ h) fun p v h => mv .fr p v h⟩
    | ce φ => obtain ⟨a, q1, q2, q3⟩ := q; exact ⟨a, q1, q2, s _ _ q3⟩
    | rs v D0 φ =>
      obtain ⟨q1, q2, q3, q4, q5⟩ := q
      refine ⟨q1, q2, fun a ha => ⟨.inl (q3 a ha).1, (q3 a ha).2⟩, q5 _ _ (fun a ha => ?_) (fun a us z => s _ _ z) q4, q5⟩
      cases ea : H a with
      | none => exact absurd ea (K.dom a (q3 a ha).1)
      | some o => exact (s a o ea).symm
    | ob r p => exact q
/-- a slot takes such a thing -/
theorem OkW.take (K : OkW C G Γ hid os σ H) (hi : i < Γ.length) (s : Same H H') (n : ∀ a, D a → H a = none) (d : ∀ a, D a → H' a ≠ none) (h : φ H') (lc : ∀ H1 H2 : Hp, (∀ a, D a → H1 a = H2 a) → (∀ a us, H1 a = some (.tup us) → H2 a = some (.tup us)) → φ H1 → φ H2) :
    OkW C (fun b => G b ∨ D b) (Γ.set i (.rs v D φ)) hid (os.set i none) (σ.set i (some v)) H' := by
  have K1 := (K.moreD s n d).clear i hi (some v)
  have h0 : ∀ a, D a → C.H0 a = none := fun a ha => by
    cases e : C.H0 a with
    | none => rfl
    | some o => have := K.ext a o e; rw [n a ha] at this; cases this
  refine ⟨by simp [K.lo], by simp [K.ls], K1.ext, K1.dom, K1.new, K1.inj, fun j x hj => ?_, K1.hd, (K.moreD s n d).ob.slot (s := .rs v D φ) trivial (fun a o g _ z _ => ⟨z, g⟩) fun a us z => z⟩
  by_cases e : i = j
  · subst e
    rw [List.getElem?_set_self hi] at hj
    cases hj
    exact ⟨by rw [List.getElem?_set_self (by rw [K.lo]; exact hi)], by rw [List.getElem?_set_self (by rw [K.ls]; exact hi)], fun a ha => ⟨.inr ha, h0 a ha⟩, h, lc⟩
  · refine K1.sl j x ?_
    rw [List.getElem?_set_ne e] at hj ⊢
    exact hj
/-- such a thing changes: nothing else does -/
theorem OkW.chgR {E : Addr → Prop} (K : OkW C G Γ hid os σ H) (h : Γ[i]? = some (.rs v D φ)) (ed : ∀ a, E a → D a) (off : ∀ a o, ¬ E a → H a = some o → H' a = some o) (d : ∀ a, E a → H' a ≠ none)
    (nt : ∀ a us, E a → H a ≠ some (.tup us)) (nx : ∀ a fs, E a → H a ≠ some (.xd fs)) (one : ∀ (j : Nat) v2 D2 φ2, j ≠ i → Γ[j]? = some (.rs v2 D2 φ2) → ∀ a, D2 a → ¬ E a) (hψ : ψ H') (lc : ∀ H1 H2 : Hp, (∀ a, D a → H1 a = H2 a) → (∀ a us, H1 a = some (.tup us) → H2 a = some (.tup us)) → ψ H1 → ψ H2) (nob : ∀ (j : Nat) r p, j ≠ i → Γ[j]? ≠ some (.ob r p)) :
    OkW C G (Γ.set i (.rs v D ψ)) hid os σ H' := by
  obtain ⟨k1, k2, k3, k4, k5⟩ := K.sl i _ h
  have hi : i < Γ.length := (List.getElem?_eq_some_iff.mp h).1
  have inav : ∀ (l : Lv), l.st → ∀ a, E a → av l C.H0 G os a := fun l hl a ha => by
    cases l with
    | raw => exact hl.elim
    | pa => exact .inl (k3 a (ed a ha)).1
    | fr => exact .inr (.inl (k3 a (ed a ha)).1)
  have mv : ∀ (l : Lv), l.st → ∀ p v, Rep C.T H (av l C.H0 G os) p v → Rep C.T H' (av l C.H0 G os) p v := fun l hl p v r => Rep.move (fun a u r g => ⟨off _ _ (fun da => g (inav l hl a da)) r, g⟩) _ _ r
  have mvs : ∀ (l : Lv), l.st → ∀ p v, Reps C.T H (av l C.H0 G os) p v → Reps C.T H' (av l C.H0 G os) p v := fun l hl p v r => Reps.move (fun a u r g => ⟨off _ _ (fun da => g (inav l hl a da)) r, g⟩) _ _ r
  have hne : ∀ b, H b ≠ none → H' b ≠ none := fun b hb => by
    by_cases e : E b
    · exact d b e
    · cases q : H b with
      | none => exact absurd q hb
      | some o => rw [off b o e q]; exact fun z => nomatch z
  refine ⟨by simp [K.lo], by simp [K.ls], fun b o e => ?_, fun b g => hne b (K.dom b g), fun b hb => ?_, K.inj, fun j s hj => ?_, fun q hq => ⟨(K.hd q hq).1, mv q.1 (K.hd q hq).1 _ _ (K.hd q hq).2⟩, ⟨fun _ => 0, fun j r p e => by
    obtain ⟨e1, e2⟩ := ob_set (s := .rs v D ψ) trivial e
    exact absurd e1 (nob j r p e2)⟩⟩
  · exact off b o (fun z => by rw [(k3 b (ed b z)).2] at e; cases e) (K.ext b o e)
  · obtain ⟨q1, q2, q3⟩ := K.new b hb
    exact ⟨q1, hne b q2, q3⟩
  · by_cases ej : i = j
    · subst ej
      rw [List.getElem?_set_self hi] at hj
      cases hj
      exact ⟨k1, k2, k3, hψ, lc⟩
    · rw [List.getElem?_set_ne ej] at hj
      have q := K.sl j s hj
      have nD : ∀ b : Addr, os[j]? = some (some b) → ¬ E b := fun b hb z => (K.new b (List.mem_of_getElem? hb)).2.2 (k3 b (ed b z)).1
      cases s with
      | un => exact q
      | sh l p => obtain ⟨q1, q2, v, q3, q4⟩ := q; exact ⟨q1, q2, v, q3, mv l q1 _ _ q4⟩
      | ow l ys => obtain ⟨q1, b, us, q2, q3, q4, q5, q6⟩ := q; exact ⟨q1, b, us, q2, q3, off _ _ (nD b q2) q4, q5, mvs l q1 _ _ q6⟩
      | xv b d x => obtain ⟨p1, p2, p3⟩ := q; exact ⟨p1, p2, p3.same fun c o hc => off _ _ (fun z => nx c o z hc) hc⟩
      | tw ps =>
        obtain ⟨o, t, us, p1, p2, p3, p4, p5⟩ := q
        exact ⟨o, t, us, p1, p2, off _ _ (fun z => nt t us z p3) p3, p4, p5.move (fun b ws eb hb => by subst eb; exact off _ _ (nD b p1) hb) fun p v r => mv .fr trivial p v r⟩
      | ce χ => obtain ⟨b, q1, q2, q3⟩ := q; exact ⟨b, q1, q2, off _ _ (nD b q1) q3⟩
      | rs v2 D2 χ =>
        obtain ⟨p1, p2, p3, p4, p5⟩ := q
        refine ⟨p1, p2, p3, p5 _ _ (fun b hb => ?_) (fun b us z => off _ _ (fun y => nt b us y z) z) p4, p5⟩
        have nb := one j v2 D2 χ (fun z => ej z.symm) hj b hb
        cases eb : H b with
        | none => exact absurd eb (K.dom b (p3 b hb).1)
        | some o => exact (off b o nb eb).symm
      | ob r p => exact q
end
end Pv

set_option Elab.async false
set_option linter.all false
set_option maxRecDepth 100000
set_option maxHeartbeats 2000000
namespace Pv
open PySem PySem.Spec L2
open Enc (enc)
open Encs (encs)
section
variable {T : CT} {H H' : Hp}
/-! #### a list deep within: read along a path, changed there -/
def getP : PV → List Nat → Option PV
  | p, [] => some p
  | .lst ps, k :: π => (ps[k]?).bind fun q => getP q π
  | .tup ps, k :: π => (ps[k]?).bind fun q => getP q π
  | _, _ :: _ => none
def setP : PV → List Nat → PV → PV
  | _, [], q => q
  | .lst ps, k :: π, q => .lst (ps.set k (setP (ps.getD k .non) π q))
  | .tup ps, k :: π, q => .tup (ps.set k (setP (ps.getD k .non) π q))
  | p, _ :: _, _ => p
/-- the value at the end of the path -/
def At (H : Hp) : V → List Nat → V → Prop
  | v, [], u => u = v
  | v, k :: π, u => ∃ a vs w, v = .ref a ∧ (H a = some (.lst vs) ∨ H a = some (.tup vs)) ∧ vs[k]? = some w ∧ At H w π u
theorem Own.path : ∀ (π : List Nat) {p q : PV} {v : V} {as : List Addr}, as.Nodup → Own T H p v as → getP p π = some q →
    ∃ u a1 bs a3, At H v π u ∧ as.Perm (bs ++ (a1 ++ a3)) ∧ Own T H q u bs ∧ ∀ (H2 : Hp) (r : PV), (∀ a us, H a = some (.tup us) → H2 a = some (.tup us)) → (∀ a, a ∈ as → a ∉ bs → H a = H2 a) → Own T H2 r u bs → Own T H2 (setP p π r) v as
  | [], p, q, v, as, hn, h, e => by
    unfold getP at e
    cases e
    exact ⟨v, [], as, [], rfl, by simp, h, fun H2 r st lo hr => by unfold setP; exact hr⟩
  | k :: π, .lst ps, q, v, as, hn, h, e => by
    unfold getP at e
    obtain ⟨p1, e1, e2⟩ := Option.bind_eq_some_iff.mp e
    unfold Own at h
    obtain ⟨a, vs, bs0, f1, f2, f3, f4, f5⟩ := h
    obtain ⟨w, b1, b2, b3, g1, g2, g3, g4⟩ := OwnL.item ps f5 e1
    subst f2
    have nd := List.nodup_cons.mp hn
    have n2 : b2.Nodup := by
      have := nd.2
      rw [g2] at this
      exact ((List.nodup_append.mp (List.nodup_append.mp this).1).2.1)
    obtain ⟨u, c1, cs, c3, k1, k2, k3, k4⟩ := Own.path π n2 g3 e2
    have incl : ∀ z, z ∈ cs → z ∈ b2 := fun z hz => k2.mem_iff.mpr (List.mem_append_left _ hz)
    have nb := nd.2
    rw [g2] at nb
    have d1 : ∀ z, z ∈ b1 → z ∉ b2 := fun z h1 h2 => (List.nodup_append.mp (List.nodup_append.mp nb).1).2.2 z h1 z h2 rfl
    have d3 : ∀ z, z ∈ b3 → z ∉ b2 := fun z h3 h2 => (List.nodup_append.mp nb).2.2 z (List.mem_append_right _ h2) z h3 rfl
    refine ⟨u, c1 ++ c3, cs, a :: (b1 ++ b3), ⟨a, vs, w, f1, .inl f3, g1, k1⟩, ?_, k3, fun H2 r st lo hr => ?_⟩
    · rw [g2]
      refine List.Perm.trans (List.Perm.cons a (List.Perm.append_right _ (List.Perm.append_left _ k2))) ?_
      rw [List.perm_iff_count]
      intro z
      simp only [List.count_cons, List.count_append]
      omega
    · have i1 := k4 H2 r st (fun z hz nz => lo z (by rw [g2]; exact List.mem_cons_of_mem _ (List.mem_append_left _ (List.mem_append_right _ hz))) nz) hr
      have i2 := g4 H2 (setP p1 π r) st (fun z hz => lo z (by
        rw [g2]
        refine List.mem_cons_of_mem _ ?_
        rcases hz with hz | hz
        · exact List.mem_append_left _ (List.mem_append_left _ hz)
        · exact List.mem_append_right _ hz) (fun y => hz.elim (fun hz => d1 z hz (incl z y)) fun hz => d3 z hz (incl z y))) i1
      have na : a ∉ cs := fun y => nd.1 (by rw [g2]; exact List.mem_append_left _ (List.mem_append_right _ (incl a y)))
      unfold setP Own
      have eg : ps.getD k .non = p1 := by rw [List.getD_eq_getElem?_getD, e1]; rfl
      rw [eg]
      exact ⟨a, vs, bs0, f1, rfl, by rw [← lo a (List.mem_cons_self ..) na]; exact f3, f4, i2⟩
  | k :: π, .tup ps, q, v, as, hn, h, e => by
    unfold getP at e
    obtain ⟨p1, e1, e2⟩ := Option.bind_eq_some_iff.mp e
    unfold Own at h
    obtain ⟨t, vs, f1, f3, f4, f5⟩ := h
    obtain ⟨w, b1, b2, b3, g1, g2, g3, g4⟩ := OwnL.item ps f5 e1
    have nb := hn
    rw [g2] at nb
    have n2 : b2.Nodup := (List.nodup_append.mp (List.nodup_append.mp nb).1).2.1
    obtain ⟨u, c1, cs, c3, k1, k2, k3, k4⟩ := Own.path π n2 g3 e2
    have incl : ∀ z, z ∈ cs → z ∈ b2 := fun z hz => k2.mem_iff.mpr (List.mem_append_left _ hz)
    have d1 : ∀ z, z ∈ b1 → z ∉ b2 := fun z h1 h2 => (List.nodup_append.mp (List.nodup_append.mp nb).1).2.2 z h1 z h2 rfl
    have d3 : ∀ z, z ∈ b3 → z ∉ b2 := fun z h3 h2 => (List.nodup_append.mp nb).2.2 z (List.mem_append_right _ h2) z h3 rfl
    refine ⟨u, c1 ++ c3, cs, b1 ++ b3, ⟨t, vs, w, f1, .inr f3, g1, k1⟩, ?_, k3, fun H2 r st lo hr => ?_⟩
    · rw [g2]
      refine List.Perm.trans (List.Perm.append_right _ (List.Perm.append_left _ k2)) ?_
      rw [List.perm_iff_count]
      intro z
      simp only [List.count_append]
      omega
    · have i1 := k4 H2 r st (fun z hz nz => lo z (by rw [g2]; exact List.mem_append_left _ (List.mem_append_right _ hz)) nz) hr
      have i2 := g4 H2 (setP p1 π r) st (fun z hz => lo z (by
        rw [g2]
        rcases hz with hz | hz
        · exact List.mem_append_left _ (List.mem_append_left _ hz)
        · exact List.mem_append_right _ hz) (fun y => hz.elim (fun hz => d1 z hz (incl z y)) fun hz => d3 z hz (incl z y))) i1
      unfold setP Own
      have eg : ps.getD k .non = p1 := by rw [List.getD_eq_getElem?_getD, e1]; rfl
      rw [eg]
      exact ⟨t, vs, f1, st t vs f3, f4, i2⟩
  | _ :: _, .non, _, _, _, _, _, e => by cases e
  | _ :: _, .bl _, _, _, _, _, _, e => by cases e
  | _ :: _, .int _, _, _, _, _, _, e => by cases e
  | _ :: _, .str _, _, _, _, _, _, e => by cases e
  | _ :: _, .obj _ _, _, _, _, _, _, e => by cases e
  | _ :: _, .dic _ _, _, _, _, _, _, e => by cases e
  | _ :: _, .scr _, _, _, _, _, _, e => by cases e
end
end Pv

set_option Elab.async false
set_option linter.all false
set_option maxRecDepth 100000
set_option maxHeartbeats 2000000
/-! ### slots that hold such a value: read, changed deep within -/
namespace Pv
open PySem PySem.Spec L2
open Enc (enc)
open Encs (encs)
def dpS (T : CT) (p : PV) (v : V) (as : List Addr) : Sl := .rs v (· ∈ as) (fun H => Own T H p v as ∧ as.Nodup)
/-- no other thing with addresses of its own -/
def noRs : List Sl → Prop
  | [] => True
  | .ob _ _ :: _ => False
  | .rs _ D _ :: r => (∀ a, ¬ D a) ∧ noRs r
  | _ :: r => noRs r
theorem noRs_at : ∀ {Γ : List Sl} {j : Nat} {v : V} {D : Addr → Prop} {φ : Hp → Prop}, noRs Γ → Γ[j]? = some (.rs v D φ) → ∀ a, ¬ D a
  | [], j, _, _, _, _, h => by simp at h
  | s :: r, 0, v, D, φ, n, h => by
    simp only [List.getElem?_cons_zero, Option.some.injEq] at h
    subst h
    exact n.1
  | s :: r, j + 1, v, D, φ, n, h => by
    rw [List.getElem?_cons_succ] at h
    cases s <;> first | exact noRs_at (Γ := r) n h | exact noRs_at (Γ := r) n.2 h | exact n.elim
theorem noRs_ob : ∀ {Γ : List Sl} {j : Nat} {r0 : Option V} {p : PV}, noRs Γ → Γ[j]? ≠ some (.ob r0 p)
  | [], j, _, _, _, h => by simp at h
  | s :: r, 0, r0, p, n, h => by
    simp only [List.getElem?_cons_zero, Option.some.injEq] at h
    subst h
    exact n
  | s :: r, j + 1, r0, p, n, h => by
    rw [List.getElem?_cons_succ] at h
    cases s <;> first | exact noRs_ob (Γ := r) n h | exact noRs_ob (Γ := r) n.2 h | exact n.elim
theorem noRs_nob {Γ : List Sl} {i : Nat} (n : noRs (Γ.set i .un)) (j : Nat) (r : Option V) (p : PV) (h : j ≠ i) : Γ[j]? ≠ some (.ob r p) := fun e => noRs_ob n (show (Γ.set i .un)[j]? = some (.ob r p) by rw [List.getElem?_set_ne (fun z => h z.symm)]; exact e)
theorem At.fn {H : Hp} : ∀ {π : List Nat} {v u w : V}, At H v π u → At H v π w → u = w
  | [], v, u, w, h, k => by
    have h : u = v := h
    have k : w = v := k
    rw [h, k]
  | x :: π, v, u, w, h, k => by
    obtain ⟨a, vs, z, e1, e2, e3, e4⟩ := h
    obtain ⟨b, us, y, f1, f2, f3, f4⟩ := k
    cases e1.symm.trans f1
    have ev : vs = us := by
      rcases e2 with e2 | e2 <;> rcases f2 with f2 | f2 <;> rw [e2] at f2 <;> cases f2 <;> rfl
    subst ev
    rw [e3] at f3
    cases f3
    exact At.fn e4 f4
theorem At.snoc {H : Hp} {k : Nat} {a : Addr} {vs : List V} {w : V} : ∀ {π : List Nat} {v u : V}, At H v π u → u = .ref a → (H a = some (.lst vs) ∨ H a = some (.tup vs)) → vs[k]? = some w → At H v (π ++ [k]) w
  | [], v, u, h, e, hh, hk => by
    have h : u = v := h
    subst h
    exact ⟨a, vs, w, e, hh, hk, rfl⟩
  | x :: π, v, u, h, e, hh, hk => by
    obtain ⟨b, us, z, e1, e2, e3, e4⟩ := h
    exact ⟨b, us, z, e1, e2, e3, At.snoc e4 e hh hk⟩
theorem At.same {H H' : Hp} (s : Same H H') : ∀ {π : List Nat} {v u : V}, At H v π u → At H' v π u
  | [], _, _, h => h
  | x :: π, v, u, h => by
    obtain ⟨b, us, z, e1, e2, e3, e4⟩ := h
    exact ⟨b, us, z, e1, e2.imp (s _ _) (s _ _), e3, At.same s e4⟩
def ixTP (p : PV) (π : List Nat) (k : Nat) : Option (List Nat) := match getP p π with
  | some (.tup ps) => if k < ps.length then some (π ++ [k]) else none
  | _ => none
def ixLP (p : PV) (π : List Nat) (j : Int) : Option (List Nat) := match getP p π with
  | some (.lst ps) => (ixN ps.length j).map fun k => π ++ [k]
  | _ => none
section
variable {C : Cn} {Γ : List Sl} {i : Nat} {p : PV} {v : V} {as : List Addr} {K : PySem.W.Frag} {l : Lv}
/-- the thing is read as a value -/
theorem evm_dp {α : Type} [Enc α] {a : α} (h : Γ[i]? = some (dpS C.T (enc a) v as)) : Evm C Γ .raw (tVar i) (.ok a) := fun G hid os σ H Q Kw q => by
  obtain ⟨_, e, _, ⟨ow, _⟩, _⟩ := Kw.sl i _ h
  exact ⟨v, e, q v H (Same.refl H) (Own.rep _ ow)⟩
/-- the value along a path -/
def EvP (C : Cn) (Γ : List Sl) (p : PV) (v : V) (as : List Addr) (i : Nat) (tr : TE) (mp : R (List Nat)) : Prop := ∀ G hid os σ H Q, OkW C G Γ hid os σ H → Γ[i]? = some (dpS C.T p v as) →
  (match mp with | .ok π => ∀ u H1, Same H H1 → At H1 v π u → Q u H1 | .ex x => PoX C σ H x | .bad => False) → tr σ H Q
/-- p with e put behind the list at the path -/
def appP (p : PV) (π : List Nat) (e : PV) : Option PV := match getP p π with
  | some (.lst qs) => optIf (qs.length < LIM ∧ qs.all flV = true) (setP p π (.lst (qs ++ [e])))
  | _ => none
/-- a list stands at the path -/
def lstP (p : PV) (π : List Nat) : Option Unit := match getP p π with
  | some (.lst _) => some ()
  | _ => none
end
end Pv

set_option Elab.async false
set_option linter.all false
set_option maxRecDepth 100000
set_option maxHeartbeats 2000000
/-! ### values all of whose lists are new: from calls, into slots, out of defs -/
namespace Pv
open PySem PySem.Spec L2
open Enc (enc)
open Encs (encs)
def PoD {α : Type} [Enc α] (C : Cn) (σ : L2.St) (H : Hp) (Q : VK) : R α → Prop
  | .ok a => ∀ v as H', Same H H' → as.Nodup → (∀ x, x ∈ as → H x = none) → Own C.T H' (enc a) v as → Q v H'
  | .ex x => PoX C σ H x
  | .bad => False
def EvD {α : Type} [Enc α] (C : Cn) (Γ : List Sl) (t : TE) (m : R α) : Prop := ∀ G hid os σ H Q, OkW C G Γ hid os σ H → PoD C σ H Q m → t σ H Q
theorem same_none {H H' : Hp} (s : Same H H') {a : Addr} (h : H' a = none) : H a = none := by
  cases e : H a with
  | none => rfl
  | some o => rw [s a o e] at h; cases h
theorem Own.live {T : CT} {H : Hp} {p : PV} {v : V} {as : List Addr} (h : Own T H p v as) : ∀ a, a ∈ as → H a ≠ none := fun a ha => by
  obtain ⟨ws, e, _⟩ := Own.lists p h a ha
  rw [e]
  exact fun z => nomatch z
section
variable {C : Cn} {Γ : List Sl} {i : Nat} {l : Lv} {α β γ δ : Type} [Enc α] [Encs γ] {ta te : TE} {t : TA} {u : TS} {out : β → Oc} {E : XK}
theorem evd_callX {m : R γ} {f : γ → R α} {W : WX} (hW : C.W = some W) (ha : EvA C Γ .raw t m) : EvD C Γ (tCallS (PmX C.T .dp f) (WE W) t) (m.bind f) := fun G hid os σ H Q Kw q => by
  refine callx_gen (M := .dp) (P := fun G os σ H Q r => PoD C σ H Q r) hW ha (fun _ _ _ _ _ z => z) (fun _ _ _ _ _ x z => z) (fun G hid os σ H Q H1 a Kw s1 q => ⟨fun _ => False, fun _ z => z.elim, fun _ z => z.elim, fun v as H2 s2 nd fr ow => q v as H2 (s1.trans s2) nd (fun x hx => same_none s1 (fr x hx)) ow⟩) G hid os σ H Q Kw ?_
  cases m with
  | bad => exact q
  | ex x => exact q
  | ok b => exact q
theorem evd_callQ {m : R γ} {f : γ → R α} (ha : EvA C Γ .raw t m) : EvD C Γ (tCallS (PmX C.T .dp f) (WE fun _ _ _ _ => False) t) (m.bind fun b => (f b).nox) := fun G hid os σ H Q Kw q => by
  refine callq_gen (M := .dp) (P := fun G os σ H Q r => PoD C σ H Q r.nox) ha (fun _ _ _ _ _ z => z) (fun _ _ _ _ _ x z => z) (fun G hid os σ H Q H1 a Kw s1 q => ⟨fun _ => False, fun _ z => z.elim, fun _ z => z.elim, fun v as H2 s2 nd fr ow => q v as H2 (s1.trans s2) nd (fun x hx => same_none s1 (fr x hx)) ow⟩) G hid os σ H Q Kw ?_
  cases m with
  | bad => exact q
  | ex x => exact q
  | ok b => exact q
/-- into a slot -/
theorem bd_setD {m : R α} {k : α → R β} (h : EvD C Γ te m) (hi : i < Γ.length) (hk : ∀ a v as, BD C (Γ.set i (dpS C.T (enc a) v as)) u (k a) out) : BD C Γ (tSeq (tAsg te (gName i)) u) (m.bind k) out := fun G hid os σ H D Kw q => by
  refine h G hid os σ H _ Kw ?_
  rcases ex_cases q with ⟨a, e, q⟩ | ⟨x, e, q⟩ <;> rw [e]
  · intro v as H1 s1 nd fr ow
    have K1 := Kw.take (i := i) (v := v) (D := (· ∈ as)) (φ := fun H => Own C.T H (enc a) v as ∧ as.Nodup) hi s1 fr (fun a ha => ow.live a ha) ⟨ow, nd⟩ (fun Ha Hb lo tu ⟨o, n⟩ => ⟨Own.loc tu _ lo o, n⟩)
    exact hk a v as _ hid _ _ H1 D K1 (PoB.mono (fun _ z => .inl z) q)
  · exact pox_of Kw q
/-! #### what a def hands back so: new values, and own lists that it gives up -/
def PoG {α : Type} [Enc α] (C : Cn) (os : List (Option Addr)) (js : List Nat) (σ : L2.St) (H : Hp) (Q : VK) : R α → Prop
  | .ok a => ∀ v as H', Same H H' → as.Nodup → (∀ x, x ∈ as → H x = none ∨ ∃ j, j ∈ js ∧ os[j]? = some (some x)) → Own C.T H' (enc a) v as → Q v H'
  | .ex x => PoX C σ H x
  | .bad => False
def EvG {α : Type} [Enc α] (C : Cn) (Γ : List Sl) (js : List Nat) (t : TE) (m : R α) : Prop := ∀ G hid os σ H Q, OkW C G Γ hid os σ H → PoG C os js σ H Q m → t σ H Q
def PoGs {γ : Type} [Encs γ] (C : Cn) (os : List (Option Addr)) (js : List Nat) (σ : L2.St) (H : Hp) (Q : List V → Hp → Prop) : R γ → Prop
  | .ok b => ∀ vs as H', Same H H' → as.Nodup → (∀ x, x ∈ as → H x = none ∨ ∃ j, j ∈ js ∧ os[j]? = some (some x)) → OwnL C.T H' (encs b) vs as → Q vs H'
  | .ex x => PoX C σ H x
  | .bad => False
def EvGs {γ : Type} [Encs γ] (C : Cn) (Γ : List Sl) (js : List Nat) (t : TA) (m : R γ) : Prop := ∀ G hid os σ H Q, OkW C G Γ hid os σ H → PoGs C os js σ H Q m → t σ H Q
theorem evg_new {m : R α} (h : EvD C Γ te m) : EvG C Γ [] te m := fun G hid os σ H Q Kw q => by
  refine h G hid os σ H Q Kw ?_
  cases m with
  | bad => exact q
  | ex x => exact q
  | ok a => exact fun v as H' s nd fr ow => q v as H' s nd (fun x hx => .inl (fr x hx)) ow
theorem own_flat {T : CT} {H : Hp} {p : PV} {v : V} (f : flV p = true) (h : Rep T H (fun _ => False) p v) : Own T H p v [] := by
  cases p <;> first | (unfold Own; exact ⟨rfl, f, h⟩) | (cases f)
theorem ownL_flat {T : CT} {H : Hp} : ∀ {ps : List PV} {vs : List V}, ps.all flV = true → Reps T H (fun _ => False) ps vs → OwnL T H ps vs []
  | [], vs, _, h => by unfold Reps at h; unfold OwnL; exact ⟨h, rfl⟩
  | p :: ps, vs, f, h => by
    rw [List.all_cons, Bool.and_eq_true] at f
    unfold Reps at h
    obtain ⟨v, r, e, h1, h2⟩ := h
    unfold OwnL
    exact ⟨v, r, [], [], e, rfl, own_flat f.1 h1, ownL_flat f.2 h2⟩
theorem own_im {T : CT} {H : Hp} {p : PV} {v : V} (f : imV p = true) (h : Rep T H (fun _ => False) p v) : Own T H p v [] := by
  cases p with
  | tup ps =>
    have f : ps.all flV = true := f
    unfold Rep at h
    obtain ⟨t, vs, e, _, ht, hz, rs⟩ := h
    unfold Own
    exact ⟨t, vs, e, ht, hz, ownL_flat f rs⟩
  | _ => exact own_flat f h
theorem ownL_im {T : CT} {H : Hp} : ∀ {ps : List PV} {vs : List V}, ps.all imV = true → Reps T H (fun _ => False) ps vs → OwnL T H ps vs []
  | [], vs, _, h => by unfold Reps at h; unfold OwnL; exact ⟨h, rfl⟩
  | p :: ps, vs, f, h => by
    rw [List.all_cons, Bool.and_eq_true] at f
    unfold Reps at h
    obtain ⟨v, r, e, h1, h2⟩ := h
    unfold OwnL
    exact ⟨v, r, [], [], e, rfl, own_im f.1 h1, ownL_im f.2 h2⟩
theorem evg_flat {m : R α} (fl : ∀ a : α, flV (enc a) = true) (h : Evm C Γ l te m) : EvG C Γ [] te m := fun G hid os σ H Q Kw q => by
  refine h G hid os σ H Q Kw ?_
  cases m with
  | bad => exact q
  | ex x => exact q
  | ok a => exact fun v H' s r => q v [] H' s List.nodup_nil (fun x hx => (List.not_mem_nil hx).elim) (own_flat (fl a) (Rep.flV r (fl a)))
theorem evg_list {m : R (List α)} (fl : ∀ a : α, imV (enc a) = true) (h : EvN C Γ l te m) : EvG C Γ [] te m := fun G hid os σ H Q Kw q => by
  refine h G hid os σ H Q Kw ?_
  cases m with
  | bad => exact q
  | ex x => exact q
  | ok xs =>
    intro p vs H' s n hp hz r
    have fa : (xs.map enc).all imV = true := by
      rw [List.all_eq_true]
      intro z hz
      obtain ⟨a, _, rfl⟩ := List.mem_map.mp hz
      exact fl a
    refine q (.ref p) [p] H' s (by simp) (fun x hx => .inl (by rw [List.mem_singleton.mp hx]; exact n)) ?_
    show Own C.T H' (.lst (xs.map enc)) _ _
    unfold Own
    exact ⟨p, vs, [], rfl, rfl, hp, hz, ownL_im fa (r.weak fun _ z => z.elim)⟩
/-- an own list is given up -/
theorem evg_own {xs : List α} (fl : ∀ a : α, imV (enc a) = true) (h : Γ[i]? = some (.ow l (xs.map enc))) : EvG C Γ [i] (tVar i) (.ok xs) := fun G hid os σ H Q Kw q => by
  obtain ⟨hl, a, vs, e1, e2, e3, e4, e5⟩ := Kw.sl i _ h
  have fa : (xs.map enc).all imV = true := by
    rw [List.all_eq_true]
    intro z hz
    obtain ⟨a, _, rfl⟩ := List.mem_map.mp hz
    exact fl a
  refine ⟨_, e2, q (.ref a) [a] H (Same.refl H) (by simp) (fun x hx => .inr ⟨i, List.mem_singleton.mpr rfl, by rw [List.mem_singleton.mp hx]; exact e1⟩) ?_⟩
  show Own C.T H (.lst (xs.map enc)) _ _
  unfold Own
  exact ⟨a, vs, [], rfl, rfl, e3, e4, ownL_im fa (e5.weak fun _ z => z.elim)⟩
theorem evgs_nil : EvGs C Γ [] tNil (.ok ()) := fun G hid os σ H Q Kw q => q [] [] H (Same.refl H) List.nodup_nil (fun x hx => (List.not_mem_nil hx).elim) (by show OwnL C.T H [] [] []; unfold OwnL; exact ⟨rfl, rfl⟩)
theorem evgs_cons {js ks : List Nat} {m : R α} {n : R γ} (dj : ∀ j, j ∈ js → j ∉ ks) (h : EvG C Γ js te m) (hs : EvGs C Γ ks t n) : EvGs C Γ (js ++ ks) (tCons te t) (m.bind fun a => n.bind fun b => .ok (a, b)) := fun G hid os σ H Q Kw q => by
  refine h G hid os σ H _ Kw ?_
  cases e1 : m with
  | bad => rw [e1] at q; exact q
  | ex x => rw [e1] at q; exact q
  | ok a =>
    rw [e1] at q
    intro v as H1 s1 nd fr ow
    have K1 := Kw.same s1
    refine hs G hid os σ H1 _ K1 ?_
    cases e2 : n with
    | bad => rw [e2] at q; exact q
    | ex x => rw [e2] at q; exact PoX.back s1 q
    | ok b =>
      rw [e2] at q
      intro vs bs H2 s2 nd2 fr2 ow2
      refine q (v :: vs) (as ++ bs) H2 (s1.trans s2) ?_ ?_ ?_
      · refine List.nodup_append.mpr ⟨nd, nd2, fun x hx y hy e => ?_⟩
        subst e
        rcases fr2 x hy with f | ⟨j, hj, ej⟩
        · exact ow.live x hx f
        · rcases fr x hx with g | ⟨k, hk, ek⟩
          · exact (Kw.new x (List.mem_of_getElem? ej)).2.1 g
          · have := Kw.inj j k x ej ek
            subst this
            exact dj j hk hj
      · intro x hx
        rcases List.mem_append.mp hx with hx | hx
        · exact (fr x hx).imp id fun ⟨j, hj, ej⟩ => ⟨j, List.mem_append_left _ hj, ej⟩
        · exact (fr2 x hx).imp (fun z => same_none s1 z) fun ⟨j, hj, ej⟩ => ⟨j, List.mem_append_right _ hj, ej⟩
      · show OwnL C.T H2 (enc a :: encs b) _ _
        unfold OwnL
        refine ⟨v, vs, as, bs, rfl, rfl, Own.loc (fun t us ht => s2 _ _ ht) _ (fun x hx => ?_) ow, ow2⟩
        cases ex : H1 x with
        | none => exact absurd ex (ow.live x hx)
        | some o => exact (s2 x o ex).symm
theorem evg_tup {js : List Nat} {n : R γ} (hs : EvGs C Γ js t n) (hn : ∀ b : γ, (encs b).length ≤ 1000) : EvG C Γ js (tTup t) (n.bind fun b => .ok (Tp.mk b)) := fun G hid os σ H Q Kw q => by
  refine hs G hid os σ H _ Kw ?_
  cases e1 : n with
  | bad => rw [e1] at q; exact q
  | ex x => rw [e1] at q; exact q
  | ok b =>
    rw [e1] at q
    intro vs as H1 s1 nd fr ow
    have hl : vs.length ≤ 1000 := by rw [← (OwnL.rep _ ow).len]; exact hn b
    refine ⟨Nat.le_of_lt (lim_size (Nat.le_trans hl (by decide))), fun p np => q (.ref p) as _ (s1.trans (same_new np)) nd fr ?_⟩
    show Own C.T _ (.tup (encs b)) _ _
    unfold Own
    refine ⟨p, vs, rfl, upd_same, Nat.le_trans hl (by decide), OwnL.loc (fun t us ht => same_new np _ _ ht) _ (fun x hx => ?_) ow⟩
    have : x ≠ p := fun e => by
      obtain ⟨ws, hw, _⟩ := OwnL.lists _ ow x hx
      rw [e, np] at hw
      cases hw
    rw [upd_ne this]
/-- return -/
theorem bd_retD {js : List Nat} {m : R α} {k : α → β} (hM : C.M = .dp) (h : EvG C Γ js te m) (ho : ∀ a, out (k a) = .rt (enc a)) : BD C Γ (tSeq (tRet te) u) (m.bind fun a => .ok (k a)) out := fun G hid os σ H D Kw q => by
  refine h G hid os σ H _ Kw ?_
  rcases ex_cases q with ⟨a, e, q⟩ | ⟨x, e, q⟩ <;> rw [e]
  · intro v as H1 s1 nd fr ow
    have q : PoO C G hid D (out (k a)) := q
    rw [ho] at q
    have q : PoRet C.T C.M G C.H0 D.rt (enc a) := q
    unfold PoRet at q
    rw [hM] at q
    refine q v as H1 (Kw.ext.trans s1) nd (fun x hx => ?_) ow
    rcases fr x hx with f | ⟨j, _, ej⟩
    · exact same_none Kw.ext f
    · exact (Kw.new x (List.mem_of_getElem? ej)).1
  · exact pox_of Kw q
end
end Pv

set_option Elab.async false
set_option linter.all false
set_option maxRecDepth 100000
set_option maxHeartbeats 2000000
/-! ### a list deep within takes other items -/
namespace Pv
open PySem PySem.Spec L2
open Enc (enc)
open Encs (encs)
theorem own_im_nil {T : CT} {H : Hp} : ∀ {p : PV} {v : V} {as : List Addr}, imV p = true → Own T H p v as → as = [] := fun {p v as} f h => by
  have flats : ∀ (ps : List PV) {vs : List V} {cs : List Addr}, ps.all flV = true → OwnL T H ps vs cs → cs = [] := fun ps => by
    induction ps with
    | nil => intro vs cs _ o; unfold OwnL at o; exact o.2
    | cons r rs ih =>
      intro vs cs f o
      rw [List.all_cons, Bool.and_eq_true] at f
      unfold OwnL at o
      obtain ⟨v1, r1, a1, a2, _, ea, h1, h2⟩ := o
      rw [ea, ih f.2 h2]
      have f1 := f.1
      cases r <;> first | (unfold Own at h1; rw [h1.1]; rfl) | (cases f1)
  cases p with
  | tup ps =>
    have f : ps.all flV = true := f
    unfold Own at h
    obtain ⟨t, vs, _, _, _, o⟩ := h
    exact flats ps f o
  | lst ps => cases f
  | obj c ps => cases f
  | dic c ps => cases f
  | scr ns => cases f
  | non => unfold Own at h; exact h.1
  | bl b => unfold Own at h; exact h.1
  | int b => unfold Own at h; exact h.1
  | str b => unfold Own at h; exact h.1
theorem ownL_im_nil {T : CT} {H : Hp} : ∀ (ps : List PV) {vs : List V} {as : List Addr}, ps.all imV = true → OwnL T H ps vs as → as = []
  | [], _, _, _, o => by unfold OwnL at o; exact o.2
  | p :: ps, _, _, f, o => by
    rw [List.all_cons, Bool.and_eq_true] at f
    unfold OwnL at o
    obtain ⟨v1, r1, a1, a2, _, ea, h1, h2⟩ := o
    rw [ea, own_im_nil f.1 h1, ownL_im_nil ps f.2 h2]
    rfl
section
variable {C : Cn} {G : Addr → Prop} {Γ : List Sl} {hid : Hid} {os : List (Option Addr)} {σ : L2.St} {H : Hp} {i : Nat} {p : PV} {v : V} {as : List Addr} {π : List Nat} {qs : List PV}
theorem OkW.chgP (K : OkW C G Γ hid os σ H) (h : Γ[i]? = some (dpS C.T p v as)) (one : noRs (Γ.set i .un)) (g : getP p π = some (.lst qs)) (fq : qs.all imV = true) :
    ∃ a ws, At H v π (.ref a) ∧ H a = some (.lst ws) ∧ ws.length ≤ LIM ∧ Reps C.T H (fun _ => False) qs ws ∧ ∀ (qs' : List PV) (ws' : List V), qs'.all imV = true → ws'.length ≤ LIM → Reps C.T H (fun _ => False) qs' ws' →
      OkW C G (Γ.set i (dpS C.T (setP p π (.lst qs')) v as)) hid os σ (upd H a (.lst ws')) := by
  obtain ⟨k1, k2, k3, ⟨ow, nd⟩, k5⟩ := K.sl i _ h
  obtain ⟨u, c1, bs, c3, hu, pm, o, back⟩ := Own.path π nd ow g
  unfold Own at o
  obtain ⟨a, ws, b2, e1, e2, e3, e4, e5⟩ := o
  have b0 := ownL_im_nil qs fq e5
  subst b0
  subst e1
  subst e2
  refine ⟨a, ws, hu, e3, e4, OwnL.rep qs e5, fun qs' ws' fq' hz r => ?_⟩
  have mem : a ∈ as := pm.mem_iff.mpr (List.mem_append_left _ (List.mem_singleton.mpr rfl))
  have tu : ∀ t us, H t = some (.tup us) → upd H a (.lst ws') t = some (.tup us) := fun t us ht => by
    rw [upd_ne (fun e : t = a => by rw [e, e3] at ht; cases ht)]
    exact ht
  have new : Own C.T (upd H a (.lst ws')) (.lst qs') (.ref a) [a] := by
    unfold Own
    exact ⟨a, ws', [], rfl, rfl, upd_same, hz, OwnL.loc tu qs' (fun z hz => (List.not_mem_nil hz).elim) (ownL_im fq' r)⟩
  have own2 := back (upd H a (.lst ws')) (.lst qs') tu (fun z hz nz => by rw [upd_ne (fun e : z = a => nz (by rw [e]; exact List.mem_singleton.mpr rfl))]) new
  exact K.chgR (E := fun z => z = a) (ψ := fun H => Own C.T H (setP p π (.lst qs')) v as ∧ as.Nodup) h (fun z hz => by rw [hz]; exact mem) (fun z o nz hz => by rw [upd_ne nz]; exact hz) (fun z hz => by rw [hz, upd_same]; exact (fun e => nomatch e))
    (fun z us hz e => by rw [hz, e3] at e; cases e) (fun z fs hz e => by rw [hz, e3] at e; cases e) (fun j v2 D2 φ2 nj hj z hz _ => noRs_at one (by rw [List.getElem?_set_ne (fun e => nj e.symm)]; exact hj) z hz) ⟨own2, nd⟩ (fun Ha Hb lo tu ⟨o, n⟩ => ⟨Own.loc tu _ lo o, n⟩) (noRs_nob one)
end
/-- p with item j of the list at the path another one -/
def putP (p : PV) (π : List Nat) (j : Int) (e : PV) : Option PV := match getP p π with
  | some (.lst qs) => if qs.all imV = true ∧ imV e = true then (ixN qs.length j).map fun k => setP p π (.lst (qs.set k e)) else none
  | _ => none
/-- p with e put behind the list at the path, all items unchangeable -/
def appQ (p : PV) (π : List Nat) (e : PV) : Option PV := match getP p π with
  | some (.lst qs) => if qs.length < LIM ∧ qs.all imV = true ∧ imV e = true then some (setP p π (.lst (qs ++ [e]))) else none
  | _ => none
section
variable {C : Cn} {Γ : List Sl} {i : Nat} {v : V} {as : List Addr} {K : PySem.W.Frag} {l l2 : Lv} {α δ β : Type} [Enc α] [Dec α] [Enc δ] {x : α} {tr te ti : TE} {u : TS} {out : β → Oc} {mp : R (List Nat)} {m : R δ} {mi : R Int} {k : α → R β}
end
/-! ### a, b = e, where e reads what a and b were -/
section
variable {C : Cn} {Γ Γ' : List Sl} {l : Lv} {α β : Type} [Enc α] {te : TE} {u : TS} {out : β → Oc} {g : TG} {vs : List Nat} {fg : List Sl → α → List Sl}
end
/-! ### e.f in a def that was handed the exception e -/
end Pv

set_option Elab.async false
set_option linter.all false
set_option maxRecDepth 100000
set_option maxHeartbeats 2000000
/-! ### second names of a part of an own value; own values out of a try; two own lists at once -/
namespace Pv
open PySem PySem.Spec L2
open Enc (enc)
open Encs (encs)
/-- the value at the end of a path through tuples -/
def AtT (H : Hp) : V → List Nat → V → Prop
  | v, [], u => u = v
  | v, k :: π, u => ∃ a vs w, v = .ref a ∧ H a = some (.tup vs) ∧ vs[k]? = some w ∧ AtT H w π u
theorem AtT.at {H : Hp} : ∀ {π : List Nat} {v u : V}, AtT H v π u → At H v π u
  | [], _, _, h => h
  | _ :: _, _, _, h => by
    obtain ⟨a, vs, w, e1, e2, e3, e4⟩ := h
    exact ⟨a, vs, w, e1, .inr e2, e3, AtT.at e4⟩
theorem AtT.tups {H H' : Hp} (st : ∀ a us, H a = some (.tup us) → H' a = some (.tup us)) : ∀ {π : List Nat} {v u : V}, AtT H v π u → AtT H' v π u
  | [], _, _, h => h
  | _ :: _, _, _, h => by
    obtain ⟨a, vs, w, e1, e2, e3, e4⟩ := h
    exact ⟨a, vs, w, e1, st _ _ e2, e3, AtT.tups st e4⟩
theorem AtT.snoc {H : Hp} {k : Nat} {a : Addr} {vs : List V} {w : V} : ∀ {π : List Nat} {v u : V}, AtT H v π u → u = .ref a → H a = some (.tup vs) → vs[k]? = some w → AtT H v (π ++ [k]) w
  | [], v, u, h, e, hh, hk => by
    have h : u = v := h
    subst h
    exact ⟨a, vs, w, e, hh, hk, rfl⟩
  | x :: π, v, u, h, e, hh, hk => by
    obtain ⟨b, us, z, e1, e2, e3, e4⟩ := h
    exact ⟨b, us, z, e1, e2, e3, AtT.snoc e4 e hh hk⟩
/-- a slot that names the part w at the end of the path π of the value v -/
def alS (v : V) (π : List Nat) (w : V) : Sl := .rs w (fun _ => False) (fun H => AtT H v π w)
def EvQ (C : Cn) (Γ : List Sl) (p : PV) (v : V) (as : List Addr) (i : Nat) (tr : TE) (mp : R (List Nat)) : Prop := ∀ G hid os σ H Q, OkW C G Γ hid os σ H → Γ[i]? = some (dpS C.T p v as) →
  (match mp with | .ok π => ∀ u H1, Same H H1 → AtT H1 v π u → Q u H1 | .ex x => PoX C σ H x | .bad => False) → tr σ H Q
section
variable {C : Cn} {Γ : List Sl} {i j : Nat} {p : PV} {v w : V} {as : List Addr} {K : PySem.W.Frag} {l : Lv} {π : List Nat} {tr te : TE} {mp mp' : R (List Nat)}
theorem EvQ.evp (h : EvQ C Γ p v as i tr mp) : EvP C Γ p v as i tr mp := fun G hid os σ H Q Kw hi q => by
  refine h G hid os σ H Q Kw hi ?_
  cases mp with
  | bad => exact q
  | ex x => exact q
  | ok π => exact fun u H1 s1 hu => q u H1 s1 hu.at
theorem EvQ.cast (h : EvQ C Γ p v as i tr mp) (e : mp = mp') : EvQ C Γ p v as i tr mp' := by subst e; exact h
theorem EvP.cast (h : EvP C Γ p v as i tr mp) (e : mp = mp') : EvP C Γ p v as i tr mp' := by subst e; exact h
theorem evq_var : EvQ C Γ p v as i (tVar i) (.ok []) := fun G hid os σ H Q Kw h q => by
  obtain ⟨_, e, _, _, _⟩ := Kw.sl i _ h
  exact ⟨v, e, q v H (Same.refl H) rfl⟩
theorem evq_al (hj : Γ[j]? = some (alS v π w)) : EvQ C Γ p v as i (tVar j) (.ok π) := fun G hid os σ H Q Kw h q => by
  obtain ⟨_, e, _, ha, _⟩ := Kw.sl j _ hj
  exact ⟨w, e, q w H (Same.refl H) ha⟩
theorem evq_ixT {k : Nat} (hp : EvQ C Γ p v as i tr mp) : EvQ C Γ p v as i (tOp (rIxT K) tr (tC (.int (k : Int)))) (mp.bind fun π => R.of (ixTP p π k)) := fun G hid os σ H Q Kw h q => by
  refine hp G hid os σ H _ Kw h ?_
  cases e : mp with
  | bad => rw [e] at q; exact q
  | ex x => rw [e] at q; exact q
  | ok π =>
    rw [e] at q
    intro u H1 s1 hu
    have q : (match (R.of (ixTP p π k) : R (List Nat)) with | .ok π => ∀ u H1, Same H H1 → AtT H1 v π u → Q u H1 | .ex x => PoX C σ H x | .bad => False) := q
    have K1 := Kw.same s1
    obtain ⟨_, _, _, ⟨ow, nd⟩, _⟩ := K1.sl i _ h
    unfold ixTP at q
    cases g : getP p π with
    | none => rw [g] at q; exact q.elim
    | some r =>
      rw [g] at q
      cases r with
      | tup ps =>
        by_cases c : k < ps.length
        · simp only [c, if_true] at q
          obtain ⟨u2, _, bs, _, hu2, _, o2, _⟩ := Own.path π nd ow g
          cases At.fn hu.at hu2
          unfold Own at o2
          obtain ⟨t, vs, e1, e2, e3, e4⟩ := o2
          obtain ⟨w, _, _, _, g1, _⟩ := OwnL.item ps e4 (List.getElem?_eq_getElem c)
          exact ⟨t, vs, (k : Int), w, e1, rfl, rd_seqT e2, atI_nat g1, q w H1 s1 (AtT.snoc hu e1 e2 g1)⟩
        · simp only [c, if_false] at q
          exact q.elim
      | _ => exact q.elim
end
section
variable {C : Cn} {Γ : List Sl} {i j : Nat} {p : PV} {v : V} {as : List Addr} {K : PySem.W.Frag} {l : Lv} {α δ β : Type} [Enc α] [Enc δ] {tr te ta : TE} {u : TS} {out : β → Oc} {mp : R (List Nat)}
theorem bd_alS {π : List Nat} {m : R β} (h : Γ[i]? = some (dpS C.T p v as)) (hq : EvQ C Γ p v as i te (.ok π)) (hj : j < Γ.length) (hk : ∀ w, BD C (Γ.set j (alS v π w)) u m out) : BD C Γ (tSeq (tAsg te (gName j)) u) m out := fun G hid os σ H D Kw q => by
  refine hq G hid os σ H _ Kw h ?_
  intro w H1 s1 hw
  have K1 := (Kw.same s1).clear j hj (some w)
  have K2 := K1.swap (i := j) (x := some w) (s := alS v π w) (by rw [List.length_set]; exact hj) ⟨by rw [List.getElem?_set_self (by rw [Kw.lo]; exact hj)], by rw [List.getElem?_set_self (by rw [List.length_set, Kw.ls]; exact hj)], fun _ z => z.elim, hw, fun _ _ _ st z => AtT.tups st z⟩
  rw [set_set', set_set'] at K2
  exact hk w G hid _ _ H1 D K2 q
/-- t[..].append(e), where the sort of the list is known -/
theorem bd_appS {xs : List δ} {π : List Nat} {f : List δ → α} {x : α} {m : R δ} {k : List δ → R β} (h : Γ[i]? = some (dpS C.T (enc x) v as)) (one : noRs (Γ.set i .un)) (hp : EvP C Γ (enc x) v as i tr (.ok π)) (g : getP (enc x) π = some (.lst (xs.map enc)))
    (st : ∀ ys, setP (enc x) π (.lst (ys.map enc)) = enc (f ys)) (im : ∀ a : δ, imV (enc a) = true) (he : Evm C Γ l te m) (hk : ∀ ys, BD C (Γ.set i (dpS C.T (enc (f ys)) v as)) u (k ys) out) :
    BD C Γ (tSeq (tDrop (tBM K "list" rAppend tr (tCons te tNil))) u) (m.bind fun a => (R.of (appL xs a)).bind k) out := fun G hid os σ H D Kw q => by
  have fq : (xs.map enc).all imV = true := by
    rw [List.all_eq_true]
    intro z hz
    obtain ⟨a, _, rfl⟩ := List.mem_map.mp hz
    exact im a
  refine hp G hid os σ H _ Kw h ?_
  intro w H1 s1 hw
  have K1 := Kw.same s1
  obtain ⟨b, us, hb, eb, hz, rq, _⟩ := K1.chgP h one g fq
  cases At.fn hw hb
  refine ⟨.inl ⟨rfl, us, rd_seqL eb⟩, he G hid os σ H1 _ K1 ?_⟩
  rcases ex_cases q with ⟨a, e, q⟩ | ⟨z, e, q⟩ <;> rw [e]
  · intro y H2 s2 ry
    have K2 := K1.same s2
    obtain ⟨b2, us2, hb2, eb2, hz2, rq2, chg⟩ := K2.chgP h one g fq
    cases At.fn (At.same s2 hw) hb2
    have e3 := s2 _ _ eb
    rw [eb2] at e3
    cases e3
    rcases ex_cases q with ⟨ys, ey, q⟩ | ⟨z, ey, q⟩
    · cases ea : appL xs a with
      | none => rw [ea] at ey; cases ey
      | some zs =>
        rw [ea] at ey
        cases ey
        obtain ⟨c, ez⟩ := optIf_some ea
        have hlen := rq2.len
        rw [List.length_map] at hlen
        have K4 := chg (ys.map enc) (us ++ [y]) (by rw [List.all_eq_true]; intro z hz; obtain ⟨a, _, rfl⟩ := List.mem_map.mp hz; exact im a) (by rw [List.length_append]; show us.length + 1 ≤ LIM; omega) (by
          rw [← ez, List.map_append]
          exact rq2.app (reps_cons (ry.weak fun _ z => z.elim) reps_nil))
        rw [st] at K4
        exact ⟨b, us, y, rfl, rfl, eb2, lim_size (by omega), hk ys G hid os σ _ D K4 q⟩
    · cases ea : appL xs a with
      | none => rw [ea] at ey; cases ey
      | some zs => rw [ea] at ey; cases ey
  · exact pox_of K1 q
/-- p with the list at the path turned about -/
def revP (p : PV) (π : List Nat) : Option PV := match getP p π with
  | some (.lst qs) => if qs.all imV = true then some (setP p π (.lst qs.reverse)) else none
  | _ => none
/-- t[..].reverse() -/
theorem bd_revQ [Dec α] {x : α} {k : α → R β} (h : Γ[i]? = some (dpS C.T (enc x) v as)) (one : noRs (Γ.set i .un)) (hp : EvP C Γ (enc x) v as i tr mp) (hk : ∀ y : α, BD C (Γ.set i (dpS C.T (enc y) v as)) u (k y) out) :
    BD C Γ (tSeq (tDrop (tBM0 K "list" rReverse tr)) u) (mp.bind fun π => (R.of ((revP (enc x) π).bind (Dec.dec : PV → Option α))).bind k) out := fun G hid os σ H D Kw q => by
  refine hp G hid os σ H _ Kw h ?_
  rcases ex_cases q with ⟨π, e, q⟩ | ⟨z, e, q⟩ <;> rw [e]
  · intro w H1 s1 hw
    have K1 := Kw.same s1
    rcases ex_cases q with ⟨x', ex', q⟩ | ⟨z, ez, q⟩
    · cases er : ((revP (enc x) π).bind (Dec.dec : PV → Option α)) with
      | none => rw [er] at ex'; cases ex'
      | some r0 =>
        rw [er] at ex'
        cases ex'
        obtain ⟨r, f1, f2⟩ := Option.bind_eq_some_iff.mp er
        unfold revP at f1
        cases g : getP (enc x) π with
        | none => rw [g] at f1; cases f1
        | some t =>
          rw [g] at f1
          cases t with
          | lst qs =>
            dsimp only at f1
            split at f1
            · rename_i c
              cases f1
              have es : setP (enc x) π (.lst qs.reverse) = enc x' := Dec.ok _ _ f2
              obtain ⟨b, us, hb, eb, hz, rq, chg⟩ := K1.chgP h one g c
              cases At.fn hw hb
              have K4 := chg qs.reverse us.reverse (by rw [List.all_reverse]; exact c) (by rw [List.length_reverse]; exact hz) rq.rev
              rw [es] at K4
              exact ⟨.inl ⟨rfl, us, rd_seqL eb⟩, b, us, rfl, rfl, eb, hk x' G hid os σ _ D K4 q⟩
            · cases f1
          | _ => cases f1
    · cases er : ((revP (enc x) π).bind (Dec.dec : PV → Option α)) with
      | none => rw [er] at ez; cases ez
      | some r => rw [er] at ez; cases ez
  · exact pox_of Kw q
/-- an own value, read once -/
theorem evm_ofD {m : R α} (h : EvD C Γ te m) : Evm C Γ .raw te m := fun G hid os σ H Q Kw q => by
  refine h G hid os σ H Q Kw ?_
  cases m with
  | bad => exact q
  | ex x => exact q
  | ok a => exact fun v as H' s nd fr ow => q v H' s (Own.rep _ ow)
theorem EvG.co {js : List Nat} {f : δ → α} {m : R δ} (h : EvG C Γ js te m) (e : ∀ a, enc (f a) = enc a) : EvG C Γ js te (m.bind fun a => .ok (f a)) := fun G hid os σ H Q Kw q => by
  refine h G hid os σ H Q Kw ?_
  cases m with
  | bad => exact q
  | ex x => exact q
  | ok a =>
    have q : ∀ v as H', Same H H' → as.Nodup → (∀ x, x ∈ as → H x = none ∨ ∃ j, j ∈ js ∧ os[j]? = some (some x)) → Own C.T H' (enc (f a)) v as → Q v H' := q
    rw [e] at q
    exact q
theorem EvG.cast {js : List Nat} {m m' : R α} (h : EvG C Γ js te m) (e : m = m') : EvG C Γ js te m' := by subst e; exact h
theorem EvD.cast {m m' : R α} (h : EvD C Γ te m) (e : m = m') : EvD C Γ te m' := by subst e; exact h
end
section
variable {C : Cn} {W : WX} {Γ : List Sl} {i j : Nat} {l : Lv} {α δ β : Type} [Enc α] [Enc δ] {te t1 t2 : TE} {u : TS} {out : β → Oc}
end
end Pv

set_option Elab.async false
set_option linter.all false
set_option maxRecDepth 100000
set_option maxHeartbeats 4000000
/-! ### {k: v for t in xs}, the keys tuples of texts and ints -/
namespace Pv
open PySem PySem.Spec PyProof.Rows L2
open Enc (enc)
open Encs (encs)
section
variable {X : Cx} {pins : List (Addr × Obj)} {σ : L2.St} {H : Hp} {s : Shared}
end
/-- the walk of such a comprehension, what each turn is asked -/
def tDct (wi : TI) (g : TG) (tk tv : TE) (vs : List Nat) : TE := fun σ H Q => wi σ H fun J H1 => ∀ D, H1 D = none → ∃ W : Nat → Nat → Hp → Prop, (∃ m, W 0 m (upd H1 D (.dT []))) ∧ ∀ i m H2, W i m H2 →
  (J.stop i H2 ∧ Q (.ref D) H2) ∨ (J.go i H2 ∧ ∀ x H3, J.yld i H2 x H3 → g x (wipe σ vs) H3 fun σ2 H4 => wipe σ2 vs = wipe σ vs ∧ tk σ2 H4 fun y H5 => tv σ2 H5 fun z H6 =>
    ∃ kvs k b, y = .ref b ∧ H6 b = some (.tup (k.map kV)) ∧ H6 D = some (.dT kvs) ∧ kvs.length < sizeLine ∧ ∃ m2, m2 < m ∧ W (i + 1) m2 (upd H6 D (.dT (putK kvs k z))))
section
variable {X : Cx} {kx vx tg iter : Expr} {scope : Scope} {own : List (Str × Nat)} {pos : Pos} {wi : TI} {g : TG} {tk tv : TE}
end
/-! #### as plain data -/
abbrev Kc := Tp (Str × Int × Unit)
instance decKc : DecidableEq Kc := fun a b => if h : a.t.1 = b.t.1 ∧ a.t.2.1 = b.t.2.1 then .isTrue (by
  obtain ⟨⟨x, i, ⟨⟩⟩⟩ := a
  obtain ⟨⟨y, j, ⟨⟩⟩⟩ := b
  obtain ⟨h1, h2⟩ := h
  dsimp only at h1 h2
  rw [h1, h2]) else .isFalse fun e => h (by rw [e]; exact ⟨rfl, rfl⟩)
abbrev DC := List (Kc × Bool)
def keyC (c : Kc) : List Key := [.inr c.t.1, .inl c.t.2.1]
def entC (p : Kc × Bool) : List Key × V := (keyC p.1, V.bl p.2)
def cdict (kvs : DC) : Addr → HO := fun _ => .dT (kvs.map entC)
def putD (kvs : DC) (k : Kc) (v : Bool) : DC := if kvs.any (fun p => decide (p.1 = k)) then kvs.map (fun p => if p.1 = k then (p.1, v) else p) else kvs ++ [(k, v)]
def lookD (kvs : DC) (k : Kc) : Option Bool := (kvs.find? fun p => decide (p.1 = k)).map (·.2)
def dcR {α : Type} (fk : α → R Kc) (fv : α → R Bool) : List α → DC → R DC
  | [], acc => .ok acc
  | x :: xs, acc => (fk x).bind fun k => (fv x).bind fun v => (R.of (optIf (acc.length < LIM) (putD acc k v))).bind fun acc2 => dcR fk fv xs acc2
def PoDc (C : Cn) (σ : L2.St) (H : Hp) (Q : VK) : R DC → Prop
  | .ok kvs => ∀ p H', Same H H' → H p = none → H' p = some (cdict kvs p) → Q (.ref p) H'
  | .ex x => PoX C σ H x
  | .bad => False
def EvDc (C : Cn) (Γ : List Sl) (t : TE) (m : R DC) : Prop := ∀ G hid os σ H Q, OkW C G Γ hid os σ H → PoDc C σ H Q m → t σ H Q
theorem EvDc.cast {C : Cn} {Γ : List Sl} {t : TE} {m m' : R DC} (h : EvDc C Γ t m) (e : m = m') : EvDc C Γ t m' := by subst e; exact h
section
variable {C : Cn} {Γ : List Sl} {l l1 l2 l4 : Lv} {α β : Type} [Enc α] {K : PySem.W.Frag} {wi : TI} {g : TG} {tk tv te : TE} {vs : List Nat} {u : TS} {out : β → Oc} {i : Nat}
end
end Pv

set_option Elab.async false
set_option linter.all false
set_option maxRecDepth 100000
set_option maxHeartbeats 2000000
/-! ### xs.count(y) of data -/
namespace Pv
open PySem PySem.Spec PyProof.Rows L2
open Enc (enc)
open Encs (encs)
def rCountD (K : PySem.W.Frag) : V → List V → Hp → VK → Prop := fun x ys H Q => ∃ (a : Addr) (y : V) (d : PyData) (ds : List PyData), x = .ref a ∧ ys = [y] ∧ Dp K H (.ref a) (.list ds) ∧ Dp K H y d ∧ SeqAt.shaped (.list ds) = true ∧ SeqAt.shaped d = true ∧ Q (.int ((ds.countP fun z => PyData.eqv z d : Nat) : Int)) H
section
variable {C : Cn} {Γ : List Sl} {l1 l2 : Lv} {α β : Type} [Enc α] [Enc β] {ta tb : TE} {K : PySem.W.Frag}
def cntQ (zs : List PV) (p : PV) : Option Int := optIf (okDs zs = true ∧ okD p = true ∧ deps zs + 1 ≤ 64 ∧ dep p ≤ 64) ((zs.countP fun z => eqP z p : Nat) : Int)
end
/-! ### xs.pop() -/
def popL {α : Type} (xs : List α) : Option (List α) := if xs.length = 0 then none else some xs.dropLast
end Pv

set_option Elab.async false
set_option linter.all false
set_option maxRecDepth 100000
set_option maxHeartbeats 2000000
/-! ### sorted, of pairs of a text and an int -/
namespace Srt4
open PySem PySem.Spec PyProof.Rows SrtO Srt
/-- texts by their code points -/
def sLt (x y : PySem.Str) : Prop := x.cps.toList < y.cps.toList
instance (x y : PySem.Str) : Decidable (sLt x y) := by unfold sLt; infer_instance
def ltS (p q : PySem.Str × Int) : Bool := if p.1 = q.1 then decide (p.2 < q.2) else decide (sLt p.1 q.1)
/-- a pair of a text and an int on a heap -/
def TupSI (h : Heap) (v : Value) (k : PySem.Str × Int) : Prop := ∃ a xs t u, v = .ref a ∧ IsTup h a xs ∧ xs.toList = [Value.str k.1 t, Value.int k.2 u]
theorem TupSI.keeps {h h' : Heap} {v : Value} {k : PySem.Str × Int} (x : TupSI h v k) (kp : ∀ b o, h.get? b = some o → o.cls = .type "tuple" → h'.get? b = some o) : TupSI h' v k := by
  obtain ⟨a, xs, t, u, e, ⟨o, ho, hc, n, hd⟩, i⟩ := x
  exact ⟨a, xs, t, u, e, ⟨o, kp _ _ ho hc, hc, n, hd⟩, i⟩
section
variable {prog : Program} {w : World} {A : Around} {E : Value → Shared → Prop} {s : Shared}
end
end Srt4
namespace L2
open PySem PySem.Spec PyProof.Rows Srt4
/-- sorted(xs), xs a list of pairs of a text and an int -/
def rSortedSI (K : PySem.W.Frag) : List V → Hp → VK → Prop := fun vs H Q => ∃ (a : Addr) (xs : List V) (k : V → PySem.Str × Int), vs = [V.ref a] ∧ SqL K H a xs ∧ (∀ x ∈ xs, ∃ t, x = V.ref t ∧ H t = some (.tup [V.str (k x).1, V.int (k x).2])) ∧
  ∀ ys p, ys.Perm xs → ys.Pairwise (fun x y => ltS (k y) (k x) = false) → H p = none → Q (.ref p) (upd H p (.lst ys))
section
variable {X : Cx}
end
end L2
namespace Pv
open PySem PySem.Spec L2 Srt4
open Enc (enc)
open Encs (encs)
abbrev SI := Tp (Str × Int × Unit)
def siK (z : SI) : PySem.Str × Int := (z.t.1, z.t.2.1)
def leS (a b : SI) : Bool := !ltS (siK b) (siK a)
def sortS (xs : List SI) : List SI := xs.mergeSort leS
section
variable {T : CT} {H : Hp} {G : Addr → Prop}
def kSI (H : Hp) (v : V) : PySem.Str × Int := match v with
  | .ref t => match H t with
    | some (.tup [.str x, .int n]) => (x, n)
    | _ => (⟨#[]⟩, 0)
  | _ => (⟨#[]⟩, 0)
end
section
variable {C : Cn} {Γ : List Sl} {l : Lv} {ta : TE} {K : PySem.W.Frag}
end
end Pv

set_option Elab.async false
set_option linter.all false
set_option maxRecDepth 100000
set_option maxHeartbeats 2000000
/-! ### two own values side by side, on addresses that they do not share -/
namespace Pv
open PySem PySem.Spec L2
open Enc (enc)
open Encs (encs)
/-- no other thing with an address of these -/
def dsj (as : List Addr) : List Sl → Prop
  | [] => True
  | .ob _ _ :: _ => False
  | .rs _ D _ :: r => (∀ a, D a → ¬ a ∈ as) ∧ dsj as r
  | _ :: r => dsj as r
section
variable {C : Cn} {G : Addr → Prop} {Γ : List Sl} {hid : Hid} {os : List (Option Addr)} {σ : L2.St} {H : Hp} {i : Nat} {p : PV} {v : V} {as : List Addr} {π : List Nat} {qs : List PV}
end
section
variable {C : Cn} {Γ : List Sl} {i : Nat} {v : V} {as : List Addr} {K : PySem.W.Frag} {l l2 : Lv} {α δ β : Type} [Enc α] [Dec α] [Enc δ] {x : α} {tr te ti : TE} {u : TS} {out : β → Oc} {mp : R (List Nat)} {m : R δ} {mi : R Int} {k : α → R β}
end
section
variable {C : Cn} {Γ : List Sl} {i j : Nat} {p : PV} {v : V} {as : List Addr} {K : PySem.W.Frag} {l : Lv} {α δ β : Type} [Enc α] [Enc δ] {tr te ta : TE} {u : TS} {out : β → Oc} {mp : R (List Nat)}
end
section
variable {C : Cn} {Γ : List Sl} {i j : Nat} {v1 : V} {as1 : List Addr} {p1 : PV} {l : Lv} {α β : Type} [Enc α] {te : TE} {u : TS} {out : β → Oc}
end
end Pv

set_option Elab.async false
set_option linter.all false
set_option maxRecDepth 100000
set_option maxHeartbeats 2000000
/-! ### a comprehension of two clauses -/
namespace Pv
open PySem PySem.Spec L2
open Enc (enc)
open Encs (encs)
/-- a target, beside more names -/
theorem TgB.more {α : Type} [Enc α] {C : Cn} {l : Lv} {g : TG} {vs0 vs : List Nat} {f : List Sl → α → List Sl} (h : TgB C l g vs0 f) (s : ∀ j ∈ vs0, j ∈ vs) : TgB C l g vs f :=
  fun G hid os σ H Q v a Γ K no r k => h G hid os σ H Q v a Γ K (fun j hj => no j (s j hj)) r fun os' σ' K' bar mo => k os' σ' K' ⟨bar.1, fun i hi => bar.2 i fun z => hi (s i z)⟩ mo
/-- [e for x in xs for y in f x] -/
def lc2R {α β γ : Type} (mi : α → R (List γ)) (me : α → γ → R β) : List α → R (List β)
  | [] => .ok []
  | x :: xs => (mi x).bind fun ys => (compR (fun _ : γ => R.ok true) (me x) ys).bind fun a => (lc2R mi me xs).bind fun b => R.ok (a ++ b)
def lc2L {α β γ : Type} (mi : α → R (List γ)) (me : α → γ → R β) (xs : List α) : R (List β) := (lc2R mi me xs).bind fun zs => R.of (if zs.length ≤ LIM then some zs else none)
section
variable {C : Cn} {Γ : List Sl} {l l1 l2 : Lv} {α β γ : Type} [Enc α] [Enc β] [Enc γ] {K : PySem.W.Frag} {wi wi1 : TI} {g g1 : TG} {te : TE} {vs vs1 : List Nat}
end
end Pv

set_option Elab.async false
set_option linter.all false
set_option maxRecDepth 100000
set_option maxHeartbeats 2000000
/-! ### repr of lists and tuples, where nothing is being shown around -/
namespace L2
open PySem PySem.Spec PyProof.Rows
def rReprD (K : PySem.W.Frag) : List V → Hp → VK → Prop := fun xs H Q => ∃ (v : V) (d : PyData), xs = [v] ∧ Dp K H v d ∧ isDisplay d = true ∧ d.showable = true ∧ d.hasDict = false ∧ d.depth ≤ 60 ∧ d.shown.length ≤ sizeLine ∧ Q (.str d.shown) H
end L2
namespace Pv
open PySem PySem.Spec L2 PyProof.Rows
open Enc (enc)
open Encs (encs)
/-- the text that shows the data -/
def reprP (p : PV) : Option Str := if okD p = true ∧ isDisplay (toD p) = true ∧ (toD p).showable = true ∧ (toD p).hasDict = false ∧ (toD p).depth ≤ 60 ∧ (toD p).shown.length ≤ LIM ∧ PyData.canLay0 (.str (toD p).shown) = true then some (toD p).shown else none
section
variable {T : CT} {C : Cn} {Γ : List Sl} {l : Lv} {te : TE} {K : PySem.W.Frag} {α : Type} [Enc α]
end
end Pv

set_option Elab.async false
set_option linter.all false
set_option maxRecDepth 100000
set_option maxHeartbeats 2000000
/-! ### defs that run only where nothing is being shown (A.guards), as the law's own does -/
namespace L2
open PySem PySem.Spec PyProof.Rows
/-- FnOk under one premise more -/
structure FnG (P : Program) (w : World) (K : PySem.W.Frag) (mg : Str → Option Value) (base : Heap) (CX : CXT) (k : Nat) (f : Addr) (fd : FuncData) (ps : List Str) (sp : Sp) : Prop where
  len : ∀ vs H Q E, sp vs H Q E → vs.length = ps.length
  run : ∀ (A : Around) (outer : List Env) (s : Shared) (H : Hp) (args : Args) (us : List Value) (vs : List V) (Q : VK) (E : XK), A.guards = some [] → Room k A → Env0 P w K mg base A outer s H → BindsTo s fd args (ps.zip us) → Vals vs us → sp vs H Q E →
    codeAny (model P w) A (.call (.ref f) args) (CR CX outer P w H s Q E) s
section
variable {P : Program} {w : World} {K : PySem.W.Frag} {mg : Str → Option Value} {base : Heap} {CX : CXT} {k : Nat} {f : Addr} {fd : FuncData} {ps : List Str} {sp sp' : Sp}
theorem FnG.of (F : FnOk P w K mg base CX k f fd ps sp) : FnG P w K mg base CX k f fd ps sp := ⟨F.len, fun A outer s H args us vs Q E _ => F.run A outer s H args us vs Q E⟩
theorem FnG.mono {j : Nat} (F : FnG P w K mg base CX j f fd ps sp) (h : j ≤ k) : FnG P w K mg base CX k f fd ps sp := ⟨F.len, fun A outer s H args us vs Q E hg hr => F.run A outer s H args us vs Q E hg (hr.mono h)⟩
theorem FnG.imp (F : FnG P w K mg base CX k f fd ps sp) (h : ∀ vs H Q E, sp' vs H Q E → sp vs H Q E) : FnG P w K mg base CX k f fd ps sp' :=
  ⟨fun vs H Q E q => F.len vs H Q E (h _ _ _ _ q), fun A outer s H args us vs Q E hg hr he hb hv hs => F.run A outer s H args us vs Q E hg hr he hb hv (h _ _ _ _ hs)⟩
end
end L2
namespace L2
open PySem PySem.Spec PyProof.Rows
section
variable {P : Program} {w : World} {K : PySem.W.Frag} {mg mb : Str → Option Value} {CX : CXT} {k : Nat} {fa a : Addr} {fd : FuncData} {x : Str} {sp : Sp} {s₁ : Shared} {vs : List Value} {ns : List Int}
end
end L2
namespace Pv
open PySem PySem.Spec L2
open Enc (enc)
open Encs (encs)
section
variable {P : Program} {w : World} {K : PySem.W.Frag} {mg : Str → Option Value} {base : Heap} {T : CT} {M : RM} {α β : Type} [Enc α] [Encs β]
end
end Pv

set_option Elab.async false
set_option linter.all false
set_option maxRecDepth 100000
set_option maxHeartbeats 2000000
/-! ### own values: calls with keywords and defaults, and a pair of them taken apart -/
namespace Pv
open PySem PySem.Spec L2
open Enc (enc)
open Encs (encs)
section
variable {C : Cn} {Γ : List Sl} {l : Lv} {α : Type} [Enc α] {β β' γ δ : Type} [Encs β] [Encs β'] [Encs γ] {ta : TA} {W : WX}
theorem evd_sdX {m : R β} {c : β → β'} {dps : List PV} {dvs : List V} {f : β' → R (α)} (hW : C.W = some W) (hc : ∀ b, encs (c b) = encs b ++ dps) (hd : ∀ H G, Reps C.T H G dps dvs) (ha : EvA C Γ .raw ta m) : EvD C Γ (tCallSD (PmX C.T .dp f) dvs (WE W) ta) (m.bind fun b => f (c b)) := by
  have h := evd_callX (f := f) hW (eva_more hc hd ha)
  have e : ((m.bind fun b => R.ok (c b)).bind f) = m.bind fun b => f (c b) := by cases m <;> rfl
  rw [← e]
  exact h
theorem evd_knX {E : XK} {tk : TA} {n k : Nat} {m : R β} {mk : R γ} {c : β → γ → β'} {f : β' → R (α)} (hW : C.W = some fun cls d _ H => E cls d H) (hn : ∀ b : β, (encs b).length = n) (hk : ∀ z : γ, (encs z).length = k) (hc : ∀ b z, encs (c b z) = encs b ++ encs z) (ha : EvA C Γ .raw ta m) (hz : EvA C Γ .raw tk mk) :
    EvD C Γ (tCallN n k (PmX C.T .dp f) (fun vs zs => vs ++ zs) E ta tk) (m.bind fun b => mk.bind fun z => f (c b z)) := by
  have h := evd_callX (f := f) hW (eva_two hn hk hc ha hz)
  have e : ((m.bind fun b => mk.bind fun z => R.ok (c b z)).bind f) = m.bind fun b => mk.bind fun z => f (c b z) := by
    rw [R.bind_assoc]
    cases m with
    | ok b => show (mk.bind fun z => R.ok (c b z)).bind f = _; cases mk <;> rfl
    | ex x => rfl
    | bad => rfl
  rw [← e]
  exact h
end
section
variable {C : Cn} {Γ : List Sl} {l : Lv} {α : Type} [Enc α] {β β' γ : Type} [Encs β] [Encs β'] [Encs γ] {ta tk : TA} {W : WX} {n k : Nat} {m : R β} {mk : R γ} {c : β → γ → β'}
end
section
variable {C : Cn} {Γ : List Sl} {i j : Nat} {K : PySem.W.Frag} {α δ β : Type} [Enc α] [Enc δ] {te : TE} {u : TS} {out : β → Oc}
end
end Pv

set_option Elab.async false
set_option linter.all false
set_option maxRecDepth 100000
set_option maxHeartbeats 2000000
/-! ### what is shown of lists and tuples of small ints: short, and of plain letters -/
namespace Pv
open PySem PySem.Spec L2 PyProof.Rows
open Enc (enc)
open Encs (encs)
def okC (x : Str) : Prop := ∀ c, c ∈ x.cps.toList → c < 0x110000
theorem okC_app {x y : Str} (h : okC x) (g : okC y) : okC (x ++ y) := fun c hc => by
  have hc : c ∈ (x.cps ++ y.cps).toList := hc
  rw [Array.toList_append, List.mem_append] at hc
  exact hc.elim (h c) (g c)
theorem okC_lit {s : String} (h : ((s : Str).cps.toList.all fun c => decide (c < 0x110000)) = true) : okC (s : Str) := fun c hc => by
  have := List.all_eq_true.mp h c hc
  exact of_decide_eq_true this
theorem okC_text : ∀ (ts : List Str) (k : Nat) (acc : Str), okC acc → (∀ t, t ∈ ts → okC t) → okC (textFrom k acc ts)
  | [], _, _, h, _ => h
  | t :: ts, k, acc, h, g => by
    show okC (textFrom (k + 1) (acc ++ (if k > 0 then ", " else "" : String) ++ t) ts)
    refine okC_text ts _ _ (okC_app (okC_app h ?_) (g t (List.mem_cons_self ..))) fun u hu => g u (List.mem_cons_of_mem _ hu)
    split
    · exact okC_lit (by decide +kernel)
    · exact okC_lit (by decide +kernel)
theorem okC_join : ∀ ts : List Str, (∀ t, t ∈ ts → okC t) → okC (Str.join ", " ts)
  | [], _ => okC_lit (s := "") (by decide +kernel)
  | [t], g => g t (List.mem_cons_self ..)
  | t :: u :: ts, g => by
    show okC (t ++ ", " ++ Str.join ", " (u :: ts))
    exact okC_app (okC_app (g t (List.mem_cons_self ..)) (okC_lit (by decide +kernel))) (okC_join (u :: ts) fun v hv => g v (List.mem_cons_of_mem _ hv))
theorem okC_list {ts : List Str} (g : ∀ t, t ∈ ts → okC t) : okC (listText ts) := okC_app (okC_text ts 0 _ (okC_lit (by decide +kernel)) g) (okC_lit (by decide +kernel))
theorem okC_tup {ts : List Str} (g : ∀ t, t ∈ ts → okC t) : okC (tupleText ts) := by
  refine okC_app (okC_app (okC_lit (by decide +kernel)) (okC_join ts g)) ?_
  split
  · exact okC_lit (by decide +kernel)
  · exact okC_lit (by decide +kernel)
/-- ints between -200 and 200 -/
theorem small_int {i : Int} (h : -200 ≤ i ∧ i ≤ 200) : (PyData.shown (.int i)).length ≤ 8 ∧ okC (PyData.shown (.int i)) ∧ i.natAbs.log2 < 1920 := by
  have all : ((List.range 401).all fun n => decide ((PyData.shown (.int ((n : Int) - 200))).length ≤ 8) && ((PyData.shown (.int ((n : Int) - 200))).cps.toList.all fun c => decide (c < 0x110000))) = true := by decide +kernel
  have := List.all_eq_true.mp all (i + 200).toNat (List.mem_range.mpr (by omega))
  rw [show (((i + 200).toNat : Nat) : Int) - 200 = i by omega, Bool.and_eq_true] at this
  refine ⟨of_decide_eq_true this.1, fun c hc => of_decide_eq_true (List.all_eq_true.mp this.2 c hc), ?_⟩
  have h2 : i.natAbs < 2 ^ 8 := by omega
  rcases Nat.eq_zero_or_pos i.natAbs with z | z
  · rw [z]; decide
  · have := (Nat.log2_lt (by omega)).mpr h2
    omega
mutual
/-- lists and tuples of such ints -/
def smP : PV → Bool
  | .int i => decide (-200 ≤ i) && decide (i ≤ 200)
  | .lst xs => smPs xs
  | .tup xs => smPs xs
  | .non => false | .bl _ => false | .str _ => false | .obj _ _ => false | .dic _ _ => false | .scr _ => false
def smPs : List PV → Bool
  | [] => true
  | x :: xs => smP x && smPs xs
end
mutual
theorem sm_all : ∀ p : PV, smP p = true → okD p = true ∧ (toD p).showable = true ∧ (toD p).hasDict = false ∧ (toD p).leavesShort 8 = true ∧ okC (toD p).shown
  | .int i, h => by
    have h : (decide (-200 ≤ i) && decide (i ≤ 200)) = true := h
    rw [Bool.and_eq_true, decide_eq_true_iff, decide_eq_true_iff] at h
    obtain ⟨h1, h2, h3⟩ := small_int h
    exact ⟨rfl, decide_eq_true h3, rfl, decide_eq_true h1, h2⟩
  | .lst xs, h => by
    obtain ⟨h1, h2, h3, h4, h5⟩ := sms_all xs h
    exact ⟨h1, h2, h3, h4, okC_list h5⟩
  | .tup xs, h => by
    obtain ⟨h1, h2, h3, h4, h5⟩ := sms_all xs h
    exact ⟨h1, h2, h3, h4, okC_tup h5⟩
  | .non, h => by cases h
  | .bl _, h => by cases h
  | .str _, h => by cases h
  | .obj _ _, h => by cases h
  | .dic _ _, h => by cases h
  | .scr _, h => by cases h
theorem sms_all : ∀ ps : List PV, smPs ps = true → okDs ps = true ∧ PyData.showableAll (toDs ps) = true ∧ PyData.hasDictAll (toDs ps) = false ∧ PyData.leavesShortAll 8 (toDs ps) = true ∧ ∀ t, t ∈ PyData.shownAll (toDs ps) → okC t
  | [], _ => ⟨rfl, rfl, rfl, rfl, fun t ht => (List.not_mem_nil ht).elim⟩
  | p :: ps, h => by
    have h : (smP p && smPs ps) = true := h
    rw [Bool.and_eq_true] at h
    obtain ⟨a1, a2, a3, a4, a5⟩ := sm_all p h.1
    obtain ⟨b1, b2, b3, b4, b5⟩ := sms_all ps h.2
    refine ⟨?_, ?_, ?_, ?_, fun t ht => ?_⟩
    · show (okD p && okDs ps) = true
      rw [a1, b1]; rfl
    · show ((toD p).showable && PyData.showableAll (toDs ps)) = true
      rw [a2, b2]; rfl
    · show ((toD p).hasDict || PyData.hasDictAll (toDs ps)) = false
      rw [a3, b3]; rfl
    · show ((toD p).leavesShort 8 && PyData.leavesShortAll 8 (toDs ps)) = true
      rw [a4, b4]; rfl
    · have ht : t ∈ (toD p).shown :: PyData.shownAll (toDs ps) := ht
      rcases List.mem_cons.mp ht with e | ht
      · rw [e]; exact a5
      · exact b5 t ht
end
end Pv

set_option Elab.async false
set_option linter.all false
set_option maxRecDepth 100000
set_option maxHeartbeats 2000000
/-! ### a call of a def that runs where nothing is being shown -/
namespace Pv
open PySem PySem.Spec L2
structure KdG (P : Program) (w : World) (K : PySem.W.Frag) (mg : Str → Option Value) (base : Heap) (CX : CXT) (x : Str) (ps : List Str) (k : Nat) (sp : Sp) : Prop where
  ex : ∃ f fd, mg x = some (.ref f) ∧ PySem.W.keepIn K (.ref f) = true ∧ Binds K fd ps [] ∧ FnG P w K mg base CX k f fd ps sp
end Pv

set_option Elab.async false
set_option linter.all false
set_option maxRecDepth 100000
set_option maxHeartbeats 2000000
/-! ### xs[a], xs[b] = u, v -/
namespace Pv
open PySem PySem.Spec L2
open Enc (enc)
open Encs (encs)
section
variable {C : Cn} {Γ : List Sl} {l l1 l2 l3 : Lv} {i : Nat} {K : PySem.W.Frag} {β : Type} {te t1 t2 : TE} {u : TS} {out : β → Oc}
end
end Pv

set_option Elab.async false
set_option linter.all false
namespace Rot
section
variable {α : Type} {lt : α → α → Bool}
theorem pre_of {p : α → Bool} : ∀ {T : List α}, T.Pairwise (fun a b => p b = true → p a = true) → ∀ (j : Nat) (hj : j < T.length), (p T[j] = true ↔ j < (T.filter p).length)
  | [], _, j, hj => absurd hj (by simp)
  | t :: T, h, j, hj => by
    obtain ⟨h1, h2⟩ := List.pairwise_cons.mp h
    by_cases e : p t = true
    · rw [List.filter_cons_of_pos e, List.length_cons]
      cases j with
      | zero => exact ⟨fun _ => Nat.succ_pos _, fun _ => e⟩
      | succ j =>
        rw [List.getElem_cons_succ, pre_of h2 j (by simpa using hj)]
        omega
    · have none : ∀ x, x ∈ T → ¬ p x = true := fun x hx z => e (h1 x hx z)
      have z : T.filter p = [] := List.filter_eq_nil_iff.mpr none
      rw [List.filter_cons_of_neg e, z]
      constructor
      · intro q
        cases j with
        | zero => exact absurd q e
        | succ j => exact absurd q (none _ (List.getElem_mem _))
      · intro q
        exact absurd q (by simp)
def b (lt : α → α → Bool) (M T : List α) (i : Nat) : Nat := match M[i]? with
  | some c => (T.filter fun x => lt x c).length
  | none => 0
end
/-! the wins of a rotation -/
def wins (n : Nat) (b : Nat → Nat) (r : Nat) : Nat := ((List.range n).filter fun i => decide ((i + r) % n < b i)).length
def Lo (n : Nat) (b : Nat → Nat) (r : Nat) : Prop := ∀ i, i < n → b i ≤ i + r
def Hi (n : Nat) (b : Nat → Nat) (r : Nat) : Prop := ∀ i, i < n → r + i + 1 ≤ b i + n
end Rot
namespace Rot
/-! ### two sorted hands -/
abbrev le' (a b : Int) : Bool := decide (a ≤ b)
def cnt (p : Int → Bool) (xs : List Int) : Nat := (xs.filter p).length
theorem cnt_perm {p : Int → Bool} {xs ys : List Int} (h : xs.Perm ys) : cnt p xs = cnt p ys := (h.filter p).length_eq
abbrev Up (xs : List Int) : Prop := xs.Pairwise fun a b => a ≤ b
theorem up_le {xs : List Int} (h : Up xs) (x : Int) {j : Nat} (hj : j < xs.length) : xs[j] ≤ x ↔ j < cnt (fun y => decide (y ≤ x)) xs := by
  have := pre_of (p := fun y => decide (y ≤ x)) (T := xs) (h.imp fun {a b} h z => by rw [decide_eq_true_iff] at *; omega) j hj
  rwa [decide_eq_true_iff] at this
def bv (mv tv : List Int) (i : Nat) : Nat := cnt (fun y => decide (y ≤ mv.getD i 0)) tv
section
variable {mv tv : List Int}
end
end Rot


set_option Elab.async false
set_option linter.all false
set_option maxRecDepth 100000
set_option maxHeartbeats 4000000
/-! ### what many laws share: the program's cards and the law's draws -/
namespace Cm
open PySem PySem.Spec L2 Pv
open Enc (enc)
open Encs (encs)
def m_check_hands (v_mine : (List Int)) (v_theirs : (List Int)) : R Unit :=
  (R.ifm (R.ok (!decide ((v_mine.length : Int) = (v_theirs.length : Int)))) (R.raise 1 [enc ((v_mine.length : Int) : Int), enc ((v_theirs.length : Int) : Int)]) (R.ok ()))
def m_deck (v_mine : (List Int)) (v_theirs : (List Int)) : R (List (Tp (Str × Int × Unit))) :=
  (R.lt ((enumF v_theirs).map fun x1 : (Tp (Int × Int × Unit)) => (Tp.mk (x1.t.2.1, (0 : Int), x1.t.1, ()) : (Tp (Int × Int × Int × Unit)))) fun v_keys_2 => (R.bind (R.of (catL v_keys_2 ((enumF v_mine).map fun x4 : (Tp (Int × Int × Unit)) => (Tp.mk (x4.t.2.1, (1 : Int), x4.t.1, ()) : (Tp (Int × Int × Int × Unit)))))) fun v_keys_5 => (R.ok ((sortT v_keys_5).map fun x6 : (Tp (Int × Int × Int × Unit)) => (Tp.mk ((if (decide (x6.t.2.1 = (1 : Int))) then (PySem.Str.ofString "mine") else (PySem.Str.ofString "theirs")), x6.t.2.2.1, ()) : (Tp (Str × Int × Unit)))))))
def m_heights_b1 (x2 : (Tp (Str × Int × Unit))) (s3 : (List Int)) : R ((List Int)) :=
  (R.bind (R.bind (R.of (atI s3 (-(1 : Int)))) fun t4 => (R.ok (t4 + (if (decide (x2.t.1 = (PySem.Str.ofString "theirs"))) then (1 : Int) else (-(1 : Int)))))) fun a6 => R.bind (R.of (appL s3 a6)) fun v_found_5 => (R.ok (v_found_5)))
def m_heights (v_mine : (List Int)) (v_theirs : (List Int)) : R (List Int) :=
  (R.bind (m_check_hands v_mine v_theirs) fun _ => (R.lt ([(0 : Int)] : (List Int)) fun v_found_1 => (R.bind ((m_deck v_mine v_theirs)).nox fun l7 => R.bind (foldR m_heights_b1 l7 (v_found_1)) fun s3 => (R.ok s3))))
def m_peak (v_mine : (List Int)) (v_theirs : (List Int)) : R Int :=
  (R.bind (m_heights v_mine v_theirs) fun t2 => (R.of (t2.max?)))
def m_valley (v_mine : (List Int)) (v_theirs : (List Int)) : R Int :=
  (R.bind (m_heights v_mine v_theirs) fun t2 => (R.of (t2.min?)))
def m__law_cell (v_script : Scr) (v_k : Int) : R Int :=
  (R.ifm (R.ok (decide (v_k < (v_script.xs.length : Int)))) (R.bind (R.of (atI v_script.xs v_k)) fun t1 => (R.ok t1)) (R.ifm (R.ok (decide ((0 : Int) < (v_script.xs.length : Int)))) (R.bind (R.bind (R.of (atI v_script.xs (0 : Int))) fun t2 => (R.ok t2)) fun t3 => R.bind (R.of (mulO (104729 : Int) (v_k + (1 : Int)))) fun t4 => (R.ok (t3 + t4))) (R.of (mulO (104729 : Int) (v_k + (1 : Int))))))
def m__law_draws_b1 (v_sizes : (List Int)) (v_great_3 : Bool) (v_first_4 : Int) (x6 : Int) (s7 : (List Int) × Int) : R ((List Int) × Int) :=
  (R.bind (R.ifm (R.ok (v_great_3 && (decide ((0 : Int) < s7.2)))) (R.bind (R.bind (R.of (atI v_sizes x6)) fun t40 => (R.of (modO s7.2 t40))) fun a45 => R.bind (R.of (appL s7.1 a45)) fun v_out_41 => (R.bind (R.bind (R.of (atI v_sizes x6)) fun t43 => (R.of (divO s7.2 t43))) fun v_digits_44 => (R.ok (v_out_41, v_digits_44)))) (R.bind (R.bind (R.bind (R.bind (R.bind (R.of (mulO (7919 : Int) x6)) fun t46 => (R.ok (v_first_4 + t46))) fun t47 => (R.ok (t47 + (13 : Int)))) fun t48 => (R.ok t48)) fun t50 => (R.of (modO t50 (2147483647 : Int)))) fun v_mixed_51 => (R.bind (R.bind (R.bind (R.of (mulO v_mixed_51 (v_mixed_51 + (48271 : Int)))) fun t52 => (R.ok t52)) fun t54 => (R.of (modO t54 (2147483629 : Int)))) fun v_mixed_55 => (R.bind (R.bind (R.bind (R.bind (R.of (mulO v_mixed_55 (v_mixed_55 + (69621 : Int)))) fun t56 => R.bind (R.of (mulO (31 : Int) x6)) fun t57 => (R.ok (t56 + t57))) fun t58 => (R.ok t58)) fun t60 => (R.of (modO t60 (2147483647 : Int)))) fun v_mixed_61 => (R.bind (R.bind (R.bind (R.of (divO v_mixed_61 (9 : Int))) fun t62 => (R.ok t62)) fun t65 => R.bind (R.of (atI v_sizes x6)) fun t66 => (R.of (modO t65 t66))) fun a68 => R.bind (R.of (appL s7.1 a68)) fun v_out_67 => (R.ok (v_out_67, s7.2))))))) fun s38 => (R.ok (s38.1, s38.2)))
def m__law_draws (v_cell : Int) (v_sizes : (List Int)) : R (List Int) :=
  (R.lt (if v_cell < 0 then -v_cell else v_cell) fun v_digits_1 => (R.bind (R.bind (R.of (powO (10 : Int) (18 : Int))) fun t2 => (R.ok (decide (t2 ≤ v_digits_1)))) fun v_great_3 => (R.lt v_digits_1 fun v_first_4 => (R.lt ([] : (List Int)) fun v_out_5 => (R.bind (R.of (rngO 0 (v_sizes.length : Int))) fun l69 => R.bind (foldR (m__law_draws_b1 v_sizes v_great_3 v_first_4) l69 (v_out_5, v_digits_1)) fun s7 => (R.ok s7.1))))))
def m__law_hand (v_cell : Int) (v_count : Int) (v_kind : Int) : R (List Int) :=
  (R.ifm (R.ok (decide (v_kind = (0 : Int)))) (R.bind (R.bind (R.bind (R.of (rngO 0 v_count)) fun l2 => R.ok (l2.map fun x1 : Int => (3 : Int))) fun t3 => (m__law_draws v_cell t3)) fun l5 => R.ok (l5.map fun x4 : Int => (x4 - (1 : Int)))) (R.ifm (R.ok (decide (v_kind = (1 : Int)))) (R.bind (R.bind (R.bind (R.of (rngO 0 v_count)) fun l8 => compR (fun x6 : Int => (R.ok true)) (fun x6 : Int => (R.bind (R.of (mulO (2 : Int) v_count)) fun t7 => (R.ok (t7 + (1 : Int))))) l8) fun t9 => (m__law_draws v_cell t9)) fun l11 => R.ok (l11.map fun x10 : Int => (x10 - v_count))) (R.ifm (R.ok (decide (v_kind = (2 : Int)))) (R.bind (R.bind (R.bind (R.of (rngO 0 v_count)) fun l16 => compR (fun x12 : Int => (R.ok true)) (fun x12 : Int => (R.bind (R.bind (R.of (powO (10 : Int) (15 : Int))) fun t14 => (R.of (mulO (2 : Int) t14))) fun t15 => (R.ok (t15 + (1 : Int))))) l16) fun t17 => (m__law_draws v_cell t17)) fun l20 => compR (fun x18 : Int => (R.ok true)) (fun x18 : Int => (R.bind (R.of (powO (10 : Int) (15 : Int))) fun t19 => (R.ok (x18 - t19)))) l20) (R.bind (R.bind (R.bind (R.of (rngO 0 v_count)) fun l22 => R.ok (l22.map fun x21 : Int => (v_count + (2 : Int)))) fun t23 => (m__law_draws v_cell t23)) fun l25 => R.ok (l25.map fun x24 : Int => x24)))))
def m__law_hands (v_script : Scr) (v_at : Int) (v_count : Int) : R (Tp ((List Int) × (List Int) × Unit)) :=
  (R.bind (R.bind (m__law_cell v_script v_at) fun t1 => (m__law_draws t1 ([(6 : Int), (4 : Int), (3 : Int), (40 : Int)] : (List Int)))) fun v_shape_2 => (R.bind (R.bind (m__law_cell v_script (v_at + (1 : Int))) fun t5 => R.bind (R.bind (R.of (atI v_shape_2 (0 : Int))) fun t4 => (R.of (modO t4 (4 : Int)))) fun t6 => (m__law_hand t5 v_count t6)) fun v_mine_7 => (R.bind (R.bind (m__law_cell v_script (v_at + (2 : Int))) fun t10 => R.bind (R.bind (R.of (atI v_shape_2 (0 : Int))) fun t9 => (R.of (modO t9 (4 : Int)))) fun t11 => (m__law_hand t10 v_count t11)) fun v_theirs_12 => (R.bind (R.ifm (R.bind (R.of (atI v_shape_2 (0 : Int))) fun t13 => (R.ok (decide (t13 = (4 : Int))))) (R.lt v_mine_7 fun v_theirs_40 => (R.bind (R.ifm (R.ite (decide ((0 : Int) < v_count)) (R.bind (R.of (atI v_shape_2 (1 : Int))) fun t41 => (R.ok (decide ((0 : Int) < t41)))) (R.ok false)) (R.bind (R.bind (R.bind (R.bind (R.bind (R.of (atI v_shape_2 (3 : Int))) fun t55 => (R.of (modO t55 v_count))) fun t56 => (R.of (atI v_theirs_40 t56))) fun t57 => R.bind (R.of (atI v_shape_2 (1 : Int))) fun t58 => (R.ok (t57 + t58))) fun t59 => (R.ok (t59 - (2 : Int)))) fun a63 => R.bind (R.bind (R.of (atI v_shape_2 (3 : Int))) fun t61 => (R.of (modO t61 v_count))) fun j64 => R.bind (R.of (setL v_theirs_40 j64 a63)) fun v_theirs_62 => (R.ok (v_theirs_62))) (R.ok (v_theirs_40))) fun s53 => (R.ok (s53)))) (R.ok (v_theirs_12))) fun s39 => (R.bind (R.ifm (R.bind (R.bind (R.of (atI v_shape_2 (0 : Int))) fun t65 => (R.ok (decide (t65 = (5 : Int))))) fun t67 => (R.ite t67 (R.bind (R.of (atI v_shape_2 (2 : Int))) fun t66 => (R.ok (decide ((0 : Int) < t66)))) (R.ok false))) (R.bind (R.bind (R.ok v_mine_7) fun l79 => compR (fun x75 : Int => (R.ok true)) (fun x75 : Int => (R.bind (R.bind (R.of (atI v_shape_2 (1 : Int))) fun t77 => (R.of (mulO (2 : Int) t77))) fun t78 => (R.ok ((x75 + (3 : Int)) - t78)))) l79) fun v_theirs_80 => (R.ok (v_theirs_80))) (R.ok (s39))) fun s74 => (R.ok (Tp.mk (v_mine_7, s74, ()) : (Tp ((List Int) × (List Int) × Unit)))))))))
def m_side_order (v_mine : (List Int)) (v_theirs : (List Int)) (v_side : Str) : R (List Int) :=
  (R.bind (m_deck v_mine v_theirs) fun l2 => R.ok ((l2.filter fun x1 : (Tp (Str × Int × Unit)) => (decide (x1.t.1 = v_side))).map fun x1 : (Tp (Str × Int × Unit)) => x1.t.2.1))
def m_side_levels_b1 (v_side : Str) (v_walk_1 : (List Int)) (v_step_2 : Int) (x5 : (Tp (Int × (Tp (Str × Int × Unit)) × Unit))) (s6 : (List Int)) : R ((List Int)) :=
  (R.bind (R.ifm (R.ok (decide (x5.t.2.1.t.1 = v_side))) (R.bind (R.of (atI v_walk_1 (x5.t.1 + v_step_2))) fun a12 => R.bind (R.ok x5.t.2.1.t.2.1) fun j13 => R.bind (R.of (setL s6 j13 a12)) fun v_found_11 => (R.ok (v_found_11))) (R.ok (s6))) fun s10 => (R.ok (s10)))
def m_side_levels (v_mine : (List Int)) (v_theirs : (List Int)) (v_side : Str) : R (List Int) :=
  (R.bind (m_heights v_mine v_theirs) fun v_walk_1 => (R.lt (if (decide (v_side = (PySem.Str.ofString "mine"))) then (1 : Int) else (0 : Int)) fun v_step_2 => (R.bind (R.of (repL ([(0 : Int)] : (List Int)) (v_mine.length : Int))) fun v_found_3 => (R.bind (R.bind ((m_deck v_mine v_theirs)).nox fun t4 => (R.ok (enumF t4))) fun l14 => R.bind (foldR (m_side_levels_b1 v_side v_walk_1 v_step_2) l14 (v_found_3)) fun s6 => (R.ok s6)))))
def m__law_order (v_mine : (List Int)) (v_theirs : (List Int)) : R (List (Tp (Int × Int × Int × Unit))) :=
  (R.bind (R.bind (R.of (rngO 0 (v_theirs.length : Int))) fun l3 => compR (fun x1 : Int => (R.ok true)) (fun x1 : Int => (R.bind (R.of (atI v_theirs x1)) fun t2 => (R.ok (Tp.mk (t2, (0 : Int), x1, ()) : (Tp (Int × Int × Int × Unit)))))) l3) fun v_cards_4 => (R.bind (R.bind (R.bind (R.of (rngO 0 (v_mine.length : Int))) fun l11 => compR (fun x9 : Int => (R.ok true)) (fun x9 : Int => (R.bind (R.of (atI v_mine x9)) fun t10 => (R.ok (Tp.mk (t10, (1 : Int), x9, ()) : (Tp (Int × Int × Int × Unit)))))) l11) fun t12 => (R.of (catL v_cards_4 t12))) fun t13 => (R.ok (sortT t13))))
def m__law_least_b1 (v_mine : (List Int)) (v_theirs : (List Int)) (x2 : Int) (s3 : Int) : R (Int) :=
  (R.lt (if ((((v_theirs.filter fun x4 : Int => (decide (x4 ≤ x2))).map fun x4 : Int => x4).length : Int) - (((v_mine.filter fun x5 : Int => (decide (x5 < x2))).map fun x5 : Int => x5).length : Int)) > s3 then ((((v_theirs.filter fun x4 : Int => (decide (x4 ≤ x2))).map fun x4 : Int => x4).length : Int) - (((v_mine.filter fun x5 : Int => (decide (x5 < x2))).map fun x5 : Int => x5).length : Int)) else s3) fun v_best_6 => (R.ok (v_best_6)))
def m__law_least (v_mine : (List Int)) (v_theirs : (List Int)) : R Int :=
  (R.lt (0 : Int) fun v_best_1 => (R.bind (R.ok v_theirs) fun l7 => R.bind (foldR (m__law_least_b1 v_mine v_theirs) l7 (v_best_1)) fun s3 => (R.ok s3)))
def m__law_most_b1 (v_mine : (List Int)) (v_theirs : (List Int)) (x2 : Int) (s3 : Int) : R (Int) :=
  (R.lt (if ((((v_theirs.filter fun x4 : Int => (decide (x4 ≤ x2))).map fun x4 : Int => x4).length : Int) - (((v_mine.filter fun x5 : Int => (decide (x5 ≤ x2))).map fun x5 : Int => x5).length : Int)) < s3 then ((((v_theirs.filter fun x4 : Int => (decide (x4 ≤ x2))).map fun x4 : Int => x4).length : Int) - (((v_mine.filter fun x5 : Int => (decide (x5 ≤ x2))).map fun x5 : Int => x5).length : Int)) else s3) fun v_worst_6 => (R.ok (v_worst_6)))
def m__law_most (v_mine : (List Int)) (v_theirs : (List Int)) : R Int :=
  (R.lt (0 : Int) fun v_worst_1 => (R.bind (R.ok v_mine) fun l7 => R.bind (foldR (m__law_most_b1 v_mine v_theirs) l7 (v_worst_1)) fun s3 => (R.ok ((v_mine.length : Int) + s3))))
def m__law_game (v_script : Scr) (v_at : Int) (v_count : Int) (v_edge : Int) : R (Tp ((List Int) × (List Int) × Unit)) :=
  (R.bind (m__law_hands v_script v_at v_count) fun v_hands_1 => (R.ifm (R.ok (decide (v_edge = (0 : Int)))) (R.bind (R.bind (R.ok v_hands_1.t.1) fun l3 => compR (fun x2 : Int => (R.ok true)) (fun x2 : Int => (R.of (atI v_hands_1.t.1 (0 : Int)))) l3) fun t6 => R.bind (R.bind (R.ok v_hands_1.t.2.1) fun l5 => compR (fun x4 : Int => (R.ok true)) (fun x4 : Int => (R.of (atI v_hands_1.t.1 (0 : Int)))) l5) fun t7 => (R.ok (Tp.mk (t6, t7, ()) : (Tp ((List Int) × (List Int) × Unit))))) (R.ifm (R.ok (decide (v_edge = (1 : Int)))) (R.bind (R.bind (R.ok v_hands_1.t.1) fun l10 => compR (fun x8 : Int => (R.ok true)) (fun x8 : Int => (R.bind (R.of (modO x8 (7 : Int))) fun t9 => (R.ok (t9 + (6 : Int))))) l10) fun t13 => R.bind (R.bind (R.ok v_hands_1.t.2.1) fun l12 => compR (fun x11 : Int => (R.ok true)) (fun x11 : Int => (R.of (modO x11 (7 : Int)))) l12) fun t14 => (R.ok (Tp.mk (t13, t14, ()) : (Tp ((List Int) × (List Int) × Unit))))) (R.ifm (R.ok (decide (v_edge = (2 : Int)))) (R.bind (R.bind (R.ok v_hands_1.t.1) fun l16 => compR (fun x15 : Int => (R.ok true)) (fun x15 : Int => (R.of (modO x15 (7 : Int)))) l16) fun t20 => R.bind (R.bind (R.ok v_hands_1.t.2.1) fun l19 => compR (fun x17 : Int => (R.ok true)) (fun x17 : Int => (R.bind (R.of (modO x17 (7 : Int))) fun t18 => (R.ok (t18 + (7 : Int))))) l19) fun t21 => (R.ok (Tp.mk (t20, t21, ()) : (Tp ((List Int) × (List Int) × Unit))))) (R.ok v_hands_1)))))
def m__law_pairing_b1 (x8 : Int) (s9 : (List Int) × (List Int)) : R ((List Int) × (List Int)) :=
  (R.bind (R.of (atI s9.2 x8)) fun a12 => R.bind (R.of (appL s9.1 a12)) fun v_out_10 => (R.bind (R.of (catL (cutL s9.2 none (some x8)) (cutL s9.2 (some (x8 + (1 : Int))) none))) fun v_free_11 => (R.ok (v_out_10, v_free_11))))
def m__law_pairing (v_cell : Int) (v_count : Int) : R (List Int) :=
  (R.bind (R.bind (R.of (rngO 0 v_count)) fun l2 => R.ok (l2.map fun x1 : Int => x1)) fun v_free_3 => (R.lt ([] : (List Int)) fun v_out_4 => (R.bind (R.bind (R.bind (R.of (rngO 0 v_count)) fun l6 => R.ok (l6.map fun x5 : Int => (v_count - x5))) fun t7 => (m__law_draws v_cell t7)) fun l13 => R.bind (foldR m__law_pairing_b1 l13 (v_out_4, v_free_3)) fun s9 => (R.ok s9.1))))
theorem cell_ok (x : Scr) (k : Int) (h : 0 ≤ k) : Ok (m__law_cell x k) fun _ => True := by
  unfold m__law_cell
  repeat (with_reducible first | refine Ok.bind ?_ | refine Ok.lt ?_ | refine Ok.ifm ?_ | refine Ok.ok ?_)
  refine Ok.ite (fun e => ?_) fun e => ?_
  · rw [decide_eq_true_iff] at e
    repeat (with_reducible first | refine Ok.bind ?_ | refine Ok.lt ?_ | refine Ok.ifm ?_ | refine Ok.ok ?_)
    refine Ok.at h e fun a _ => ?_
    repeat (with_reducible first | refine Ok.bind ?_ | refine Ok.lt ?_ | refine Ok.ifm ?_ | refine Ok.ok ?_)
    trivial
  · repeat (with_reducible first | refine Ok.bind ?_ | refine Ok.lt ?_ | refine Ok.ifm ?_ | refine Ok.ok ?_)
    refine Ok.ite (fun e => ?_) fun e => ?_
    · rw [decide_eq_true_iff] at e
      repeat (with_reducible first | refine Ok.bind ?_ | refine Ok.lt ?_ | refine Ok.ifm ?_ | refine Ok.ok ?_)
      refine Ok.at (by omega) e fun a _ => ?_
      repeat (with_reducible first | refine Ok.bind ?_ | refine Ok.lt ?_ | refine Ok.ifm ?_ | refine Ok.ok ?_)
      refine Ok.mul (.inl (by decide)) ?_
      repeat (with_reducible first | refine Ok.bind ?_ | refine Ok.lt ?_ | refine Ok.ifm ?_ | refine Ok.ok ?_)
      trivial
    · exact Ok.mul (.inl (by decide)) trivial
theorem draws_ok (c : Int) (sizes : List Int) (hl : sizes.length ≤ 1000) (hz : ∀ z, z ∈ sizes → 0 < z ∧ z < 10000000000000000) : Ok (m__law_draws c sizes) (Drawn sizes) := by
  unfold m__law_draws
  repeat (with_reducible first | refine Ok.bind ?_ | refine Ok.lt ?_ | refine Ok.ifm ?_ | refine Ok.ok ?_)
  refine Ok.opt (by decide) ?_
  repeat (with_reducible first | refine Ok.bind ?_ | refine Ok.lt ?_ | refine Ok.ifm ?_ | refine Ok.ok ?_)
  refine Ok.range (by omega) ?_
  repeat (with_reducible first | refine Ok.bind ?_ | refine Ok.lt ?_ | refine Ok.ifm ?_ | refine Ok.ok ?_)
  refine Ok.foldRng (fun i s => Drawn (sizes.take i) s.1) ⟨rfl, fun i a z h _ => by simp at h⟩ (fun i hi s hs => ?_) fun s hs => Ok.ok (by rw [Int.toNat_natCast, List.take_length] at hs; exact hs)
  have hin : i < sizes.length := by omega
  have hget : sizes[i]? = some sizes[i] := List.getElem?_eq_getElem hin
  have hzi := hz sizes[i] (List.getElem_mem hin)
  have hs1 : s.1.length < LIM := by
    rw [hs.1, List.length_take]
    exact Nat.lt_of_le_of_lt (Nat.min_le_right _ _) (Nat.lt_of_le_of_lt hl (by decide))
  have at_ : ∀ {Q : Int → Prop}, Q sizes[i] → Ok (R.of (atI sizes (i : Int))) Q := fun q => Ok.at (by omega) (by omega) fun a ha => by
    rw [Int.toNat_natCast, hget] at ha
    cases ha
    exact q
  have big : sizes[i] < 2 ^ 4000 := Int.lt_of_lt_of_le hzi.2 (by decide +kernel)
  unfold m__law_draws_b1
  repeat (with_reducible first | refine Ok.bind ?_ | refine Ok.lt ?_ | refine Ok.ifm ?_ | refine Ok.ok ?_)
  refine Ok.ite (fun _ => ?_) fun _ => ?_
  · repeat (with_reducible first | refine Ok.bind ?_ | refine Ok.lt ?_ | refine Ok.ifm ?_ | refine Ok.ok ?_)
    refine at_ (Ok.mod hzi.1 ?_)
    repeat (with_reducible first | refine Ok.bind ?_ | refine Ok.lt ?_ | refine Ok.ifm ?_ | refine Ok.ok ?_)
    refine Ok.app hs1 ?_
    repeat (with_reducible first | refine Ok.bind ?_ | refine Ok.lt ?_ | refine Ok.ifm ?_ | refine Ok.ok ?_)
    refine at_ (Ok.div hzi.1 big ?_)
    repeat (with_reducible first | refine Ok.bind ?_ | refine Ok.lt ?_ | refine Ok.ifm ?_ | refine Ok.ok ?_)
    exact hs.snoc hget (Int.emod_nonneg _ (by omega)) (Int.emod_lt_of_pos _ hzi.1)
  · repeat (with_reducible first | refine Ok.bind ?_ | refine Ok.lt ?_ | refine Ok.ifm ?_ | refine Ok.ok ?_)
    refine Ok.mul (.inl (by decide)) ?_
    repeat (with_reducible first | refine Ok.bind ?_ | refine Ok.lt ?_ | refine Ok.ifm ?_ | refine Ok.ok ?_)
    refine Ok.mod (by decide) ?_
    repeat (with_reducible first | refine Ok.bind ?_ | refine Ok.lt ?_ | refine Ok.ifm ?_ | refine Ok.ok ?_)
    refine Ok.mul (.inl (by omega)) ?_
    repeat (with_reducible first | refine Ok.bind ?_ | refine Ok.lt ?_ | refine Ok.ifm ?_ | refine Ok.ok ?_)
    refine Ok.mod (by decide) ?_
    repeat (with_reducible first | refine Ok.bind ?_ | refine Ok.lt ?_ | refine Ok.ifm ?_ | refine Ok.ok ?_)
    refine Ok.mul (.inl (by omega)) ?_
    repeat (with_reducible first | refine Ok.bind ?_ | refine Ok.lt ?_ | refine Ok.ifm ?_ | refine Ok.ok ?_)
    refine Ok.mul (.inl (by decide)) ?_
    repeat (with_reducible first | refine Ok.bind ?_ | refine Ok.lt ?_ | refine Ok.ifm ?_ | refine Ok.ok ?_)
    refine Ok.mod (by decide) ?_
    repeat (with_reducible first | refine Ok.bind ?_ | refine Ok.lt ?_ | refine Ok.ifm ?_ | refine Ok.ok ?_)
    refine Ok.div (by decide) (by decide +kernel) ?_
    repeat (with_reducible first | refine Ok.bind ?_ | refine Ok.lt ?_ | refine Ok.ifm ?_ | refine Ok.ok ?_)
    refine at_ (Ok.mod hzi.1 ?_)
    repeat (with_reducible first | refine Ok.bind ?_ | refine Ok.lt ?_ | refine Ok.ifm ?_ | refine Ok.ok ?_)
    refine Ok.app hs1 ?_
    repeat (with_reducible first | refine Ok.bind ?_ | refine Ok.lt ?_ | refine Ok.ifm ?_ | refine Ok.ok ?_)
    exact hs.snoc hget (Int.emod_nonneg _ (by omega)) (Int.emod_lt_of_pos _ hzi.1)

/-! ### the order of the cards -/
abbrev Card := Tp (Int × Int × Int × Unit)
def nm (c : Card) : List Int := IntsT.nums c.t
theorem lex_eq : ∀ p q : List Int, HT.lexLt p q = Srt3.lexL p q
  | [], [] => rfl
  | [], _ :: _ => rfl
  | _ :: _, [] => rfl
  | a :: r, b :: q => by
    rw [HT.lexLt_cons, Srt3.lexL, lex_eq r q]
theorem lt_asym (a b : Card) (h : ltT a b = true) : ltT b a = false := by
  unfold ltT at *
  rw [lex_eq] at *
  exact Srt3.lexL_asym _ _ h
theorem lt_irr (a : Card) : ltT a a = false := by
  cases e : ltT a a with
  | false => rfl
  | true => have := lt_asym a a e; rw [e] at this; cases this
theorem lt_of_le {a b : Card} (h : leT a b = true) (hne : a ≠ b) : ltT a b = true := by
  unfold leT at h
  rw [Bool.not_eq_true'] at h
  cases e : ltT a b with
  | true => rfl
  | false =>
    unfold ltT at e
    rw [lex_eq] at e
    obtain ⟨u⟩ := a
    obtain ⟨v⟩ := b
    exact absurd (congrArg Tp.mk (IntsT.inj _ _ (Srt3.lexL_tot _ _ e h))) hne
theorem below_take {S : List Card} (h : S.Pairwise fun a b => ltT a b = true) {p : Nat} {c : Card} (hp : S[p]? = some c) : S.filter (fun x => ltT x c) = S.take p := by
  have hlt := (List.getElem?_eq_some_iff.mp hp).1
  have hc : S[p] = c := (List.getElem?_eq_some_iff.mp hp).2
  have e : S = S.take p ++ c :: S.drop (p + 1) := by
    rw [← hc, List.getElem_cons_drop, List.take_append_drop]
  have h2 := h
  rw [e, List.pairwise_append, List.pairwise_cons] at h2
  obtain ⟨_, ⟨h3, _⟩, h4⟩ := h2
  have a1 : (S.take p).filter (fun x => ltT x c) = S.take p := List.filter_eq_self.mpr fun x hx => h4 x hx c (List.mem_cons_self ..)
  have a2 : (c :: S.drop (p + 1)).filter (fun x => ltT x c) = [] := by
    refine List.filter_eq_nil_iff.mpr fun x hx => ?_
    rcases List.mem_cons.mp hx with rfl | hx
    · rw [lt_irr]; decide
    · rw [lt_asym _ _ (h3 x hx)]; decide
  conv => lhs; rw [e]
  rw [List.filter_append, a1, a2, List.append_nil]
/-! ### the heights -/
def st (c : Card) : Int := if c.t.2.1 = 1 then -1 else 1
def hs (L : List Card) : Int := (L.map st).sum
def walk (S : List Card) : List Int := (List.range (S.length + 1)).map fun j => hs (S.take j)
theorem hs_app (a b : List Card) : hs (a ++ b) = hs a + hs b := by
  unfold hs
  rw [List.map_append, List.sum_append]
theorem hs_snoc {S : List Card} {i : Nat} (h : i < S.length) : hs (S.take (i + 1)) = hs (S.take i) + st S[i] := by
  rw [List.take_add_one, hs_app, List.getElem?_eq_getElem h]
  congr 1
  show (st S[i] + 0 : Int) = _
  omega
theorem sum_perm {a b : List Int} (h : a.Perm b) : a.sum = b.sum := by
  induction h with
  | nil => rfl
  | cons x _ ih => rw [List.sum_cons, List.sum_cons, ih]
  | swap x y l => rw [List.sum_cons, List.sum_cons, List.sum_cons, List.sum_cons]; omega
  | trans _ _ h1 h2 => exact h1.trans h2
theorem hs_perm {a b : List Card} (h : a.Perm b) : hs a = hs b := by
  unfold hs
  exact sum_perm (h.map st)
def side (c : Card) : Tp (Str × Int × Unit) := Tp.mk ((if (decide (c.t.2.1 = (1 : Int))) then (PySem.Str.ofString "mine") else (PySem.Str.ofString "theirs")), c.t.2.2.1, ())
/-! ### the cards -/
def cards (mine theirs : List Int) : List Card := ((enumF theirs).map fun x1 : (Tp (Int × Int × Unit)) => (Tp.mk (x1.t.2.1, (0 : Int), x1.t.1, ()) : Card)) ++ ((enumF mine).map fun x4 : (Tp (Int × Int × Unit)) => (Tp.mk (x4.t.2.1, (1 : Int), x4.t.1, ()) : Card))
theorem enum_is (xs : List Int) : enumF xs = (List.range xs.length).map fun i : Nat => (Tp.mk ((i : Int), xs.getD i 0, ()) : Tp (Int × Int × Unit)) := by
  unfold enumF
  refine List.ext_getElem? fun i => ?_
  rw [List.getElem?_mapIdx, List.getElem?_map]
  by_cases h : i < xs.length
  · rw [List.getElem?_eq_getElem h, List.getElem?_range h]
    show some _ = some _
    congr 3
    rw [List.getD_eq_getElem?_getD, List.getElem?_eq_getElem h]
    rfl
  · rw [List.getElem?_eq_none (by omega), List.getElem?_eq_none (by rw [List.length_range]; omega)]
    rfl
theorem cards_is (mine theirs : List Int) : cards mine theirs = ((List.range theirs.length).map fun i : Nat => (Tp.mk (theirs.getD i 0, (0 : Int), (i : Int), ()) : Card)) ++ ((List.range mine.length).map fun i : Nat => (Tp.mk (mine.getD i 0, (1 : Int), (i : Int), ()) : Card)) := by
  unfold cards
  rw [enum_is, enum_is, List.map_map, List.map_map]
  rfl
theorem cards_len (mine theirs : List Int) : (cards mine theirs).length = theirs.length + mine.length := by
  rw [cards_is, List.length_append, List.length_map, List.length_map, List.length_range, List.length_range]
theorem cards_nodup (mine theirs : List Int) : (cards mine theirs).Nodup := by
  rw [cards_is]
  have key : ∀ (xs : List Int) (m : Int), ((List.range xs.length).map fun i : Nat => (Tp.mk (xs.getD i 0, m, (i : Int), ()) : Card)).Nodup := fun xs m => by
    refine List.pairwise_map.mpr ?_
    refine (List.pairwise_lt_range (n := xs.length)).imp fun {a b} h e => ?_
    have e := congrArg (fun c : Card => c.t.2.2.1) e
    have e : (a : Int) = (b : Int) := e
    omega
  refine List.nodup_append.mpr ⟨key _ _, key _ _, fun a ha b hb e => ?_⟩
  obtain ⟨i, _, rfl⟩ := List.mem_map.mp ha
  obtain ⟨j, _, rfl⟩ := List.mem_map.mp hb
  have e := congrArg (fun c : Card => c.t.2.1) e
  have e : (0 : Int) = 1 := e
  omega
theorem cards_hs {mine theirs : List Int} (h : mine.length = theirs.length) : hs (cards mine theirs) = 0 := by
  rw [cards_is, hs_app]
  have key : ∀ (xs : List Int) (m v : Int), (∀ a : Int × Int × Unit, st ⟨(a.1, m, a.2.1, ())⟩ = v) → hs ((List.range xs.length).map fun i : Nat => (Tp.mk (xs.getD i 0, m, (i : Int), ()) : Card)) = v * xs.length := fun xs m v hv => by
    unfold hs
    rw [List.map_map]
    have : (st ∘ fun i : Nat => (Tp.mk (xs.getD i 0, m, (i : Int), ()) : Card)) = fun _ => v := funext fun i => hv (xs.getD i 0, (i : Int), ())
    rw [this, List.map_const', List.length_range, List.sum_replicate_int]
    rw [Int.mul_comm]
  rw [key theirs 0 1 (fun a => rfl), key mine 1 (-1) (fun a => rfl), h]
  omega
def srt (mine theirs : List Int) : List Card := sortT (cards mine theirs)
theorem srt_perm (mine theirs : List Int) : (srt mine theirs).Perm (cards mine theirs) := sortT_perm _
theorem srt_lt (mine theirs : List Int) : (srt mine theirs).Pairwise fun a b => ltT a b = true := by
  have h1 := sortT_le (cards mine theirs)
  have h2 : (srt mine theirs).Nodup := (srt_perm mine theirs).nodup_iff.mpr (cards_nodup mine theirs)
  exact (h1.and h2).imp fun {a b} h => lt_of_le h.1 h.2
theorem srt_len (mine theirs : List Int) : (srt mine theirs).length = theirs.length + mine.length := by
  rw [(srt_perm mine theirs).length_eq, cards_len]
def hw (mine theirs : List Int) : List Int := walk (srt mine theirs)
theorem law_cards {mine theirs : List Int} (h1 : mine.length ≤ 100) (h2 : theirs.length ≤ 100) : (R.bind (R.bind (R.of (rngO 0 (theirs.length : Int))) fun l3 => compR (fun x1 : Int => (R.ok true)) (fun x1 : Int => (R.bind (R.of (atI theirs x1)) fun t2 => (R.ok (Tp.mk (t2, (0 : Int), x1, ()) : Card)))) l3) fun t7 => R.bind (R.bind (R.of (rngO 0 (mine.length : Int))) fun l6 => compR (fun x4 : Int => (R.ok true)) (fun x4 : Int => (R.bind (R.of (atI mine x4)) fun t5 => (R.ok (Tp.mk (t5, (1 : Int), x4, ()) : Card)))) l6) fun t8 => (R.of (catL t7 t8))) = .ok (cards mine theirs) := by
  have key : ∀ (xs : List Int) (m : Int), xs.length ≤ 100 → (R.bind (R.of (rngO 0 (xs.length : Int))) fun l3 => compR (fun x1 : Int => (R.ok true)) (fun x1 : Int => (R.bind (R.of (atI xs x1)) fun t2 => (R.ok (Tp.mk (t2, m, x1, ()) : Card)))) l3) = .ok ((List.range xs.length).map fun i : Nat => (Tp.mk (xs.getD i 0, m, (i : Int), ()) : Card)) := fun xs m hx => by
    rw [show rngO 0 (xs.length : Int) = some (rng 0 (xs.length : Int)) from if_pos (by omega)]
    refine (compR_ok (p := fun _ => true) (g := fun x => (Tp.mk (xs.getD x.toNat 0, m, x, ()) : Card)) (fun _ _ => rfl) fun x hx => ?_).trans ?_
    · rw [rng_nat] at hx
      obtain ⟨i, hi, rfl⟩ := List.mem_map.mp hx
      have hi : i < xs.length := List.mem_range.mp hi
      rw [atI_nat (List.getElem?_eq_getElem hi), Int.toNat_natCast, List.getD_eq_getElem?_getD, List.getElem?_eq_getElem hi]
      rfl
    · rw [filter_yes, rng_nat, List.map_map]
      rfl
  rw [key theirs 0 h2, key mine 1 h1, cards_is]
  show R.of (catL _ _) = _
  rw [show catL ((List.range theirs.length).map fun i : Nat => (Tp.mk (theirs.getD i 0, (0 : Int), (i : Int), ()) : Card)) ((List.range mine.length).map fun i : Nat => (Tp.mk (mine.getD i 0, (1 : Int), (i : Int), ()) : Card)) = some _ from if_pos (by
    have h5 : (LIM : Nat) = 1000000 := rfl
    rw [List.length_map, List.length_map, List.length_range, List.length_range]
    omega)]
  rfl
theorem mul2 (x : Int) : mulO (2 : Int) x = some (2 * x) := by
  unfold mulO
  exact optIf_pos (.inl ⟨by decide, by decide⟩)
theorem log_ok {i : Int} (h : -(2 ^ 60) < i ∧ i < 2 ^ 60) : decide (i.natAbs.log2 < 1920) = true := by
  rw [decide_eq_true_iff]
  by_cases z : i.natAbs = 0
  · rw [z]; decide
  · rw [Nat.log2_lt z]
    exact Nat.lt_of_lt_of_le (show i.natAbs < 2 ^ 60 by omega) (by decide +kernel)
theorem raise_two {α : Type} {c : Nat} {i j : Int} (h : -(2 ^ 60) < i ∧ i < 2 ^ 60) (h2 : -(2 ^ 60) < j ∧ j < 2 ^ 60) : (R.raise c [enc i, enc j] : R α) = .ex ⟨c, [enc j, enc i]⟩ := by
  unfold R.raise
  rw [if_pos]
  · rfl
  · show (decide (i.natAbs.log2 < 1920) && (decide (j.natAbs.log2 < 1920) && true)) = true
    rw [log_ok h, log_ok h2]
    rfl
theorem hand_ok (c n k : Int) (hn : 0 ≤ n ∧ n ≤ 50) : Ok (m__law_hand c n k) fun h => (h.length : Int) = n := by
  unfold m__law_hand
  have rl : ∀ z : Int, (((Pv.rng 0 n).map fun _ : Int => z).length : Int) = n := fun z => by
    rw [List.length_map, rng_len]
    omega
  have sz : ∀ z : Int, 0 < z ∧ z < 10000000000000000 → Ok (m__law_draws c ((Pv.rng 0 n).map fun _ : Int => z)) fun o => (o.length : Int) = n := fun z hz => by
    have := rl z
    exact (draws_ok c _ (by omega) (fun y hy => by
      obtain ⟨_, _, e⟩ := List.mem_map.mp hy
      omega)).imp fun o ho => by
        rw [ho.1]
        exact rl z
  repeat (with_reducible first | refine Ok.bind ?_ | refine Ok.lt ?_ | refine Ok.ifm ?_ | refine Ok.ok ?_)
  refine Ok.ite (fun _ => ?_) fun _ => ?_
  · repeat (with_reducible first | refine Ok.bind ?_ | refine Ok.lt ?_ | refine Ok.ifm ?_ | refine Ok.ok ?_)
    refine Ok.range (by omega) ?_
    repeat (with_reducible first | refine Ok.bind ?_ | refine Ok.lt ?_ | refine Ok.ifm ?_ | refine Ok.ok ?_)
    refine (sz 3 (by decide)).imp fun o ho => ?_
    repeat (with_reducible first | refine Ok.bind ?_ | refine Ok.lt ?_ | refine Ok.ifm ?_ | refine Ok.ok ?_)
    rw [List.length_map]
    exact ho
  · repeat (with_reducible first | refine Ok.bind ?_ | refine Ok.lt ?_ | refine Ok.ifm ?_ | refine Ok.ok ?_)
    refine Ok.ite (fun _ => ?_) fun _ => ?_
    · repeat (with_reducible first | refine Ok.bind ?_ | refine Ok.lt ?_ | refine Ok.ifm ?_ | refine Ok.ok ?_)
      refine Ok.range (by omega) ?_
      refine Ok.comp (fun _ => true) (fun _ => 2 * n + 1) (fun _ _ => rfl) (fun x _ => by rw [mul2]; rfl) ?_
      rw [filter_yes]
      refine (sz (2 * n + 1) (by omega)).imp fun o ho => ?_
      repeat (with_reducible first | refine Ok.bind ?_ | refine Ok.lt ?_ | refine Ok.ifm ?_ | refine Ok.ok ?_)
      rw [List.length_map]
      exact ho
    · repeat (with_reducible first | refine Ok.bind ?_ | refine Ok.lt ?_ | refine Ok.ifm ?_ | refine Ok.ok ?_)
      have p15 : powO (10 : Int) (15 : Int) = some 1000000000000000 := by
        unfold powO
        exact (optIf_pos (by decide)).trans (congrArg some (by decide +kernel))
      refine Ok.ite (fun _ => ?_) fun _ => ?_
      · repeat (with_reducible first | refine Ok.bind ?_ | refine Ok.lt ?_ | refine Ok.ifm ?_ | refine Ok.ok ?_)
        refine Ok.range (by omega) ?_
        refine Ok.comp (fun _ => true) (fun _ => 2 * 1000000000000000 + 1) (fun _ _ => rfl) (fun x _ => by rw [p15]; show (R.bind (R.bind (R.ok (1000000000000000 : Int)) fun t14 => (R.of (mulO (2 : Int) t14))) fun t15 => (R.ok (t15 + (1 : Int)))) = _; rw [R.bind_ok, mul2]; rfl) ?_
        rw [filter_yes]
        refine (sz (2 * 1000000000000000 + 1) (by decide)).imp fun o ho => ?_
        refine Ok.comp (fun _ => true) (fun x => x - 1000000000000000) (fun _ _ => rfl) (fun x _ => by rw [p15]; rfl) ?_
        rw [filter_yes, List.length_map]
        exact ho
      · repeat (with_reducible first | refine Ok.bind ?_ | refine Ok.lt ?_ | refine Ok.ifm ?_ | refine Ok.ok ?_)
        refine Ok.range (by omega) ?_
        repeat (with_reducible first | refine Ok.bind ?_ | refine Ok.lt ?_ | refine Ok.ifm ?_ | refine Ok.ok ?_)
        refine (sz (n + 2) (by omega)).imp fun o ho => ?_
        repeat (with_reducible first | refine Ok.bind ?_ | refine Ok.lt ?_ | refine Ok.ifm ?_ | refine Ok.ok ?_)
        rw [List.length_map]
        exact ho
theorem _root_.Pv.Ok.via {α β : Type} {m : R α} {k : α → R β} {Q : β → Prop} (P : α → Prop) (h : Pv.Ok m P) (h2 : ∀ a, P a → Pv.Ok (k a) Q) : Pv.Ok (m.bind k) Q := Pv.Ok.bind (h.imp h2)
theorem hands_ok (x : Scr) (p n : Int) (hp : 0 ≤ p) (hn : 0 ≤ n ∧ n ≤ 50) : Ok (m__law_hands x p n) fun t => (t.t.1.length : Int) = n ∧ (t.t.2.1.length : Int) = n := by
  unfold m__law_hands
  refine Ok.via (fun sh => Drawn [6, 4, 3, 40] sh) (Ok.bind ((cell_ok x p hp).imp fun c1 _ => draws_ok c1 _ (by show (4 : Nat) ≤ 1000; decide) (by decide))) fun sh hsh => ?_
  obtain ⟨s0, e0, _, _⟩ := drawn_get hsh 0 6 rfl
  obtain ⟨s1, e1, _, _⟩ := drawn_get hsh 1 4 rfl
  obtain ⟨s2, e2, _, _⟩ := drawn_get hsh 2 3 rfl
  obtain ⟨s3, e3, _, _⟩ := drawn_get hsh 3 40 rfl
  have e0 : atI sh (0 : Int) = some s0 := e0
  have e1 : atI sh (1 : Int) = some s1 := e1
  have e2 : atI sh (2 : Int) = some s2 := e2
  have e3 : atI sh (3 : Int) = some s3 := e3
  refine Ok.via (fun m => (m.length : Int) = n) (Ok.bind ((cell_ok x (p + 1) (by omega)).imp fun c2 _ => Ok.bind (Ok.bind (Ok.of e0 (Ok.mod (by decide) (hand_ok c2 n _ hn)))))) fun m hm => ?_
  refine Ok.via (fun m => (m.length : Int) = n) (Ok.bind ((cell_ok x (p + 2) (by omega)).imp fun c2 _ => Ok.bind (Ok.bind (Ok.of e0 (Ok.mod (by decide) (hand_ok c2 n _ hn)))))) fun t ht => ?_
  refine Ok.via (fun m => (m.length : Int) = n) (Ok.ifm (Ok.bind (Ok.of e0 (Ok.ok (Ok.ite (fun _ => ?_) fun _ => Ok.ok ht))))) fun t' ht' => ?_
  · refine Ok.lt (Ok.via (fun m => (m.length : Int) = n) (Ok.ifm (Ok.ite (fun c => Ok.bind (Ok.of e1 (Ok.ok (Ok.ite (fun _ => ?_) fun _ => Ok.ok hm)))) fun _ => Ok.ok (Ok.ok hm))) fun u hu => Ok.ok hu)
    rw [decide_eq_true_iff] at c
    have b1 := Int.emod_nonneg s3 (show n ≠ 0 by omega)
    have b2 := Int.emod_lt_of_pos s3 c
    repeat (with_reducible first | refine Ok.bind ?_ | refine Ok.lt ?_ | refine Ok.ifm ?_ | refine Ok.ok ?_)
    refine Ok.of e3 (Ok.mod c ?_)
    refine Ok.at (xs := m) b1 (by omega) fun v _ => ?_
    repeat (with_reducible first | refine Ok.bind ?_ | refine Ok.lt ?_ | refine Ok.ifm ?_ | refine Ok.ok ?_)
    refine Ok.of e1 ?_
    repeat (with_reducible first | refine Ok.bind ?_ | refine Ok.lt ?_ | refine Ok.ifm ?_ | refine Ok.ok ?_)
    refine Ok.of e3 (Ok.mod c ?_)
    repeat (with_reducible first | refine Ok.bind ?_ | refine Ok.lt ?_ | refine Ok.ifm ?_ | refine Ok.ok ?_)
    refine Ok.set (xs := m) b1 (by omega) ?_
    repeat (with_reducible first | refine Ok.bind ?_ | refine Ok.lt ?_ | refine Ok.ifm ?_ | refine Ok.ok ?_)
    rw [List.length_set]
    exact hm
  · refine Ok.via (fun m => (m.length : Int) = n) (Ok.ifm (Ok.bind (Ok.bind (Ok.of e0 (Ok.ok (Ok.ite (fun _ => Ok.bind (Ok.of e2 (Ok.ok ?_))) fun _ => Ok.ok (Ok.ok ht'))))))) fun u hu => Ok.ok ⟨hm, hu⟩
    refine Ok.ite (fun _ => ?_) fun _ => Ok.ok ht'
    refine Ok.bind (Ok.bind (Ok.ok (Ok.comp (fun _ => true) (fun x => (x + 3) - 2 * s1) (fun _ _ => rfl) (fun x _ => by rw [e1]; show (R.bind (R.bind (R.ok s1) fun t77 => (R.of (mulO (2 : Int) t77))) fun t78 => (R.ok ((x + (3 : Int)) - t78))) = _; rw [R.bind_ok, mul2]; rfl) (Ok.ok ?_))))
    rw [filter_yes, List.length_map]
    exact hm

end Cm

set_option Elab.async false
set_option linter.all false
set_option maxRecDepth 100000
set_option maxHeartbeats 4000000
/-! ### the deck by counts -/
namespace Cm
open PySem PySem.Spec L2 Pv Rot
open Enc (enc)
open Encs (encs)
def isM (c : Card) : Bool := decide (c.t.2.1 = (1 : Int))
def num (c : Card) : Int := c.t.1
def isT (c : Card) : Bool := !isM c
theorem ltT_card (a b : Card) : ltT a b = if a.t.1 = b.t.1 then (if a.t.2.1 = b.t.2.1 then decide (a.t.2.2.1 < b.t.2.2.1) else decide (a.t.2.1 < b.t.2.1)) else decide (a.t.1 < b.t.1) := by
  unfold ltT
  rw [lex_eq]
  show Srt3.lexL [a.t.1, a.t.2.1, a.t.2.2.1] [b.t.1, b.t.2.1, b.t.2.2.1] = _
  simp only [Srt3.lexL]
  split
  · split
    · split
      · rename_i h
        rw [decide_eq_false (by omega)]
      · rfl
    · rfl
  · rfl
theorem num_le {a b : Card} (h : ltT a b = true) : num a ≤ num b := by
  rw [ltT_card] at h
  unfold num
  split at h
  · omega
  · rw [decide_eq_true_iff] at h
    omega
theorem T_lt {x c : Card} (hx : x.t.2.1 = 0) (hc : c.t.2.1 = 1) : ltT x c = decide (num x ≤ num c) := by
  rw [ltT_card, hx, hc]
  unfold num
  split
  · rw [if_neg (by decide)]
    rw [decide_eq_true (show (0 : Int) < 1 by decide), decide_eq_true (by omega)]
  · by_cases z : x.t.1 < c.t.1
    · rw [decide_eq_true z, decide_eq_true (by omega)]
    · rw [decide_eq_false z, decide_eq_false (by omega)]
theorem M_lt {x c : Card} (hx : x.t.2.1 = 1) (hc : c.t.2.1 = 0) : ltT x c = decide (num x < num c) := by
  rw [ltT_card, hx, hc]
  unfold num
  split
  · rw [if_neg (by decide)]
    rw [decide_eq_false (show ¬ (1 : Int) < 0 by decide), decide_eq_false (by omega)]
  · rfl
theorem enum_num {xs : List Int} {m : Int} : (((List.range xs.length).map fun i : Nat => (Tp.mk (xs.getD i 0, m, (i : Int), ()) : Card))).map num = xs := by
  rw [List.map_map]
  refine List.ext_getElem? fun i => ?_
  rw [List.getElem?_map]
  by_cases h : i < xs.length
  · rw [List.getElem?_range h, List.getElem?_eq_getElem h]
    show some (xs.getD i 0) = _
    rw [List.getD_eq_getElem?_getD, List.getElem?_eq_getElem h]
    rfl
  · rw [List.getElem?_eq_none (by rw [List.length_range]; omega), List.getElem?_eq_none (by omega)]
    rfl
theorem enum_all {xs : List Int} {m : Int} {p : Card → Bool} (h : ∀ a i : Int, p (Tp.mk (a, m, i, ())) = true) : (((List.range xs.length).map fun i : Nat => (Tp.mk (xs.getD i 0, m, (i : Int), ()) : Card))).filter p = ((List.range xs.length).map fun i : Nat => (Tp.mk (xs.getD i 0, m, (i : Int), ()) : Card)) :=
  List.filter_eq_self.mpr fun c hc => by
    obtain ⟨i, _, rfl⟩ := List.mem_map.mp hc
    exact h _ _
theorem enum_none {xs : List Int} {m : Int} {p : Card → Bool} (h : ∀ a i : Int, p (Tp.mk (a, m, i, ())) = false) : (((List.range xs.length).map fun i : Nat => (Tp.mk (xs.getD i 0, m, (i : Int), ()) : Card))).filter p = [] :=
  List.filter_eq_nil_iff.mpr fun c hc => by
    obtain ⟨i, _, rfl⟩ := List.mem_map.mp hc
    rw [h]
    decide
theorem cards_fM (mine theirs : List Int) : (cards mine theirs).filter isM = (List.range mine.length).map fun i : Nat => (Tp.mk (mine.getD i 0, (1 : Int), (i : Int), ()) : Card) := by
  rw [cards_is, List.filter_append, enum_none (fun _ _ => rfl), enum_all (fun _ _ => rfl), List.nil_append]
section
variable (mine theirs : List Int)
def Ms : List Card := (srt mine theirs).filter isM
def Ts : List Card := (srt mine theirs).filter isT
def mv : List Int := (Ms mine theirs).map num
def tv : List Int := (Ts mine theirs).map num
end
section
variable {mine theirs : List Int}
theorem mv_perm : (mv mine theirs).Perm mine := by
  have h := ((srt_perm mine theirs).filter isM).map num
  rw [cards_fM, enum_num] at h
  exact h
theorem mv_len : (mv mine theirs).length = mine.length := mv_perm.length_eq
theorem Ms_len : (Ms mine theirs).length = mine.length := by rw [← mv_len (mine := mine) (theirs := theirs)]; exact (List.length_map ..).symm
theorem isM_iff {c : Card} : isM c = true ↔ c.t.2.1 = 1 := by unfold isM; exact decide_eq_true_iff
theorem hs_zero (h : mine.length = theirs.length) : hs ((srt mine theirs).take (srt mine theirs).length) = 0 := by
  rw [List.take_length, hs_perm (srt_perm mine theirs), cards_hs h]
end
end Cm

set_option Elab.async false
set_option linter.all false
set_option maxRecDepth 100000
set_option maxHeartbeats 4000000
/-! ### orders, rotations, results -/
namespace Cm
open PySem PySem.Spec L2 Pv Rot
open Enc (enc)
open Encs (encs)
def idx (c : Card) : Int := c.t.2.2.1
section
variable {mine theirs : List Int}
theorem limv : (LIM : Nat) = 1000000 := rfl
theorem deck_is (h1 : mine.length ≤ 1000) (h2 : theirs.length ≤ 1000) : m_deck mine theirs = .ok ((srt mine theirs).map side) := by
  unfold m_deck
  have hc : catL ((enumF theirs).map fun x1 : (Tp (Int × Int × Unit)) => (Tp.mk (x1.t.2.1, (0 : Int), x1.t.1, ()) : Card)) ((enumF mine).map fun x4 : (Tp (Int × Int × Unit)) => (Tp.mk (x4.t.2.1, (1 : Int), x4.t.1, ()) : Card)) = some (cards mine theirs) := by
    refine if_pos ?_
    have := cards_len mine theirs
    unfold cards at this
    rw [List.length_append] at this
    have := limv
    omega
  show (R.bind (R.of (catL _ _)) fun v_keys_5 => (R.ok ((sortT v_keys_5).map side))) = _
  rw [hc]
  rfl
theorem law_order (h1 : mine.length ≤ 100) (h2 : theirs.length ≤ 100) : m__law_order mine theirs = .ok (srt mine theirs) := by
  have h := law_cards h1 h2
  unfold m__law_order
  have e : ∀ (X : R (List Card)) (Y : List Card → R (List Card)) (Z : List Card → R (List Card)), (X.bind fun a => (Y a).bind fun b => Z b) = ((X.bind fun a => Y a).bind Z) := fun X Y Z => by cases X <;> rfl
  have e2 : ∀ (X : R (List Card)) (Y : R (List Card)), (X.bind fun a => ((Y.bind fun t => R.of (catL a t)).bind fun b => R.ok (sortT b))) = ((X.bind fun a => Y.bind fun t => R.of (catL a t)).bind fun b => R.ok (sortT b)) := fun X Y => by cases X <;> rfl
  refine (e2 _ _).trans ?_
  rw [h]
  rfl
/-! #### the two ends -/
abbrev bb (mine theirs : List Int) : Nat → Nat := bv (mv mine theirs) (tv mine theirs)
/-- the least result: what the law counts -/
structure IsLo (mine theirs : List Int) (L : Int) : Prop where
  z : 0 ≤ L
  i : ∀ r : Nat, L ≤ r ↔ Lo mine.length (bb mine theirs) r
structure IsHi (mine theirs : List Int) (M : Int) : Prop where
  z : 0 ≤ M
  n : M ≤ mine.length
  i : ∀ r : Nat, r ≤ mine.length → ((r : Int) ≤ M ↔ Hi mine.length (bb mine theirs) r)
theorem IsLo.eq {a b : Int} (h : IsLo mine theirs a) (k : IsLo mine theirs b) : a = b := by
  have h1 := (k.i a.toNat).mpr ((h.i a.toNat).mp (by have := h.z; omega))
  have h2 := (h.i b.toNat).mpr ((k.i b.toNat).mp (by have := k.z; omega))
  have := h.z
  have := k.z
  omega
theorem IsHi.eq {a b : Int} (h : IsHi mine theirs a) (k : IsHi mine theirs b) : a = b := by
  have z1 := h.z
  have z2 := k.z
  have n1 := h.n
  have n2 := k.n
  have h1 := (k.i a.toNat (by omega)).mpr ((h.i a.toNat (by omega)).mp (by omega))
  have h2 := (h.i b.toNat (by omega)).mpr ((k.i b.toNat (by omega)).mp (by omega))
  omega
/-! #### what the law counts -/
def maxs (g : Int → Int) (xs : List Int) (s : Int) : Int := xs.foldl (fun s x => if g x > s then g x else s) s
def mins (g : Int → Int) (xs : List Int) (s : Int) : Int := xs.foldl (fun s x => if g x < s then g x else s) s
end
end Cm

set_option Elab.async false
set_option linter.all false
set_option maxRecDepth 100000
set_option maxHeartbeats 4000000
/-! ### pairings laid by two orders; results -/
namespace Cm
open PySem PySem.Spec L2 Pv Rot
open Enc (enc)
open Encs (encs)
def m_rotation_b1 (x6 : (Tp (Int × Int × Unit))) (s7 : (List Int)) : R ((List Int)) :=
  (R.bind (R.ok x6.t.2.1) fun a9 => R.bind (R.ok x6.t.1) fun j10 => R.bind (R.of (setL s7 j10 a9)) fun v_pairing_8 => (R.ok (v_pairing_8)))
def m__law_result (v_mine : (List Int)) (v_theirs : (List Int)) (v_pairing : (List Int)) : R Int :=
  (R.bind (R.bind (R.of (rngO 0 (v_mine.length : Int))) fun l6 => compR (fun x1 : Int => (R.ok true)) (fun x1 : Int => (R.bind (R.bind (R.of (atI v_mine x1)) fun t3 => R.bind (R.bind (R.of (atI v_pairing x1)) fun t2 => (R.of (atI v_theirs t2))) fun t4 => (R.ok (decide (t4 ≤ t3)))) fun t5 => (R.ok (if t5 then (1 : Int) else 0)))) l6) fun t7 => (R.ok t7.sum))
def m__law_turned_b1 (v_r : Int) (v_my_cards_3 : (List Int)) (v_their_cards_5 : (List Int)) (x8 : Int) (s9 : (List Int)) : R ((List Int)) :=
  (R.bind (R.bind (R.of (modO (x8 + v_r) (v_my_cards_3.length : Int))) fun t10 => (R.of (atI v_their_cards_5 t10))) fun a12 => R.bind (R.of (atI v_my_cards_3 x8)) fun j13 => R.bind (R.of (setL s9 j13 a12)) fun v_out_11 => (R.ok (v_out_11)))
def m__law_turned (v_mine : (List Int)) (v_theirs : (List Int)) (v_r : Int) : R (List Int) :=
  (R.bind (m__law_order v_mine v_theirs) fun v_order_1 => (R.lt ((v_order_1.filter fun x2 : (Tp (Int × Int × Int × Unit)) => (decide (x2.t.2.1 = (1 : Int)))).map fun x2 : (Tp (Int × Int × Int × Unit)) => x2.t.2.2.1) fun v_my_cards_3 => (R.lt ((v_order_1.filter fun x4 : (Tp (Int × Int × Int × Unit)) => (decide (x4.t.2.1 = (0 : Int)))).map fun x4 : (Tp (Int × Int × Int × Unit)) => x4.t.2.2.1) fun v_their_cards_5 => (R.lt (v_my_cards_3.map fun x6 : Int => (0 : Int)) fun v_out_7 => (R.bind (R.of (rngO 0 (v_my_cards_3.length : Int))) fun l14 => R.bind (foldR (m__law_turned_b1 v_r v_my_cards_3 v_their_cards_5) l14 (v_out_7)) fun s9 => (R.ok s9))))))
/-- entry ms[k] is ts[k], for k below i -/
def setAll (n : Nat) (ms ts : List Int) (i : Nat) : List Int := (List.range i).foldl (fun s k => s.set (ms.getD k 0).toNat (ts.getD k 0)) (List.replicate n 0)
theorem getD_at {α : Type} {xs : List α} {i : Nat} {d : α} (h : i < xs.length) : xs.getD i d = xs[i] := by
  rw [List.getD_eq_getElem?_getD, List.getElem?_eq_getElem h]
  rfl
/-- the numbers 0 to n - 1, each once -/
def IsP (n : Nat) (ms : List Int) : Prop := ms.length = n ∧ ms.Nodup ∧ ∀ m, m ∈ ms → 0 ≤ m ∧ m < n
theorem IsP.at {n : Nat} {ms : List Int} (h : IsP n ms) {i : Nat} (hi : i < n) : 0 ≤ ms.getD i 0 ∧ ms.getD i 0 < n := by
  have hl : i < ms.length := by rw [h.1]; exact hi
  rw [getD_at hl]
  exact h.2.2 _ (List.getElem_mem hl)
theorem IsP.inj {n : Nat} {ms : List Int} (h : IsP n ms) {i j : Nat} (hi : i < n) (hj : j < n) (e : ms.getD i 0 = ms.getD j 0) : i = j := by
  have hl : i < ms.length := by rw [h.1]; exact hi
  have hl' : j < ms.length := by rw [h.1]; exact hj
  rw [getD_at hl, getD_at hl'] at e
  exact (List.getElem_inj h.2.1).mp e
theorem range_int (n : Nat) : IsP n ((List.range n).map fun i : Nat => (i : Int)) := by
  refine ⟨by rw [List.length_map, List.length_range], ?_, fun m hm => ?_⟩
  · refine List.pairwise_map.mpr ((List.pairwise_lt_range (n := n)).imp fun {a b} h e => ?_)
    have : (a : Int) = (b : Int) := e
    omega
  · obtain ⟨i, hi, rfl⟩ := List.mem_map.mp hm
    have := List.mem_range.mp hi
    omega
theorem sub_perm {α : Type} [BEq α] [LawfulBEq α] : ∀ {xs ys : List α}, xs.Nodup → (∀ x, x ∈ xs → x ∈ ys) → ys.length ≤ xs.length → xs.Perm ys
  | [], ys, _, _, h => by
    have : ys = [] := List.length_eq_zero_iff.mp (by simpa using h)
    subst this
    exact .refl _
  | x :: xs, ys, h1, h2, h => by
    obtain ⟨n1, n2⟩ := List.nodup_cons.mp h1
    have hx := h2 x (List.mem_cons_self ..)
    have hp := List.perm_cons_erase hx
    refine ((sub_perm n2 (fun y hy => ?_) ?_).cons x).trans hp.symm
    · exact (List.mem_erase_of_ne (fun e : y = x => n1 (e ▸ hy))).mpr (h2 y (List.mem_cons_of_mem _ hy))
    · have := List.length_erase_of_mem hx
      rw [List.length_cons] at h
      omega
theorem IsP.perm {n : Nat} {ms : List Int} (h : IsP n ms) : ms.Perm ((List.range n).map fun i : Nat => (i : Int)) := by
  refine sub_perm h.2.1 (fun m hm => ?_) (by rw [List.length_map, List.length_range, h.1]; exact Nat.le_refl _)
  obtain ⟨a, b⟩ := h.2.2 m hm
  exact List.mem_map.mpr ⟨m.toNat, List.mem_range.mpr (by omega), by omega⟩
section
variable {mine theirs : List Int}
theorem isP_of {n : Nat} {ms : List Int} (h : ms.Perm ((List.range n).map fun i : Nat => (i : Int))) : IsP n ms := by
  obtain ⟨a, b, c⟩ := range_int n
  exact ⟨by rw [h.length_eq, a], h.nodup_iff.mpr b, fun m hm => c m (h.mem_iff.mp hm)⟩
/-! #### the rotation -/
def rot (ts : List Int) (r : Nat) : List Int := ts.drop r ++ ts.take r
def rotP (mine theirs : List Int) (r : Nat) : List Int := setAll mine.length ((Ms mine theirs).map idx) (rot ((Ts mine theirs).map idx) r) mine.length
/-! #### results -/
theorem sum_ite {α : Type} (p : α → Bool) : ∀ xs : List α, ((xs.map fun x => if p x then (1 : Int) else 0).sum) = ((xs.filter p).length : Int)
  | [] => rfl
  | x :: xs => by
    rw [List.map_cons, List.sum_cons, sum_ite p xs, List.filter_cons]
    cases p x with
    | true => simp; omega
    | false => simp
/-- the number of won pairs -/
def res (mine theirs p : List Int) : Nat := ((List.range mine.length).filter fun m => decide (theirs.getD (p.getD m 0).toNat 0 ≤ mine.getD m 0)).length
theorem result_is {p : List Int} (hp : p.length = mine.length) (hl : mine.length ≤ 1000) (hb : ∀ x, x ∈ p → 0 ≤ x ∧ x < theirs.length) : m__law_result mine theirs p = .ok (res mine theirs p : Int) := by
  unfold m__law_result
  refine Ok.get (Ok.bind (Ok.bind (Ok.range ⟨by omega, by omega, by omega, by omega, by omega⟩ ?_)))
  refine Ok.comp (fun _ => true) (fun x => if decide (theirs.getD (p.getD x.toNat 0).toNat 0 ≤ mine.getD x.toNat 0) then (1 : Int) else 0) (fun _ _ => rfl) (fun x hx => ?_) ?_
  · rw [rng_nat] at hx
    obtain ⟨i, hi, rfl⟩ := List.mem_map.mp hx
    have hi := List.mem_range.mp hi
    have hi' : i < p.length := by omega
    obtain ⟨b0, b1⟩ := hb _ (List.getElem_mem hi')
    have ht : (p[i]).toNat < theirs.length := by omega
    rw [show atI mine (i : Int) = some mine[i] from atI_nat (List.getElem?_eq_getElem hi), show atI p (i : Int) = some p[i] from atI_nat (List.getElem?_eq_getElem hi')]
    have e3 : atI theirs p[i] = some (theirs[(p[i]).toNat]) := by
      have z := atI_nat (List.getElem?_eq_getElem ht)
      rwa [show (((p[i]).toNat : Nat) : Int) = p[i] by omega] at z
    rw [Int.toNat_natCast, getD_at hi', getD_at hi, getD_at ht]
    show (R.bind (R.bind (R.ok mine[i]) fun t3 => R.bind (R.bind (R.ok p[i]) fun t2 => (R.of (atI theirs t2))) fun t4 => (R.ok (decide (t4 ≤ t3)))) fun t5 => (R.ok (if t5 then (1 : Int) else 0))) = _
    rw [R.bind_ok, R.bind_ok, e3]
    rfl
  · rw [filter_yes, rng_nat, List.map_map]
    refine Ok.ok ?_
    have e := sum_ite (fun m : Nat => decide (theirs.getD (p.getD m 0).toNat 0 ≤ mine.getD m 0)) (List.range mine.length)
    exact e
end
end Cm

set_option Elab.async false
set_option linter.all false
set_option maxRecDepth 100000
set_option maxHeartbeats 4000000
/-! ### games drawn; errors that are small -/
namespace Cm
open PySem PySem.Spec L2 Pv Rot
open Enc (enc)
open Encs (encs)
abbrev Sm (i : Int) : Prop := -(2 ^ 60) < i ∧ i < 2 ^ 60
end Cm

set_option Elab.async false
set_option linter.all false
set_option maxRecDepth 100000
set_option maxHeartbeats 4000000
/-! ### every pairing lies within the span; pairings drawn and numbered -/
namespace Cm
open PySem PySem.Spec L2 Pv Rot
open Enc (enc)
open Encs (encs)
def m__law_unrank_b1 (x5 : Int) (s6 : Int × (List Int) × (List Int)) : R (Int × (List Int) × (List Int)) :=
  (R.bind (R.of (modO s6.1 (s6.2.2.length : Int))) fun v_x_7 => (R.bind (R.of (divO s6.1 (s6.2.2.length : Int))) fun v_number_8 => (R.bind (R.of (atI s6.2.2 v_x_7)) fun a11 => R.bind (R.of (appL s6.2.1 a11)) fun v_out_9 => (R.bind (R.of (catL (cutL s6.2.2 none (some v_x_7)) (cutL s6.2.2 (some (v_x_7 + (1 : Int))) none))) fun v_free_10 => (R.ok (v_number_8, v_out_9, v_free_10))))))
def m__law_unrank (v_number : Int) (v_count : Int) : R (List Int) :=
  (R.bind (R.bind (R.of (rngO 0 v_count)) fun l2 => R.ok (l2.map fun x1 : Int => x1)) fun v_free_3 => (R.lt ([] : (List Int)) fun v_out_4 => (R.bind (R.of (rngO 0 v_count)) fun l12 => R.bind (foldR m__law_unrank_b1 l12 (v_number, v_out_4, v_free_3)) fun s6 => (R.ok s6.2.1))))
def m__law_factorial_b1 (x2 : Int) (s3 : Int) : R (Int) :=
  (R.bind (R.of (mulO s3 (x2 + (1 : Int)))) fun v_out_4 => (R.ok (v_out_4)))
def m__law_factorial (v_count : Int) : R Int :=
  (R.lt (1 : Int) fun v_out_1 => (R.bind (R.of (rngO 0 v_count)) fun l5 => R.bind (foldR m__law_factorial_b1 l5 (v_out_1)) fun s3 => (R.ok s3)))
section
variable {mine theirs : List Int}
end
/-! #### numbered -/
theorem perm_erase {α : Type} {xs : List α} {i : Nat} (h : i < xs.length) : (xs[i] :: xs.eraseIdx i).Perm xs := by
  have e : xs.take i ++ xs[i] :: xs.drop (i + 1) = xs := by rw [List.getElem_cons_drop, List.take_append_drop]
  rw [List.eraseIdx_eq_take_drop_succ]
  have := (List.perm_middle (a := xs[i]) (l₁ := xs.take i) (l₂ := xs.drop (i + 1))).symm
  rwa [e] at this
def unr : Nat → List Int → Nat → List Int
  | 0, _, _ => []
  | n + 1, free, k => free.getD (k % free.length) 0 :: unr n (free.eraseIdx (k % free.length)) (k / free.length)
theorem unr_perm : ∀ (n : Nat) (free : List Int) (k : Nat), free.length = n → (unr n free k).Perm free
  | 0, free, k, h => by
    have : free = [] := List.length_eq_zero_iff.mp h
    subst this
    exact .refl _
  | n + 1, free, k, h => by
    have hk : k % free.length < free.length := Nat.mod_lt _ (by omega)
    unfold unr
    rw [getD_at hk]
    have ih := unr_perm n (free.eraseIdx (k % free.length)) (k / free.length) (by rw [List.length_eraseIdx_of_lt hk]; omega)
    exact (ih.cons _).trans (perm_erase hk)
def fact : Nat → Nat
  | 0 => 1
  | n + 1 => fact n * (n + 1)
theorem fact_is {n : Nat} (h : n ≤ 12) : m__law_factorial (n : Int) = .ok (fact n : Int) := by
  unfold m__law_factorial
  refine Ok.get (Ok.lt (Ok.bind (Ok.range ⟨by omega, by omega, by omega, by omega, by omega⟩ (Ok.bind (Ok.foldRng (fun i s => s = (fact i : Int)) rfl (fun i hi s hs => ?_) fun s hs => Ok.ok (by rw [hs, Int.toNat_natCast]))))))
  subst hs
  unfold m__law_factorial_b1
  refine Ok.bind (Ok.mul (.inr ⟨by omega, by omega⟩) (Ok.ok ?_))
  show (fact i : Int) * ((i : Int) + 1) = ((fact i * (i + 1) : Nat) : Int)
  rw [Int.natCast_mul]
  rfl
theorem cut_erase {free : List Int} {x : Nat} (hx : x < free.length) (hl : free.length ≤ 1000) : catL (cutL free none (some (x : Int))) (cutL free (some ((x : Int) + 1)) none) = some (free.eraseIdx x) := by
  rw [cutL_to (by omega), cutL_from (by omega), List.eraseIdx_eq_take_drop_succ, Int.toNat_natCast, show ((x : Int) + 1).toNat = x + 1 by omega]
  refine if_pos ?_
  rw [List.length_take, List.length_drop]
  have := limv
  omega
theorem rngN {n : Nat} : (Pv.rng 0 (n : Int)).map (fun x : Int => x) = (List.range n).map fun i : Nat => (i : Int) := by
  rw [rng_nat, List.map_id']
theorem unrank_is {n k : Nat} (h : n ≤ 100) : m__law_unrank (k : Int) (n : Int) = .ok (unr n ((List.range n).map fun i : Nat => (i : Int)) k) := by
  unfold m__law_unrank
  have fl : ((List.range n).map fun i : Nat => (i : Int)).length = n := by rw [List.length_map, List.length_range]
  refine Ok.get (Ok.bind (Ok.bind (Ok.range ⟨by omega, by omega, by omega, by omega, by omega⟩ (Ok.ok (Ok.lt (Ok.bind (Ok.range ⟨by omega, by omega, by omega, by omega, by omega⟩ (Ok.bind ?_))))))))
  rw [rngN]
  refine Ok.foldRng (fun i s => ∃ k' : Nat, s.1 = (k' : Int) ∧ s.2.2.length = n - i ∧ s.2.1.length = i ∧ s.2.1 ++ unr (n - i) s.2.2 k' = unr n ((List.range n).map fun i : Nat => (i : Int)) k) ⟨k, rfl, by rw [fl, Nat.sub_zero], rfl, by rw [Nat.sub_zero]; rfl⟩ (fun i hi s hs => ?_) fun s hs => ?_
  · obtain ⟨k', h1, h2, h3, h4⟩ := hs
    obtain ⟨s1, s2, s3⟩ := s
    dsimp only at h1 h2 h3 h4
    have hi' : i < n := by omega
    have hm : k' % s3.length < s3.length := Nat.mod_lt _ (by omega)
    have e1 : ((k' : Int) % (s3.length : Int)) = ((k' % s3.length : Nat) : Int) := rfl
    have e2 : ((k' : Int) / (s3.length : Int)) = ((k' / s3.length : Nat) : Int) := rfl
    unfold m__law_unrank_b1
    rw [h1]
    refine Ok.bind (Ok.mod (by show (0 : Int) < s3.length; omega) ?_)
    refine Ok.bind (Ok.div (by show (0 : Int) < s3.length; omega) ?_ ?_)
    · show (s3.length : Int) < 2 ^ 4000
      exact Int.lt_of_le_of_lt (show (s3.length : Int) ≤ 100 by omega) (by decide +kernel)
    dsimp only
    rw [e1, e2]
    refine Ok.bind (Ok.of (atI_nat (List.getElem?_eq_getElem hm)) (Ok.bind (Ok.app (by have := limv; omega) ?_)))
    rw [cut_erase hm (by omega)]
    refine Ok.bind (Ok.ok (Ok.ok ⟨k' / s3.length, rfl, ?_, ?_, ?_⟩))
    · show (s3.eraseIdx _).length = _
      rw [List.length_eraseIdx_of_lt hm, h2]
      omega
    · show (s2 ++ [_]).length = _
      rw [List.length_append, List.length_singleton, h3]
    · show (s2 ++ [s3[k' % s3.length]]) ++ unr (n - (i + 1)) _ _ = _
      rw [← h4, show n - i = (n - (i + 1)) + 1 by omega]
      show _ = s2 ++ (s3.getD (k' % s3.length) 0 :: unr (n - (i + 1)) (s3.eraseIdx (k' % s3.length)) (k' / s3.length))
      rw [getD_at hm, List.append_assoc]
      rfl
  · obtain ⟨k', h1, h2, h3, h4⟩ := hs
    refine Ok.ok ?_
    rw [Int.toNat_natCast, Nat.sub_self] at h4
    rw [← h4]
    show s.2.1 = s.2.1 ++ []
    rw [List.append_nil]
theorem unr_isP {n k : Nat} : IsP n (unr n ((List.range n).map fun i : Nat => (i : Int)) k) := isP_of (unr_perm n _ k (by rw [List.length_map, List.length_range]))
/-! #### drawn -/
theorem pairing_ok (c : Int) {n : Int} (h : 0 ≤ n ∧ n ≤ 100) : Ok (m__law_pairing c n) (IsP n.toNat) := by
  unfold m__law_pairing
  refine Ok.bind (Ok.bind (Ok.range ⟨by omega, by omega, by omega, by omega, by omega⟩ (Ok.ok (Ok.lt (Ok.bind (Ok.bind (Ok.bind (Ok.range ⟨by omega, by omega, by omega, by omega, by omega⟩ (Ok.ok ?_)))))))))
  have rl : ((Pv.rng 0 n).map fun x5 : Int => n - x5).length = n.toNat := by rw [List.length_map, rng_len]; omega
  refine (draws_ok c _ (by omega) (fun z hz => ?_)).imp fun out ho => ?_
  · obtain ⟨x, hx, rfl⟩ := List.mem_map.mp hz
    unfold Pv.rng at hx
    obtain ⟨j, hj, rfl⟩ := List.mem_map.mp hx
    have := List.mem_range.mp hj
    omega
  have en : ((n.toNat : Nat) : Int) = n := by omega
  have e0 : (Pv.rng 0 n).map (fun x : Int => x) = (List.range n.toNat).map fun i : Nat => (i : Int) := by
    have := rngN (n := n.toNat)
    rwa [en] at this
  rw [e0]
  have ol : out.length = n.toNat := by rw [ho.1, rl]
  have fl : ((List.range n.toNat).map fun i : Nat => (i : Int)).length = n.toNat := by rw [List.length_map, List.length_range]
  refine Ok.bind (Ok.fold (fun i s => s.1.length = i ∧ s.2.length = n.toNat - i ∧ (s.1 ++ s.2).Perm ((List.range n.toNat).map fun i : Nat => (i : Int))) ⟨rfl, by rw [fl, Nat.sub_zero], .refl _⟩ (fun i hi s hs => ?_) fun s hs => Ok.ok ?_)
  · obtain ⟨s1, s2⟩ := s
    obtain ⟨h1, h2, h3⟩ := hs
    dsimp only at h1 h2 h3
    have hi' : i < n.toNat := by omega
    have ez : ((Pv.rng 0 n).map fun x5 : Int => n - x5)[i]? = some (n - (i : Int)) := by
      rw [List.getElem?_map]
      unfold Pv.rng
      rw [List.getElem?_map, List.getElem?_range (by omega)]
      show some (n - (0 + (i : Int))) = _
      congr 1
      omega
    obtain ⟨d0, d1⟩ := ho.2 i out[i] (n - (i : Int)) (List.getElem?_eq_getElem hi) ez
    have hx : (out[i]).toNat < s2.length := by omega
    have ex : (((out[i]).toNat : Nat) : Int) = out[i] := by omega
    unfold m__law_pairing_b1
    rw [← ex]
    refine Ok.bind (Ok.of (atI_nat (List.getElem?_eq_getElem hx)) (Ok.bind (Ok.app (by have := limv; show s1.length < LIM; omega) ?_)))
    dsimp only
    rw [cut_erase hx (by omega)]
    refine Ok.bind (Ok.ok (Ok.ok ⟨?_, ?_, ?_⟩))
    · show (s1 ++ [_]).length = _
      rw [List.length_append, List.length_singleton, h1]
    · show (s2.eraseIdx _).length = _
      rw [List.length_eraseIdx_of_lt hx, h2]
      omega
    · refine List.Perm.trans ?_ h3
      show ((s1 ++ [s2[(out[i]).toNat]]) ++ s2.eraseIdx _).Perm _
      rw [List.append_assoc]
      exact List.Perm.append_left s1 (perm_erase hx)
  · obtain ⟨h1, h2, h3⟩ := hs
    rw [ol] at h2
    have e : s.2 = [] := List.length_eq_zero_iff.mp (by omega)
    rw [e, List.append_nil] at h3
    exact isP_of h3
end Cm

set_option Elab.async false
set_option linter.all false
set_option maxRecDepth 100000
set_option maxHeartbeats 4000000
/-! ### levels, rows, a pair taken out -/
namespace Cm
open PySem PySem.Spec L2 Pv Rot
open Enc (enc)
open Encs (encs)
abbrev Srt (S : List Card) : Prop := S.Pairwise fun a b => ltT a b = true
/-- the height directly below a card -/
def bel (S : List Card) (c : Card) : Int := hs (S.filter fun x => ltT x c)
def lvl (S : List Card) (c : Card) : Int := bel S c - (if isM c then 1 else 0)
theorem st_M {c : Card} (h : isM c = true) : st c = -1 := by
  unfold st
  rw [if_pos (isM_iff.mp h)]
theorem st_T {c : Card} (h : isM c = false) : st c = 1 := by
  unfold st
  rw [if_neg fun z => by rw [isM_iff.mpr z] at h; cases h]
theorem hs_cons (c : Card) (L : List Card) : hs (c :: L) = st c + hs L := by
  unfold hs
  rw [List.map_cons, List.sum_cons]
theorem hs_nil : hs [] = 0 := rfl
theorem bel_at {S : List Card} (h : Srt S) {p : Nat} {c : Card} (hp : S[p]? = some c) : bel S c = hs (S.take p) := by
  unfold bel
  rw [below_take h hp]
/-! #### as many at each level -/
def lvM (h : Int) : List Card → List Int
  | [] => []
  | c :: S => if isM c then (h - 1) :: lvM (h - 1) S else lvM (h + 1) S
def lvT (h : Int) : List Card → List Int
  | [] => []
  | c :: S => if isM c then lvT (h - 1) S else h :: lvT (h + 1) S
theorem lv_count (v : Int) : ∀ (S : List Card) (h : Int), ((lvT h S).count v : Int) - ((lvM h S).count v : Int) = (if v < h + hs S then 1 else 0) - (if v < h then 1 else 0)
  | [], h => by
    rw [hs_nil, Int.add_zero]
    show ((0 : Nat) : Int) - ((0 : Nat) : Int) = _
    omega
  | c :: S, h => by
    unfold lvM lvT
    rw [hs_cons]
    cases e : isM c with
    | true =>
      rw [if_pos rfl, if_pos rfl, st_M e]
      have ih := lv_count v S (h - 1)
      rw [List.count_cons]
      rw [show h + (-1 + hs S) = h - 1 + hs S by omega]
      by_cases z : h - 1 = v
      · rw [if_pos (by rw [beq_iff_eq]; exact z)]
        split at ih <;> split at ih <;> split <;> split <;> omega
      · rw [if_neg (by rw [beq_iff_eq]; exact z)]
        split at ih <;> split at ih <;> split <;> split <;> omega
    | false =>
      rw [if_neg (by decide), if_neg (by decide), st_T e]
      have ih := lv_count v S (h + 1)
      rw [List.count_cons]
      rw [show h + (1 + hs S) = h + 1 + hs S by omega]
      by_cases z : h = v
      · rw [if_pos (by rw [beq_iff_eq]; exact z)]
        split at ih <;> split at ih <;> split <;> split <;> omega
      · rw [if_neg (by rw [beq_iff_eq]; exact z)]
        split at ih <;> split at ih <;> split <;> split <;> omega
theorem lv_perm {S : List Card} (h : hs S = 0) : (lvT 0 S).Perm (lvM 0 S) := by
  refine List.perm_iff_count.mpr fun v => ?_
  have := lv_count v S 0
  rw [h] at this
  omega
theorem lvM_is {S : List Card} (h : Srt S) : ∀ (suf pre : List Card), S = pre ++ suf → (suf.filter isM).map (lvl S) = lvM (hs pre) suf
  | [], _, _ => rfl
  | c :: suf, pre, e => by
    have hp : S[pre.length]? = some c := by rw [e, List.getElem?_append_right (Nat.le_refl _), Nat.sub_self]; rfl
    have hb := bel_at h hp
    have et : S.take pre.length = pre := by rw [e, List.take_left]
    rw [et] at hb
    have ih := lvM_is h suf (pre ++ [c]) (by rw [e, List.append_assoc]; rfl)
    rw [hs_app, hs_cons, hs_nil] at ih
    unfold lvM
    cases z : isM c with
    | true =>
      rw [st_M z] at ih
      rw [List.filter_cons_of_pos z, if_pos rfl, List.map_cons, ih]
      have e1 : lvl S c = hs pre - 1 := by unfold lvl; rw [hb, z]; rfl
      rw [e1, show hs pre + (-1 + 0) = hs pre - 1 by omega]
    | false =>
      rw [st_T z] at ih
      rw [List.filter_cons_of_neg (by rw [z]; decide), if_neg (by decide), ih, show hs pre + (1 + 0) = hs pre + 1 by omega]
theorem lvT_is {S : List Card} (h : Srt S) : ∀ (suf pre : List Card), S = pre ++ suf → (suf.filter isT).map (lvl S) = lvT (hs pre) suf
  | [], _, _ => rfl
  | c :: suf, pre, e => by
    have hp : S[pre.length]? = some c := by rw [e, List.getElem?_append_right (Nat.le_refl _), Nat.sub_self]; rfl
    have hb := bel_at h hp
    have et : S.take pre.length = pre := by rw [e, List.take_left]
    rw [et] at hb
    have ih := lvT_is h suf (pre ++ [c]) (by rw [e, List.append_assoc]; rfl)
    rw [hs_app, hs_cons, hs_nil] at ih
    unfold lvT
    cases z : isM c with
    | true =>
      rw [st_M z] at ih
      rw [List.filter_cons_of_neg (by unfold isT; rw [z]; decide), if_pos rfl, ih, show hs pre + (-1 + 0) = hs pre - 1 by omega]
    | false =>
      rw [st_T z] at ih
      rw [List.filter_cons_of_pos (by unfold isT; rw [z]; rfl), if_neg (by decide), List.map_cons, ih]
      have e1 : lvl S c = hs pre := by unfold lvl; rw [hb, z]; show hs pre - 0 = _; omega
      rw [e1, show hs pre + (1 + 0) = hs pre + 1 by omega]
def rowM (S : List Card) : List Int := (S.filter isM).map (lvl S)
def rowT (S : List Card) : List Int := (S.filter isT).map (lvl S)
theorem row_perm {S : List Card} (h : Srt S) (h0 : hs S = 0) : (rowM S).Perm (rowT S) := by
  unfold rowM rowT
  rw [lvM_is h S [] rfl, lvT_is h S [] rfl]
  exact (lv_perm h0).symm
theorem sort_perm {xs ys : List Int} (h : xs.Perm ys) : sortI xs = sortI ys := sorted_one (((sortI_perm xs).trans h).trans (sortI_perm ys).symm) (sortI_le xs) (sortI_le ys)
theorem sort_add (xs : List Int) (k : Int) : (sortI xs).map (· + k) = sortI (xs.map (· + k)) :=
  sorted_one (((sortI_perm xs).map _).trans (sortI_perm _).symm) (List.pairwise_map.mpr ((sortI_le xs).imp fun {a b} h => by omega)) (sortI_le _)
def row (mine theirs : List Int) : List Int := sortI (rowM (srt mine theirs))
theorem row_T {mine theirs : List Int} (h : mine.length = theirs.length) : row mine theirs = sortI (rowT (srt mine theirs)) := by
  refine sort_perm (row_perm (srt_lt mine theirs) ?_)
  rw [hs_perm (srt_perm mine theirs), cards_hs h]
theorem row_len {mine theirs : List Int} : (row mine theirs).length = mine.length := by
  unfold row rowM
  rw [(sortI_perm _).length_eq, List.length_map]
  exact Ms_len
/-! #### two cards taken out -/
section
variable {S : List Card} {cm ct : Card}
instance : DecidableEq Card := fun a b => by
  rcases a with ⟨a1, a2, a3, ⟨⟩⟩
  rcases b with ⟨b1, b2, b3, ⟨⟩⟩
  by_cases h : a1 = b1 ∧ a2 = b2 ∧ a3 = b3
  · exact isTrue (by rcases h with ⟨rfl, rfl, rfl⟩; rfl)
  · exact isFalse fun e => h (by cases e; exact ⟨rfl, rfl, rfl⟩)
def kp (cm ct : Card) (c : Card) : Bool := decide (c ≠ cm) && decide (c ≠ ct)
theorem kept_perm (hn : S.Nodup) (hm : cm ∈ S) (ht : ct ∈ S) (ne : cm ≠ ct) : S.Perm (cm :: ct :: S.filter (kp cm ct)) := by
  have e1 := List.perm_cons_erase hm
  have hm2 : ct ∈ S.erase cm := (List.mem_erase_of_ne ne.symm).mpr ht
  have e2 := List.perm_cons_erase hm2
  refine e1.trans ((e2.cons cm).trans ?_)
  have n1 : (S.erase cm).erase ct = S.filter (kp cm ct) := by
    rw [hn.erase_eq_filter, List.Nodup.erase_eq_filter (show List.Nodup _ from List.Pairwise.filter _ hn), List.filter_filter]
    refine List.filter_congr fun c _ => ?_
    unfold kp
    by_cases z1 : c = cm <;> by_cases z2 : c = ct <;> simp [z1, z2]
  rw [n1]
theorem bel_kept (hn : S.Nodup) (hm : cm ∈ S) (ht : ct ∈ S) (im : isM cm = true) (it : isM ct = false) (c : Card) : bel (S.filter (kp cm ct)) c = bel S c + (if ltT cm c then 1 else 0) - (if ltT ct c then 1 else 0) := by
  have ne : cm ≠ ct := fun e => by rw [e, it] at im; cases im
  have hp := (kept_perm hn hm ht ne).filter fun x => ltT x c
  have h1 : bel S c = hs ((cm :: ct :: S.filter (kp cm ct)).filter fun x => ltT x c) := hs_perm hp
  rw [h1]
  have key : ∀ L : List Card, hs ((cm :: ct :: L).filter fun x => ltT x c) = (if ltT cm c then -1 else 0) + (if ltT ct c then 1 else 0) + hs (L.filter fun x => ltT x c) := fun L => by
    rw [List.filter_cons, List.filter_cons]
    cases ltT cm c <;> cases ltT ct c <;> simp only [if_true, if_false, Bool.false_eq_true, hs_cons, st_M im, st_T it] <;> omega
  rw [key]
  unfold bel
  generalize hs ((S.filter (kp cm ct)).filter fun x => ltT x c) = z
  split <;> split <;> omega
/-- 1 on the way up from cm to ct, without the two -/
def arc1 (cm ct c : Card) : Int := (if ltT cm c then 1 else 0) - (if ltT ct c then 1 else 0) + (if ltT ct cm then 1 else 0)
theorem lvl_kept (hn : S.Nodup) (hm : cm ∈ S) (ht : ct ∈ S) (im : isM cm = true) (it : isM ct = false) (c : Card) : lvl (S.filter (kp cm ct)) c + (if ltT ct cm then 1 else 0) = lvl S c + arc1 cm ct c := by
  unfold lvl arc1
  rw [bel_kept hn hm ht im it]
  omega
end
/-! #### the hands without them -/
def cmOf (mine : List Int) (m : Nat) : Card := ⟨(mine.getD m 0, (1 : Int), (m : Int), ())⟩
def ctOf (theirs : List Int) (t : Nat) : Card := ⟨(theirs.getD t 0, (0 : Int), (t : Int), ())⟩
def dn (k : Nat) (i : Int) : Int := if (k : Int) < i then i - 1 else i
def phi (m t : Nat) (c : Card) : Card := ⟨(c.t.1, c.t.2.1, (if isM c then dn m c.t.2.2.1 else dn t c.t.2.2.1), ())⟩
theorem enum_out (xs : List Int) (k : Nat) (a : Int) (p : Card → Bool) (f : Card → Card) (hk : k < xs.length)
    (hp : ∀ i, i < xs.length → p (Tp.mk (xs.getD i 0, a, (i : Int), ())) = decide (i ≠ k)) (hf : ∀ v i, f (Tp.mk (v, a, i, ())) = Tp.mk (v, a, dn k i, ())) :
    (((List.range xs.length).map fun i : Nat => (Tp.mk (xs.getD i 0, a, (i : Int), ()) : Card)).filter p).map f = (List.range (xs.eraseIdx k).length).map fun i : Nat => (Tp.mk ((xs.eraseIdx k).getD i 0, a, (i : Int), ()) : Card) := by
  have e : List.range xs.length = List.range k ++ (k :: (List.range (xs.length - k - 1)).map (k + 1 + ·)) := by
    have h1 := List.range_add (n := k) (m := xs.length - k)
    rw [show k + (xs.length - k) = xs.length by omega] at h1
    rw [h1]
    congr 1
    rw [show xs.length - k = (xs.length - k - 1) + 1 by omega, List.range_succ_eq_map, List.map_cons, List.map_map]
    congr 1
    refine List.map_congr_left fun i _ => ?_
    show k + (i + 1) = k + 1 + i
    omega
  have el : (xs.eraseIdx k).length = k + (xs.length - k - 1) := by rw [List.length_eraseIdx_of_lt hk]; omega
  rw [el, List.range_add, e, List.map_append, List.filter_append, List.map_append, List.map_append, List.map_cons, List.map_map, List.map_map]
  congr 1
  · rw [List.filter_eq_self.mpr fun c hc => ?_, List.map_map]
    · refine List.map_congr_left fun i hi => ?_
      have hi := List.mem_range.mp hi
      show f _ = _
      rw [hf]
      unfold dn
      rw [if_neg (by omega), List.getD_eq_getElem?_getD, List.getD_eq_getElem?_getD, List.getElem?_eraseIdx_of_lt hi]
    · obtain ⟨i, hi, rfl⟩ := List.mem_map.mp hc
      have hi := List.mem_range.mp hi
      rw [hp i (by omega)]
      exact decide_eq_true (by omega)
  · rw [List.filter_cons_of_neg (by rw [hp k hk]; simp), List.filter_eq_self.mpr fun c hc => ?_, List.map_map]
    · refine List.map_congr_left fun i hi => ?_
      have hi := List.mem_range.mp hi
      show f _ = _
      show f (Tp.mk (xs.getD (k + 1 + i) 0, a, ((k + 1 + i : Nat) : Int), ())) = (Tp.mk ((xs.eraseIdx k).getD (k + i) 0, a, ((k + i : Nat) : Int), ()) : Card)
      rw [hf]
      unfold dn
      rw [if_pos (by omega), List.getD_eq_getElem?_getD, List.getD_eq_getElem?_getD, List.getElem?_eraseIdx_of_ge (by omega), show k + 1 + i = k + i + 1 by omega]
      congr 4
      omega
    · obtain ⟨i, hi, rfl⟩ := List.mem_map.mp hc
      have hi := List.mem_range.mp hi
      show p (Tp.mk (xs.getD (k + 1 + i) 0, a, ((k + 1 + i : Nat) : Int), ())) = true
      rw [hp _ (by omega)]
      exact decide_eq_true (by omega)
section
variable {mine theirs : List Int} {m t : Nat}
theorem cards_out (hm : m < mine.length) (ht : t < theirs.length) : ((cards mine theirs).filter (kp (cmOf mine m) (ctOf theirs t))).map (phi m t) = cards (mine.eraseIdx m) (theirs.eraseIdx t) := by
  rw [cards_is, cards_is, List.filter_append, List.map_append]
  congr 1
  · refine enum_out theirs t 0 _ _ ht (fun i hi => ?_) fun v i => rfl
    unfold kp
    have e1 : (Tp.mk (theirs.getD i 0, (0 : Int), (i : Int), ()) : Card) ≠ cmOf mine m := fun z => by
      have z := congrArg (fun c : Card => c.t.2.1) z
      have z : (0 : Int) = 1 := z
      omega
    rw [decide_eq_true e1, Bool.true_and]
    by_cases z : i = t
    · subst z
      rw [show decide ((Tp.mk (theirs.getD i 0, (0 : Int), (i : Int), ()) : Card) ≠ ctOf theirs i) = false from decide_eq_false fun z => z rfl, decide_eq_false fun z => z rfl]
    · have nz : (Tp.mk (theirs.getD i 0, (0 : Int), (i : Int), ()) : Card) ≠ ctOf theirs t := fun e => by
        have e := congrArg (fun c : Card => c.t.2.2.1) e
        have e : (i : Int) = (t : Int) := e
        omega
      exact (decide_eq_true nz).trans (decide_eq_true z).symm
  · refine enum_out mine m 1 _ _ hm (fun i hi => ?_) fun v i => rfl
    unfold kp
    have e1 : (Tp.mk (mine.getD i 0, (1 : Int), (i : Int), ()) : Card) ≠ ctOf theirs t := fun z => by
      have z := congrArg (fun c : Card => c.t.2.1) z
      have z : (1 : Int) = 0 := z
      omega
    rw [decide_eq_true e1, Bool.and_true]
    by_cases z : i = m
    · subst z
      rw [show decide ((Tp.mk (mine.getD i 0, (1 : Int), (i : Int), ()) : Card) ≠ cmOf mine i) = false from decide_eq_false fun z => z rfl, decide_eq_false fun z => z rfl]
    · have nz : (Tp.mk (mine.getD i 0, (1 : Int), (i : Int), ()) : Card) ≠ cmOf mine m := fun e => by
        have e := congrArg (fun c : Card => c.t.2.2.1) e
        have e : (i : Int) = (m : Int) := e
        omega
      exact (decide_eq_true nz).trans (decide_eq_true z).symm
theorem cm_mem (hm : m < mine.length) : cmOf mine m ∈ srt mine theirs := (srt_perm mine theirs).mem_iff.mpr (by
  rw [cards_is]
  exact List.mem_append_right _ (List.mem_map.mpr ⟨m, List.mem_range.mpr hm, rfl⟩))
theorem ct_mem (ht : t < theirs.length) : ctOf theirs t ∈ srt mine theirs := (srt_perm mine theirs).mem_iff.mpr (by
  rw [cards_is]
  exact List.mem_append_left _ (List.mem_map.mpr ⟨t, List.mem_range.mpr ht, rfl⟩))
theorem srt_nodup : (srt mine theirs).Nodup := (srt_perm mine theirs).nodup_iff.mpr (cards_nodup mine theirs)
theorem mem_idx {c : Card} (h : c ∈ srt mine theirs) : (isM c = true ∧ ∃ i, i < mine.length ∧ c = cmOf mine i) ∨ (isM c = false ∧ ∃ i, i < theirs.length ∧ c = ctOf theirs i) := by
  have h := (srt_perm mine theirs).mem_iff.mp h
  rw [cards_is] at h
  rcases List.mem_append.mp h with h | h
  · obtain ⟨i, hi, rfl⟩ := List.mem_map.mp h
    exact .inr ⟨rfl, i, List.mem_range.mp hi, rfl⟩
  · obtain ⟨i, hi, rfl⟩ := List.mem_map.mp h
    exact .inl ⟨rfl, i, List.mem_range.mp hi, rfl⟩
/-- the order of the cards that are left is what it was -/
theorem phi_lt {a b : Card} (ha : a ∈ srt mine theirs) (hb : b ∈ srt mine theirs) (ka : kp (cmOf mine m) (ctOf theirs t) a = true) (kb : kp (cmOf mine m) (ctOf theirs t) b = true) : ltT (phi m t a) (phi m t b) = ltT a b := by
  unfold kp at ka kb
  rw [Bool.and_eq_true, decide_eq_true_iff, decide_eq_true_iff] at ka kb
  rw [ltT_card, ltT_card]
  show (if a.t.1 = b.t.1 then (if a.t.2.1 = b.t.2.1 then decide ((if isM a then dn m a.t.2.2.1 else dn t a.t.2.2.1) < (if isM b then dn m b.t.2.2.1 else dn t b.t.2.2.1)) else decide (a.t.2.1 < b.t.2.1)) else decide (a.t.1 < b.t.1)) = _
  have key : ∀ (k : Nat) (x y : Int), x ≠ k → y ≠ k → decide (dn k x < dn k y) = decide (x < y) := fun k x y hx hy => by
    unfold dn
    rw [Bool.eq_iff_iff, decide_eq_true_iff, decide_eq_true_iff]
    split <;> split <;> omega
  rcases mem_idx ha with ⟨ia, i, hi, rfl⟩ | ⟨ia, i, hi, rfl⟩ <;> rcases mem_idx hb with ⟨ib, j, hj, rfl⟩ | ⟨ib, j, hj, rfl⟩
  · have n1 : (i : Int) ≠ m := fun z => ka.1 (by rw [show i = m by omega])
    have n2 : (j : Int) ≠ m := fun z => kb.1 (by rw [show j = m by omega])
    have e := key m i j n1 n2
    show (if mine.getD i 0 = mine.getD j 0 then (if (1 : Int) = 1 then decide (dn m (i : Int) < dn m (j : Int)) else decide ((1 : Int) < 1)) else decide (mine.getD i 0 < mine.getD j 0)) = (if mine.getD i 0 = mine.getD j 0 then (if (1 : Int) = 1 then decide ((i : Int) < (j : Int)) else decide ((1 : Int) < 1)) else decide (mine.getD i 0 < mine.getD j 0))
    rw [e]
  · rfl
  · rfl
  · have n1 : (i : Int) ≠ t := fun z => ka.2 (by rw [show i = t by omega])
    have n2 : (j : Int) ≠ t := fun z => kb.2 (by rw [show j = t by omega])
    have e := key t i j n1 n2
    show (if theirs.getD i 0 = theirs.getD j 0 then (if (0 : Int) = 0 then decide (dn t (i : Int) < dn t (j : Int)) else decide ((0 : Int) < 0)) else decide (theirs.getD i 0 < theirs.getD j 0)) = (if theirs.getD i 0 = theirs.getD j 0 then (if (0 : Int) = 0 then decide ((i : Int) < (j : Int)) else decide ((0 : Int) < 0)) else decide (theirs.getD i 0 < theirs.getD j 0))
    rw [e]
theorem le_of_lt {a b : Card} (h : ltT a b = true) : leT a b = true := by
  unfold leT
  have := lt_asym a b h
  unfold ltT at this
  rw [lex_eq] at this
  rw [this]
  rfl
theorem srt_out (hm : m < mine.length) (ht : t < theirs.length) : srt (mine.eraseIdx m) (theirs.eraseIdx t) = ((srt mine theirs).filter (kp (cmOf mine m) (ctOf theirs t))).map (phi m t) := by
  unfold srt
  refine sortT_one ?_ (sortT_le _) ?_
  · refine (sortT_perm _).trans ?_
    rw [← cards_out hm ht]
    exact (((srt_perm mine theirs).symm).filter _).map _
  · refine List.pairwise_map.mpr ?_
    have h1 : (sortT (cards mine theirs)).Pairwise fun a b => ltT a b = true := srt_lt mine theirs
    have h2 := h1.filter (kp (cmOf mine m) (ctOf theirs t))
    refine h2.imp_of_mem fun {a b} ha hb h => ?_
    obtain ⟨a1, a2⟩ := List.mem_filter.mp ha
    obtain ⟨b1, b2⟩ := List.mem_filter.mp hb
    refine le_of_lt ?_
    rw [phi_lt a1 b1 a2 b2]
    exact h
theorem phi_isM (c : Card) : isM (phi m t c) = isM c := rfl
theorem hs_phi (L : List Card) : hs (L.map (phi m t)) = hs L := by
  unfold hs
  rw [List.map_map]
  rfl
theorem lvl_out (hm : m < mine.length) (ht : t < theirs.length) {c : Card} (hc : c ∈ srt mine theirs) (kc : kp (cmOf mine m) (ctOf theirs t) c = true) :
    lvl (srt (mine.eraseIdx m) (theirs.eraseIdx t)) (phi m t c) = lvl ((srt mine theirs).filter (kp (cmOf mine m) (ctOf theirs t))) c := by
  unfold lvl bel
  rw [phi_isM, srt_out hm ht, List.filter_map, hs_phi]
  congr 2
  refine List.filter_congr fun x hx => ?_
  obtain ⟨x1, x2⟩ := List.mem_filter.mp hx
  exact phi_lt x1 hc x2 kc
/-- what is added where a pair is won -/
def wonI (mine theirs : List Int) (m t : Nat) : Int := if ltT (ctOf theirs t) (cmOf mine m) then 1 else 0
/-- the row behind a pair, counted in -/
def after (mine theirs : List Int) (m t : Nat) : List Int := (row (mine.eraseIdx m) (theirs.eraseIdx t)).map (· + wonI mine theirs m t)
def rdM (mine theirs : List Int) (m t : Nat) : List Int := (((srt mine theirs).filter fun c => isM c && decide (c ≠ cmOf mine m))).map fun c => lvl (srt mine theirs) c + arc1 (cmOf mine m) (ctOf theirs t) c
def rdT (mine theirs : List Int) (m t : Nat) : List Int := (((srt mine theirs).filter fun c => isT c && decide (c ≠ ctOf theirs t))).map fun c => lvl (srt mine theirs) c + arc1 (cmOf mine m) (ctOf theirs t) c
theorem read_M (hm : m < mine.length) (ht : t < theirs.length) : after mine theirs m t = sortI (rdM mine theirs m t) := by
  unfold after row rowM rdM
  rw [sort_add]
  congr 1
  have e1 : (srt (mine.eraseIdx m) (theirs.eraseIdx t)).filter isM = (((srt mine theirs).filter (kp (cmOf mine m) (ctOf theirs t))).filter isM).map (phi m t) := by
    rw [srt_out hm ht, List.filter_map]
    rfl
  rw [e1, List.map_map, List.map_map, List.filter_filter]
  have e2 : (srt mine theirs).filter (fun c => isM c && kp (cmOf mine m) (ctOf theirs t) c) = (srt mine theirs).filter fun c => isM c && decide (c ≠ cmOf mine m) := by
    refine List.filter_congr fun c hc => ?_
    unfold kp
    cases z : isM c with
    | false => rfl
    | true =>
      have : c ≠ ctOf theirs t := fun e => by rw [e] at z; cases z
      rw [decide_eq_true this, Bool.and_true]
  rw [e2]
  refine List.map_congr_left fun c hc => ?_
  rw [← e2] at hc
  obtain ⟨c1, c2⟩ := List.mem_filter.mp hc
  rw [Bool.and_eq_true] at c2
  show lvl (srt (mine.eraseIdx m) (theirs.eraseIdx t)) (phi m t c) + wonI mine theirs m t = _
  rw [lvl_out hm ht c1 c2.2]
  exact lvl_kept srt_nodup (cm_mem hm) (ct_mem ht) rfl rfl c
theorem read_T (h : mine.length = theirs.length) (hm : m < mine.length) (ht : t < theirs.length) : after mine theirs m t = sortI (rdT mine theirs m t) := by
  unfold after
  rw [row_T (by rw [List.length_eraseIdx_of_lt hm, List.length_eraseIdx_of_lt ht, h])]
  unfold rowT rdT
  rw [sort_add]
  congr 1
  have e1 : (srt (mine.eraseIdx m) (theirs.eraseIdx t)).filter isT = (((srt mine theirs).filter (kp (cmOf mine m) (ctOf theirs t))).filter isT).map (phi m t) := by
    rw [srt_out hm ht, List.filter_map]
    rfl
  rw [e1, List.map_map, List.map_map, List.filter_filter]
  have e2 : (srt mine theirs).filter (fun c => isT c && kp (cmOf mine m) (ctOf theirs t) c) = (srt mine theirs).filter fun c => isT c && decide (c ≠ ctOf theirs t) := by
    refine List.filter_congr fun c hc => ?_
    unfold kp
    cases z : isT c with
    | false => rfl
    | true =>
      have : c ≠ cmOf mine m := fun e => by rw [e] at z; cases z
      rw [decide_eq_true this, Bool.true_and]
  rw [e2]
  refine List.map_congr_left fun c hc => ?_
  rw [← e2] at hc
  obtain ⟨c1, c2⟩ := List.mem_filter.mp hc
  rw [Bool.and_eq_true] at c2
  show lvl (srt (mine.eraseIdx m) (theirs.eraseIdx t)) (phi m t c) + wonI mine theirs m t = _
  rw [lvl_out hm ht c1 c2.2]
  exact lvl_kept srt_nodup (cm_mem hm) (ct_mem ht) rfl rfl c
end
end Cm

set_option Elab.async false
set_option linter.all false
set_option maxRecDepth 100000
set_option maxHeartbeats 4000000
/-! ### what the program and the laws tell of levels; peaks behind a pair -/
namespace Cm
open PySem PySem.Spec L2 Pv Rot
open Enc (enc)
open Encs (encs)
def m_row_of (v_mine : (List Int)) (v_theirs : (List Int)) : R (List Int) :=
  (R.bind (m_side_levels v_mine v_theirs (PySem.Str.ofString "mine")) fun t1 => (R.ok (sortI t1)))
def m__law_row_b1 (x3 : (Tp (Int × Int × Int × Unit))) (s4 : (List Int) × Int) : R ((List Int) × Int) :=
  (R.bind (R.ifm (R.ok (decide (x3.t.2.1 = (0 : Int)))) (R.bind (R.ok s4.2) fun a9 => R.bind (R.of (appL s4.1 a9)) fun v_out_8 => (R.ok (v_out_8))) (R.ok (s4.1))) fun s7 => (R.bind (R.bind (R.of (mulO (2 : Int) x3.t.2.1)) fun t10 => (R.ok ((s4.2 + (1 : Int)) - t10))) fun v_height_11 => (R.ok (s7, v_height_11))))
def m__law_row (v_mine : (List Int)) (v_theirs : (List Int)) : R (List Int) :=
  (R.lt (0 : Int) fun v_height_1 => (R.lt ([] : (List Int)) fun v_out_2 => (R.bind (m__law_order v_mine v_theirs) fun l12 => R.bind (foldR m__law_row_b1 l12 (v_out_2, v_height_1)) fun s4 => (R.ok (sortI s4.1)))))
def m__law_walk_b1 (x2 : (Tp (Int × Int × Int × Unit))) (s3 : (List Int)) : R ((List Int)) :=
  (R.bind (R.bind (R.bind (R.of (atI s3 ((s3.length : Int) - (1 : Int)))) fun t4 => (R.ok (t4 + (1 : Int)))) fun t5 => R.bind (R.of (mulO (2 : Int) x2.t.2.1)) fun t6 => (R.ok (t5 - t6))) fun a8 => R.bind (R.of (appL s3 a8)) fun v_walk_7 => (R.ok (v_walk_7)))
def m__law_walk (v_order : (List (Tp (Int × Int × Int × Unit)))) : R (List Int) :=
  (R.lt ([(0 : Int)] : (List Int)) fun v_walk_1 => (R.bind (R.ok v_order) fun l9 => R.bind (foldR m__law_walk_b1 l9 (v_walk_1)) fun s3 => (R.ok s3)))
section
variable {mine theirs : List Int}
theorem enum_len {α : Type} (xs : List α) : (enumF xs).length = xs.length := by
  unfold enumF
  rw [List.length_mapIdx]
end
/-! #### places behind a pair -/
section
variable {mine theirs : List Int} {m t : Nat} {start stop : Nat}
/-- 1 on the way up from position start to position stop -/
def wayI (start stop p : Nat) : Int := (if start < p then 1 else 0) - (if stop < p then 1 else 0) + (if stop < start then 1 else 0)
end
end Cm

set_option Elab.async false
set_option linter.all false
set_option maxRecDepth 100000
set_option maxHeartbeats 4000000
/-! ### the two readings and the two ends behind a pair -/
namespace Cm
open PySem PySem.Spec L2 Pv Rot
open Enc (enc)
open Encs (encs)
def m__law_way_up (v_walk : (List Int)) (v_start : Int) (v_end : Int) : R (List Int) :=
  (R.ifm (R.ok (decide (v_start < v_end))) (R.ok (cutL v_walk (some (v_start + (1 : Int))) (some (v_end + (1 : Int))))) (R.of (catL (cutL v_walk (some (v_start + (1 : Int))) none) (cutL v_walk none (some (v_end + (1 : Int)))))))
def m__law_readings_b1 (v_order : (List (Tp (Int × Int × Int × Unit)))) (v_walk : (List Int)) (v_start : Int) (v_end : Int) (s3 : (List (Tp (Int × Int × Int × Unit)))) (x7 : Int) (s8 : (List Int) × (List Int)) : R ((List Int) × (List Int)) :=
  (R.bind (R.bind (R.bind (R.of (atI v_order x7)) fun t9 => (R.ok ((s3.map enc).any fun z => eqP z (enc t9)))) fun t10 => (R.ok (if t10 then (1 : Int) else 0))) fun v_risen_11 => (R.bind (R.ifm (R.bind (R.bind (R.bind (R.of (atI v_order x7)) fun t12 => (R.ok t12.t.2.1)) fun t13 => (R.ok (decide (t13 = (1 : Int))))) fun t14 => (R.ite t14 (R.ok (!decide (x7 = v_start))) (R.ok false))) (R.bind (R.bind (R.of (atI v_walk (x7 + (1 : Int)))) fun t19 => (R.ok (t19 + v_risen_11))) fun a21 => R.bind (R.of (appL s8.1 a21)) fun v_ours_20 => (R.ok (v_ours_20))) (R.ok (s8.1))) fun s18 => (R.bind (R.ifm (R.bind (R.bind (R.bind (R.of (atI v_order x7)) fun t22 => (R.ok t22.t.2.1)) fun t23 => (R.ok (decide (t23 = (0 : Int))))) fun t24 => (R.ite t24 (R.ok (!decide (x7 = v_end))) (R.ok false))) (R.bind (R.bind (R.of (atI v_walk x7)) fun t29 => (R.ok (t29 + v_risen_11))) fun a31 => R.bind (R.of (appL s8.2 a31)) fun v_foreign_30 => (R.ok (v_foreign_30))) (R.ok (s8.2))) fun s28 => (R.ok (s18, s28)))))
def m__law_readings (v_order : (List (Tp (Int × Int × Int × Unit)))) (v_walk : (List Int)) (v_start : Int) (v_end : Int) : R (List (List Int)) :=
  (R.bind (R.of (catL (cutL v_order (some (v_start + (1 : Int))) none) (cutL v_order none (some v_end)))) fun v_met_1 => (R.bind (R.ifm (R.ok (decide (v_start < v_end))) (R.lt (cutL v_order (some (v_start + (1 : Int))) (some v_end)) fun v_met_4 => (R.ok (v_met_4))) (R.ok (v_met_1))) fun s3 => (R.lt ([] : (List Int)) fun v_ours_5 => (R.lt ([] : (List Int)) fun v_foreign_6 => (R.bind (R.of (rngO 0 (v_order.length : Int))) fun l32 => R.bind (foldR (m__law_readings_b1 v_order v_walk v_start v_end s3) l32 (v_ours_5, v_foreign_6)) fun s8 => (R.ok ([(sortI s8.1), (sortI s8.2)] : (List (List Int)))))))))
theorem pos_inj {S : List Card} (hn : S.Nodup) {i j : Nat} {c : Card} (h1 : S[i]? = some c) (h2 : S[j]? = some c) : i = j :=
  (List.getElem?_inj (List.getElem?_eq_some_iff.mp h1).1 hn).mp (h1.trans h2.symm)
theorem lt_pos {S : List Card} (hs : Srt S) {i j : Nat} {a b : Card} (h1 : S[i]? = some a) (h2 : S[j]? = some b) : ltT a b = decide (i < j) := by
  obtain ⟨l1, e1⟩ := List.getElem?_eq_some_iff.mp h1
  obtain ⟨l2, e2⟩ := List.getElem?_eq_some_iff.mp h2
  rcases Nat.lt_trichotomy i j with z | z | z
  · have := List.pairwise_iff_getElem.mp hs i j l1 l2 z
    rw [e1, e2] at this
    rw [this, decide_eq_true z]
  · subst z
    rw [← e1, ← e2, lt_irr, decide_eq_false (by omega)]
  · have := List.pairwise_iff_getElem.mp hs j i l2 l1 z
    rw [e1, e2] at this
    rw [lt_asym _ _ this, decide_eq_false (by omega)]
section
variable {mine theirs : List Int} {m t start stop : Nat}
theorem won_pos (h1 : (srt mine theirs)[start]? = some (cmOf mine m)) (h2 : (srt mine theirs)[stop]? = some (ctOf theirs t)) : wonI mine theirs m t = if stop < start then 1 else 0 := by
  unfold wonI
  rw [lt_pos (srt_lt mine theirs) h2 h1]
  by_cases z : stop < start
  · rw [if_pos z, if_pos (decide_eq_true z)]
  · rw [if_neg z, if_neg (by rw [decide_eq_false z]; decide)]
theorem ne_pos (h1 : (srt mine theirs)[start]? = some (cmOf mine m)) (h2 : (srt mine theirs)[stop]? = some (ctOf theirs t)) : start ≠ stop := fun e => by
  subst e
  have := Option.some.inj (h1.symm.trans h2)
  have := congrArg (fun c : Card => c.t.2.1) this
  have : (1 : Int) = 0 := this
  omega
/-! #### what the law tells of the way up -/
/-! #### the readings -/
theorem arc_pos {k : Nat} {c : Card} (hk : (srt mine theirs)[k]? = some c) (h1 : (srt mine theirs)[start]? = some (cmOf mine m)) (h2 : (srt mine theirs)[stop]? = some (ctOf theirs t)) : arc1 (cmOf mine m) (ctOf theirs t) c = (if start < k then 1 else 0) - (if stop < k then 1 else 0) + (if stop < start then 1 else 0) := by
  unfold arc1
  rw [lt_pos (srt_lt mine theirs) h1 hk, lt_pos (srt_lt mine theirs) h2 hk, lt_pos (srt_lt mine theirs) h2 h1]
  simp only [decide_eq_true_eq]
end
end Cm

set_option Elab.async false
set_option linter.all false
set_option maxRecDepth 100000
set_option maxHeartbeats 4000000
/-! ### the duel: what best play comes to -/
namespace Cm
open PySem PySem.Spec L2 Pv Rot
open Enc (enc)
open Encs (encs)
/-! #### entry by entry -/
def LeL (xs ys : List Int) : Prop := xs.length = ys.length ∧ ∀ i, i < xs.length → xs.getD i 0 ≤ ys.getD i 0
theorem LeL.refl (xs : List Int) : LeL xs xs := ⟨rfl, fun _ _ => Int.le_refl _⟩
theorem up_sort (xs : List Int) : Up (sortI xs) := sortI_le xs
theorem sort_mono {α : Type} {f g : α → Int} {L : List α} (h : ∀ c, c ∈ L → f c ≤ g c) : LeL (sortI (L.map f)) (sortI (L.map g)) := by
  have l1 : (sortI (L.map f)).length = L.length := by rw [(sortI_perm _).length_eq, List.length_map]
  have l2 : (sortI (L.map g)).length = L.length := by rw [(sortI_perm _).length_eq, List.length_map]
  refine ⟨l1.trans l2.symm, fun i hi => ?_⟩
  have hi2 : i < (sortI (L.map g)).length := by omega
  rw [getD_at hi, getD_at hi2]
  rw [up_le (up_sort _) _ hi]
  have h1 := (up_le (up_sort (L.map g)) ((sortI (L.map g))[i]) hi2).mp (Int.le_refl _)
  rw [cnt_perm (sortI_perm _)] at h1 ⊢
  have key : ∀ (k : Int) (L : List α), (∀ c, c ∈ L → f c ≤ g c) → cnt (fun y => decide (y ≤ k)) (L.map g) ≤ cnt (fun y => decide (y ≤ k)) (L.map f) := fun k L => by
    induction L with
    | nil => intro _; exact Nat.le_refl _
    | cons c L ih =>
      intro h
      have ih := ih fun d hd => h d (List.mem_cons_of_mem _ hd)
      have hc := h c (List.mem_cons_self ..)
      unfold cnt at ih ⊢
      rw [List.map_cons, List.map_cons, List.filter_cons, List.filter_cons]
      by_cases z : g c ≤ k
      · rw [if_pos (decide_eq_true z), if_pos (decide_eq_true (show f c ≤ k by omega))]
        simpa using ih
      · rw [if_neg (by rw [decide_eq_false z]; decide)]
        split
        · rw [List.length_cons]; omega
        · exact ih
  exact Nat.lt_of_lt_of_le h1 (key _ L h)
theorem LeL.add {xs ys : List Int} (h : LeL xs ys) (k : Int) : LeL (xs.map (· + k)) (ys.map (· + k)) := by
  refine ⟨by rw [List.length_map, List.length_map, h.1], fun i hi => ?_⟩
  rw [List.length_map] at hi
  have := h.2 i hi
  have hi2 : i < ys.length := by rw [← h.1]; exact hi
  rw [getD_at hi, getD_at hi2] at this
  rw [getD_at (by rw [List.length_map]; exact hi), getD_at (by rw [List.length_map]; exact hi2), List.getElem_map, List.getElem_map]
  omega
theorem LeL.st1 {xs ys : List Int} (h : LeL xs ys) (b : Bool) : LeL (Pv.st1 b xs) (Pv.st1 b ys) := by
  refine ⟨by rw [st1_len, st1_len, h.1], fun i hi => ?_⟩
  rw [st1_len] at hi
  have hx : i < xs.length := by omega
  have hy : i < ys.length := by rw [← h.1]; exact hx
  unfold Pv.st1
  cases b with
  | true =>
    rw [if_pos rfl, if_pos rfl]
    have := h.2 (1 + i) (by omega)
    rw [List.getD_eq_getElem?_getD, List.getD_eq_getElem?_getD] at this ⊢
    rw [List.getElem?_drop, List.getElem?_drop]
    exact this
  | false =>
    rw [if_neg (by decide), if_neg (by decide)]
    have := h.2 i hx
    rw [List.getD_eq_getElem?_getD, List.getD_eq_getElem?_getD] at this ⊢
    rw [List.getElem?_map, List.getElem?_map, List.getElem?_take_of_lt (by omega), List.getElem?_take_of_lt (by rw [← h.1]; omega), List.getElem?_eq_getElem hx, List.getElem?_eq_getElem hy] at *
    show xs[i] + 1 ≤ ys[i] + 1
    have this : xs[i] ≤ ys[i] := this
    omega
/-- the value of a row under letters (true: the side that wishes for many lays) -/
def valR : List Int → List Bool → Int
  | xs, [] => 0
  | xs, [_] => xs.headD 0 + 1
  | xs, b :: c :: w => valR (Pv.st1 b xs) (c :: w)
theorem valR_mono : ∀ (w : List Bool) (xs ys : List Int), LeL xs ys → xs.length = w.length → valR xs w ≤ valR ys w
  | [], _, _, _, _ => Int.le_refl _
  | [b], xs, ys, h, hl => by
    show xs.headD 0 + 1 ≤ ys.headD 0 + 1
    have := h.2 0 (by rw [hl]; exact Nat.one_pos)
    have e : ∀ zs : List Int, zs.headD 0 = zs.getD 0 0 := fun zs => by cases zs <;> rfl
    rw [e, e]
    omega
  | b :: c :: w, xs, ys, h, hl => valR_mono (c :: w) _ _ (h.st1 b) (by rw [st1_len, hl]; rfl)
theorem valR_add (k : Int) : ∀ (w : List Bool) (xs : List Int), w ≠ [] → xs.length = w.length → valR (xs.map (· + k)) w = valR xs w + k
  | [], _, h, _ => absurd rfl h
  | [b], [x], _, _ => by
    show x + k + 1 = x + 1 + k
    omega
  | [b], [], _, h => by cases h
  | [b], x :: y :: xs, _, h => by cases h
  | b :: c :: w, xs, _, hl => by
    show valR (Pv.st1 b (xs.map (· + k))) (c :: w) = valR (Pv.st1 b xs) (c :: w) + k
    rw [st1_map]
    exact valR_add k (c :: w) _ (List.cons_ne_nil _ _) (by rw [st1_len, hl]; rfl)
/-! #### one entry less -/
theorem erase_sort {xs : List Int} (h : Up xs) (x : Int) : Up (xs.erase x) := h.sublist List.erase_sublist
theorem erase_lo {xs : List Int} (h : Up xs) {x : Int} (hx : x ∈ xs) (hm : ∀ y, y ∈ xs → x ≤ y) : xs.erase x = xs.drop 1 := by
  cases xs with
  | nil => simp at hx
  | cons a xs =>
    have e : a = x := by
      have h1 := hm a (List.mem_cons_self ..)
      rcases List.mem_cons.mp hx with q | q
      · exact q.symm
      · have := (List.pairwise_cons.mp h).1 x q
        omega
    subst e
    rw [List.erase_cons_head]
    rfl
theorem erase_hi {xs : List Int} (h : Up xs) {x : Int} (hx : x ∈ xs) (hm : ∀ y, y ∈ xs → y ≤ x) : xs.erase x = xs.take (xs.length - 1) := by
  have ne : xs ≠ [] := fun e => by rw [e] at hx; simp at hx
  have el : xs = xs.take (xs.length - 1) ++ [xs.getLast ne] := by rw [← List.dropLast_eq_take, List.dropLast_concat_getLast]
  have hl : xs.getLast ne = x := by
    have h1 := hm _ (List.getLast_mem ne)
    rw [el] at hx
    rcases List.mem_append.mp hx with q | q
    · rw [el] at h
      have := (List.pairwise_append.mp h).2.2 x q (xs.getLast ne) (List.mem_singleton.mpr rfl)
      omega
    · exact (List.mem_singleton.mp q).symm
  refine sorted_one ?_ (erase_sort h x) (h.sublist (List.take_sublist _ _))
  have p1 : xs.Perm (x :: xs.take (xs.length - 1)) := by
    have := List.perm_append_comm (l₁ := xs.take (xs.length - 1)) (l₂ := [xs.getLast ne])
    rw [← el, hl] at this
    exact this
  have p2 := (List.perm_cons_erase hx).symm.trans p1
  exact List.Perm.cons_inv p2
theorem erase_le {xs : List Int} (h : Up xs) {x : Int} (hx : x ∈ xs) : LeL (xs.erase x) (xs.drop 1) := by
  have le := List.length_erase_of_mem hx
  refine ⟨by rw [le, List.length_drop], fun i hi => ?_⟩
  obtain ⟨j, hj, ej⟩ := List.getElem_of_mem hx
  have hi1 : i + 1 < xs.length := by omega
  rw [getD_at hi, getD_at (by rw [List.length_drop]; omega), List.getElem_drop]
  rw [up_le (erase_sort h x) _ hi]
  have h1 := (up_le h xs[1 + i] (show 1 + i < xs.length by omega)).mp (Int.le_refl _)
  have p := (List.perm_cons_erase hx)
  have h2 := cnt_perm (p := fun y => decide (y ≤ xs[1 + i])) p
  have h3 : cnt (fun y => decide (y ≤ xs[1 + i])) (x :: xs.erase x) ≤ cnt (fun y => decide (y ≤ xs[1 + i])) (xs.erase x) + 1 := by
    unfold cnt
    rw [List.filter_cons]
    split
    · rw [List.length_cons]; exact Nat.le_refl _
    · omega
  omega
theorem erase_ge {xs : List Int} (h : Up xs) {x : Int} (hx : x ∈ xs) : LeL (xs.take (xs.length - 1)) (xs.erase x) := by
  have le := List.length_erase_of_mem hx
  refine ⟨by rw [le, List.length_take]; omega, fun i hi => ?_⟩
  rw [List.length_take] at hi
  have hi2 : i < (xs.erase x).length := by omega
  have hi1 : i < xs.length := by omega
  rw [getD_at (by rw [List.length_take]; omega), getD_at hi2, List.getElem_take]
  rw [up_le h _ hi1]
  have h1 := (up_le (erase_sort h x) (xs.erase x)[i] hi2).mp (Int.le_refl _)
  have h2 := cnt_perm (p := fun y => decide (y ≤ (xs.erase x)[i])) (List.perm_cons_erase hx)
  have h3 : cnt (fun y => decide (y ≤ (xs.erase x)[i])) (xs.erase x) ≤ cnt (fun y => decide (y ≤ (xs.erase x)[i])) (x :: xs.erase x) := by
    unfold cnt
    rw [List.filter_cons]
    split
    · rw [List.length_cons]; omega
    · exact Nat.le_refl _
  omega
/-! #### the ring -/
section
variable {mine theirs : List Int}
def pos (mine theirs : List Int) (c : Card) : Nat := ((srt mine theirs).filter fun x => ltT x c).length
theorem pos_at {c : Card} (hc : c ∈ srt mine theirs) : (srt mine theirs)[pos mine theirs c]? = some c := by
  obtain ⟨p, hp⟩ := List.getElem?_of_mem hc
  have hl := (List.getElem?_eq_some_iff.mp hp).1
  unfold pos
  rw [below_take (srt_lt mine theirs) hp, List.length_take, Nat.min_eq_left (by omega)]
  exact hp
theorem pos_lt {c : Card} (hc : c ∈ srt mine theirs) : pos mine theirs c < (srt mine theirs).length := (List.getElem?_eq_some_iff.mp (pos_at hc)).1
theorem pos_eq {p : Nat} {c : Card} (hp : (srt mine theirs)[p]? = some c) : pos mine theirs c = p := pos_inj srt_nodup (pos_at (List.mem_of_getElem? hp)) hp
def dist (N i j : Nat) : Nat := if i ≤ j then j - i else j + N - i
/-- from my card m up to their card t -/
def DD (mine theirs : List Int) (m t : Nat) : Nat := dist (srt mine theirs).length (pos mine theirs (cmOf mine m)) (pos mine theirs (ctOf theirs t))
theorem arc_M {m t : Nat} (hm : m < mine.length) (ht : t < theirs.length) {c : Card} (hc : c ∈ srt mine theirs) (n1 : c ≠ cmOf mine m) (n2 : c ≠ ctOf theirs t) :
    arc1 (cmOf mine m) (ctOf theirs t) c = if dist (srt mine theirs).length (pos mine theirs (cmOf mine m)) (pos mine theirs c) < DD mine theirs m t then 1 else 0 := by
  have k0 := pos_at hc
  have k1 := pos_at (cm_mem (theirs := theirs) hm)
  have k2 := pos_at (ct_mem (mine := mine) ht)
  have l0 := pos_lt hc
  have l1 := pos_lt (cm_mem (theirs := theirs) hm)
  have l2 := pos_lt (ct_mem (mine := mine) ht)
  have d0 : pos mine theirs c ≠ pos mine theirs (cmOf mine m) := fun e => n1 (Option.some.inj (k0.symm.trans (e ▸ k1)))
  have d1 : pos mine theirs c ≠ pos mine theirs (ctOf theirs t) := fun e => n2 (Option.some.inj (k0.symm.trans (e ▸ k2)))
  have d2 := ne_pos k1 k2
  rw [arc_pos k0 k1 k2]
  unfold DD dist
  split <;> split <;> split <;> split <;> split <;> split <;> omega
theorem arc_T {m t : Nat} (hm : m < mine.length) (ht : t < theirs.length) {c : Card} (hc : c ∈ srt mine theirs) (n1 : c ≠ cmOf mine m) (n2 : c ≠ ctOf theirs t) :
    arc1 (cmOf mine m) (ctOf theirs t) c = if dist (srt mine theirs).length (pos mine theirs c) (pos mine theirs (ctOf theirs t)) < DD mine theirs m t then 1 else 0 := by
  have k0 := pos_at hc
  have k1 := pos_at (cm_mem (theirs := theirs) hm)
  have k2 := pos_at (ct_mem (mine := mine) ht)
  have l0 := pos_lt hc
  have l1 := pos_lt (cm_mem (theirs := theirs) hm)
  have l2 := pos_lt (ct_mem (mine := mine) ht)
  have d0 : pos mine theirs c ≠ pos mine theirs (cmOf mine m) := fun e => n1 (Option.some.inj (k0.symm.trans (e ▸ k1)))
  have d1 : pos mine theirs c ≠ pos mine theirs (ctOf theirs t) := fun e => n2 (Option.some.inj (k0.symm.trans (e ▸ k2)))
  have d2 := ne_pos k1 k2
  rw [arc_pos k0 k1 k2]
  unfold DD dist
  split <;> split <;> split <;> split <;> split <;> split <;> omega
theorem kept_M {m : Nat} (hm : m < mine.length) {c : Card} (h : c ∈ (srt mine theirs).filter fun c => isM c && decide (c ≠ cmOf mine m)) : ∃ i, i < mine.length ∧ i ≠ m ∧ c = cmOf mine i ∧ c ∈ srt mine theirs := by
  obtain ⟨h1, h2⟩ := List.mem_filter.mp h
  rw [Bool.and_eq_true, decide_eq_true_iff] at h2
  rcases mem_idx h1 with ⟨_, i, hi, rfl⟩ | ⟨z, _⟩
  · exact ⟨i, hi, fun e => h2.2 (by rw [e]), rfl, h1⟩
  · rw [z] at h2; cases h2.1
theorem kept_T {t : Nat} (ht : t < theirs.length) {c : Card} (h : c ∈ (srt mine theirs).filter fun c => isT c && decide (c ≠ ctOf theirs t)) : ∃ i, i < theirs.length ∧ i ≠ t ∧ c = ctOf theirs i ∧ c ∈ srt mine theirs := by
  obtain ⟨h1, h2⟩ := List.mem_filter.mp h
  rw [Bool.and_eq_true, decide_eq_true_iff] at h2
  rcases mem_idx h1 with ⟨z, _⟩ | ⟨_, i, hi, rfl⟩
  · unfold isT at h2; rw [z] at h2; cases h2.1
  · exact ⟨i, hi, fun e => h2.2 (by rw [e]), rfl, h1⟩
theorem MT_ne (i j : Nat) : cmOf mine i ≠ ctOf theirs j := fun e => by
  have e := congrArg (fun c : Card => c.t.2.1) e
  have e : (1 : Int) = 0 := e
  omega
theorem M_ne {i j : Nat} (h : i ≠ j) : cmOf mine i ≠ cmOf mine j := fun e => by
  have e := congrArg (fun c : Card => c.t.2.2.1) e
  have e : (i : Int) = (j : Int) := e
  omega
theorem T_ne {i j : Nat} (h : i ≠ j) : ctOf theirs i ≠ ctOf theirs j := fun e => by
  have e := congrArg (fun c : Card => c.t.2.2.1) e
  have e : (i : Int) = (j : Int) := e
  omega
/-- one card of mine fixed: the further their card, the greater the row -/
theorem mono_t {m t t' : Nat} (hm : m < mine.length) (ht : t < theirs.length) (ht' : t' < theirs.length) (h : DD mine theirs m t ≤ DD mine theirs m t') : LeL (after mine theirs m t) (after mine theirs m t') := by
  rw [read_M hm ht, read_M hm ht']
  refine sort_mono fun c hc => ?_
  obtain ⟨i, hi, ne, rfl, hmem⟩ := kept_M hm hc
  rw [arc_M hm ht hmem (M_ne ne) (MT_ne _ _), arc_M hm ht' hmem (M_ne ne) (MT_ne _ _)]
  split <;> split <;> omega
theorem mono_m (he : mine.length = theirs.length) {m m' t : Nat} (hm : m < mine.length) (hm' : m' < mine.length) (ht : t < theirs.length) (h : DD mine theirs m t ≤ DD mine theirs m' t) : LeL (after mine theirs m t) (after mine theirs m' t) := by
  rw [read_T he hm ht, read_T he hm' ht]
  refine sort_mono fun c hc => ?_
  obtain ⟨i, hi, ne, rfl, hmem⟩ := kept_T ht hc
  rw [arc_T hm ht hmem (MT_ne _ _).symm (T_ne ne), arc_T hm' ht hmem (MT_ne _ _).symm (T_ne ne)]
  split <;> split <;> omega
abbrev lM (mine theirs : List Int) (m : Nat) : Int := lvl (srt mine theirs) (cmOf mine m)
abbrev lT (mine theirs : List Int) (t : Nat) : Int := lvl (srt mine theirs) (ctOf theirs t)
theorem erase_map {L : List Card} (hn : L.Nodup) (f : Card → Int) {c : Card} (hc : c ∈ L) (q : Card → Bool) (hq : ∀ d, d ∈ L → q d = decide (d ≠ c)) : ((L.filter q).map f).Perm ((L.map f).erase (f c)) := by
  have p1 : L.Perm (c :: L.filter q) := by
    refine (List.perm_cons_erase hc).trans (List.Perm.cons c ?_)
    rw [hn.erase_eq_filter]
    refine List.Perm.of_eq (List.filter_congr fun d hd => ?_)
    rw [hq d hd]
    by_cases z : d = c <;> simp [z]
  have p2 := p1.map f
  rw [List.map_cons] at p2
  have p3 := (List.perm_cons_erase (List.mem_map.mpr ⟨c, hc, rfl⟩ : f c ∈ L.map f)).symm.trans p2
  exact (List.Perm.cons_inv p3).symm
theorem sort_erase {xs ys : List Int} {x : Int} (h : ys.Perm (xs.erase x)) : sortI ys = (sortI xs).erase x :=
  sorted_one (((sortI_perm ys).trans h).trans ((sortI_perm xs).erase x).symm) (sortI_le ys) (erase_sort (up_sort xs) x)
/-- their nearest card, seen from m -/
theorem near_t (he : mine.length = theirs.length) {m t : Nat} (hm : m < mine.length) (ht : t < theirs.length) (h : ∀ t', t' < theirs.length → DD mine theirs m t ≤ DD mine theirs m t') : after mine theirs m t = (row mine theirs).erase (lT mine theirs t) := by
  rw [read_T he hm ht, row_T he]
  refine sort_erase ?_
  have e : rdT mine theirs m t = (((srt mine theirs).filter fun c => isT c && decide (c ≠ ctOf theirs t))).map (lvl (srt mine theirs)) := by
    unfold rdT
    refine List.map_congr_left fun c hc => ?_
    obtain ⟨i, hi, ne, rfl, hmem⟩ := kept_T ht hc
    rw [arc_M hm ht hmem (MT_ne _ _).symm (T_ne ne), if_neg (show ¬ dist _ _ _ < DD mine theirs m t from Nat.not_lt.mpr (h i hi)), Int.add_zero]
  rw [e]
  unfold rowT
  rw [show ((srt mine theirs).filter fun c => isT c && decide (c ≠ ctOf theirs t)) = ((srt mine theirs).filter isT).filter fun c => decide (c ≠ ctOf theirs t) by rw [List.filter_filter]; exact List.filter_congr fun c _ => Bool.and_comm _ _]
  exact erase_map (List.Pairwise.filter _ srt_nodup) _ (List.mem_filter.mpr ⟨ct_mem ht, rfl⟩) _ fun _ _ => rfl
theorem far_t (he : mine.length = theirs.length) {m t : Nat} (hm : m < mine.length) (ht : t < theirs.length) (h : ∀ t', t' < theirs.length → DD mine theirs m t' ≤ DD mine theirs m t) : after mine theirs m t = ((row mine theirs).erase (lT mine theirs t)).map (· + 1) := by
  rw [read_T he hm ht, row_T he]
  have e : rdT mine theirs m t = ((((srt mine theirs).filter fun c => isT c && decide (c ≠ ctOf theirs t))).map (lvl (srt mine theirs))).map (· + 1) := by
    unfold rdT
    rw [List.map_map]
    refine List.map_congr_left fun c hc => ?_
    obtain ⟨i, hi, ne, rfl, hmem⟩ := kept_T ht hc
    have h1 := h i hi
    have h2 : DD mine theirs m i ≠ DD mine theirs m t := fun z => by
      have k1 := pos_lt (cm_mem (theirs := theirs) hm)
      have k2 := pos_lt (ct_mem (mine := mine) ht)
      have k3 := pos_lt (ct_mem (mine := mine) hi)
      have e : pos mine theirs (ctOf theirs i) = pos mine theirs (ctOf theirs t) := by
        unfold DD dist at z
        split at z <;> split at z <;> omega
      have := pos_at (ct_mem (mine := mine) hi)
      rw [e, pos_at (ct_mem (mine := mine) ht)] at this
      exact T_ne ne (Option.some.inj this).symm
    rw [arc_M hm ht hmem (MT_ne _ _).symm (T_ne ne), if_pos (show dist _ _ _ < DD mine theirs m t from Nat.lt_of_le_of_ne h1 h2)]
    rfl
  rw [e, ← sort_add]
  congr 1
  refine sort_erase ?_
  unfold rowT
  rw [show ((srt mine theirs).filter fun c => isT c && decide (c ≠ ctOf theirs t)) = ((srt mine theirs).filter isT).filter fun c => decide (c ≠ ctOf theirs t) by rw [List.filter_filter]; exact List.filter_congr fun c _ => Bool.and_comm _ _]
  exact erase_map (List.Pairwise.filter _ srt_nodup) _ (List.mem_filter.mpr ⟨ct_mem ht, rfl⟩) _ fun _ _ => rfl
theorem near_m {m t : Nat} (hm : m < mine.length) (ht : t < theirs.length) (h : ∀ m', m' < mine.length → DD mine theirs m t ≤ DD mine theirs m' t) : after mine theirs m t = (row mine theirs).erase (lM mine theirs m) := by
  rw [read_M hm ht]
  unfold row
  refine sort_erase ?_
  have e : rdM mine theirs m t = (((srt mine theirs).filter fun c => isM c && decide (c ≠ cmOf mine m))).map (lvl (srt mine theirs)) := by
    unfold rdM
    refine List.map_congr_left fun c hc => ?_
    obtain ⟨i, hi, ne, rfl, hmem⟩ := kept_M hm hc
    rw [arc_T hm ht hmem (M_ne ne) (MT_ne _ _), if_neg (show ¬ dist _ _ _ < DD mine theirs m t from Nat.not_lt.mpr (h i hi)), Int.add_zero]
  rw [e]
  unfold rowM
  rw [show ((srt mine theirs).filter fun c => isM c && decide (c ≠ cmOf mine m)) = ((srt mine theirs).filter isM).filter fun c => decide (c ≠ cmOf mine m) by rw [List.filter_filter]; exact List.filter_congr fun c _ => Bool.and_comm _ _]
  exact erase_map (List.Pairwise.filter _ srt_nodup) _ (List.mem_filter.mpr ⟨cm_mem hm, rfl⟩) _ fun _ _ => rfl
theorem far_m {m t : Nat} (hm : m < mine.length) (ht : t < theirs.length) (h : ∀ m', m' < mine.length → DD mine theirs m' t ≤ DD mine theirs m t) : after mine theirs m t = ((row mine theirs).erase (lM mine theirs m)).map (· + 1) := by
  rw [read_M hm ht]
  have e : rdM mine theirs m t = ((((srt mine theirs).filter fun c => isM c && decide (c ≠ cmOf mine m))).map (lvl (srt mine theirs))).map (· + 1) := by
    unfold rdM
    rw [List.map_map]
    refine List.map_congr_left fun c hc => ?_
    obtain ⟨i, hi, ne, rfl, hmem⟩ := kept_M hm hc
    have h1 := h i hi
    have h2 : DD mine theirs i t ≠ DD mine theirs m t := fun z => by
      have k1 := pos_lt (cm_mem (theirs := theirs) hm)
      have k2 := pos_lt (ct_mem (mine := mine) ht)
      have k3 := pos_lt (cm_mem (theirs := theirs) hi)
      have e : pos mine theirs (cmOf mine i) = pos mine theirs (cmOf mine m) := by
        unfold DD dist at z
        split at z <;> split at z <;> omega
      have := pos_at (cm_mem (theirs := theirs) hi)
      rw [e, pos_at (cm_mem (theirs := theirs) hm)] at this
      exact M_ne ne (Option.some.inj this).symm
    rw [arc_T hm ht hmem (M_ne ne) (MT_ne _ _), if_pos (show dist _ _ _ < DD mine theirs m t from Nat.lt_of_le_of_ne h1 h2)]
    rfl
  rw [e, ← sort_add]
  congr 1
  unfold row
  refine sort_erase ?_
  unfold rowM
  rw [show ((srt mine theirs).filter fun c => isM c && decide (c ≠ cmOf mine m)) = ((srt mine theirs).filter isM).filter fun c => decide (c ≠ cmOf mine m) by rw [List.filter_filter]; exact List.filter_congr fun c _ => Bool.and_comm _ _]
  exact erase_map (List.Pairwise.filter _ srt_nodup) _ (List.mem_filter.mpr ⟨cm_mem hm, rfl⟩) _ fun _ _ => rfl
theorem lM_mem {m : Nat} (hm : m < mine.length) : lM mine theirs m ∈ row mine theirs := by
  unfold row
  exact (sortI_perm _).mem_iff.mpr (List.mem_map.mpr ⟨_, List.mem_filter.mpr ⟨cm_mem hm, rfl⟩, rfl⟩)
theorem lT_mem (he : mine.length = theirs.length) {t : Nat} (ht : t < theirs.length) : lT mine theirs t ∈ row mine theirs := by
  rw [row_T he]
  exact (sortI_perm _).mem_iff.mpr (List.mem_map.mpr ⟨_, List.mem_filter.mpr ⟨ct_mem ht, rfl⟩, rfl⟩)
theorem row_memM {x : Int} (h : x ∈ row mine theirs) : ∃ m, m < mine.length ∧ x = lM mine theirs m := by
  unfold row at h
  obtain ⟨c, hc, rfl⟩ := List.mem_map.mp ((sortI_perm _).mem_iff.mp h)
  obtain ⟨h1, h2⟩ := List.mem_filter.mp hc
  rcases mem_idx h1 with ⟨_, i, hi, rfl⟩ | ⟨z, _⟩
  · exact ⟨i, hi, rfl⟩
  · rw [z] at h2; cases h2
theorem row_memT (he : mine.length = theirs.length) {x : Int} (h : x ∈ row mine theirs) : ∃ t, t < theirs.length ∧ x = lT mine theirs t := by
  rw [row_T he] at h
  obtain ⟨c, hc, rfl⟩ := List.mem_map.mp ((sortI_perm _).mem_iff.mp h)
  obtain ⟨h1, h2⟩ := List.mem_filter.mp hc
  rcases mem_idx h1 with ⟨z, _⟩ | ⟨_, i, hi, rfl⟩
  · unfold isT at h2; rw [z] at h2; cases h2
  · exact ⟨i, hi, rfl⟩
/-- the height below the card at p and above the card ahead of it are one -/
theorem step_lvl (he : mine.length = theirs.length) {p q : Nat} {c d : Card} (hp : (srt mine theirs)[p]? = some c) (hq : (srt mine theirs)[q]? = some d) (hpq : p = q + 1 ∨ (p = 0 ∧ q + 1 = (srt mine theirs).length)) :
    lvl (srt mine theirs) c + (if isM c then 1 else 0) = lvl (srt mine theirs) d + (if isM d then 0 else 1) := by
  have hpl := (List.getElem?_eq_some_iff.mp hp).1
  have hql := (List.getElem?_eq_some_iff.mp hq).1
  have b1 := bel_at (srt_lt mine theirs) hp
  have b2 := bel_at (srt_lt mine theirs) hq
  have ed : (srt mine theirs)[q] = d := (List.getElem?_eq_some_iff.mp hq).2
  have up := hs_snoc hql
  rw [ed] at up
  have e1 : hs ((srt mine theirs).take p) = hs ((srt mine theirs).take (q + 1)) := by
    rcases hpq with rfl | ⟨rfl, e⟩
    · rfl
    · rw [e, hs_zero he]
      rfl
  unfold lvl
  rw [b1, b2, e1, up]
  cases z : isM d with
  | true =>
    rw [st_M z]
    simp only [if_true]
    omega
  | false =>
    rw [st_T z]
    simp only [Bool.false_eq_true, if_false]
    omega
theorem next_pos {p : Nat} (hp : p < (srt mine theirs).length) : ∃ q, q < (srt mine theirs).length ∧ (q = p + 1 ∨ (q = 0 ∧ p + 1 = (srt mine theirs).length)) := by
  by_cases z : p + 1 < (srt mine theirs).length
  · exact ⟨p + 1, z, .inl rfl⟩
  · exact ⟨0, by omega, .inr ⟨rfl, by omega⟩⟩
theorem prev_pos {p : Nat} (hp : p < (srt mine theirs).length) : ∃ q, q < (srt mine theirs).length ∧ (p = q + 1 ∨ (p = 0 ∧ q + 1 = (srt mine theirs).length)) := by
  by_cases z : p = 0
  · exact ⟨(srt mine theirs).length - 1, by omega, .inr ⟨z, by omega⟩⟩
  · exact ⟨p - 1, by omega, .inl (by omega)⟩
theorem card_at {q : Nat} (hq : q < (srt mine theirs).length) : (∃ i, i < mine.length ∧ (srt mine theirs)[q]? = some (cmOf mine i)) ∨ ∃ i, i < theirs.length ∧ (srt mine theirs)[q]? = some (ctOf theirs i) := by
  have h := List.getElem?_eq_getElem hq
  rcases mem_idx (List.getElem_mem hq) with ⟨_, i, hi, e⟩ | ⟨_, i, hi, e⟩
  · exact .inl ⟨i, hi, by rw [h, e]⟩
  · exact .inr ⟨i, hi, by rw [h, e]⟩
theorem DD_lt {m t : Nat} (hm : m < mine.length) (ht : t < theirs.length) : 1 ≤ DD mine theirs m t ∧ DD mine theirs m t + 1 ≤ (srt mine theirs).length := by
  have k1 := pos_lt (cm_mem (theirs := theirs) hm)
  have k2 := pos_lt (ct_mem (mine := mine) ht)
  have ne := ne_pos (pos_at (cm_mem (theirs := theirs) hm)) (pos_at (ct_mem (mine := mine) ht))
  unfold DD dist
  split <;> omega
/-! the four plays that meet the ends of the row -/
theorem play_A (he : mine.length = theirs.length) (h0 : 0 < mine.length) : ∃ m t, m < mine.length ∧ t < theirs.length ∧ (∀ y, y ∈ row mine theirs → lT mine theirs t ≤ y) ∧ ∀ t', t' < theirs.length → DD mine theirs m t ≤ DD mine theirs m t' := by
  have ne : row mine theirs ≠ [] := fun e => by have := row_len (mine := mine) (theirs := theirs); rw [e] at this; simp at this; omega
  obtain ⟨x, hx⟩ : ∃ x, (row mine theirs).min? = some x := by
    cases e : (row mine theirs).min? with
    | none => exact absurd (List.min?_eq_none_iff.mp e) ne
    | some x => exact ⟨x, rfl⟩
  obtain ⟨x1, x2⟩ := List.min?_eq_some_iff.mp hx
  obtain ⟨t, ht, rfl⟩ := row_memT he x1
  have hp := pos_at (ct_mem (mine := mine) ht)
  obtain ⟨q, hq, hpq⟩ := prev_pos (pos_lt (ct_mem (mine := mine) ht))
  rcases card_at hq with ⟨m, hm, hm'⟩ | ⟨t', ht', ht''⟩
  · refine ⟨m, t, hm, ht, x2, fun t' ht' => ?_⟩
    have := (DD_lt hm ht').1
    have e := pos_eq hm'
    have l0 := pos_lt (ct_mem (mine := mine) ht)
    have l1 := pos_lt (cm_mem (theirs := theirs) hm)
    have l2 := ne_pos (pos_at (cm_mem (theirs := theirs) hm)) (pos_at (ct_mem (mine := mine) ht))
    have : DD mine theirs m t = 1 := by
      unfold DD dist
      split <;> rcases hpq with z | ⟨z, z'⟩ <;> omega
    omega
  · have := step_lvl he hp ht'' hpq
    have h3 := x2 _ (lT_mem he ht')
    have i1 : isM (ctOf theirs t) = false := rfl
    have i2 : isM (ctOf theirs t') = false := rfl
    rw [i1, i2] at this
    simp only [Bool.false_eq_true, if_false] at this
    exfalso
    have h3 : lvl (srt mine theirs) (ctOf theirs t) ≤ lvl (srt mine theirs) (ctOf theirs t') := h3
    omega
theorem play_C (he : mine.length = theirs.length) (h0 : 0 < mine.length) : ∃ m t, m < mine.length ∧ t < theirs.length ∧ (∀ y, y ∈ row mine theirs → y ≤ lT mine theirs t) ∧ ∀ t', t' < theirs.length → DD mine theirs m t' ≤ DD mine theirs m t := by
  have ne : row mine theirs ≠ [] := fun e => by have := row_len (mine := mine) (theirs := theirs); rw [e] at this; simp at this; omega
  obtain ⟨x, hx⟩ : ∃ x, (row mine theirs).max? = some x := by
    cases e : (row mine theirs).max? with
    | none => exact absurd (List.max?_eq_none_iff.mp e) ne
    | some x => exact ⟨x, rfl⟩
  obtain ⟨x1, x2⟩ := List.max?_eq_some_iff.mp hx
  obtain ⟨t, ht, rfl⟩ := row_memT he x1
  have hp := pos_at (ct_mem (mine := mine) ht)
  obtain ⟨q, hq, hpq⟩ := next_pos (pos_lt (ct_mem (mine := mine) ht))
  rcases card_at hq with ⟨m, hm, hm'⟩ | ⟨t', ht', ht''⟩
  · refine ⟨m, t, hm, ht, x2, fun t' ht' => ?_⟩
    have := (DD_lt hm ht').2
    have e := pos_eq hm'
    have l0 := pos_lt (ct_mem (mine := mine) ht)
    have l1 := pos_lt (cm_mem (theirs := theirs) hm)
    have : DD mine theirs m t + 1 = (srt mine theirs).length := by
      unfold DD dist
      split <;> rcases hpq with z | ⟨z, z'⟩ <;> omega
    omega
  · have := step_lvl he ht'' hp hpq
    have h3 := x2 _ (lT_mem he ht')
    have i1 : isM (ctOf theirs t) = false := rfl
    have i2 : isM (ctOf theirs t') = false := rfl
    rw [i1, i2] at this
    simp only [Bool.false_eq_true, if_false] at this
    exfalso
    have h3 : lvl (srt mine theirs) (ctOf theirs t') ≤ lvl (srt mine theirs) (ctOf theirs t) := h3
    omega
theorem play_B (he : mine.length = theirs.length) (h0 : 0 < mine.length) : ∃ m t, m < mine.length ∧ t < theirs.length ∧ (∀ y, y ∈ row mine theirs → y ≤ lM mine theirs m) ∧ ∀ m', m' < mine.length → DD mine theirs m' t ≤ DD mine theirs m t := by
  have ne : row mine theirs ≠ [] := fun e => by have := row_len (mine := mine) (theirs := theirs); rw [e] at this; simp at this; omega
  obtain ⟨x, hx⟩ : ∃ x, (row mine theirs).max? = some x := by
    cases e : (row mine theirs).max? with
    | none => exact absurd (List.max?_eq_none_iff.mp e) ne
    | some x => exact ⟨x, rfl⟩
  obtain ⟨x1, x2⟩ := List.max?_eq_some_iff.mp hx
  obtain ⟨m, hm, rfl⟩ := row_memM x1
  have hp := pos_at (cm_mem (theirs := theirs) hm)
  obtain ⟨q, hq, hpq⟩ := prev_pos (pos_lt (cm_mem (theirs := theirs) hm))
  rcases card_at hq with ⟨m', hm', hm''⟩ | ⟨t, ht, ht'⟩
  · have := step_lvl he hp hm'' hpq
    have h3 := x2 _ (lM_mem (theirs := theirs) hm')
    have i1 : isM (cmOf mine m) = true := rfl
    have i2 : isM (cmOf mine m') = true := rfl
    rw [i1, i2] at this
    simp only [if_true] at this
    exfalso
    have h3 : lvl (srt mine theirs) (cmOf mine m') ≤ lvl (srt mine theirs) (cmOf mine m) := h3
    omega
  · refine ⟨m, t, hm, ht, x2, fun m' hm' => ?_⟩
    have := (DD_lt hm' ht).2
    have e := pos_eq ht'
    have l0 := pos_lt (ct_mem (mine := mine) ht)
    have l1 := pos_lt (cm_mem (theirs := theirs) hm)
    have : DD mine theirs m t + 1 = (srt mine theirs).length := by
      unfold DD dist
      split <;> rcases hpq with z | ⟨z, z'⟩ <;> omega
    omega
theorem play_D (he : mine.length = theirs.length) (h0 : 0 < mine.length) : ∃ m t, m < mine.length ∧ t < theirs.length ∧ (∀ y, y ∈ row mine theirs → lM mine theirs m ≤ y) ∧ ∀ m', m' < mine.length → DD mine theirs m t ≤ DD mine theirs m' t := by
  have ne : row mine theirs ≠ [] := fun e => by have := row_len (mine := mine) (theirs := theirs); rw [e] at this; simp at this; omega
  obtain ⟨x, hx⟩ : ∃ x, (row mine theirs).min? = some x := by
    cases e : (row mine theirs).min? with
    | none => exact absurd (List.min?_eq_none_iff.mp e) ne
    | some x => exact ⟨x, rfl⟩
  obtain ⟨x1, x2⟩ := List.min?_eq_some_iff.mp hx
  obtain ⟨m, hm, rfl⟩ := row_memM x1
  have hp := pos_at (cm_mem (theirs := theirs) hm)
  obtain ⟨q, hq, hpq⟩ := next_pos (pos_lt (cm_mem (theirs := theirs) hm))
  rcases card_at hq with ⟨m', hm', hm''⟩ | ⟨t, ht, ht'⟩
  · have := step_lvl he hm'' hp hpq
    have h3 := x2 _ (lM_mem (theirs := theirs) hm')
    have i1 : isM (cmOf mine m) = true := rfl
    have i2 : isM (cmOf mine m') = true := rfl
    rw [i1, i2] at this
    simp only [if_true] at this
    exfalso
    have h3 : lvl (srt mine theirs) (cmOf mine m) ≤ lvl (srt mine theirs) (cmOf mine m') := h3
    omega
  · refine ⟨m, t, hm, ht, x2, fun m' hm' => ?_⟩
    have := (DD_lt hm' ht).1
    have e := pos_eq ht'
    have l0 := pos_lt (ct_mem (mine := mine) ht)
    have l1 := pos_lt (cm_mem (theirs := theirs) hm)
    have l2 := ne_pos (pos_at (cm_mem (theirs := theirs) hm)) (pos_at (ct_mem (mine := mine) ht))
    have : DD mine theirs m t = 1 := by
      unfold DD dist
      split <;> rcases hpq with z | ⟨z, z'⟩ <;> omega
    omega
/-! #### best play -/
theorem least_of (f : Nat → Nat) : ∀ n, 0 < n → ∃ k, k < n ∧ ∀ j, j < n → f k ≤ f j
  | 0, h => by omega
  | 1, _ => ⟨0, Nat.one_pos, fun j hj => by have : j = 0 := by omega
                                            subst this; exact Nat.le_refl _⟩
  | n + 2, _ => by
    obtain ⟨k, hk, h⟩ := least_of f (n + 1) (by omega)
    by_cases c : f k ≤ f (n + 1)
    · refine ⟨k, by omega, fun j hj => ?_⟩
      by_cases z : j = n + 1
      · subst z; exact c
      · exact h j (by omega)
    · refine ⟨n + 1, by omega, fun j hj => ?_⟩
      by_cases z : j = n + 1
      · subst z; exact Nat.le_refl _
      · have := h j (by omega)
        omega
/-- v is the greatest (the least) of g 0 .. g (n - 1) -/
def IsOpt (high : Bool) (n : Nat) (g : Nat → Int) (v : Int) : Prop := (∃ y, y < n ∧ v = g y) ∧ ∀ y, y < n → if high then g y ≤ v else v ≤ g y
theorem IsOpt.eq {high : Bool} {n : Nat} {g : Nat → Int} {v w : Int} (h : IsOpt high n g v) (k : IsOpt high n g w) : v = w := by
  obtain ⟨⟨y, hy, ey⟩, h2⟩ := h
  obtain ⟨⟨z, hz, ez⟩, k2⟩ := k
  have a := h2 z hz
  have b := k2 y hy
  cases high with
  | true => simp only [if_true] at a b; omega
  | false => simp only [Bool.false_eq_true, if_false] at a b; omega
end
end Cm

set_option Elab.async false
set_option linter.all false
set_option maxRecDepth 100000
set_option maxHeartbeats 4000000
/-! ### the duel: the recursion over all plays -/
namespace Cm
open PySem PySem.Spec L2 Pv Rot
open Enc (enc)
open Encs (encs)
def m__law_better (v_old : PV) (v_new : Int) (v_high : Bool) : R Int :=
  (R.ifm (R.ok (nonP (enc v_old))) (R.ok v_new) (R.ifm (R.ok v_high) (R.bind (R.of (Dec.dec v_old : Option Int)) fun t2 => (R.ok (if v_new > t2 then v_new else t2))) (R.bind (R.of (Dec.dec v_old : Option Int)) fun t4 => (R.ok (if v_new < t4 then v_new else t4)))))
def m__law_minimax_b1 (v_mine : (List Int)) (v_theirs : (List Int)) (v_word : Str) (v_wish : Str) (m_rec : (List Int) → (List Int) → Str → Str → R Int) (v_mine_lays_2 : Bool) (v_layer_high_3 : Bool) (x6 : Int) (x10 : Int) (s11 : PV) : R (PV) :=
  (R.bind (R.of (atI ([x10, x6] : (List Int)) (if v_mine_lays_2 then (1 : Int) else 0))) fun v_m_12 => (R.bind (R.of (atI ([x6, x10] : (List Int)) (if v_mine_lays_2 then (1 : Int) else 0))) fun v_t_13 => (R.bind (R.bind (R.of (catL (cutL v_mine none (some v_m_12)) (cutL v_mine (some (v_m_12 + (1 : Int))) none))) fun t14 => R.bind (R.of (catL (cutL v_theirs none (some v_t_13)) (cutL v_theirs (some (v_t_13 + (1 : Int))) none))) fun t15 => (m_rec t14 t15 (cutS v_word (some (1 : Int)) none) v_wish)) fun v_below_16 => (R.bind (R.bind (R.bind (R.bind (R.bind (R.bind (R.of (atI v_mine v_m_12)) fun t17 => R.bind (R.of (atI v_theirs v_t_13)) fun t18 => (R.ok (decide (t18 ≤ t17)))) fun t19 => (R.ok (if t19 then (1 : Int) else 0))) fun t20 => (R.ok (t20 + v_below_16))) fun t21 => (m__law_better s11 t21 (!v_layer_high_3))) fun t23 => (R.ok (enc t23 : PV))) fun v_inner_24 => (R.ok (v_inner_24))))))
def m__law_minimax_b2 (v_mine : (List Int)) (v_theirs : (List Int)) (v_word : Str) (v_wish : Str) (m_rec : (List Int) → (List Int) → Str → Str → R Int) (v_mine_lays_2 : Bool) (v_layer_high_3 : Bool) (x6 : Int) (s7 : PV) : R (PV) :=
  (R.lt (enc () : PV) fun v_inner_9 => (R.bind (R.of (rngO 0 (v_mine.length : Int))) fun l30 => R.bind (foldR (m__law_minimax_b1 v_mine v_theirs v_word v_wish m_rec v_mine_lays_2 v_layer_high_3 x6) l30 (v_inner_9)) fun s11 => (R.bind (R.bind (R.bind (R.of (Dec.dec s11 : Option Int)) fun t26 => (m__law_better s7 t26 v_layer_high_3)) fun t28 => (R.ok (enc t28 : PV))) fun v_outer_29 => (R.ok (v_outer_29)))))
def m__law_minimax : Nat → (List Int) → (List Int) → Str → Str → R Int
  | 0, _, _, _, _ => .bad
  | fuel + 1, v_mine, v_theirs, v_word, v_wish => (R.ifm (R.ok (decide ((v_mine.length : Int) = (0 : Int)))) (R.ok (0 : Int)) (R.bind (R.bind (R.of (atS v_word (0 : Int))) fun t1 => (R.ok (decide (t1 = (PySem.Str.ofString "M"))))) fun v_mine_lays_2 => (R.lt (decide (v_mine_lays_2 = (decide (v_wish = (PySem.Str.ofString "mine"))))) fun v_layer_high_3 => (R.lt (enc () : PV) fun v_outer_5 => (R.bind (R.of (rngO 0 (v_mine.length : Int))) fun l32 => R.bind (foldR (m__law_minimax_b2 v_mine v_theirs v_word v_wish (m__law_minimax fuel) v_mine_lays_2 v_layer_high_3) l32 (v_outer_5)) fun s7 => (R.of (Dec.dec s7 : Option Int)))))))
def m__law_value (v_row : (List Int)) (v_word : Str) (v_wish : Str) : R Int :=
  (R.ifm (R.ok (decide ((v_row.length : Int) = (0 : Int)))) (R.ok (0 : Int)) (R.lt (cutS v_word none (some ((v_word.length : Int) - (1 : Int)))) fun v_early_1 => (R.lt ((((strL v_early_1).filter fun x2 : Str => (decide (x2 = (PySem.Str.ofString "M")))).map fun x2 : Str => x2).length : Int) fun v_mine_lays_3 => (R.ifm (R.ok (decide (v_wish = (PySem.Str.ofString "mine")))) (R.bind (R.of (atI v_row v_mine_lays_3)) fun t4 => (R.ok ((((v_early_1.length : Int) - v_mine_lays_3) + (1 : Int)) + t4))) (R.bind (R.of (atI v_row ((v_early_1.length : Int) - v_mine_lays_3))) fun t5 => (R.ok ((v_mine_lays_3 + (1 : Int)) + t5)))))))
/-! #### two nested choices -/
theorem mm {high : Bool} {n : Nat} {G : Nat → Nat → Int} {v : Nat → Int} {V T : Int} (hv : ∀ x, x < n → IsOpt (!high) n (G x) (v x)) (hV : IsOpt high n v V)
    (h1 : ∀ x, x < n → ∃ y, y < n ∧ if high then G x y ≤ T else T ≤ G x y) (h2 : ∃ x, x < n ∧ ∀ y, y < n → if high then T ≤ G x y else G x y ≤ T) : V = T := by
  obtain ⟨⟨x, hx, ex⟩, a2⟩ := hV
  obtain ⟨y, hy, ey⟩ := h1 x hx
  obtain ⟨x', hx', b⟩ := h2
  have c := a2 x' hx'
  obtain ⟨⟨y', hy', ey'⟩, _⟩ := hv x' hx'
  have d := b y' hy'
  have e := (hv x hx).2 y hy
  cases high with
  | true => simp only [Bool.not_true, Bool.false_eq_true, if_false, if_true] at *; omega
  | false => simp only [Bool.not_false, Bool.false_eq_true, if_false, if_true] at *; omega
def encO : Option Int → PV
  | none => enc ()
  | some i => enc i
def bet (s : Option Int) (v : Int) (high : Bool) : Int := match s with
  | none => v
  | some o => if high then (if v > o then v else o) else (if v < o then v else o)
section
variable {mine theirs : List Int}
/-! #### one pair of cards -/
theorem row_one (he : mine.length = theirs.length) (h1 : mine.length = 1) : (row mine theirs).headD 0 + 1 = wonI mine theirs 0 0 := by
  have hl : (srt mine theirs).length = 2 := by
    rw [(srt_perm mine theirs).length_eq]
    unfold cards
    simp only [List.length_append, List.length_map, List.length_range, enum_len]
    omega
  have hm : 0 < mine.length := by omega
  have ht : 0 < theirs.length := by omega
  have k1 := pos_at (cm_mem (theirs := theirs) hm)
  have k2 := pos_at (ct_mem (mine := mine) ht)
  have l1 := pos_lt (cm_mem (theirs := theirs) hm)
  have l2 := pos_lt (ct_mem (mine := mine) ht)
  have ne := ne_pos k1 k2
  rw [won_pos k1 k2]
  have e : (row mine theirs).headD 0 = lT mine theirs 0 := by
    have hr := row_len (mine := mine) (theirs := theirs)
    have m1 := lT_mem he ht
    cases er : row mine theirs with
    | nil => rw [er] at m1; simp at m1
    | cons x xs =>
      rw [er, h1] at hr
      rw [er] at m1
      have : xs = [] := List.length_eq_zero_iff.mp (by simpa using hr)
      subst this
      exact (List.mem_singleton.mp m1).symm
  rw [e]
  by_cases z : pos mine theirs (ctOf theirs 0) < pos mine theirs (cmOf mine 0)
  · rw [if_pos z]
    have : pos mine theirs (ctOf theirs 0) = 0 := by omega
    rw [this] at k2
    show lvl (srt mine theirs) (ctOf theirs 0) + 1 = 1
    unfold lvl
    rw [bel_at (srt_lt mine theirs) k2]
    rfl
  · rw [if_neg z]
    have p0 : pos mine theirs (cmOf mine 0) = 0 := by omega
    have p1 : pos mine theirs (ctOf theirs 0) = 1 := by omega
    rw [p0] at k1
    rw [p1] at k2
    have := step_lvl he k2 k1 (.inl rfl)
    have i1 : isM (cmOf mine 0) = true := rfl
    have i2 : isM (ctOf theirs 0) = false := rfl
    rw [i1, i2] at this
    simp only [if_true, Bool.false_eq_true, if_false] at this
    have b : lvl (srt mine theirs) (cmOf mine 0) = -1 := by
      unfold lvl
      rw [bel_at (srt_lt mine theirs) k1]
      rfl
    show lvl (srt mine theirs) (ctOf theirs 0) + 1 = 0
    omega
/-! #### one round -/
abbrev gRest (mine theirs : List Int) (bs : List Bool) (m t : Nat) : Int := wonI mine theirs m t + valR (row (mine.eraseIdx m) (theirs.eraseIdx t)) bs
theorem gRest_is {bs : List Bool} (hb : bs ≠ []) (hl : mine.length = bs.length + 1) {m t : Nat} (hm : m < mine.length) : gRest mine theirs bs m t = valR (after mine theirs m t) bs := by
  unfold gRest after
  rw [valR_add _ _ _ hb (by rw [row_len, List.length_eraseIdx_of_lt hm]; omega)]
  omega
theorem valR_cons (b : Bool) {bs : List Bool} (hb : bs ≠ []) (xs : List Int) : valR xs (b :: bs) = valR (Pv.st1 b xs) bs := by
  cases bs with
  | nil => exact absurd rfl hb
  | cons c w => rfl
theorem after_len {m t : Nat} (hm : m < mine.length) : (after mine theirs m t).length = mine.length - 1 := by
  unfold after
  rw [List.length_map, row_len, List.length_eraseIdx_of_lt hm]
theorem DD_b {m t : Nat} (hm : m < mine.length) (ht : t < theirs.length) : DD mine theirs m t ≤ (srt mine theirs).length := by
  have := DD_lt (mine := mine) (theirs := theirs) hm ht
  omega
theorem most_of' {f : Nat → Nat} {b n : Nat} (hb : ∀ j, j < n → f j ≤ b) (h0 : 0 < n) : ∃ k, k < n ∧ ∀ j, j < n → f j ≤ f k := by
  obtain ⟨k, hk, h⟩ := least_of (fun j => b - f j) n h0
  refine ⟨k, hk, fun j hj => ?_⟩
  have := h j hj
  have := hb j hj
  have := hb k hk
  omega
/-- the first letter's choice: what the round comes to -/
theorem round (he : mine.length = theirs.length) (b : Bool) (bs : List Bool) (hl : mine.length = bs.length + 1) (lays : Bool) {v : Nat → Int} {V : Int}
    (hv : ∀ x, x < mine.length → IsOpt (!b) mine.length (fun y => if lays then gRest mine theirs bs x y else gRest mine theirs bs y x) (v x)) (hV : IsOpt b mine.length v V) (wish : Bool) (hb : b = (lays == wish)) : V = valR (row mine theirs) (b :: bs) := by
  by_cases hn : bs = []
  · subst hn
    have h1 : mine.length = 1 := hl
    have e : ∀ v, IsOpt b 1 v V → V = v 0 := fun v h => by
      obtain ⟨⟨y, hy, ey⟩, _⟩ := h
      have : y = 0 := by omega
      rw [ey, this]
    rw [h1] at hV
    have e1 := e _ hV
    obtain ⟨⟨y, hy, ey⟩, _⟩ := hv 0 (by omega)
    have : y = 0 := by omega
    subst this
    show V = (row mine theirs).headD 0 + 1
    rw [row_one he h1, e1, ey]
    cases lays <;> exact Int.add_zero _
  · rw [valR_cons b hn]
    have rl : (row mine theirs).length = mine.length := row_len
    have hu : Up (row mine theirs) := up_sort _
    have h0 : 0 < mine.length := by omega
    have G : ∀ m t, m < mine.length → gRest mine theirs bs m t = valR (after mine theirs m t) bs := fun m t hm => gRest_is hn hl hm
    have al : ∀ m t, m < mine.length → (after mine theirs m t).length = bs.length := fun m t hm => by rw [after_len hm]; omega
    have dl : ((row mine theirs).drop 1).length = bs.length := by rw [List.length_drop, rl]; omega
    have tl : (((row mine theirs).take ((row mine theirs).length - 1)).map (· + 1)).length = bs.length := by rw [List.length_map, List.length_take, rl]; omega
    refine mm hv hV ?_ ?_
    · intro x hx
      cases b with
      | true =>
        cases lays with
        | true =>
          obtain ⟨t, ht, h⟩ := least_of (fun t => DD mine theirs x t) theirs.length (by omega)
          refine ⟨t, by omega, ?_⟩
          simp only [if_true]
          rw [G x t hx]
          refine valR_mono bs _ _ ?_ (al x t hx)
          rw [near_t he hx ht h]
          exact erase_le hu (lT_mem he ht)
        | false =>
          obtain ⟨m, hm, h⟩ := least_of (fun m => DD mine theirs m x) mine.length h0
          refine ⟨m, hm, ?_⟩
          simp only [if_true, Bool.false_eq_true, if_false]
          rw [G m x hm]
          refine valR_mono bs _ _ ?_ (al m x hm)
          rw [near_m hm (by omega) h]
          exact erase_le hu (lM_mem hm)
      | false =>
        cases lays with
        | true =>
          obtain ⟨t, ht, h⟩ := most_of' (f := fun t => DD mine theirs x t) (fun j hj => DD_b hx hj) (show 0 < theirs.length by omega)
          refine ⟨t, by omega, ?_⟩
          simp only [if_true, Bool.false_eq_true, if_false]
          rw [G x t hx]
          refine valR_mono bs _ _ ?_ tl
          rw [far_t he hx ht h]
          exact (erase_ge hu (lT_mem he ht)).add 1
        | false =>
          obtain ⟨m, hm, h⟩ := most_of' (f := fun m => DD mine theirs m x) (fun j hj => DD_b hj (show x < theirs.length by omega)) h0
          refine ⟨m, hm, ?_⟩
          simp only [Bool.false_eq_true, if_false]
          rw [G m x hm]
          refine valR_mono bs _ _ ?_ tl
          rw [far_m hm (by omega) h]
          exact (erase_ge hu (lM_mem hm)).add 1
    · cases b with
      | true =>
        cases lays with
        | true =>
          obtain ⟨m, t, hm, ht, h1, h2⟩ := play_A he h0
          refine ⟨m, hm, fun t' ht' => ?_⟩
          simp only [if_true]
          rw [G m t' hm]
          refine valR_mono bs _ _ ?_ dl
          have := mono_t hm ht (show t' < theirs.length by omega) (h2 t' (by omega))
          rw [near_t he hm ht h2, erase_lo hu (lT_mem he ht) h1] at this
          exact this
        | false =>
          obtain ⟨m, t, hm, ht, h1, h2⟩ := play_D he h0
          refine ⟨t, by omega, fun m' hm' => ?_⟩
          simp only [if_true, Bool.false_eq_true, if_false]
          rw [G m' t hm']
          refine valR_mono bs _ _ ?_ dl
          have := mono_m he hm hm' ht (h2 m' hm')
          rw [near_m hm ht h2, erase_lo hu (lM_mem hm) h1] at this
          exact this
      | false =>
        cases lays with
        | true =>
          obtain ⟨m, t, hm, ht, h1, h2⟩ := play_C he h0
          refine ⟨m, hm, fun t' ht' => ?_⟩
          simp only [if_true, Bool.false_eq_true, if_false]
          rw [G m t' hm]
          refine valR_mono bs _ _ ?_ (al m t' hm)
          have := mono_t hm (show t' < theirs.length by omega) ht (h2 t' (by omega))
          rw [far_t he hm ht h2, erase_hi hu (lT_mem he ht) h1] at this
          exact this
        | false =>
          obtain ⟨m, t, hm, ht, h1, h2⟩ := play_B he h0
          refine ⟨t, by omega, fun m' hm' => ?_⟩
          simp only [Bool.false_eq_true, if_false]
          rw [G m' t hm']
          refine valR_mono bs _ _ ?_ (al m' t hm')
          have := mono_m he hm' hm ht (h2 m' hm')
          rw [far_m hm ht h2, erase_hi hu (lM_mem hm) h1] at this
          exact this
end
/-! #### all rounds -/
def wishS (w : Bool) : Str := if w then PySem.Str.ofString "mine" else PySem.Str.ofString "theirs"
def bitsW (w : Bool) (cs : List Nat) : List Bool := cs.map fun c => (c == 77) == w
/-! #### the value by counting letters -/
end Cm

set_option Elab.async false
set_option linter.all false
set_option maxRecDepth 100000
set_option maxHeartbeats 4000000
/-! ### words and values by counting -/
namespace Cm
open PySem PySem.Spec L2 Pv Rot
open Enc (enc)
open Encs (encs)
def m__law_words_b1 (x2 : Int) (s3 : (List Str)) : R ((List Str)) :=
  (R.bind (R.bind (R.bind (R.ok s3) fun l5 => compR (fun x4 : Str => (R.ok true)) (fun x4 : Str => (R.of (addS x4 (PySem.Str.ofString "M")))) l5) fun t8 => R.bind (R.bind (R.ok s3) fun l7 => compR (fun x6 : Str => (R.ok true)) (fun x6 : Str => (R.of (addS x6 (PySem.Str.ofString "T")))) l7) fun t9 => (R.of (catL t8 t9))) fun v_words_10 => (R.ok (v_words_10)))
def m__law_words (v_count : Int) : R (List Str) :=
  (R.lt ([(PySem.Str.ofString "")] : (List Str)) fun v_words_1 => (R.bind (R.of (rngO 0 v_count)) fun l11 => R.bind (foldR m__law_words_b1 l11 (v_words_1)) fun s3 => (R.ok s3)))
/-- all words of n letters -/
def AllW (n : Nat) (ws : List Str) : Prop := ws.length = 2 ^ n ∧ (∀ w, w ∈ ws → (cps w).length = n ∧ ∀ c, c ∈ cps w → okL c = true) ∧ ∀ cs : List Nat, cs.length = n → (∀ c, c ∈ cs → okL c = true) → ∃ w, w ∈ ws ∧ cps w = cs
/-- two rows of one length with the same values under all words are one -/
def wordK (i n : Nat) : List Nat := List.replicate i 77 ++ List.replicate (n - i) 84
end Cm

set_option Elab.async false
set_option linter.all false
set_option maxRecDepth 100000
set_option maxHeartbeats 4000000
/-! ### the rows that there are; texts by counting -/
namespace Cm
open PySem PySem.Spec L2 Pv Rot
open Enc (enc)
open Encs (encs)
/-- a row of heights: the first and the last entry; none is left out between -/
def Good (xs : List Int) : Prop := xs ≠ [] → ∃ a b, xs[0]? = some a ∧ xs[xs.length - 1]? = some b ∧ (∀ h, 0 ≤ h → h ≤ b → h ∈ xs) ∧ (∀ h, a ≤ h → h < 0 → h ∈ xs) ∧ -200 ≤ a ∧ a ≤ 200 ∧ -200 ≤ b ∧ b ≤ 200
section
variable {mine theirs : List Int}
end
theorem Good.up {xs : List Int} (h : Good xs) {p : Nat} {x : Int} (h0 : 0 < p) (h1 : p + 1 < xs.length) (h2 : xs[p]? = some x) (h3 : xs[p - 1]? = some x) (y : Int) : Good (xs.take p ++ [y] ++ xs.drop (p + 1)) := fun _ => by
  obtain ⟨a, b, ea, eb, ua, da, bd⟩ := h fun e => by rw [e] at h1; simp at h1
  have hl : (xs.take p ++ [y] ++ xs.drop (p + 1)).length = xs.length := by
    rw [List.length_append, List.length_append, List.length_take, List.length_drop, List.length_singleton]; omega
  have e : xs.take p ++ [y] ++ xs.drop (p + 1) = xs.set p y := by
    rw [List.set_eq_take_append_cons_drop, if_pos (by omega)]
    simp
  rw [e] at hl ⊢
  have mem : ∀ h, h ∈ xs → h ∈ xs.set p y := fun h hh => by
    obtain ⟨j, hj, ej⟩ := List.getElem_of_mem hh
    by_cases z : j = p
    · subst z
      have : h = x := by rw [List.getElem?_eq_getElem hj, ej] at h2; exact Option.some.inj h2
      subst this
      have : (xs.set j y)[j - 1]? = some h := by rw [List.getElem?_set_ne (by omega)]; exact h3
      exact List.mem_of_getElem? this
    · have : (xs.set p y)[j]? = some h := by rw [List.getElem?_set_ne (by omega), List.getElem?_eq_getElem hj, ej]
      exact List.mem_of_getElem? this
  exact ⟨a, b, by rw [List.getElem?_set_ne (by omega)]; exact ea, by rw [hl, List.getElem?_set_ne (by omega)]; exact eb, fun h p q => mem h (ua h p q), fun h p q => mem h (da h p q), bd⟩
/-! #### texts -/
end Cm

set_option Elab.async false
set_option linter.all false
set_option maxRecDepth 100000
set_option maxHeartbeats 4000000
/-! ### words, strikes and values of the program -/
namespace Cm
open PySem PySem.Spec L2 Pv Rot
open Enc (enc)
open Encs (encs)
def m_laying_side (v_letter : Str) : R Str :=
  (R.ok (if (decide (v_letter = (PySem.Str.ofString "M"))) then (PySem.Str.ofString "mine") else (PySem.Str.ofString "theirs")))
def m_check_letters_b1 (x1 : (Tp (Int × Str × Unit))) (s2 : Unit) : R (Unit) :=
  (R.ifm (R.ok (!(encs (Tp.mk ((PySem.Str.ofString "M"), (PySem.Str.ofString "T"), ()) : (Tp (Str × Str × Unit))).t).any fun z => eqP z (enc x1.t.2.1))) (R.raise 2 [enc (x1.t.1 : Int)]) (R.ok ()))
def m_check_letters (v_word : Str) : R Unit :=
  (R.bind (R.ok (enumF (strL v_word))) fun l3 => R.bind (foldR m_check_letters_b1 l3 ()) fun s2 => (R.ok ()))
def m_check_word (v_word : Str) (v_length : Int) : R Unit :=
  (R.bind (m_check_letters v_word) fun _ => (R.ifm (R.ok (!decide ((v_word.length : Int) = v_length))) (R.raise 2 [enc ((if v_length < (v_word.length : Int) then v_length else (v_word.length : Int)) : Int)]) (R.ok ())))
def m_check_word_within (v_word : Str) (v_limit : Int) : R Unit :=
  (R.bind (m_check_letters v_word) fun _ => (R.ifm (R.ok (decide (v_limit < (v_word.length : Int)))) (R.raise 2 [enc (v_limit : Int)]) (R.ok ())))
def m_struck_once (v_row : (List Int)) (v_letter : Str) (v_many : Str) : R (List Int) :=
  (R.ifm (R.bind (m_laying_side v_letter) fun t1 => (R.ok (decide (t1 = v_many)))) (R.ok (cutL v_row (some (1 : Int)) none)) (R.ok ((cutL v_row none (some (-(1 : Int)))).map fun x2 : Int => (x2 + (1 : Int)))))
def m_struck_b1 (v_many : Str) (x2 : Str) (s3 : (List Int)) : R ((List Int)) :=
  (R.bind ((m_struck_once s3 x2 v_many)).nox fun v_left_4 => (R.ok (v_left_4)))
def m_struck (v_row : (List Int)) (v_word : Str) (v_many : Str) : R (List Int) :=
  (R.bind (m_check_word_within v_word (v_row.length : Int)) fun _ => (R.lt v_row fun v_left_1 => (R.bind (R.ok (strL v_word)) fun l5 => R.bind (foldR (m_struck_b1 v_many) l5 (v_left_1)) fun s3 => (R.ok s3))))
def m_value (v_row : (List Int)) (v_word : Str) (v_many : Str) : R Int :=
  (R.bind (m_check_word v_word (v_row.length : Int)) fun _ => (R.ifm (R.ok (!(Tru.tru v_row))) (R.ok (0 : Int)) (R.bind (R.bind (m_struck v_row (cutS v_word none (some (-(1 : Int)))) v_many) fun t1 => (R.of (atI t1 (0 : Int)))) fun t2 => (R.ok (t2 + (1 : Int))))))
def m_all_values (v_row : (List Int)) : R (List Int) :=
  (R.ifm (R.ok (!(Tru.tru v_row))) (R.ok ([(0 : Int)] : (List Int))) (R.ok ((enumF v_row.reverse).map fun x1 : (Tp (Int × Int × Unit)) => ((x1.t.1 + (1 : Int)) + x1.t.2.1))))
def m__law_word (v_cell : Int) (v_count : Int) : R Str :=
  (R.bind (R.bind (R.bind (R.bind (R.of (rngO 0 v_count)) fun l2 => R.ok (l2.map fun x1 : Int => (2 : Int))) fun t3 => (m__law_draws v_cell t3)) fun l5 => compR (fun x4 : Int => (R.ok true)) (fun x4 : Int => (R.of (atS (PySem.Str.ofString "MT") x4))) l5) fun t6 => (R.of (joinS (PySem.Str.ofString "") t6)))
def m__law_sign (v_cell : Int) : R Str :=
  (R.lt (PySem.Str.ofString "mtNX0 -1_.,;:!?*+/()[]{}<>=&#$@^|~'\\\"\n\tABCDEFGHIJKLOPQRSUVWYZabcdefghijklnopqrsuvwxyz23456789") fun v_signs_1 => (R.bind (R.of (modO v_cell (v_signs_1.length : Int))) fun t2 => (R.of (atS v_signs_1 t2))))
def m__law_spoilt (v_word : Str) (v_kind : Int) (v_at : Int) (v_sign : Str) : R Str :=
  (R.bind (R.of (modO v_at ((v_word.length : Int) + (1 : Int)))) fun v_place_1 => (R.ifm (R.ok (decide (v_kind = (0 : Int)))) (R.bind (R.of (addS (cutS v_word none (some v_place_1)) v_sign)) fun t3 => (R.of (addS t3 (cutS v_word (some (v_place_1 + (1 : Int))) none)))) (R.ifm (R.ok (decide (v_kind = (1 : Int)))) (R.of (addS v_word (PySem.Str.ofString "M"))) (R.ifm (R.ok ((decide (v_kind = (2 : Int))) && (decide ((0 : Int) < (v_word.length : Int))))) (R.bind (R.of (modO v_at (v_word.length : Int))) fun t4 => (R.ok (cutS v_word none (some t4)))) (R.ifm (R.ok (decide (v_kind = (3 : Int)))) (R.bind (R.of (addS v_word (PySem.Str.ofString "T"))) fun t6 => (R.of (addS t6 v_sign))) (R.ifm (R.ok (decide (v_kind = (4 : Int)))) (R.bind (R.bind (R.of (addS (cutS v_word none (some v_place_1)) v_sign)) fun t8 => (R.of (addS t8 (cutS v_word (some (v_place_1 + (1 : Int))) none)))) fun t10 => (R.of (addS t10 (PySem.Str.ofString "m")))) (R.ifm (R.ok ((decide (v_kind = (5 : Int))) && (decide ((1 : Int) < (v_word.length : Int))))) (R.bind (R.bind (R.of (modO v_at ((v_word.length : Int) - (1 : Int)))) fun t11 => (R.ok (cutS v_word none (some t11)))) fun t13 => (R.of (addS t13 v_sign))) (R.bind (R.of (addS (cutS v_word none (some v_place_1)) v_sign)) fun t15 => (R.of (addS t15 (cutS v_word (some v_place_1) none)))))))))))
def m__law_wrong_at (v_word : Str) (v_count : Int) : R Int :=
  (R.bind (R.bind (R.of (rngO 0 (v_word.length : Int))) fun l5 => compR (fun x1 : Int => (R.bind (R.bind (R.of (atS v_word x1)) fun t2 => (R.ok (!decide (t2 = (PySem.Str.ofString "M"))))) fun t4 => (R.ite t4 (R.bind (R.of (atS v_word x1)) fun t3 => (R.ok (!decide (t3 = (PySem.Str.ofString "T"))))) (R.ok false)))) (fun x1 : Int => (R.ok x1)) l5) fun v_wrong_6 => (R.ifm (R.ok (decide ((0 : Int) < (v_wrong_6.length : Int)))) (R.of (atI v_wrong_6 (0 : Int))) (R.ifm (R.ok (!decide ((v_word.length : Int) = v_count))) (R.ok (if v_count < (v_word.length : Int) then v_count else (v_word.length : Int))) (R.ok (-(1 : Int))))))
def chkE (cs : List Nat) (n : Nat) : Option Nat := match firstBad cs with
  | some i => some i
  | none => if cs.length = n then none else some (min cs.length n)
theorem once_is (row : List Int) (c m : Nat) (hc : okL c = true) (hm : okL m = true) : m_struck_once row (ch c) (manyS m) = .ok (st1 (c == m) row) := by
  unfold m_struck_once m_laying_side
  rw [ofM, ch_dec]
  unfold okL at hc hm
  rw [Bool.or_eq_true, beq_iff_eq, beq_iff_eq] at hc hm
  have e1 : cutL row (some (1 : Int)) none = row.drop 1 := cutL_from (by decide)
  have key : ∀ b : Bool, R.ite b (R.ok (cutL row (some (1 : Int)) none)) (R.ok ((cutL row none (some (-(1 : Int)))).map fun x2 : Int => (x2 + (1 : Int)))) = R.ok (st1 b row) := fun b => by
    cases b with
    | true =>
      show R.ok (cutL row (some (1 : Int)) none) = _
      rw [e1]
      rfl
    | false =>
      show R.ok ((cutL row none (some (-(1 : Int)))).map _) = _
      rw [cut_last]
      rfl
  rcases hc with rfl | rfl <;> rcases hm with rfl | rfl
  · exact (congrArg (fun b => R.ite b _ _) (decide_eq_true (p := PySem.Str.ofString "mine" = PySem.Str.ofString "mine") rfl)).trans (key true)
  · exact (congrArg (fun b => R.ite b _ _) (decide_eq_false (p := PySem.Str.ofString "mine" = PySem.Str.ofString "theirs") (by rw [mt_ne.2]; exact id))).trans (key false)
  · exact (congrArg (fun b => R.ite b _ _) (decide_eq_false (p := PySem.Str.ofString "theirs" = PySem.Str.ofString "mine") (by rw [mt_ne.1]; exact id))).trans (key false)
  · exact (congrArg (fun b => R.ite b _ _) (decide_eq_true (p := PySem.Str.ofString "theirs" = PySem.Str.ofString "theirs") rfl)).trans (key true)
def valF (m : Nat) (row : List Int) (cs : List Nat) : Int := match strikes m row (cs.take (cs.length - 1)) with
  | [] => 0
  | x :: _ => x + 1
def cntN (c : Nat) (cs : List Nat) : Nat := (cs.filter (· == c)).length
def rw_ (row : List Int) (j : Nat) : Int := row.getD j 0
def wv (row : List Int) (a : Nat) : Int := rw_ row a + ((row.length - 1 - a : Nat) : Int) + 1
def Stp1 (row : List Int) : Prop := ∀ i, i + 1 < row.length → rw_ row i ≤ rw_ row (i + 1) ∧ rw_ row (i + 1) ≤ rw_ row i + 1
def wl (row : List Int) : List Int := if row.length = 0 then [0] else (List.range row.length).map fun x => wv row (row.length - 1 - x)
end Cm

set_option Elab.async false
set_option linter.all false
set_option maxRecDepth 100000
set_option maxHeartbeats 4000000
/-! ### exact results -/
namespace Cm
open PySem PySem.Spec L2 Pv Rot
open Enc (enc)
open Encs (encs)
section
variable {mine theirs : List Int}
/-! #### the entries of a row rise by at most one -/
/-! #### entries of a row with one entry less -/
/-! #### they lay: any card of theirs can be answered -/
/-! #### valleys and peaks -/
end
end Cm

set_option Elab.async false
set_option linter.all false
set_option maxRecDepth 100000
set_option maxHeartbeats 4000000
/-! ### exact results: my lays -/
namespace Cm
open PySem PySem.Spec L2 Pv Rot
open Enc (enc)
open Encs (encs)
section
variable {mine theirs : List Int}
/-! #### I lay -/
end
end Cm

set_option Elab.async false
set_option linter.all false
set_option maxRecDepth 100000
set_option maxHeartbeats 4000000
/-! ### exact results: the recursion over all plays -/
namespace Cm
open PySem PySem.Spec L2 Pv Rot
open Enc (enc)
open Encs (encs)
def m__law_all_plays_b1 (v_mine : (List Int)) (v_theirs : (List Int)) (v_word : Str) (m_rec : (List Int) → (List Int) → Str → R (List Bool)) (v_count_1 : Int) (v_mine_lays_3 : Bool) (x7 : Int) (x12 : Int) (s13 : (List Bool)) : R ((List Bool)) :=
  (R.bind (R.of (atI ([x12, x7] : (List Int)) (if v_mine_lays_3 then (1 : Int) else 0))) fun v_m_14 => (R.bind (R.of (atI ([x7, x12] : (List Int)) (if v_mine_lays_3 then (1 : Int) else 0))) fun v_t_15 => (R.bind (R.bind (R.of (catL (cutL v_mine none (some v_m_14)) (cutL v_mine (some (v_m_14 + (1 : Int))) none))) fun t16 => R.bind (R.of (catL (cutL v_theirs none (some v_t_15)) (cutL v_theirs (some (v_t_15 + (1 : Int))) none))) fun t17 => (m_rec t16 t17 (cutS v_word (some (1 : Int)) none))) fun v_rest_18 => (R.bind (R.of (catL v_rest_18 ([false] : (List Bool)))) fun v_here_19 => (R.bind (R.ifm (R.bind (R.of (atI v_mine v_m_14)) fun t20 => R.bind (R.of (atI v_theirs v_t_15)) fun t21 => (R.ok (decide (t21 ≤ t20)))) (R.bind (R.of (catL ([false] : (List Bool)) v_rest_18)) fun v_here_24 => (R.ok (v_here_24))) (R.ok (v_here_19))) fun s23 => (R.bind (R.ifm (R.ok v_mine_lays_3) (R.bind (R.bind (R.of (rngO 0 (v_count_1 + (1 : Int)))) fun l36 => compR (fun x34 : Int => (R.ok true)) (fun x34 : Int => (R.bind (R.of (atI s13 x34)) fun t35 => (R.ite t35 (R.of (atI s23 x34)) (R.ok false)))) l36) fun v_inner_37 => (R.ok (v_inner_37))) (R.bind (R.bind (R.of (rngO 0 (v_count_1 + (1 : Int)))) fun l40 => compR (fun x38 : Int => (R.ok true)) (fun x38 : Int => (R.bind (R.of (atI s13 x38)) fun t39 => (R.ite t39 (R.ok true) (R.of (atI s23 x38))))) l40) fun v_inner_41 => (R.ok (v_inner_41)))) fun s33 => (R.ok (s33))))))))
def m__law_all_plays_b2 (v_mine : (List Int)) (v_theirs : (List Int)) (v_word : Str) (m_rec : (List Int) → (List Int) → Str → R (List Bool)) (v_count_1 : Int) (v_mine_lays_3 : Bool) (x7 : Int) (s8 : (List Bool)) : R ((List Bool)) :=
  (R.bind (R.bind (R.of (rngO 0 (v_count_1 + (1 : Int)))) fun l10 => R.ok (l10.map fun x9 : Int => v_mine_lays_3)) fun v_inner_11 => (R.bind (R.of (rngO 0 v_count_1)) fun l59 => R.bind (foldR (m__law_all_plays_b1 v_mine v_theirs v_word m_rec v_count_1 v_mine_lays_3 x7) l59 (v_inner_11)) fun s13 => (R.bind (R.ifm (R.ok v_mine_lays_3) (R.bind (R.bind (R.of (rngO 0 (v_count_1 + (1 : Int)))) fun l53 => compR (fun x51 : Int => (R.ok true)) (fun x51 : Int => (R.bind (R.of (atI s8 x51)) fun t52 => (R.ite t52 (R.ok true) (R.of (atI s13 x51))))) l53) fun v_outer_54 => (R.ok (v_outer_54))) (R.bind (R.bind (R.of (rngO 0 (v_count_1 + (1 : Int)))) fun l57 => compR (fun x55 : Int => (R.ok true)) (fun x55 : Int => (R.bind (R.of (atI s8 x55)) fun t56 => (R.ite t56 (R.of (atI s13 x55)) (R.ok false)))) l57) fun v_outer_58 => (R.ok (v_outer_58)))) fun s50 => (R.ok (s50)))))
def m__law_all_plays_s (m_rec : (List Int) → (List Int) → Str → R (List Bool)) (v_mine : (List Int)) (v_theirs : (List Int)) (v_word : Str) : R (List Bool) :=
  (R.lt (v_mine.length : Int) fun v_count_1 => (R.ifm (R.ok (decide (v_count_1 = (0 : Int)))) (R.ok ([true] : (List Bool))) (R.bind (R.bind (R.of (atS v_word (0 : Int))) fun t2 => (R.ok (decide (t2 = (PySem.Str.ofString "M"))))) fun v_mine_lays_3 => (R.bind (R.bind (R.of (rngO 0 (v_count_1 + (1 : Int)))) fun l5 => R.ok (l5.map fun x4 : Int => (!v_mine_lays_3))) fun v_outer_6 => (R.bind (R.of (rngO 0 v_count_1)) fun l60 => R.bind (foldR (m__law_all_plays_b2 v_mine v_theirs v_word m_rec v_count_1 v_mine_lays_3) l60 (v_outer_6)) fun s8 => (R.ok s8))))))
def m__law_all_plays : Nat → (List Int) → (List Int) → Str → R (List Bool)
  | 0 => fun _ _ _ => .bad
  | fuel + 1 => m__law_all_plays_s (m__law_all_plays fuel)
def mapR (n : Nat) (f : Nat → Bool) : List Bool := (List.range (n + 1)).map f
def bop (b p q : Bool) : Bool := if b then p && q else p || q
def opL (b : Bool) (L : List Nat) (g : Nat → Bool) : Bool := if b then L.all g else L.any g
section
variable {mine theirs : List Int}
/-! #### steady words -/
def Std (cs : List Nat) : Prop := ∀ i, ((cs.take (cs.length - 1)).drop i).count 77 ≤ ((cs.take (cs.length - 1)).drop i).length - ((cs.take (cs.length - 1)).drop i).count 77
end
end Cm

set_option Elab.async false
set_option linter.all false
set_option maxRecDepth 100000
set_option maxHeartbeats 4000000
/-! ### exact results: all plays -/
namespace Cm
open PySem PySem.Spec L2 Pv Rot
open Enc (enc)
open Encs (encs)
def inR (lo hi : Int) (k : Nat) : Bool := decide (lo ≤ (k : Int) ∧ (k : Int) ≤ hi)
theorem ite_t {α : Type} {m n : R α} : R.ite true m n = m := rfl
theorem ite_f {α : Type} {m n : R α} : R.ite false m n = n := rfl
end Cm

set_option Elab.async false
set_option linter.all false
set_option maxRecDepth 100000
set_option maxHeartbeats 4000000
/-! ### the ring from a card on: who is met first, who last -/
namespace Cm
open PySem PySem.Spec L2 Pv Rot
section
variable {mine theirs : List Int}
def ringR (S : List Card) (p : Nat) : List Card := S.drop (p + 1) ++ S.take p
end
end Cm

set_option Elab.async false
set_option linter.all false
set_option maxRecDepth 100000
set_option maxHeartbeats 2000000
/-! ### own exceptions without fields: C(), C's __init__ hands a text up and stores nothing -/
namespace Pv
open PySem PySem.Spec PyProof.Rows L2 PySem.W PySem.Calls
open Enc (enc)
open Encs (encs)
/-- what is promised of such an __init__ -/
def SpExZ (C : Addr) : Sp := fun vs H Q _ => ∃ a : Addr, vs = [.ref a] ∧ H a = some (exo a C none) ∧ Q .non H
/-- C() -/
def tMkZ (C : Addr) (sp : Sp) : L2.St → Hp → XK → Prop := fun _ H Q => ∀ a, H a = none → sp [.ref a] (upd H a (exo a C none)) (fun v H2 => v = .non ∧ H2 a = some (exo a C none) ∧ Q (.ref C) none (del H2 a)) (fun _ _ _ => False)
/-- an own exception class without fields: what the top has written of it -/
structure KdZ (P : Program) (w : World) (K : PySem.W.Frag) (mg : Str → Option Value) (base : Heap) (T : CT) (c : Nat) (x : Str) (ps : List Str) : Prop where
  fl : T.fld c = []
  oc : OexC K (T.addr c)
  gm : mg x = some (.ref (T.addr c))
  ini : ∃ fI fd, PySem.W.findIn K (.ref (T.addr c)) "__init__" = some (some (.ref fI)) ∧ PySem.W.typeIn K (.ref fI) = some (.type "function") ∧ Binds K fd ps [] ∧ FnOk P w K mg base CX0 3 fI fd ps (SpExZ (T.addr c))
end Pv

set_option Elab.async false
set_option linter.all false
set_option maxRecDepth 100000
set_option maxHeartbeats 2000000
/-! ### objects with state: paths, a cell deep within changes -/
namespace Pv
open PySem PySem.Spec L2
open Enc (enc)
open Encs (encs)
def gtP : PV → List Nat → Option PV
  | p, [] => some p
  | .lst ps, k :: π => (ps[k]?).bind fun q => gtP q π
  | .tup ps, k :: π => (ps[k]?).bind fun q => gtP q π
  | .obj _ ps, k :: π => (ps[k]?).bind fun q => gtP q π
  | .dic _ ps, k :: π => (ps[k]?).bind fun q => gtP q π
  | _, _ :: _ => none
def stP : PV → List Nat → PV → PV
  | _, [], q => q
  | .lst ps, k :: π, q => .lst (ps.set k (stP (ps.getD k .non) π q))
  | .tup ps, k :: π, q => .tup (ps.set k (stP (ps.getD k .non) π q))
  | .obj c ps, k :: π, q => .obj c (ps.set k (stP (ps.getD k .non) π q))
  | .dic ks ps, k :: π, q => .dic ks (ps.set k (stP (ps.getD k .non) π q))
  | p, _ :: _, _ => p
theorem getD_at {α : Type} {xs : List α} {k : Nat} {x d : α} (h : xs[k]? = some x) : xs.getD k d = x := by
  rw [List.getD_eq_getElem?_getD, h]
  rfl
theorem gtP_app : ∀ (π ρ : List Nat) {p q : PV}, gtP p π = some q → gtP p (π ++ ρ) = gtP q ρ
  | [], ρ, p, q, h => by
    unfold gtP at h
    cases h
    rfl
  | k :: π, ρ, p, q, h => by
    cases p with
    | lst ps =>
      obtain ⟨x, h1, h2⟩ := Option.bind_eq_some_iff.mp (show (ps[k]?).bind (fun q => gtP q π) = some q from h)
      show (ps[k]?).bind (fun q => gtP q (π ++ ρ)) = _
      rw [h1]
      exact gtP_app π ρ h2
    | tup ps =>
      obtain ⟨x, h1, h2⟩ := Option.bind_eq_some_iff.mp (show (ps[k]?).bind (fun q => gtP q π) = some q from h)
      show (ps[k]?).bind (fun q => gtP q (π ++ ρ)) = _
      rw [h1]
      exact gtP_app π ρ h2
    | obj c ps =>
      obtain ⟨x, h1, h2⟩ := Option.bind_eq_some_iff.mp (show (ps[k]?).bind (fun q => gtP q π) = some q from h)
      show (ps[k]?).bind (fun q => gtP q (π ++ ρ)) = _
      rw [h1]
      exact gtP_app π ρ h2
    | dic ks ps =>
      obtain ⟨x, h1, h2⟩ := Option.bind_eq_some_iff.mp (show (ps[k]?).bind (fun q => gtP q π) = some q from h)
      show (ps[k]?).bind (fun q => gtP q (π ++ ρ)) = _
      rw [h1]
      exact gtP_app π ρ h2
    | non => unfold gtP at h; cases h
    | bl b => unfold gtP at h; cases h
    | int b => unfold gtP at h; cases h
    | str b => unfold gtP at h; cases h
    | scr b => unfold gtP at h; cases h
theorem stP_app : ∀ (π ρ : List Nat) {p q r : PV}, gtP p π = some q → stP p (π ++ ρ) r = stP p π (stP q ρ r)
  | [], ρ, p, q, r, h => by
    unfold gtP at h
    cases h
    cases p <;> rfl
  | k :: π, ρ, p, q, r, h => by
    cases p with
    | lst ps =>
      obtain ⟨x, h1, h2⟩ := Option.bind_eq_some_iff.mp (show (ps[k]?).bind (fun q => gtP q π) = some q from h)
      show PV.lst (ps.set k (stP (ps.getD k .non) (π ++ ρ) r)) = PV.lst (ps.set k (stP (ps.getD k .non) π (stP q ρ r)))
      rw [getD_at h1, stP_app π ρ h2]
    | tup ps =>
      obtain ⟨x, h1, h2⟩ := Option.bind_eq_some_iff.mp (show (ps[k]?).bind (fun q => gtP q π) = some q from h)
      show PV.tup (ps.set k (stP (ps.getD k .non) (π ++ ρ) r)) = PV.tup (ps.set k (stP (ps.getD k .non) π (stP q ρ r)))
      rw [getD_at h1, stP_app π ρ h2]
    | obj c ps =>
      obtain ⟨x, h1, h2⟩ := Option.bind_eq_some_iff.mp (show (ps[k]?).bind (fun q => gtP q π) = some q from h)
      show PV.obj c (ps.set k (stP (ps.getD k .non) (π ++ ρ) r)) = PV.obj c (ps.set k (stP (ps.getD k .non) π (stP q ρ r)))
      rw [getD_at h1, stP_app π ρ h2]
    | dic ks ps =>
      obtain ⟨x, h1, h2⟩ := Option.bind_eq_some_iff.mp (show (ps[k]?).bind (fun q => gtP q π) = some q from h)
      show PV.dic ks (ps.set k (stP (ps.getD k .non) (π ++ ρ) r)) = PV.dic ks (ps.set k (stP (ps.getD k .non) π (stP q ρ r)))
      rw [getD_at h1, stP_app π ρ h2]
    | non => unfold gtP at h; cases h
    | bl b => unfold gtP at h; cases h
    | int b => unfold gtP at h; cases h
    | str b => unfold gtP at h; cases h
    | scr b => unfold gtP at h; cases h
def kid (H : Hp) (a : Addr) (k : Nat) (w : V) : Prop := (∃ vs, H a = some (.lst vs) ∧ vs[k]? = some w) ∨ (∃ vs, H a = some (.tup vs) ∧ vs[k]? = some w) ∨ (∃ C dx fs n, H a = some (.ins C dx fs) ∧ fs[k]? = some (n, w)) ∨ (∃ kvs n, H a = some (.dK kvs) ∧ kvs[k]? = some (n, w))
theorem kid.fn {H : Hp} {a : Addr} {k : Nat} {w z : V} (h : kid H a k w) (g : kid H a k z) : w = z := by
  rcases h with ⟨vs, e, f⟩ | ⟨vs, e, f⟩ | ⟨C, dx, fs, n, e, f⟩ | ⟨kvs, n, e, f⟩ <;> rcases g with ⟨us, e', f'⟩ | ⟨us, e', f'⟩ | ⟨C', dx', fs', n', e', f'⟩ | ⟨kvs', n', e', f'⟩ <;> rw [e] at e' <;> cases e' <;> rw [f] at f' <;> cases f' <;> rfl
theorem kid.same {H H' : Hp} (s : Same H H') {a : Addr} {k : Nat} {w : V} (h : kid H a k w) : kid H' a k w := by
  rcases h with ⟨vs, e, f⟩ | ⟨vs, e, f⟩ | ⟨C, dx, fs, n, e, f⟩ | ⟨kvs, n, e, f⟩
  · exact .inl ⟨vs, s _ _ e, f⟩
  · exact .inr (.inl ⟨vs, s _ _ e, f⟩)
  · exact .inr (.inr (.inl ⟨C, dx, fs, n, s _ _ e, f⟩))
  · exact .inr (.inr (.inr ⟨kvs, n, s _ _ e, f⟩))
def AtO (H : Hp) : V → List Nat → V → Prop
  | v, [], u => u = v
  | v, k :: π, u => ∃ a w, v = .ref a ∧ kid H a k w ∧ AtO H w π u
theorem AtO.fn {H : Hp} : ∀ {π : List Nat} {v u w : V}, AtO H v π u → AtO H v π w → u = w
  | [], _, _, _, h, k => Eq.trans (show _ = _ from h) (Eq.symm (show _ = _ from k))
  | x :: π, v, u, w, h, k => by
    obtain ⟨a, z, e1, e2, e3⟩ := h
    obtain ⟨b, y, f1, f2, f3⟩ := k
    rw [e1] at f1
    cases f1
    cases e2.fn f2
    exact AtO.fn e3 f3
theorem AtO.same {H H' : Hp} (s : Same H H') : ∀ {π : List Nat} {v u : V}, AtO H v π u → AtO H' v π u
  | [], _, _, h => h
  | x :: π, v, u, h => by
    obtain ⟨a, z, e1, e2, e3⟩ := h
    exact ⟨a, z, e1, e2.same s, AtO.same s e3⟩
theorem AtO.app {H : Hp} : ∀ {π ρ : List Nat} {v u w : V}, AtO H v π u → AtO H u ρ w → AtO H v (π ++ ρ) w
  | [], ρ, v, u, w, h, k => by
    have h : u = v := h
    rw [← h]
    exact k
  | x :: π, ρ, v, u, w, h, k => by
    obtain ⟨a, z, e1, e2, e3⟩ := h
    exact ⟨a, z, e1, e2, AtO.app e3 k⟩
theorem zip_get {α β : Type} {ks : List α} {vs : List β} {k : Nat} {w : β} (h : vs.length ≤ ks.length) (e : vs[k]? = some w) : ∃ n, (ks.zip vs)[k]? = some (n, w) := by
  have hk := (List.getElem?_eq_some_iff.mp e).1
  have hk2 : k < ks.length := by omega
  refine ⟨ks[k], ?_⟩
  rw [List.getElem?_zip_eq_some]
  exact ⟨List.getElem?_eq_getElem hk2, e⟩
theorem set_at {α : Type} {xs : List α} {k : Nat} {x : α} (h : xs[k]? = some x) : xs.set k x = xs := by
  apply List.ext_getElem?
  intro j
  by_cases e : k = j
  · subst e
    rw [List.getElem?_set_self (List.getElem?_eq_some_iff.mp h).1, h]
  · rw [List.getElem?_set_ne e]
theorem perm_mid {bs rest a1 a2 a3 : List Addr} (h : a2.Perm (bs ++ rest)) : (a1 ++ (a2 ++ a3)).Perm (bs ++ (a1 ++ (rest ++ a3))) := by
  refine List.perm_iff_count.mpr fun x => ?_
  have := h.count_eq x
  simp only [List.count_append] at this ⊢
  omega
theorem perm_top {a : Addr} {bs rest as : List Addr} (h : as.Perm (bs ++ rest)) : (a :: as).Perm (bs ++ (a :: rest)) := by
  refine List.perm_iff_count.mpr fun x => ?_
  have := h.count_eq x
  simp only [List.count_append, List.count_cons] at this ⊢
  omega
section
variable {T : CT} {H H' : Hp}
/-- the items along a path -/
theorem OwnL.walk {ps : List PV} {vs : List V} {cs : List Addr} {k : Nat} {q1 q : PV} {π : List Nat} (hk : ps[k]? = some q1) (o : OwnL T H ps vs cs)
    (ih : ∀ {v : V} {as : List Addr}, Own T H q1 v as → ∃ u bs rest, AtO H v π u ∧ as.Perm (bs ++ rest) ∧ Own T H q u bs ∧ ∀ (H2 : Hp) (r : PV) (bs' : List Addr), (∀ a us, H a = some (.tup us) → H2 a = some (.tup us)) → (∀ a, a ∈ rest → H a = H2 a) → Own T H2 r u bs' → ∃ as', as'.Perm (bs' ++ rest) ∧ Own T H2 (stP q1 π r) v as') :
    ∃ w u bs rest, vs[k]? = some w ∧ AtO H w π u ∧ cs.Perm (bs ++ rest) ∧ Own T H q u bs ∧ ∀ (H2 : Hp) (r : PV) (bs' : List Addr), (∀ a us, H a = some (.tup us) → H2 a = some (.tup us)) → (∀ a, a ∈ rest → H a = H2 a) → Own T H2 r u bs' → ∃ as', as'.Perm (bs' ++ rest) ∧ OwnL T H2 (ps.set k (stP (ps.getD k .non) π r)) vs as' := by
  obtain ⟨w, a1, a2, a3, e1, e2, e3, back⟩ := OwnL.item2 ps o hk
  obtain ⟨u, bs, rest, f1, f2, f3, back1⟩ := ih e3
  refine ⟨w, u, bs, a1 ++ (rest ++ a3), e1, f1, by rw [e2]; exact perm_mid f2, f3, fun H2 r bs' tu lo ow => ?_⟩
  obtain ⟨as', g1, g2⟩ := back1 H2 r bs' tu (fun a ha => lo a (by simp [ha])) ow
  refine ⟨a1 ++ (as' ++ a3), perm_mid g1, ?_⟩
  have := back H2 (stP q1 π r) w as' tu (fun a ha => lo a (by rcases ha with ha | ha <;> simp [ha])) g2
  rw [set_at e1] at this
  rw [getD_at hk]
  exact this
theorem Own.walk : ∀ (π : List Nat) {p q : PV} {v : V} {as : List Addr}, Own T H p v as → gtP p π = some q →
    ∃ u bs rest, AtO H v π u ∧ as.Perm (bs ++ rest) ∧ Own T H q u bs ∧ ∀ (H2 : Hp) (r : PV) (bs' : List Addr), (∀ a us, H a = some (.tup us) → H2 a = some (.tup us)) → (∀ a, a ∈ rest → H a = H2 a) → Own T H2 r u bs' → ∃ as', as'.Perm (bs' ++ rest) ∧ Own T H2 (stP p π r) v as'
  | [], p, q, v, as, h, e => by
    unfold gtP at e
    cases e
    exact ⟨v, as, [], rfl, by simp, h, fun H2 r bs' _ _ ow => ⟨bs', by simp, by cases p <;> exact ow⟩⟩
  | k :: π, p, q, v, as, h, e => by
    cases p with
    | lst ps =>
      unfold gtP at e
      obtain ⟨q1, hk, e⟩ := Option.bind_eq_some_iff.mp e
      unfold Own at h
      obtain ⟨a, vs, cs, e1, e2, e3, e4, e5⟩ := h
      subst e1
      subst e2
      obtain ⟨w, u, bs, rest, g1, g2, g3, g4, back⟩ := OwnL.walk hk e5 (fun o => Own.walk π o e)
      refine ⟨u, bs, a :: rest, ⟨a, w, rfl, .inl ⟨vs, e3, g1⟩, g2⟩, perm_top g3, g4, fun H2 r bs' tu lo ow => ?_⟩
      obtain ⟨as', k1, k2⟩ := back H2 r bs' tu (fun b hb => lo b (List.mem_cons_of_mem _ hb)) ow
      refine ⟨a :: as', perm_top k1, ?_⟩
      unfold stP Own
      exact ⟨a, vs, as', rfl, rfl, by rw [← lo a (List.mem_cons_self ..)]; exact e3, e4, k2⟩
    | tup ps =>
      unfold gtP at e
      obtain ⟨q1, hk, e⟩ := Option.bind_eq_some_iff.mp e
      unfold Own at h
      obtain ⟨a, vs, e1, e3, e4, e5⟩ := h
      subst e1
      obtain ⟨w, u, bs, rest, g1, g2, g3, g4, back⟩ := OwnL.walk hk e5 (fun o => Own.walk π o e)
      refine ⟨u, bs, rest, ⟨a, w, rfl, .inr (.inl ⟨vs, e3, g1⟩), g2⟩, g3, g4, fun H2 r bs' tu lo ow => ?_⟩
      obtain ⟨as', k1, k2⟩ := back H2 r bs' tu lo ow
      refine ⟨as', k1, ?_⟩
      unfold stP Own
      exact ⟨a, vs, rfl, tu _ _ e3, e4, k2⟩
    | obj c ps =>
      unfold gtP at e
      obtain ⟨q1, hk, e⟩ := Option.bind_eq_some_iff.mp e
      unfold Own at h
      obtain ⟨a, dx, vs, cs, e1, e2, e3, e4, e5⟩ := h
      subst e1
      subst e2
      obtain ⟨w, u, bs, rest, g1, g2, g3, g4, back⟩ := OwnL.walk hk e5 (fun o => Own.walk π o e)
      obtain ⟨n, en⟩ := zip_get e4 g1
      refine ⟨u, bs, a :: rest, ⟨a, w, rfl, .inr (.inr (.inl ⟨_, dx, _, n, e3, en⟩)), g2⟩, perm_top g3, g4, fun H2 r bs' tu lo ow => ?_⟩
      obtain ⟨as', k1, k2⟩ := back H2 r bs' tu (fun b hb => lo b (List.mem_cons_of_mem _ hb)) ow
      refine ⟨a :: as', perm_top k1, ?_⟩
      unfold stP Own
      exact ⟨a, dx, vs, as', rfl, rfl, by rw [← lo a (List.mem_cons_self ..)]; exact e3, e4, k2⟩
    | dic ks ps =>
      unfold gtP at e
      obtain ⟨q1, hk, e⟩ := Option.bind_eq_some_iff.mp e
      unfold Own at h
      obtain ⟨a, vs, cs, e1, e2, e3, e4, e6, e5⟩ := h
      subst e1
      subst e2
      obtain ⟨w, u, bs, rest, g1, g2, g3, g4, back⟩ := OwnL.walk hk e5 (fun o => Own.walk π o e)
      obtain ⟨n, en⟩ := zip_get (Nat.le_of_eq e4.symm) g1
      refine ⟨u, bs, a :: rest, ⟨a, w, rfl, .inr (.inr (.inr ⟨_, n, e3, en⟩)), g2⟩, perm_top g3, g4, fun H2 r bs' tu lo ow => ?_⟩
      obtain ⟨as', k1, k2⟩ := back H2 r bs' tu (fun b hb => lo b (List.mem_cons_of_mem _ hb)) ow
      refine ⟨a :: as', perm_top k1, ?_⟩
      unfold stP Own
      exact ⟨a, vs, as', rfl, rfl, by rw [← lo a (List.mem_cons_self ..)]; exact e3, e4, e6, k2⟩
    | non => unfold gtP at e; cases e
    | bl b => unfold gtP at e; cases e
    | int b => unfold gtP at e; cases e
    | str b => unfold gtP at e; cases e
    | scr b => unfold gtP at e; cases e
end
/-- no thing of the older kind with addresses -/
def noR : List Sl → Prop
  | [] => True
  | .rs _ D _ :: r => (∀ a, ¬ D a) ∧ noR r
  | _ :: r => noR r
section
variable {C : Cn} {G : Addr → Prop} {Γ : List Sl} {hid : Hid} {os : List (Option Addr)} {σ : L2.St} {H : Hp} {i : Nat} {r0 : Option V} {p q : PV} {π : List Nat}
end
end Pv

set_option Elab.async false
set_option linter.all false
set_option maxRecDepth 100000
set_option maxHeartbeats 2000000
/-! ### objects with state: parts, methods, stores -/
namespace Pv
open PySem PySem.Spec L2
open Enc (enc)
open Encs (encs)
/-- a part of o: where it stands, what it is, o with another one there -/
structure Ln (ω : Type) [Enc ω] (o : ω) (τ : Type) [Enc τ] where
  π : List Nat
  s : τ
  put : τ → ω
  g : gtP (enc o) π = some (enc s)
  p : ∀ z, stP (enc o) π (enc z) = enc (put z)
def Ln.id {ω : Type} [Enc ω] (o : ω) : Ln ω o ω := ⟨[], o, fun z => z, rfl, fun z => by cases enc o <;> rfl⟩
def Ln.comp {ω τ ρ : Type} [Enc ω] [Enc τ] [Enc ρ] {o : ω} (l : Ln ω o τ) (L : Ln τ l.s ρ) : Ln ω o ρ := ⟨l.π ++ L.π, L.s, fun z => l.put (L.put z), (gtP_app _ _ l.g).trans L.g, fun z => by rw [stP_app _ _ l.g, L.p, l.p]⟩
/-- two sides' things -/
structure Sd (α : Type) where
  m : α
  t : α
def sMine : Str := "mine"
def sTheirs : Str := "theirs"
instance {α : Type} [Enc α] : Enc (Sd α) := ⟨fun d => .dic [.inr "mine", .inr "theirs"] [enc d.m, enc d.t]⟩
def Sd.get {α : Type} (d : Sd α) (s : Str) : R α := if s = "mine" then .ok d.m else if s = "theirs" then .ok d.t else .bad
def Sd.ln {α : Type} [Enc α] (d : Sd α) (s : Str) : R (Ln (Sd α) d α) := if s = "mine" then .ok ⟨[0], d.m, fun z => ⟨z, d.t⟩, rfl, fun z => rfl⟩ else if s = "theirs" then .ok ⟨[1], d.t, fun z => ⟨d.m, z⟩, rfl, fun z => rfl⟩ else .bad
section
variable {C : Cn} {Γ : List Sl} {i : Nat} {r0 : Option V} {K : PySem.W.Frag} {l l2 : Lv} {ω τ ρ α β γ : Type} [Enc ω] [Enc τ] [Enc ρ] [Enc α] [Encs β] {o : ω} {ta te tk td : TE}
def EvL (C : Cn) (Γ : List Sl) (i : Nat) (o : ω) (te : TE) (m : R (Ln ω o τ)) : Prop := ∀ G hid os σ H Q r0, OkW C G Γ hid os σ H → Γ[i]? = some (.ob r0 (enc o)) →
  (match m with | .ok l => ∀ v u H1, Same H H1 → σ[i]? = some (some v) → AtO H1 v l.π u → Q u H1 | .ex x => PoX C σ H x | .bad => False) → te σ H Q
/-! #### methods: the object ahead of the arguments -/
def tObj (A : Addr) (m : Str) (ta : TE) (t : TA) : TA := fun σ H Q => ta σ H fun x H1 => ∃ a dx fs, x = .ref a ∧ H1 a = some (.ins A dx fs) ∧ fs.lookup m = none ∧ t σ H1 fun vs H2 => Q (x :: vs) H2
end
/-! #### the rules of the machine for methods -/
/-- a method of the class c -/
structure KdO (P : Program) (w : World) (K : PySem.W.Frag) (mg : Str → Option Value) (base : Heap) (CX : CXT) (A : Addr) (m : Str) (ps : List Str) (dvs : List V) (k : Nat) (sp : Sp) : Prop where
  cl : Cls K A
  ex : ∃ f fd ds, Meth K A m f ∧ Binds K fd ps ds ∧ Vals dvs ds ∧ FnOk P w K mg base CX k f fd ps sp
def tMethS (A : Addr) (m : Str) (sp : Sp) (dvs : List V) (E : L2.St → XK) (ta : TE) (t : TA) : TE := tCallSD sp dvs E (tObj A m ta t)
section
variable {X : Cx} {W : WX} {A : Addr} {m : Str} {ps : List Str} {dvs : List V} {k : Nat} {sp : Sp} {o e : Expr} {es : List Expr} {t : TA} {ta : TE} {apos pos : Pos} {pl : Sem Bool}
end
end Pv

set_option Elab.async false
set_option linter.all false
set_option maxRecDepth 100000
set_option maxHeartbeats 2000000
/-! ### objects with state: defs that change their first argument -/
namespace Pv
open PySem PySem.Spec L2
open Enc (enc)
open Encs (encs)
def PoM {ω α : Type} [Enc ω] [Enc α] (T : CT) (H : Hp) (v : V) (as : List Addr) (Q : VK) (E : XK) : R (ω × α) → Prop
  | .ok x => ∀ u as' H', (∀ a o, a ∉ as → H a = some o → H' a = some o) → (∀ a, H a ≠ none → H' a ≠ none) → as'.Nodup → (∀ a, a ∈ as' → a ∈ as ∨ H a = none) → Own T H' (enc x.1) v as' → Rep T H' (fun a => H a ≠ none ∨ a ∈ as') (enc x.2) u → Q u H'
  | .ex x => ∀ cls d H', Same H H' → ExRep T H' x cls d → E cls d H'
  | .bad => False
/-- called with an own value that stands for o, and what stands for b, it leaves there what stands for the new one -/
def PmM {ωi ω α β : Type} [Enc ωi] [Enc ω] [Enc α] [Encs β] (T : CT) (f : ωi → β → R (ω × α)) : Sp := fun vs H Q E => ∃ (o : ωi) (b : β) (v : V) (as : List Addr) (ws : List V) (G : Addr → Prop), vs = v :: ws ∧ as.Nodup ∧ Own T H (enc o) v as ∧ (∀ a, G a → H a ≠ none) ∧ (∀ a, a ∈ as → G a) ∧ Reps T H G (encs b) ws ∧ PoM T H v as Q E (f o b)
def PoS {ω α : Type} [Enc ω] [Enc α] (C : Cn) (G : Addr → Prop) (Γ : List Sl) (hid : Hid) (os : List (Option Addr)) (σ : L2.St) (H : Hp) (i : Nat) (r0 : Option V) (Q : VK) : R (ω × α) → Prop
  | .ok x => ∀ v G' H', (∀ a, G a → G' a) → OkW C G' (Γ.set i (.ob r0 (enc x.1))) hid os σ H' → Rep C.T H' (av .fr C.H0 G' os) (enc x.2) v → Q v H'
  | .ex x => PoX C σ H x
  | .bad => False
/-- an expression that changes the own value in the slot i -/
def EvS {ω α : Type} [Enc ω] [Enc α] (C : Cn) (Γ : List Sl) (i : Nat) (r0 : Option V) (te : TE) (m : R (ω × α)) : Prop := ∀ G hid os σ H Q, OkW C G Γ hid os σ H → PoS C G Γ hid os σ H i r0 Q m → te σ H Q
section
variable {C : Cn} {Γ Γ' : List Sl} {i j : Nat} {r0 : Option V} {K : PySem.W.Frag} {l l2 : Lv} {ωi ω τ ρ α β γ δ : Type} [Enc ωi] [Enc ω] [Enc τ] [Enc ρ] [Enc α] [Encs β] {o : ω} {ta te tk td : TE} {t : TA} {W : WX}
variable {te : TE} {tt : TT} {u w : TS} {out : δ → Oc}
/-! #### statements -/
/-- a test that changes it -/
def PoST {ω : Type} [Enc ω] (C : Cn) (G : Addr → Prop) (Γ : List Sl) (hid : Hid) (os : List (Option Addr)) (σ : L2.St) (H : Hp) (i : Nat) (r0 : Option V) (Q : Bool → Hp → Prop) : R (ω × Bool) → Prop
  | .ok x => ∀ G' H', (∀ a, G a → G' a) → OkW C G' (Γ.set i (.ob r0 (enc x.1))) hid os σ H' → Q x.2 H'
  | .ex x => PoX C σ H x
  | .bad => False
def EvST {ω : Type} [Enc ω] (C : Cn) (Γ : List Sl) (i : Nat) (r0 : Option V) (tt : TT) (m : R (ω × Bool)) : Prop := ∀ G hid os σ H Q, OkW C G Γ hid os σ H → PoST C G Γ hid os σ H i r0 Q m → tt σ H Q
end
end Pv

set_option Elab.async false
set_option linter.all false
set_option maxRecDepth 100000
set_option maxHeartbeats 2000000
/-! ### objects with state: stores -/
namespace Pv
open PySem PySem.Spec L2
open Enc (enc)
open Encs (encs)
section
variable {C : Cn} {Γ : List Sl} {i j : Nat} {r0 : Option V} {K : PySem.W.Frag} {l l2 : Lv} {ω τ ρ α β γ δ : Type} [Enc ω] [Enc τ] [Enc ρ] [Enc α] {o : ω} {ta te tk td tp : TE} {t : TA} {W : WX} {u : TS} {out : δ → Oc}
/-- P.remove(e), ints -/
def remI (xs : List Int) (k : Int) : Option (List Int) := optIf (k ∈ xs) (xs.erase k)
end
end Pv

set_option Elab.async false
set_option linter.all false
set_option maxRecDepth 100000
set_option maxHeartbeats 2000000
/-! ### objects with state: defs by their bodies -/
namespace Pv
open PySem PySem.Spec L2
open Enc (enc)
open Encs (encs)
/-- the heap without some of its cells -/
def offH (H : Hp) (as : List Addr) : Hp := fun a => if a ∈ as then none else H a
theorem offH_some {H : Hp} {as : List Addr} {a : Addr} {o : HO} : offH H as a = some o ↔ a ∉ as ∧ H a = some o := by
  unfold offH
  by_cases h : a ∈ as
  · rw [if_pos h]
    constructor
    · intro z; cases z
    · intro z; exact absurd h z.1
  · rw [if_neg h]
    constructor
    · intro z; exact ⟨h, z⟩
    · intro z; exact z.2
theorem offH_none {H : Hp} {as : List Addr} {a : Addr} : offH H as a = none ↔ a ∈ as ∨ H a = none := by
  unfold offH
  by_cases h : a ∈ as
  · rw [if_pos h]; exact ⟨fun _ => .inl h, fun _ => rfl⟩
  · rw [if_neg h]; exact ⟨fun z => .inr z, fun z => z.elim (fun z => absurd z h) id⟩
/-- the slots at the entry of a def whose first argument is an own value -/
def entryM (N : List Str) (v : V) (p : PV) (ps : List PV) : List Sl := .ob (some v) p :: (ps.map (Sl.sh .pa) ++ List.replicate (N.length - 1 - ps.length) .un)
section
variable {T : CT} {H : Hp} {G : Addr → Prop} {N : List Str} {W : Option WX} {M : RM}
end
section
variable {P : Program} {w : World} {K : PySem.W.Frag} {mg : Str → Option Value} {base : Heap} {ωi ω α β γ : Type} [Enc ωi] [Enc ω] [Enc α] [Encs β] {T : CT}
/-- the outcome of such a def's body: out tells the slots behind it (with the new value in the first) and what is handed back -/
def oM (v : V) (N : List Str) (x : ω × Unit) : Oc := .nx (.ob (some v) (enc x.1) :: List.replicate (N.length - 1) .un)
def oMr (v : V) (N : List Str) (x : ω × α) : Oc := .rs (.ob (some v) (enc x.1) :: List.replicate (N.length - 1) .un) (enc x.2)
/-! #### an __init__: its first argument is an instance without fields -/
def PmI {ω β : Type} [Enc ω] [Encs β] (T : CT) (c : Nat) (f : β → R ω) : Sp := fun vs H Q E => ∃ (b : β) (x dx : Addr) (ws : List V) (G : Addr → Prop), vs = .ref x :: ws ∧ H x = some (.ins (T.addr c) dx []) ∧ (∀ a, G a → H a ≠ none) ∧ G x ∧ Reps T H G (encs b) ws ∧ PoM T H (.ref x) [x] Q E ((f b).bind fun o => .ok (o, ()))
end
/-! #### C(..) -/
section
variable {C : Cn} {Γ : List Sl} {i : Nat} {l : Lv} {ω α β γ : Type} [Enc ω] [Enc α] [Encs β] [Encs γ] {ta : TA} {W : WX}
end
end Pv

set_option Elab.async false
set_option linter.all false
set_option maxRecDepth 100000
set_option maxHeartbeats 2000000
/-! ### objects with state: made, called by name, tests that change, more stores -/
namespace Pv
open PySem PySem.Spec L2
open Enc (enc)
open Encs (encs)
/-! #### C(..), what is raised being wished for at the caller's slots -/
def tMakeS (C : Addr) (sp : Sp) (dvs : List V) (E : L2.St → XK) (t : TA) : TE := fun σ H Q => t σ H fun vs H1 => ∀ x dx, H1 x = none → H1 dx = none → dx ≠ x →
  sp (.ref x :: (vs ++ dvs)) (upd (upd H1 dx (.own x)) x (.ins C dx [])) (fun v H2 => v = .non ∧ Q (.ref x) H2) (E σ)
def tMakeNS (C : Addr) (n m : Nat) (sp : Sp) (E : L2.St → XK) (t tk : TA) : TE := fun σ H Q => t σ H fun vs H1 => tk σ H1 fun zs H2 => vs.length = n ∧ zs.length = m ∧ ∀ x dx, H2 x = none → H2 dx = none → dx ≠ x →
  sp (.ref x :: (vs ++ zs)) (upd (upd H2 dx (.own x)) x (.ins C dx [])) (fun v H3 => v = .non ∧ Q (.ref x) H3) (E σ)
/-- a class whose __init__ is a def of its own, called without the parameters whose defaults are dvs -/
structure KdI (P : Program) (w : World) (K : PySem.W.Frag) (mg : Str → Option Value) (base : Heap) (CX : CXT) (A : Addr) (x : Str) (ps : List Str) (dvs : List V) (k : Nat) (sp : Sp) : Prop where
  gm : mg x = some (.ref A)
  ini : ∃ f fd ds, Mk K A f ∧ Binds K fd ps ds ∧ Vals dvs ds ∧ FnOk P w K mg base CX k f fd ps sp
/-- .. called with n values by position and the keywords ks -/
structure KdIN (P : Program) (w : World) (K : PySem.W.Frag) (mg : Str → Option Value) (base : Heap) (CX : CXT) (A : Addr) (x : Str) (ps : List Str) (n : Nat) (ks : List Str) (k : Nat) (sp : Sp) : Prop where
  gm : mg x = some (.ref A)
  ini : ∃ f fd g, Mk K A f ∧ KBn K fd ps (n + 1) ks g (fun vs zs => vs ++ zs) ∧ FnOk P w K mg base CX k f fd ps sp
section
variable {X : Cx} {W : WX} {A : Addr} {x : Str} {ps ks : List Str} {dvs : List V} {n k : Nat} {sp : Sp} {e : Expr} {es : List Expr} {kws : List Keyword} {t tk : TA} {p pos : Pos} {CX : CXT} {f : Addr} {fd : FuncData} {ds : List Value} {E : L2.St → XK}
end
section
variable {C : Cn} {Γ Γ' : List Sl} {i j : Nat} {r0 : Option V} {K : PySem.W.Frag} {l l2 : Lv} {ωi ω τ ρ α α' β β' γ δ : Type} [Enc ωi] [Enc ω] [Enc τ] [Enc ρ] [Enc α] [Enc α'] [Encs β] [Encs β'] [Encs γ] {o : ω} {ta tb te tk td tp : TE} {t tka : TA} {W : WX} {u w t1 : TS} {out : δ → Oc} {tt tu : TT}
/-! #### defs, called by name with an own value ahead of the other arguments -/
/-! #### operators and tests behind a change -/
/-! #### more stores -/
def lnIx {α : Type} [Enc α] (xs : List α) (j : Int) : R (Ln (List α) xs α) := match h : ixN xs.length j with
  | none => .bad
  | some k => match h2 : xs[k]? with
    | none => .bad
    | some a => .ok ⟨[k], a, fun z => xs.set k z, by show (((xs.map enc)[k]?).bind fun q => gtP q []) = _; rw [List.getElem?_map, h2]; rfl, fun z => by
        show PV.lst ((xs.map enc).set k (stP ((xs.map enc).getD k .non) [] (enc z))) = PV.lst ((xs.set k z).map enc)
        rw [List.map_set]
        congr 2⟩
/-- P.insert(0, e) -/
def insL {α : Type} (xs : List α) (a : α) : Option (List α) := optIf (xs.length < LIM) (a :: xs)
def rIns : V → List V → Hp → VK → Prop := fun x vs H Q => ∃ (p : Addr) (ws : List V) (n : Int) (e : V), x = .ref p ∧ vs = [.int n, e] ∧ H p = some (.lst ws) ∧ ws.length < sizeLine ∧ 0 ≤ n ∧ n < 2 ^ 63 ∧ Q .non (upd H p (.lst (ws.take n.toNat ++ [e] ++ ws.drop n.toNat)))
/-! #### ahead of any change -/
variable {E : XK}
end
end Pv

set_option Elab.async false
set_option linter.all false
set_option maxRecDepth 100000
set_option maxHeartbeats 2000000
/-! ### objects with state: what the end hands over -/
namespace Pv
open PySem PySem.Spec L2
open Enc (enc)
open Encs (encs)
/-- an own class whose instances change: its fields -/
structure KdS (K : PySem.W.Frag) (T : CT) (c : Nat) (fs : List Str) : Prop where
  fl : T.fld c = fs
  nd : fs.Nodup
  few : fs.length < 1000
  cl : Cls K (T.addr c)
  na : ∀ f, f ∈ fs → NoAttr K (T.addr c) f
theorem KdS.nm {K : PySem.W.Frag} {T : CT} {c : Nat} {fs : List Str} {n : Str} (y : KdS K T c fs) (h : n ∉ fs) : n ∉ T.fld c := by rw [y.fl]; exact h
theorem KdS.at_ {K : PySem.W.Frag} {T : CT} {c : Nat} {fs : List Str} {k : Nat} {f : Str} (y : KdS K T c fs) (h : fs[k]? = some f) : (T.fld c)[k]? = some f := by rw [y.fl]; exact h
section
variable {C : Cn} {Γ Γ' : List Sl} {i j : Nat} {r0 : Option V} {K : PySem.W.Frag} {l l2 : Lv} {ω τ ρ α β δ : Type} [Enc ω] [Enc τ] [Enc ρ] [Enc α] [Enc β] {o : ω} {ta tb te tk td tp : TE} {t : TA} {W : WX} {u w : TS} {out : δ → Oc}
theorem EvL.cast {m m' : R (Ln ω o τ)} (h : EvL C Γ i o te m) (e : m = m') : EvL C Γ i o te m' := e ▸ h
theorem EvS.cast {m m' : R (ω × α)} (h : EvS C Γ i r0 te m) (e : m = m') : EvS C Γ i r0 te m' := e ▸ h
theorem EvST.cast {tt : TT} {m m' : R (ω × Bool)} (h : EvST C Γ i r0 tt m) (e : m = m') : EvST C Γ i r0 tt m' := e ▸ h
end
section
variable {C : Cn} {Γ : List Sl} {i : Nat} {r0 : Option V} {K : PySem.W.Frag} {l : Lv} {ω α α' β δ : Type} [Enc ω] [Enc α] [Enc α'] [Enc β] {ta te t : TE} {W : WX} {u tt : TS} {out : δ → Oc} {E : XK}
def R.f0 {β : Type} (vs : List PV) (k : R β) : R β := match vs with
  | [] => k
  | _ => .bad
theorem EvD.co {f : α → α'} {m : R α} (h : EvD C Γ te m) (hf : ∀ a, enc (f a) = enc a) : EvD C Γ te (m.bind fun a => .ok (f a)) := fun G hid os σ H Q Kw q => by
  refine h G hid os σ H Q Kw ?_
  cases m with
  | bad => exact q
  | ex x => exact q
  | ok a => exact fun v as H' s nd fr ow => q v as H' s nd fr (by rw [hf]; exact ow)
end
section
variable {C : Cn} {Γ : List Sl} {ω β : Type} [Enc ω] [Encs β] {t : TA} {W : WX}
end
section
variable {X : Cx} {W : WX} {A : Addr} {m : Str} {ps : List Str} {k : Nat} {sp : Sp} {o e : Expr} {es : List Expr} {t : TA} {ta : TE} {apos pos : Pos} {pl : Sem Bool}
end
section
variable {C : Cn} {Γ : List Sl} {i : Nat} {r0 : Option V} {ω τ α β : Type} [Enc ω] [Enc τ] [Enc α] [Encs β] {o : ω} {ta : TE} {t : TA} {W : WX}
end
/-! #### defaults and keywords of methods -/
section
variable {P : Program} {w : World} {K : PySem.W.Frag} {mg : Str → Option Value} {base : Heap} {CX : CXT} {x qual y m : Str} {params : Arguments} {body : List Stmt} {scope : Scope} {kws : List (Str × V)} {f A : Addr} {fd : FuncData} {ps ks : List Str} {k : Nat} {sp : Sp}
end
end Pv

set_option Elab.async false
set_option linter.all false
set_option maxRecDepth 100000
set_option maxHeartbeats 2000000
/-! ### a list of lists of flat items, its rows under second names -/
namespace Pv
open PySem PySem.Spec L2
open Enc (enc)
open Encs (encs)
def RowsAt (T : CT) (H : Hp) {α : Type} [Enc α] : List Addr → List (List α) → Prop
  | [], [] => True
  | a :: as, xs :: xss => (∃ ws, H a = some (.lst ws) ∧ ws.length ≤ LIM ∧ Reps T H (fun _ => False) (xs.map enc) ws) ∧ RowsAt T H as xss
  | _, _ => False
/-- the slot of such a list: its address, its rows' addresses, their contents -/
def rwS (T : CT) {α : Type} [Enc α] (p : Addr) (as : List Addr) (xss : List (List α)) : Sl := .rs (.ref p) (· ∈ p :: as) (fun H => (p :: as).Nodup ∧ H p = some (.lst (as.map V.ref)) ∧ as.length ≤ LIM ∧ RowsAt T H as xss)
/-- a slot that names a row -/
def raS (as : List Addr) (k : Nat) : Sl := .rs (.ref (as.getD k 0)) (fun _ => False) (fun _ => True)
section
variable {T : CT} {H H' : Hp} {α : Type} [Enc α]
theorem RowsAt.len : ∀ {as : List Addr} {xss : List (List α)}, RowsAt T H as xss → as.length = xss.length
  | [], [], _ => rfl
  | a :: as, xs :: xss, h => by rw [List.length_cons, List.length_cons, h.2.len]
  | [], _ :: _, h => h.elim
  | _ :: _, [], h => h.elim
theorem RowsAt.move [Flat α] : ∀ {as : List Addr} {xss : List (List α)}, (∀ a, a ∈ as → H a = H' a) → RowsAt T H as xss → RowsAt T H' as xss
  | [], [], _, _ => trivial
  | a :: as, xs :: xss, k, h => by
    obtain ⟨⟨ws, h1, h2, h3⟩, h4⟩ := h
    exact ⟨⟨ws, by rw [← k a (List.mem_cons_self ..)]; exact h1, h2, h3.flat⟩, h4.move fun b hb => k b (List.mem_cons_of_mem _ hb)⟩
  | [], _ :: _, _, h => h.elim
  | _ :: _, [], _, h => h.elim
theorem RowsAt.get : ∀ {as : List Addr} {xss : List (List α)} {k : Nat} {xs : List α}, RowsAt T H as xss → xss[k]? = some xs → ∃ a ws, as[k]? = some a ∧ H a = some (.lst ws) ∧ ws.length ≤ LIM ∧ Reps T H (fun _ => False) (xs.map enc) ws
  | [], [], k, xs, _, e => by simp at e
  | a :: as, ys :: xss, 0, xs, h, e => by
    obtain ⟨⟨ws, h1, h2, h3⟩, h4⟩ := h
    have e : ys = xs := Option.some.inj e
    subst e
    exact ⟨a, ws, rfl, h1, h2, h3⟩
  | a :: as, ys :: xss, k + 1, xs, h, e => RowsAt.get (k := k) h.2 e
  | [], _ :: _, _, _, h, _ => h.elim
  | _ :: _, [], _, _, h, _ => h.elim
theorem RowsAt.put [Flat α] : ∀ {as : List Addr} {xss : List (List α)} {k : Nat} {a : Addr} {ys : List α} {ws : List V}, as.Nodup → RowsAt T H as xss → as[k]? = some a → ws.length ≤ LIM → Reps T H (fun _ => False) (ys.map enc) ws → RowsAt T (upd H a (.lst ws)) as (xss.set k ys)
  | [], [], k, a, ys, ws, _, _, e, _, _ => by simp at e
  | b :: as, xs :: xss, 0, a, ys, ws, nd, h, e, hz, r => by
    have e : b = a := Option.some.inj e
    subst e
    rw [List.nodup_cons] at nd
    exact ⟨⟨ws, upd_same, hz, r.flat⟩, h.2.move fun c hc => by rw [upd_ne (fun z : c = b => nd.1 (z ▸ hc))]⟩
  | b :: as, xs :: xss, k + 1, a, ys, ws, nd, h, e, hz, r => by
    have e : as[k]? = some a := e
    rw [List.nodup_cons] at nd
    have nb : b ≠ a := fun z => nd.1 (z ▸ List.mem_of_getElem? e)
    obtain ⟨⟨us, h1, h2, h3⟩, h4⟩ := h
    exact ⟨⟨us, by rw [upd_ne nb]; exact h1, h2, h3.flat⟩, h4.put nd.2 e hz r⟩
  | [], _ :: _, _, _, _, _, _, h, _, _, _ => h.elim
  | _ :: _, [], _, _, _, _, _, h, _, _, _ => h.elim
theorem RowsAt.own [Flat α] : ∀ {as : List Addr} {xss : List (List α)}, RowsAt T H as xss → OwnL T H (xss.map fun xs => PV.lst (xs.map enc)) (as.map V.ref) as
  | [], [], _ => by unfold OwnL; exact ⟨rfl, rfl⟩
  | a :: as, xs :: xss, h => by
    obtain ⟨⟨ws, h1, h2, h3⟩, h4⟩ := h
    show OwnL T H (_ :: _) (_ :: _) (a :: as)
    unfold OwnL
    refine ⟨.ref a, as.map V.ref, [a], as, rfl, rfl, ?_, h4.own⟩
    unfold Own
    refine ⟨a, ws, [], rfl, rfl, h1, h2, ownL_im ?_ h3⟩
    rw [List.all_eq_true]
    intro z hz
    obtain ⟨b, _, rfl⟩ := List.mem_map.mp hz
    rcases Flat.flat b with ⟨i, e⟩ | ⟨i, e⟩ | ⟨i, e⟩ | e <;> rw [e] <;> rfl
  | [], _ :: _, h => h.elim
  | _ :: _, [], h => h.elim
end
section
variable {C : Cn} {Γ : List Sl} {i j : Nat} {K : PySem.W.Frag} {l l1 l2 : Lv} {α β : Type} [Enc α] [Flat α] {p : Addr} {as : List Addr} {xss : List (List α)} {te ti t1 t2 : TE} {u : TS} {out : β → Oc}
/-- row = found[e] -/
def ixRow (xss : List (List α)) (n : Int) : Option Nat := ixN xss.length n
/-- no other thing with cells -/
def rwOne (i : Nat) (Γ : List Sl) : Prop := noRs (Γ.set i .un)
/-- row[e] = v -/
def setRow (xss : List (List α)) (k : Nat) (n : Int) (a : α) : Option (List (List α)) := (xss[k]?).bind fun xs => (setL xs n a).map fun ys => xss.set k ys
end
/-! ### what is new through and through, as a value -/
def ntp : PV → Bool
  | .lst xs => ntpL xs
  | .obj _ xs => ntpL xs
  | .dic _ xs => ntpL xs
  | p => flV p
where ntpL : List PV → Bool
  | [] => true
  | x :: xs => ntp x && ntpL xs
mutual
theorem Own.repN {T : CT} {H : Hp} : ∀ (p : PV) {v : V} {as : List Addr}, ntp p = true → Own T H p v as → Rep T H (fun a => a ∉ as) p v
  | .lst ps, v, as, f, h => by
    unfold Own at h
    obtain ⟨a, vs, bs, e1, e2, e3, e4, e5⟩ := h
    subst e2
    unfold Rep
    exact ⟨a, vs, e1, (fun z => z (List.mem_cons_self ..)), e3, e4, (OwnL.repN ps f e5).weak fun b hb z => hb (List.mem_cons_of_mem _ z)⟩
  | .obj c ps, v, as, f, h => by
    unfold Own at h
    obtain ⟨a, dx, vs, bs, e1, e2, e3, e4, e5⟩ := h
    subst e2
    unfold Rep
    exact ⟨a, dx, vs, e1, (fun z => z (List.mem_cons_self ..)), e3, e4, (OwnL.repN ps f e5).weak fun b hb z => hb (List.mem_cons_of_mem _ z)⟩
  | .dic ks ps, v, as, f, h => by
    unfold Own at h
    obtain ⟨a, vs, bs, e1, e2, e3, e4, e5, e6⟩ := h
    subst e2
    unfold Rep
    exact ⟨a, vs, e1, (fun z => z (List.mem_cons_self ..)), e3, e4, e5, (OwnL.repN ps f e6).weak fun b hb z => hb (List.mem_cons_of_mem _ z)⟩
  | .tup ps, v, as, f, h => by cases f
  | .non, v, as, _, h => by unfold Own at h; exact h.2.2.flV h.2.1
  | .bl _, v, as, _, h => by unfold Own at h; exact h.2.2.flV h.2.1
  | .int _, v, as, _, h => by unfold Own at h; exact h.2.2.flV h.2.1
  | .str _, v, as, _, h => by unfold Own at h; exact h.2.2.flV h.2.1
  | .scr _, v, as, f, h => by cases f
theorem OwnL.repN {T : CT} {H : Hp} : ∀ (ps : List PV) {vs : List V} {as : List Addr}, ntp.ntpL ps = true → OwnL T H ps vs as → Reps T H (fun a => a ∉ as) ps vs
  | [], vs, as, _, h => by
    unfold OwnL at h
    rw [h.1]
    exact reps_nil
  | p :: ps, vs, as, f, h => by
    have f : (ntp p && ntp.ntpL ps) = true := f
    rw [Bool.and_eq_true] at f
    unfold OwnL at h
    obtain ⟨v, r, a1, a2, e1, e2, h1, h2⟩ := h
    subst e2
    rw [e1]
    exact reps_cons ((Own.repN p f.1 h1).weak fun b hb z => hb (List.mem_append_left _ z)) ((OwnL.repN ps f.2 h2).weak fun b hb z => hb (List.mem_append_right _ z))
end
class Ntp (α : Type) [Enc α] : Prop where
  ok : ∀ a : α, ntp (enc a) = true
instance {α : Type} [Enc α] [Flat α] : Ntp α := ⟨fun a => by rcases Flat.flat a with ⟨i, e⟩ | ⟨i, e⟩ | ⟨i, e⟩ | e <;> rw [e] <;> rfl⟩
theorem ntpL_map {α : Type} [Enc α] [Ntp α] : ∀ xs : List α, ntp.ntpL (xs.map enc) = true
  | [] => rfl
  | x :: xs => by
    show (ntp (enc x) && ntp.ntpL (xs.map enc)) = true
    rw [Ntp.ok, ntpL_map xs]
    rfl
instance {α : Type} [Enc α] [Ntp α] : Ntp (List α) := ⟨fun xs => ntpL_map xs⟩
end Pv

set_option Elab.async false
set_option linter.all false
set_option maxRecDepth 100000
set_option maxHeartbeats 2000000
/-! ### more for objects with state: a target ahead of any change -/
namespace Pv
open PySem PySem.Spec L2
open Enc (enc)
open Encs (encs)
section
variable {C : Cn} {Γ : List Sl} {l : Lv} {α δ : Type} [Enc α] {te : TE} {u : TS} {out : δ → Oc} {E : XK} {g : TG} {vs : List Nat} {fg : List Sl → α → List Sl}
variable {l1 l2 : Lv} {ta tb : TE} {K : PySem.W.Frag}
end
end Pv

set_option Elab.async false
set_option linter.all false
set_option maxRecDepth 100000
set_option maxHeartbeats 2000000
/-! ### deep own values: read within an expression, lists that grow by new values, handed back -/
namespace Pv
open PySem PySem.Spec L2
open Enc (enc)
open Encs (encs)
/-! #### an expression is walked as a def of its own: all that stands is shared for that long -/
def Cn.at (C : Cn) (H : Hp) : Cn := ⟨C.T, H, C.W, C.M⟩
def fzS : Sl → Sl
  | .sh _ p => .sh .pa p
  | .ow _ xs => .sh .pa (.lst xs)
  | .ob _ p => .sh .pa p
  | _ => .un
section
variable {C : Cn} {Γ Γ' : List Sl} {l : Lv} {α β : Type} [Enc α] [Encs β] {te : TE} {tt : TT} {ta : TA}
/-! #### new values -/
end
/-! #### parts of tuples -/
section
variable {C : Cn} {Γ : List Sl} {i : Nat} {r0 : Option V} {K : PySem.W.Frag} {l l2 : Lv} {ω τ ρ α β γ δ : Type} [Enc ω] [Enc τ] [Enc ρ] [Enc α] [Enc β] [Enc γ] {o : ω} {te tp : TE} {u : TS} {out : δ → Oc}
def Ln.t0 {κ : Type} [Encs κ] (z : Tp (α × κ)) : Ln (Tp (α × κ)) z α := ⟨[0], z.t.1, fun a => ⟨(a, z.t.2)⟩, rfl, fun _ => rfl⟩
def Ln.t1 {κ : Type} [Encs κ] (z : Tp (α × β × κ)) : Ln (Tp (α × β × κ)) z β := ⟨[1], z.t.2.1, fun a => ⟨(z.t.1, a, z.t.2.2)⟩, rfl, fun _ => rfl⟩
def Ln.t2 {κ : Type} [Encs κ] (z : Tp (α × β × γ × κ)) : Ln (Tp (α × β × γ × κ)) z γ := ⟨[2], z.t.2.2.1, fun a => ⟨(z.t.1, z.t.2.1, a, z.t.2.2.2)⟩, rfl, fun _ => rfl⟩
/-! #### lists that grow by new values -/
end
end Pv

set_option Elab.async false
set_option linter.all false
set_option maxRecDepth 100000
set_option maxHeartbeats 2000000
namespace L2
open PySem PySem.Spec PyProof.Rows

/-- a class whose __iter__ is a def, without __len__ and __length_hint__ -/
structure ItL (K : PySem.W.Frag) (C fi : Addr) : Prop where
  it : PySem.W.findIn K (.ref C) "__iter__" = some (some (.ref fi))
  itF : PySem.W.isFn K (.ref fi) = true
  nolen : PySem.W.findIn K (.ref C) "__len__" = some none
  nohint : PySem.W.findIn K (.ref C) "__length_hint__" = some none

/-- iter(l): behind all that is there -/
def rIterA (K : PySem.W.Frag) : List V → Hp → VK → Prop := fun xs H Q => ∃ (l : Addr) (zs : List V), xs = [.ref l] ∧ SqL K H l zs ∧ ∀ it, (∀ b, H b ≠ none → b < it) → Q (.ref it) (upd H it (ItO l it 0))
section
variable {X : Cx} {pins : List (Addr × Obj)} {σ : St} {H : Hp} {s s' : Shared}
variable {A1 : Around} {q it l : Addr} {zs : List V} {Rs : Result → Shared → Prop}
variable {CI : CXT} {C fi a : Addr} {fdI : FuncData} {psI : List Str} {spI : Sp} {EI : XK} {n : Nat}
/-- list(o) -/
def rItL (K : PySem.W.Frag) (C : Addr) (spI : Sp) (EI : XK) : List V → Hp → VK → Prop := fun xs H Q => ∃ a dx fs, xs = [.ref a] ∧ H a = some (.ins C dx fs) ∧
  ∀ q, H q = none → spI [.ref a] (upd H q (.lst [])) (fun v H' => ∃ it l zs, v = .ref it ∧ (∀ b, upd H q (.lst []) b ≠ none → b < it) ∧ H' = upd (upd H q (.lst [])) it (ItO l it 0) ∧ l ≠ q ∧ H l = some (.lst zs) ∧ zs.length ≤ sizeLine - 1 ∧ Q (.ref q) (upd H q (.lst zs))) EI
end
end L2
namespace Pv
open PySem PySem.Spec L2
open Enc (enc)
open Encs (encs)
/-- __iter__ hands back an iterator over the list in a field -/
def PmIt (C : Addr) (F : Str) : Sp := fun vs H Q _ => ∃ (a dx : Addr) (fs : List (Str × V)) (l : Addr) (zs : List V), vs = [.ref a] ∧ H a = some (.ins C dx fs) ∧ fs.lookup F = some (.ref l) ∧ H l = some (.lst zs) ∧
  ∀ it, (∀ b, H b ≠ none → b < it) → Q (.ref it) (upd H it (ItO l it 0))
section
variable {P : Program} {w : World} {K : PySem.W.Frag} {mg : Str → Option Value} {base : Heap} {T : CT}
/-- the class's __iter__ -/
structure KdIt (P : Program) (w : World) (K : PySem.W.Frag) (mg : Str → Option Value) (base : Heap) (C : Addr) (k : Nat) (sp : Sp) : Prop where
  ex : ∃ fi fd ps, ItL K C fi ∧ Binds K fd ps [] ∧ FnOk P w K mg base CX0 k fi fd ps sp
section
variable {X : Cx} {C : Addr} {k : Nat} {fld : Str} {e : Expr} {te : TE}
end
section
variable {C : Cn} {Γ : List Sl} {l : Lv} {α β : Type} [Enc α] [Enc β] {ta : TE} {E : XK}
end
end
end Pv

set_option Elab.async false
set_option linter.all false
set_option maxRecDepth 100000
set_option maxHeartbeats 2000000
/-! ### defs that change their first argument and hand something back, from within loops and tries -/
namespace Pv
open PySem PySem.Spec PyProof.Rows L2
open Enc (enc)
open Encs (encs)
def oLrM {S A : Type} (es : S → List Sl) (eo : A → Oc) : Lr S A → Oc
  | .nx s => .nx (es s)
  | .rt a => eo a
def oStpM {S A : Type} (es : S → List Sl) (eo : A → Oc) : Stp S A → Oc
  | .nx s => .nx (es s)
  | .bk s => .bk (es s)
  | .rt a => eo a
section
variable {C : Cn} {Γ : List Sl} {l l1 : Lv} {α β S A : Type} [Enc α] {out : β → Oc} {es : S → List Sl} {eo : A → Oc} {t u : TS} {wi : TI} {g : TG} {vs : List Nat} {fg : List Sl → α → List Sl} {s0 : S}
end
section
variable {C : Cn} {Γ Γ' : List Sl} {i : Nat} {r0 : Option V} {l l2 : Lv} {ω α α' β δ : Type} [Enc ω] [Enc α] [Enc α'] [Enc β] {ta tb te : TE} {u : TS} {out : δ → Oc} {W : WX}
end
end Pv

set_option Elab.async false
set_option linter.all false
set_option maxRecDepth 100000
set_option maxHeartbeats 2000000
/-! ### an __init__ with defaults of positional parameters -/
namespace Pv
open PySem PySem.Spec PyProof.Rows L2
open Enc (enc)
open Encs (encs)
section
variable {P : Program} {w : World} {K : PySem.W.Frag} {mg : Str → Option Value} {base : Heap} {CX : CXT} {x y qual : Str} {params : Arguments} {body : List Stmt} {scope : Scope} {dvs : List V} {kws : List (Str × V)} {A f : Addr} {fd : FuncData} {ps ks : List Str} {k : Nat} {sp : Sp}
end
section
variable {P : Program} {w : World} {K : PySem.W.Frag} {mg : Str → Option Value} {base : Heap} {ωi ω α β γ : Type} [Enc ωi] [Enc ω] [Enc α] [Encs β] {T : CT}
end
end Pv

set_option Elab.async false
set_option linter.all false
set_option maxRecDepth 100000
set_option maxHeartbeats 2000000
/-! ### a comprehension whose items are new through and through; tuples of such parts -/
namespace Pv
open PySem PySem.Spec PyProof.Rows L2
open Enc (enc)
open Encs (encs)
section
variable {C : Cn} {Γ : List Sl} {l1 : Lv} {α β : Type} [Enc α] [Enc β] {K : PySem.W.Frag} {wi : TI} {g : TG} {tt : TT} {te : TE} {vs : List Nat}
end

section
variable {C : Cn} {Γ : List Sl} {i j : Nat} {v w : V} {as : List Addr} {K : PySem.W.Frag} {l : Lv} {α δ β : Type} [Enc α] [Dec α] [Enc δ] {x : α} {tr te : TE} {u : TS} {out : β → Oc} {mp : R (List Nat)} {m : R δ} {k : α → R β}
end
/-! ### a part of an own tuple is taken out of it -/
def tpAt (p : PV) (k : Nat) : Option PV := match p with
  | .tup ps => ps[k]?
  | _ => none
section
variable {C : Cn} {Γ : List Sl} {i j k : Nat} {r0 : Option V} {p : PV} {τ δ : Type} [Enc τ] [Dec τ] {K : PySem.W.Frag} {u : TS} {out : δ → Oc} {kk : τ → R δ}
end
end Pv

set_option Elab.async false
set_option linter.all false
set_option maxRecDepth 100000
set_option maxHeartbeats 2000000
/-! ### targets of four names -/
namespace Pv
open PySem PySem.Spec PyProof.Rows L2
open Enc (enc)
open Encs (encs)
section
variable {C : Cn} {K : PySem.W.Frag} {l : Lv} {α β γ δ ε : Type} [Enc α] [Enc β] [Enc γ] [Enc δ] [Enc ε]
end
/-! ### xs.insert(0, e), xs a list of its own -/
section
variable {K : PySem.W.Frag} {C : Cn} {Γ : List Sl} {l : Lv} {α β : Type} [Enc α] {te : TE} {u : TS} {out : β → Oc}
end
/-! ### a part of an own value is taken out of it -/
section
variable {C : Cn} {Γ : List Sl} {i j : Nat} {r0 : Option V} {ω τ δ : Type} [Enc ω] [Enc τ] {o : ω} {te : TE} {u : TS} {out : δ → Oc}
end
end Pv

set_option Elab.async false
set_option linter.all false
set_option maxRecDepth 100000
set_option maxHeartbeats 2000000
/-! ### < of plain data of one shape, place by place; pairs of an int and a tuple of ints -/
namespace L2
open PySem PySem.Spec PySem.W
def rLtD (K : PySem.W.Frag) : R2 := fun x y H Q => ∃ d1 d2, Dp K H x d1 ∧ Dp K H y d2 ∧ alike d1 d2 = true ∧ d1 ≠ .none ∧ d1.depth ≤ 60 ∧ Q (.bl (dataLt d1 d2)) H
end L2
namespace Pv
open PySem PySem.Spec L2 Srt3 PySem.W
open Enc (enc)
open Encs (encs)
section
variable {T : CT} {K : PySem.W.Frag} {β : Type} [Encs β] [i : IntsT β]
def ltN (a b : Tp (Int × Tp β × Unit)) : Bool := if a.t.1 = b.t.1 then ltT a.t.2.1 b.t.2.1 else decide (a.t.1 < b.t.1)
end
end Pv

set_option Elab.async false
set_option linter.all false
set_option maxRecDepth 100000
set_option maxHeartbeats 2000000
/-! ### a second name of one of several own lists -/
namespace Pv
open PySem PySem.Spec L2
open Enc (enc)
open Encs (encs)
/-- this name stands for just the value v -/
def alO (v : V) : Sl := .rs v (fun _ => False) (fun _ => True)
section
variable {C : Cn} {Γ : List Sl} {i j : Nat} {v : V} {K : PySem.W.Frag} {l l2 : Lv} {ω α β δ : Type} [Enc ω] [Enc α] [Encs β] {o : ω} {p : PV} {te ti : TE} {u : TS} {out : δ → Oc}
end
end Pv

set_option Elab.async false
set_option linter.all false
set_option maxRecDepth 100000
set_option maxHeartbeats 2000000
/-! ### min(xs) of tuples of ints; xs.clear() -/
namespace L2
open PySem PySem.Spec PySem.W
def rMinD (K : PySem.W.Frag) : List V → Hp → VK → Prop := fun vs H Q => ∃ (a : Addr) (ws : List V) (d : PyData) (ds : List PyData), vs = [V.ref a] ∧ SqL K H a ws ∧ DpAll K H ws (d :: ds) ∧ PyData.canLayAll0 (d :: ds) = true ∧ AlikeAll (d :: ds) ∧ PyData.depthAll (d :: ds) ≤ 60 ∧
  ∀ (i : Nat) w, ws[i]? = some w → (d :: ds)[i]? = some (minD d ds) → Q w H
end L2
namespace Pv
open PySem PySem.Spec L2 Srt3 PySem.W
open Enc (enc)
open Encs (encs)
section
variable {T : CT} {C : Cn} {Γ : List Sl} {l : Lv} {ta : TA} {K : PySem.W.Frag} {β γ δ : Type} [Encs β] [Encs γ] [i : IntsT β] [Enc δ]
def minT : List (Tp β) → Option (Tp β)
  | [] => none
  | x :: xs => some (xs.foldl (fun a y => if ltT y a then y else a) x)
end
end Pv
namespace Pv
open PySem PySem.Spec L2
open Enc (enc)
open Encs (encs)
section
variable {C : Cn} {Γ : List Sl} {i : Nat} {K : PySem.W.Frag} {l : Lv} {ω α β δ : Type} [Enc ω] [Enc α] {te : TE} {tt tu : TT} {t w u : TS} {out : δ → Oc}
/-- None, or an own value -/
def R.opt (o : Option ω) (k0 : R δ) (k : ω → R δ) : R δ := match o with
  | none => k0
  | some a => k a
end
end Pv

set_option Elab.async false
set_option linter.all false
set_option maxRecDepth 100000
set_option maxHeartbeats 2000000
/-! ### ('done', o.f(..) is None) where the call changes o -/
namespace Pv
open PySem PySem.Spec L2
open Enc (enc)
open Encs (encs)
section
variable {C : Cn} {Γ : List Sl} {i : Nat} {r0 : Option V} {ω α α' : Type} [Enc ω] [Enc α] [Enc α'] {te : TE}
end
end Pv

set_option Elab.async false
set_option linter.all false
set_option maxRecDepth 100000
set_option maxHeartbeats 2000000
/-! ### the caught exception handed to a def: with or without fields -/
namespace Pv
open PySem PySem.Spec PyProof.Rows L2 PySem.W PySem.Calls
open Enc (enc)
open Encs (encs)
/-- one exception in, with or without fields, what is made anew out -/
def PmEz {α : Type} [Enc α] (T : CT) (g : Exc → R α) : SpXa := fun a cls d vs H Q _ => ∃ x : Exc, vs = [.ref a] ∧ cls = .ref (T.addr x.c) ∧ XvOk T H d x ∧ PoQ T (.val .fr) (fun _ => False) H Q (g x)
section
variable {C : Cn} {Γ : List Sl} {i : Nat} {a : Addr} {d : Option Addr} {x : Exc} {α : Type} [Enc α] {g : Exc → R α}
end
end Pv
namespace Pv
open PySem PySem.Spec L2
section
variable {C : Cn} {Γ : List Sl} {tt tu : TT} {b : Bool}
end
end Pv

set_option Elab.async false
set_option linter.all false
set_option maxRecDepth 100000
set_option maxHeartbeats 2000000
/-! ### enumerate over an iterator that may make objects of its own; zip, whatever became of the tuple that it gave out -/
namespace PySem
open Sem (wp)
section
variable {prog : Program} {w : World} {A : Around} {E : Value → Shared → Prop} {s : Shared}
/-- a zip over two iterators: m what it knows of the tuple that it gave out last, f whether it met it alive -/
abbrev IsZipM (h : Heap) (z TI TO : Addr) (m : Value) (f : Bool) : Prop :=
  h.get? z = some { cls := .type "zip", dict := none, data := .fields #[m, .bool f, .bool false, .ref TI, .ref TO], slots := #[] }
/-- the cells of a zip after k turns, whatever it knows of the tuple that it gave out -/
def ZSt (h : Heap) (z TI TO i1 i2 l1 l2 : Addr) (k : Nat) : Prop := ∃ (m : Value) (f : Bool) (a b : Value), IsZipM h z TI TO m f ∧ ((m = .none ∧ f = false) ∨ ∃ T : Addr, m = rawInt T) ∧ IsPair h TI (.ref i1) (.ref i2) ∧ IsPair h TO a b ∧ h.IsListIter i1 l1 k ∧ h.IsListIter i2 l2 k
end
/-! #### enumerate made of a zip -/
section
open AutoSeq1 (wpAny_loadPart')
variable {prog : Program} {w : World} {A : Around} {E : Value → Shared → Prop} {s : Shared}
end
end PySem
namespace Pv
open PySem PySem.Spec PyProof.Rows L2
/-- the lists at a and b as they stand at each turn: the index, the items in a pair of their own -/
def Itez (K : PySem.W.Frag) (a b : Addr) : It :=
  ⟨fun i H => ∃ (xs ys : List V) (x y : V), SqL K H a xs ∧ SqL K H b ys ∧ xs[i]? = some x ∧ ys[i]? = some y,
    fun i H v H' => ∃ (T P : Addr) (x y : V), v = .ref T ∧ H P = none ∧ H T = none ∧ P ≠ T ∧ H' = upd (upd H P (.tup [x, y])) T (.tup [.int (i : Nat), .ref P]) ∧ (∀ xs, SqL K H a xs → xs[i]? = some x) ∧ ∀ ys, SqL K H b ys → ys[i]? = some y,
    fun i H => ∃ xs ys : List V, SqL K H a xs ∧ SqL K H b ys ∧ (xs.length ≤ i ∨ ys.length ≤ i)⟩
def iEnumZ (K : PySem.W.Frag) (ta : TA) : TI := fun σ H R => ta σ H fun vs H1 => ∃ a b xs ys, vs = [.ref a, .ref b] ∧ SqL K H1 a xs ∧ SqL K H1 b ys ∧ R (Itez K a b) H1
end Pv

set_option Elab.async false
set_option linter.all false
set_option maxRecDepth 100000
set_option maxHeartbeats 2000000
/-! ### for i, (x, y) in enumerate(zip(xs, ys)) -/
namespace Pv
open PySem PySem.Spec PyProof.Rows L2
open Enc (enc)
open Encs (encs)
section
variable {C : Cn} {Γ : List Sl} {l : Lv} {t1 t2 : TE} {K : PySem.W.Frag} {α β : Type} [Enc α] [Enc β]
end
end Pv

set_option Elab.async false
set_option linter.all false
set_option maxRecDepth 100000
set_option maxHeartbeats 2000000
/-! ### defs that are given two own lists of ints, which may be handed back within the answer -/
namespace Pv
open PySem PySem.Spec L2
open Enc (enc)
open Encs (encs)
def PoK {α : Type} [Enc α] (T : CT) (H : Hp) (a1 a2 : Addr) (Q : VK) : R α → Prop
  | .ok x => ∀ u as H', (∀ a o, a ≠ a1 → a ≠ a2 → H a = some o → H' a = some o) → as.Nodup → (∀ a, a ∈ as → a = a1 ∨ a = a2 ∨ H a = none) → Own T H' (enc x) u as → Q u H'
  | _ => False
def PmK {α : Type} [Enc α] (T : CT) (f : List Int → List Int → R α) : Sp := fun vs H Q _ => ∃ (xs ys : List Int) (a1 a2 : Addr) (us ws : List V), vs = [.ref a1, .ref a2] ∧ a1 ≠ a2 ∧ H a1 = some (.lst us) ∧ H a2 = some (.lst ws) ∧ us.length ≤ LIM ∧ ws.length ≤ LIM ∧
  Reps T H (fun _ => False) (xs.map enc) us ∧ Reps T H (fun _ => False) (ys.map enc) ws ∧ PoK T H a1 a2 Q (f xs ys)
def entryK (N : List Str) (xs ys : List PV) : List Sl := .ow .fr xs :: .ow .fr ys :: List.replicate (N.length - 2) .un
section
variable {T : CT} {H : Hp} {N : List Str} {W : Option WX} {M : RM}
theorem okw_startK {xs ys : List Int} {a1 a2 : Addr} {us ws : List V} (ne : a1 ≠ a2) (h1 : H a1 = some (.lst us)) (h2 : H a2 = some (.lst ws)) (l1 : us.length ≤ LIM) (l2 : ws.length ≤ LIM) (r1 : Reps T H (fun _ => False) (xs.map enc) us) (r2 : Reps T H (fun _ => False) (ys.map enc) ws) (hn : 2 ≤ N.length) :
    OkW ⟨T, offH H [a1, a2], W, M⟩ (fun _ => False) (entryK N (xs.map enc) (ys.map enc)) [] (some a1 :: some a2 :: List.replicate (N.length - 2) none) (L2.start N [.ref a1, .ref a2]) H := by
  have hN : (entryK N (xs.map enc) (ys.map enc)).length = N.length := by
    unfold entryK
    rw [List.length_cons, List.length_cons, List.length_replicate]
    omega
  have hs : (L2.start N [.ref a1, .ref a2]).length = N.length := by
    simp [L2.start]
    omega
  have none_at : ∀ (i : Nat) (a : Addr), (List.replicate (N.length - 2) (none : Option Addr))[i]? = some (some a) → False := fun i a h => by
    rw [List.getElem?_replicate] at h
    split at h <;> cases h
  have s0 : (L2.start N [.ref a1, .ref a2])[0]? = some (some (.ref a1)) := by simp [L2.start]
  have s1 : (L2.start N [.ref a1, .ref a2])[1]? = some (some (.ref a2)) := by simp [L2.start]
  refine ⟨by rw [List.length_cons, List.length_cons, List.length_replicate, hN]; omega, by rw [hs, hN], fun a o e => (offH_some.mp e).2, fun a g => g.elim, fun a h => ?_, fun i j a h h' => ?_, fun i s h => ?_, fun q hq => (by cases hq), ⟨fun _ => 0, fun i r p h => ?_⟩⟩
  · rcases List.mem_cons.mp h with e | h
    · cases e
      exact ⟨offH_none.mpr (.inl (List.mem_cons_self ..)), by rw [h1]; exact (fun z => nomatch z), id⟩
    · rcases List.mem_cons.mp h with e | h
      · cases e
        exact ⟨offH_none.mpr (.inl (List.mem_cons_of_mem _ (List.mem_cons_self ..))), by rw [h2]; exact (fun z => nomatch z), id⟩
      · obtain ⟨i, hi⟩ := List.getElem?_of_mem h
        exact (none_at i a hi).elim
  · match i, j, h, h' with
    | 0, 0, _, _ => rfl
    | 1, 1, _, _ => rfl
    | 0, 1, h, h' =>
      have e1 : a1 = a := Option.some.inj (Option.some.inj h)
      have e2 : a2 = a := Option.some.inj (Option.some.inj h')
      exact absurd (e1.trans e2.symm) ne
    | 1, 0, h, h' =>
      have e1 : a2 = a := Option.some.inj (Option.some.inj h)
      have e2 : a1 = a := Option.some.inj (Option.some.inj h')
      exact absurd (e2.trans e1.symm) ne
    | i + 2, _, h, _ => exact (none_at i a h).elim
    | 0, j + 2, _, h' => exact (none_at j a h').elim
    | 1, j + 2, _, h' => exact (none_at j a h').elim
  · match i, h with
    | 0, h =>
      have h : some (Sl.ow .fr (xs.map enc)) = some s := h
      cases h
      exact ⟨trivial, a1, us, rfl, s0, h1, l1, r1.flat⟩
    | 1, h =>
      have h : some (Sl.ow .fr (ys.map enc)) = some s := h
      cases h
      exact ⟨trivial, a2, ws, rfl, s1, h2, l2, r2.flat⟩
    | i + 2, h =>
      have h : (List.replicate (N.length - 2) Sl.un)[i]? = some s := h
      rw [List.getElem?_replicate] at h
      split at h
      · rename_i q
        cases h
        show (List.replicate (N.length - 2) (none : Option Addr))[i]? = some none
        rw [List.getElem?_replicate, if_pos q]
      · cases h
  · match i, h with
    | 0, h => cases h
    | 1, h => cases h
    | i + 2, h =>
      have h : (List.replicate (N.length - 2) Sl.un)[i]? = some (Sl.ob r p) := h
      rw [List.getElem?_replicate] at h
      split at h <;> cases h
end
section
variable {P : Program} {w : World} {K : PySem.W.Frag} {mg : Str → Option Value} {base : Heap} {α : Type} [Enc α] {T : CT}
theorem fn_pmK {x qual : Str} {st : Stmt} {f : Addr} {fd : FuncData} {N ps : List Str} {k : Nat} {g : List Int → List Int → R α} (F : Fun K x qual st f fd) (S : FnScope N ps (defScope st)) (hps : ps.length = 2)
    (hbody : ∀ (cdv : Value) (A : Around) (outer : List Env) (s : Shared) (H : Hp) (E : XK), Room k (A.deeper (PyProof.Rows.envOfC qual (defScope st) s.heap.objs.size f cdv)) →
      ∃ t, PSs (cxOf CX0 P w K mg base N qual (defScope st) f cdv A outer s H E).nox (defBody st) t ∧ ∀ (H0 : Hp) (xs ys : List Int), BD ⟨T, H0, none, .dp⟩ (entryK N (xs.map enc) (ys.map enc)) t (g xs ys) (fun a => .rt (enc a))) :
    FnOk P w K mg base CX0 (k + 1) f fd ps (PmK T fun xs ys => (g xs ys).nox) := by
  have hpl : ps.length ≤ N.length := by have := congrArg List.length S.pre; rw [List.length_take] at this; omega
  refine F.ok S (fun vs H Q E h => ?_) (fun cdv A outer s H vs Q E hr h => ?_)
  · obtain ⟨xs, ys, a1, a2, us, ws, e, _⟩ := h
    rw [e, hps]
    rfl
  · obtain ⟨xs, ys, a1, a2, us, ws, e, ne, h1, h2, l1, l2, r1, r2, q⟩ := h
    subst e
    obtain ⟨t, ht, hb⟩ := hbody cdv A outer s H E hr
    have q : PoK T H a1 a2 Q (g xs ys).nox := q
    refine ⟨t, ht, hb (offH H [a1, a2]) xs ys _ [] _ _ H _ (okw_startK ne h1 h2 l1 l2 r1 r2 (by omega)) ?_⟩
    cases e : g xs ys with
    | bad => rw [e] at q; exact q
    | ex z => rw [e] at q; exact q.elim
    | ok r =>
      rw [e] at q
      have q : PoK T H a1 a2 Q (R.ok r) := q
      show PoRet T .dp (fun _ => False) (offH H [a1, a2]) Q (enc r)
      intro v as H' s nd fr ow
      refine q v as H' (fun a o n1 n2 h => s a o (offH_some.mpr ⟨fun m => ?_, h⟩)) nd (fun a ha => ?_) ow
      · rcases List.mem_cons.mp m with e | m
        · exact n1 e
        · exact n2 (List.mem_singleton.mp m)
      · rcases offH_none.mp (fr a ha) with m | z
        · rcases List.mem_cons.mp m with e | m
          · exact .inl e
          · exact .inr (.inl (List.mem_singleton.mp m))
        · exact .inr (.inr z)
end
/-! #### two own lists give way to two others -/
section
variable {C : Cn} {G : Addr → Prop} {Γ : List Sl} {hid : Hid} {os : List (Option Addr)} {σ : L2.St} {H H' : Hp} {i j : Nat} {l l2 : Lv} {xs ys xs' ys' : List PV} {a1 a2 b1 b2 : Addr} {us ws : List V}
theorem two_get {α : Type} {L : List α} {i j p : Nat} {x y z : α} (ij : i ≠ j) (hi : i < L.length) (hj : j < L.length) (h : ((L.set i x).set j y)[p]? = some z) : (p = i ∧ z = x) ∨ (p = j ∧ z = y) ∨ (p ≠ i ∧ p ≠ j ∧ L[p]? = some z) := by
  by_cases e2 : j = p
  · subst e2
    rw [List.getElem?_set_self (by rw [List.length_set]; exact hj)] at h
    exact .inr (.inl ⟨rfl, (Option.some.inj h).symm⟩)
  · rw [List.getElem?_set_ne e2] at h
    by_cases e1 : i = p
    · subst e1
      rw [List.getElem?_set_self hi] at h
      exact .inl ⟨rfl, (Option.some.inj h).symm⟩
    · rw [List.getElem?_set_ne e1] at h
      exact .inr (.inr ⟨fun z => e1 z.symm, fun z => e2 z.symm, h⟩)
theorem two_i {α : Type} {L : List α} {i j : Nat} {x y : α} (ij : i ≠ j) (hi : i < L.length) : ((L.set i x).set j y)[i]? = some x := by
  rw [List.getElem?_set_ne ij.symm, List.getElem?_set_self hi]
theorem two_j {α : Type} {L : List α} {i j : Nat} {x y : α} (hj : j < L.length) : ((L.set i x).set j y)[j]? = some y := by
  rw [List.getElem?_set_self (by rw [List.length_set]; exact hj)]
theorem two_o {α : Type} {L : List α} {i j p : Nat} {x y : α} (n1 : p ≠ i) (n2 : p ≠ j) : ((L.set i x).set j y)[p]? = L[p]? := by
  rw [List.getElem?_set_ne n2.symm, List.getElem?_set_ne n1.symm]
theorem OkW.two (K : OkW C G Γ hid os σ H) (h1 : Γ[i]? = some (.ow l xs)) (h2 : Γ[j]? = some (.ow l2 ys)) (ij : i ≠ j) (o1 : os[i]? = some (some a1)) (o2 : os[j]? = some (some a2))
    (off : ∀ a o, a ≠ a1 → a ≠ a2 → H a = some o → H' a = some o) (nb : b1 ≠ b2) (m1 : b1 = a1 ∨ b1 = a2 ∨ H b1 = none) (m2 : b2 = a1 ∨ b2 = a2 ∨ H b2 = none) (e1 : H' b1 = some (.lst us)) (e2 : H' b2 = some (.lst ws)) (z1 : us.length ≤ LIM) (z2 : ws.length ≤ LIM)
    (r1 : ∀ A, Reps C.T H' A xs' us) (r2 : ∀ A, Reps C.T H' A ys' ws) :
    OkW C G ((Γ.set i (.ow .fr xs')).set j (.ow .fr ys')) hid ((os.set i (some b1)).set j (some b2)) ((σ.set i (some (.ref b1))).set j (some (.ref b2))) H' := by
  have hi : i < Γ.length := (List.getElem?_eq_some_iff.mp h1).1
  have hj : j < Γ.length := (List.getElem?_eq_some_iff.mp h2).1
  have hio : i < os.length := by rw [K.lo]; exact hi
  have hjo : j < os.length := by rw [K.lo]; exact hj
  have n1 := K.new a1 (List.mem_of_getElem? o1)
  have n2 := K.new a2 (List.mem_of_getElem? o2)
  have off2 : ∀ a, a ≠ a1 → a ≠ a2 → H a ≠ none → H' a ≠ none := fun a q1 q2 h => by
    cases e : H a with
    | none => exact absurd e h
    | some o => rw [off a o q1 q2 e]; exact fun z => nomatch z
  have bq : ∀ b, (b = a1 ∨ b = a2 ∨ H b = none) → C.H0 b = none ∧ ¬ G b := fun b hb => by
    rcases hb with rfl | rfl | hb
    · exact ⟨n1.1, n1.2.2⟩
    · exact ⟨n2.1, n2.2.2⟩
    · refine ⟨?_, fun g => K.dom b g hb⟩
      cases q : C.H0 b with
      | none => rfl
      | some o => rw [K.ext b o q] at hb; cases hb
  have os_mem : ∀ a, some a ∈ (os.set i (some b1)).set j (some b2) → a = b1 ∨ a = b2 ∨ (some a ∈ os ∧ a ≠ a1 ∧ a ≠ a2) := fun a ha => by
    obtain ⟨p, hp⟩ := List.getElem?_of_mem ha
    rcases two_get ij hio hjo hp with ⟨_, e⟩ | ⟨_, e⟩ | ⟨q1, q2, e⟩
    · exact .inl (Option.some.inj e)
    · exact .inr (.inl (Option.some.inj e))
    · exact .inr (.inr ⟨List.mem_of_getElem? e, fun z => q1 (K.inj p i a e (by rw [z]; exact o1)), fun z => q2 (K.inj p j a e (by rw [z]; exact o2))⟩)
  have inav : ∀ l : Lv, l.st → ∀ a, some a ∈ os → av l C.H0 G os a := fun l hl a ma => by
    cases l with
    | raw => exact hl.elim
    | pa => exact .inr ma
    | fr => exact .inr (.inr ma)
  have bno : ∀ l : Lv, l.st → ∀ b, (b = a1 ∨ b = a2 ∨ H b = none) → ∀ a o, H a = some o → ¬ av l C.H0 G os a → a ≠ b := fun l hl b hb a o ha na e => by
    subst e
    rcases hb with rfl | rfl | hb
    · exact na (inav l hl _ (List.mem_of_getElem? o1))
    · exact na (inav l hl _ (List.mem_of_getElem? o2))
    · rw [hb] at ha; cases ha
  have mk : ∀ l : Lv, l.st → ∀ a u, H a = some u → ¬ av l C.H0 G os a → H' a = some u ∧ ¬ av l C.H0 G ((os.set i (some b1)).set j (some b2)) a := fun l hl a u ha na => by
    refine ⟨off a u (fun z => na (z ▸ inav l hl _ (List.mem_of_getElem? o1))) (fun z => na (z ▸ inav l hl _ (List.mem_of_getElem? o2))) ha, fun z => ?_⟩
    have om : some a ∈ (os.set i (some b1)).set j (some b2) → False := fun m => by
      rcases os_mem a m with e | e | ⟨e, _⟩
      · exact bno l hl b1 m1 a u ha na e
      · exact bno l hl b2 m2 a u ha na e
      · exact na (inav l hl a e)
    cases l with
    | raw => exact z
    | pa => exact z.elim (fun g => na (.inl g)) om
    | fr => exact z.elim (fun g => na (.inl g)) fun z => z.elim (fun g => na (.inr (.inl g))) om
  have mv : ∀ l : Lv, l.st → ∀ p v, Rep C.T H (av l C.H0 G os) p v → Rep C.T H' (av l C.H0 G ((os.set i (some b1)).set j (some b2))) p v := fun l hl p v h => Rep.move (mk l hl) p v h
  have mvs : ∀ l : Lv, l.st → ∀ p v, Reps C.T H (av l C.H0 G os) p v → Reps C.T H' (av l C.H0 G ((os.set i (some b1)).set j (some b2))) p v := fun l hl p v h => Reps.move (mk l hl) p v h
  obtain ⟨_, c1, vs1, p1, _, g1, _, _⟩ := K.sl i _ h1
  obtain ⟨_, c2, vs2, p2, _, g2, _, _⟩ := K.sl j _ h2
  have ec1 : c1 = a1 := Option.some.inj (Option.some.inj (p1.symm.trans o1))
  have ec2 : c2 = a2 := Option.some.inj (Option.some.inj (p2.symm.trans o2))
  rw [ec1] at g1
  rw [ec2] at g2
  have nl : ∀ a o, H a = some o → (∀ vs, o ≠ .lst vs) → H' a = some o := fun a o ha hl => off a o (fun z => by rw [z, g1] at ha; exact hl _ (Option.some.inj ha).symm) (fun z => by rw [z, g2] at ha; exact hl _ (Option.some.inj ha).symm) ha
  refine ⟨by simp [K.lo], by simp [K.ls], fun a o e => ?_, fun a g => ?_, fun a ha => ?_, fun m n a ha hb => ?_, fun p s hp => ?_, fun q hq => ⟨(K.hd q hq).1, mv q.1 (K.hd q hq).1 _ _ (K.hd q hq).2⟩, K.ob.mono (fun p r q h => ?_) (fun a o g h0 z _ => ⟨off a o (fun y => n1.2.2 (y ▸ g)) (fun y => n2.2.2 (y ▸ g)) z, g⟩) fun a vs z => nl a _ z (fun vs e => nomatch e)⟩
  · exact off a o (fun z => by rw [z, n1.1] at e; cases e) (fun z => by rw [z, n2.1] at e; cases e) (K.ext a o e)
  · exact off2 a (fun z => n1.2.2 (z ▸ g)) (fun z => n2.2.2 (z ▸ g)) (K.dom a g)
  · rcases os_mem a ha with rfl | rfl | ⟨e, q1, q2⟩
    · exact ⟨(bq _ m1).1, by rw [e1]; exact (fun z => nomatch z), (bq _ m1).2⟩
    · exact ⟨(bq _ m2).1, by rw [e2]; exact (fun z => nomatch z), (bq _ m2).2⟩
    · obtain ⟨k1, k2, k3⟩ := K.new a e
      exact ⟨k1, off2 a q1 q2 k2, k3⟩
  · have other : ∀ p b, (b = a1 ∨ b = a2 ∨ H b = none) → p ≠ i → p ≠ j → os[p]? = some (some b) → False := fun p b hb q1 q2 e => by
      rcases hb with rfl | rfl | hb
      · exact q1 (K.inj p i _ e o1)
      · exact q2 (K.inj p j _ e o2)
      · exact (K.new b (List.mem_of_getElem? e)).2.1 hb
    rcases two_get ij hio hjo ha with ⟨rfl, ea⟩ | ⟨rfl, ea⟩ | ⟨q1, q2, ea⟩ <;> rcases two_get ij hio hjo hb with ⟨rfl, eb⟩ | ⟨rfl, eb⟩ | ⟨q3, q4, eb⟩
    · rfl
    · exact absurd (Option.some.inj (ea.symm.trans eb)) nb
    · cases ea; exact (other n _ m1 q3 q4 eb).elim
    · exact absurd (Option.some.inj (eb.symm.trans ea)) nb
    · rfl
    · cases ea; exact (other n _ m2 q3 q4 eb).elim
    · cases eb; exact (other m _ m1 q1 q2 ea).elim
    · cases eb; exact (other m _ m2 q1 q2 ea).elim
    · exact K.inj m n a ea eb
  · rcases two_get ij hi hj hp with ⟨rfl, rfl⟩ | ⟨rfl, rfl⟩ | ⟨q1, q2, e⟩
    · exact ⟨trivial, b1, us, two_i ij hio, two_i ij (by rw [K.ls]; exact hi), e1, z1, r1 _⟩
    · exact ⟨trivial, b2, ws, two_j hjo, two_j (by rw [K.ls]; exact hj), e2, z2, r2 _⟩
    · have q := K.sl p s e
      cases s with
      | un => show ((os.set i (some b1)).set j (some b2))[p]? = some none; rw [two_o q1 q2]; exact q
      | sh l p' =>
        obtain ⟨k1, k2, v, k3, k4⟩ := q
        exact ⟨k1, by rw [two_o q1 q2]; exact k2, v, by rw [two_o q1 q2]; exact k3, mv l k1 _ _ k4⟩
      | ow l qs =>
        obtain ⟨k1, b, vs, k2, k3, k4, k5, k6⟩ := q
        refine ⟨k1, b, vs, by rw [two_o q1 q2]; exact k2, by rw [two_o q1 q2]; exact k3, off b _ (fun z => q1 (K.inj p i b k2 (by rw [z]; exact o1))) (fun z => q2 (K.inj p j b k2 (by rw [z]; exact o2))) k4, k5, mvs l k1 _ _ k6⟩
      | xv b d x =>
        obtain ⟨k1, k2, k3⟩ := q
        exact ⟨by rw [two_o q1 q2]; exact k1, by rw [two_o q1 q2]; exact k2, k3.same fun a o h => nl a _ h (fun vs e => nomatch e)⟩
      | tw ps =>
        obtain ⟨o, t, vs, k1, k2, k3, k4, k5⟩ := q
        refine ⟨o, t, vs, by rw [two_o q1 q2]; exact k1, by rw [two_o q1 q2]; exact k2, nl t _ k3 (fun vs e => nomatch e), k4, k5.move (fun a vs' ea h => ?_) fun p' v h => mv .fr trivial p' v h⟩
        subst ea
        exact off a _ (fun z => q1 (K.inj p i a k1 (by rw [z]; exact o1))) (fun z => q2 (K.inj p j a k1 (by rw [z]; exact o2))) h
      | ce φ =>
        obtain ⟨b, k1, k2, k3⟩ := q
        exact ⟨b, by rw [two_o q1 q2]; exact k1, by rw [two_o q1 q2]; exact k2, off b _ (fun z => q1 (K.inj p i b k1 (by rw [z]; exact o1))) (fun z => q2 (K.inj p j b k1 (by rw [z]; exact o2))) k3⟩
      | rs v D φ =>
        obtain ⟨k1, k2, k3, k4, k5⟩ := q
        refine ⟨by rw [two_o q1 q2]; exact k1, by rw [two_o q1 q2]; exact k2, k3, k5 _ _ (fun b hb => ?_) (fun b vs z => nl b _ z (fun vs e => nomatch e)) k4, k5⟩
        cases eb : H b with
        | none => exact absurd eb (K.dom b (k3 b hb).1)
        | some o => exact (off b o (fun z => n1.2.2 (z ▸ (k3 b hb).1)) (fun z => n2.2.2 (z ▸ (k3 b hb).1)) eb).symm
      | ob r p' => show ((os.set i (some b1)).set j (some b2))[p]? = some none; rw [two_o q1 q2]; exact q
  · rcases two_get ij hi hj h with ⟨_, e⟩ | ⟨_, e⟩ | ⟨q1, q2, e⟩
    · cases e
    · cases e
    · exact ⟨e, two_o q1 q2⟩
end
section
variable {C : Cn} {Γ : List Sl} {i j k : Nat} {K : PySem.W.Frag} {β : Type} {u : TS} {out : β → Oc} {l l2 : Lv} {xs ys : List Int} {E : XK}
/-- a, b, c = f(a, b), where a and b are own lists -/
theorem bd_unpK {f : List Int → List Int → R (Tp (List Int × List Int × Int × Unit))} {kk : Tp (List Int × List Int × Int × Unit) → R β} (h1 : Γ[i]? = some (.ow l (xs.map enc))) (h2 : Γ[j]? = some (.ow l2 (ys.map enc))) (ij : i ≠ j) (hk : k < Γ.length)
    (hb : ∀ r : Tp (List Int × List Int × Int × Unit), BD C (((Γ.set i (.ow .fr (r.t.1.map enc))).set j (.ow .fr (r.t.2.1.map enc))).set k (.sh .fr (enc r.t.2.2.1))) u (kk r) out) :
    BD C Γ (tSeq (tAsg (tCall (PmK C.T fun xs ys => (f xs ys).nox) [] E (tCons (tVar i) (tCons (tVar j) tNil))) (gTup K 3 (gCons (gName i) (gCons (gName j) (gCons (gName k) gNil))))) u) ((f xs ys).nox.bind kk) out := fun G hid os σ H D Kw q => by
  obtain ⟨_, a1, us, p1, s1, g1, z1, r1⟩ := Kw.sl i _ h1
  obtain ⟨_, a2, ws, p2, s2, g2, z2, r2⟩ := Kw.sl j _ h2
  have ne : a1 ≠ a2 := fun e => ij (Kw.inj i j a1 p1 (by rw [e]; exact p2))
  refine ⟨_, s1, _, s2, ?_⟩
  show PmK C.T _ ([.ref a1, .ref a2] ++ []) H _ E
  refine ⟨xs, ys, a1, a2, us, ws, rfl, ne, g1, g2, z1, z2, r1.flat, r2.flat, ?_⟩
  show PoK C.T H a1 a2 _ (f xs ys).nox
  rcases ex_cases q with ⟨r, e, q⟩ | ⟨x, e, q⟩
  · rw [e]
    intro v as H' off nd mem ow
    have ow : Own C.T H' (.tup [.lst (r.t.1.map enc), .lst (r.t.2.1.map enc), enc r.t.2.2.1]) v as := ow
    unfold Own at ow
    obtain ⟨t, vs, e1, e3, e4, ol⟩ := ow
    unfold OwnL at ol
    obtain ⟨v0, r0, as0, bs0, ew, ea, w0, ol⟩ := ol
    unfold OwnL at ol
    obtain ⟨v1, r1', as1, bs1, ew1, ea1, w1, ol⟩ := ol
    unfold OwnL at ol
    obtain ⟨v2, r2', as2, bs2, ew2, ea2, w2, ol⟩ := ol
    unfold OwnL at ol
    obtain ⟨y1, y2⟩ := ol
    subst y1; subst y2; subst ew2; subst ew1; subst ew; subst e1
    unfold Own at w0 w1
    obtain ⟨b1, vs1, cs1, rfl, f1, f2, f3, f4⟩ := w0
    obtain ⟨b2, vs2, cs2, rfl, f5, f6, f7, f8⟩ := w1
    have m1 : b1 ∈ as := by rw [ea, f1]; exact List.mem_append_left _ (List.mem_cons_self ..)
    have m2 : b2 ∈ as := by rw [ea, ea1, f5]; exact List.mem_append_right _ (List.mem_append_left _ (List.mem_cons_self ..))
    have nb : b1 ≠ b2 := fun z => by
      rw [ea] at nd
      refine (List.nodup_append.mp nd).2.2 b1 (by rw [f1]; exact List.mem_cons_self ..) b2 (by rw [ea1, f5]; exact List.mem_append_left _ (List.mem_cons_self ..)) z
    have K2 := Kw.two (xs' := r.t.1.map enc) (ys' := r.t.2.1.map enc) h1 h2 ij p1 p2 off nb (mem b1 m1) (mem b2 m2) f2 f6 f3 f7 (fun A => (OwnL.rep _ f4).flat) (fun A => (OwnL.rep _ f8).flat)
    have rz : Rep C.T H' (av .fr C.H0 G ((os.set i (some b1)).set j (some b2))) (enc r.t.2.2.1) v2 := by
      have : Rep C.T H' (fun _ => False) (.int r.t.2.2.1) v2 := Own.rep _ w2
      exact this
    have K3 := K2.put (i := k) (by rw [List.length_set, List.length_set]; exact hk) (l := .fr) trivial rz
    exact ⟨_, [.ref b1, .ref b2, v2], rfl, rd_seqT e3, rfl, .ref b1, [.ref b2, v2], rfl, .ref b2, [v2], rfl, v2, [], rfl, rfl, hb r G hid _ _ H' D K3 q⟩
  · exfalso
    cases e3 : f xs ys <;> (rw [e3] at e; cases e)
/-- a, b, c = two new lists and a flat value -/
theorem bd_parN3 {δ α γ : Type} [Enc δ] [Enc α] [Enc γ] [Flat α] [Flat δ] [Flat γ] {t1 t2 t3 : TE} {m1 : R (List α)} {m2 : R (List δ)} {m3 : R γ} {l3 : Lv} {kk : List α → List δ → γ → R β} (h1 : EvN C Γ l t1 m1) (h2 : EvN C Γ l t2 m2) (h3 : Evm C Γ l3 t3 m3) (hl : l.st) (hi : i < Γ.length) (hj : j < Γ.length) (hk : k < Γ.length)
    (hb : ∀ xs ys z, BD C (((Γ.set i (.ow l (xs.map enc))).set j (.ow l (ys.map enc))).set k (.sh .fr (enc z))) u (kk xs ys z) out) : BD C Γ (tSeq (tPar3 i j k (tCons t1 (tCons t2 (tCons t3 tNil)))) u) (m1.bind fun xs => m2.bind fun ys => m3.bind fun z => kk xs ys z) out := fun G hid os σ H D Kw q => by
  refine h1 G hid os σ H _ Kw ?_
  rcases ex_cases q with ⟨xs, e, q⟩ | ⟨x, e, q⟩ <;> rw [e]
  · intro p1 vs H1 s1 n1 hp1 hz1 r1
    have K0 := Kw.same s1
    refine h2 G hid os σ H1 _ K0 ?_
    rcases ex_cases q with ⟨ys, e2, q⟩ | ⟨x, e2, q⟩ <;> rw [e2]
    · intro p2 us H2 s2 n2 hp2 hz2 r2
      refine h3 G hid os σ H2 _ (K0.same s2) ?_
      rcases ex_cases q with ⟨z, e3, q⟩ | ⟨x, e3, q⟩ <;> rw [e3]
      · intro v H3 s3 r3
        refine ⟨.ref p1, .ref p2, v, rfl, ?_⟩
        have K1 := Kw.own hi hl s1 n1 hp1 hz1 r1
        have K2 := K1.own (i := j) (by rw [List.length_set]; exact hj) hl s2 n2 hp2 hz2 r2.flat
        have K3 := (K2.same s3).put (i := k) (l := .fr) (by rw [List.length_set, List.length_set]; exact hk) trivial r3.flat
        exact hb xs ys z G hid _ _ H3 D K3 q
      · exact pox_of (K0.same s2) q
    · exact pox_of K0 q
  · exact pox_of Kw q
end
end Pv

set_option Elab.async false
set_option linter.all false
set_option maxRecDepth 100000
set_option maxHeartbeats 0
namespace K14
open PySem PySem.Spec L2 Pv
open Enc (enc)
open Encs (encs)
def topS (i : Nat) : Stmt := PySem.Challenge.pw_climbrow_k14_whole_turns_of_the_ring.main.body.getD i (.Pass ⟨0, 0, 0, 0⟩)
abbrev s_check_hands : Stmt := topS 16
abbrev N_check_hands : List Str := ["mine", "theirs"]
theorem sc_check_hands : FnScope N_check_hands ["mine", "theirs"] (defScope s_check_hands) := ⟨rfl, rfl, rfl, by decide +kernel, rfl, by decide +kernel, by decide +kernel⟩
abbrev s_deck : Stmt := topS 18
abbrev N_deck : List Str := ["mine", "theirs", "keys", "index", "number", "_", "mark"]
theorem sc_deck : FnScope N_deck ["mine", "theirs"] (defScope s_deck) := ⟨rfl, rfl, rfl, by decide +kernel, rfl, by decide +kernel, by decide +kernel⟩
abbrev s_turn_once : Stmt := topS 20
abbrev N_turn_once : List Str := ["mine", "theirs", "bottom", "side", "index"]
theorem sc_turn_once : FnScope N_turn_once ["mine", "theirs"] (defScope s_turn_once) := ⟨rfl, rfl, rfl, by decide +kernel, rfl, by decide +kernel, by decide +kernel⟩
abbrev s_turn : Stmt := topS 21
abbrev N_turn : List Str := ["mine", "theirs", "steps", "_", "new_mine", "new_theirs", "change", "one_change"]
theorem sc_turn : FnScope N_turn ["mine", "theirs", "steps"] (defScope s_turn) := ⟨rfl, rfl, rfl, by decide +kernel, rfl, by decide +kernel, by decide +kernel⟩
abbrev s__law_cell : Stmt := topS 23
abbrev N__law_cell : List Str := ["_law_script", "_law_k"]
theorem sc__law_cell : FnScope N__law_cell ["_law_script", "_law_k"] (defScope s__law_cell) := ⟨rfl, rfl, rfl, by decide +kernel, rfl, by decide +kernel, by decide +kernel⟩
abbrev s__law_draws : Stmt := topS 24
abbrev N__law_draws : List Str := ["_law_cell_here", "_law_sizes", "_law_digits", "_law_great", "_law_first", "_law_out", "_law_k", "_law_mixed"]
theorem sc__law_draws : FnScope N__law_draws ["_law_cell_here", "_law_sizes"] (defScope s__law_draws) := ⟨rfl, rfl, rfl, by decide +kernel, rfl, by decide +kernel, by decide +kernel⟩
abbrev s__law_hand : Stmt := topS 25
abbrev N__law_hand : List Str := ["_law_cell_here", "_law_count", "_law_kind", "_law_x", "_law_k"]
theorem sc__law_hand : FnScope N__law_hand ["_law_cell_here", "_law_count", "_law_kind"] (defScope s__law_hand) := ⟨rfl, rfl, rfl, by decide +kernel, rfl, by decide +kernel, by decide +kernel⟩
abbrev s__law_hands : Stmt := topS 26
abbrev N__law_hands : List Str := ["_law_script", "_law_at", "_law_count", "_law_shape", "_law_mine", "_law_theirs", "_law_x"]
theorem sc__law_hands : FnScope N__law_hands ["_law_script", "_law_at", "_law_count"] (defScope s__law_hands) := ⟨rfl, rfl, rfl, by decide +kernel, rfl, by decide +kernel, by decide +kernel⟩
abbrev s__law_pairing : Stmt := topS 27
abbrev N__law_pairing : List Str := ["_law_cell_here", "_law_count", "_law_free", "_law_out", "_law_x", "_law_k"]
theorem sc__law_pairing : FnScope N__law_pairing ["_law_cell_here", "_law_count"] (defScope s__law_pairing) := ⟨rfl, rfl, rfl, by decide +kernel, rfl, by decide +kernel, by decide +kernel⟩
abbrev s__law_unrank : Stmt := topS 28
abbrev N__law_unrank : List Str := ["_law_number", "_law_count", "_law_free", "_law_out", "_law_k", "_law_x"]
theorem sc__law_unrank : FnScope N__law_unrank ["_law_number", "_law_count"] (defScope s__law_unrank) := ⟨rfl, rfl, rfl, by decide +kernel, rfl, by decide +kernel, by decide +kernel⟩
abbrev s__law_factorial : Stmt := topS 29
abbrev N__law_factorial : List Str := ["_law_count", "_law_out", "_law_k"]
theorem sc__law_factorial : FnScope N__law_factorial ["_law_count"] (defScope s__law_factorial) := ⟨rfl, rfl, rfl, by decide +kernel, rfl, by decide +kernel, by decide +kernel⟩
abbrev s__law_is_int : Stmt := topS 30
abbrev N__law_is_int : List Str := ["_law_x"]
theorem sc__law_is_int : FnScope N__law_is_int ["_law_x"] (defScope s__law_is_int) := ⟨rfl, rfl, rfl, by decide +kernel, rfl, by decide +kernel, by decide +kernel⟩
abbrev s__law_is_ints : Stmt := topS 31
abbrev N__law_is_ints : List Str := ["_law_xs", "_law_x"]
theorem sc__law_is_ints : FnScope N__law_is_ints ["_law_xs"] (defScope s__law_is_ints) := ⟨rfl, rfl, rfl, by decide +kernel, rfl, by decide +kernel, by decide +kernel⟩
abbrev s__law_result : Stmt := topS 32
abbrev N__law_result : List Str := ["_law_mine", "_law_theirs", "_law_pairing_here", "_law_m"]
theorem sc__law_result : FnScope N__law_result ["_law_mine", "_law_theirs", "_law_pairing_here"] (defScope s__law_result) := ⟨rfl, rfl, rfl, by decide +kernel, rfl, by decide +kernel, by decide +kernel⟩
abbrev s__law_order : Stmt := topS 33
abbrev N__law_order : List Str := ["_law_mine", "_law_theirs", "_law_cards", "_law_k"]
theorem sc__law_order : FnScope N__law_order ["_law_mine", "_law_theirs"] (defScope s__law_order) := ⟨rfl, rfl, rfl, by decide +kernel, rfl, by decide +kernel, by decide +kernel⟩
abbrev s__law_due : Stmt := topS 34
abbrev N__law_due : List Str := ["_law_mine", "_law_theirs", "_law_times", "_law_order_here", "_law_size", "_law_new_mine", "_law_new_theirs", "_law_change", "_law_k", "_law_first", "_law_again", "_law_number"]
theorem sc__law_due : FnScope N__law_due ["_law_mine", "_law_theirs", "_law_times"] (defScope s__law_due) := ⟨rfl, rfl, rfl, by decide +kernel, rfl, by decide +kernel, by decide +kernel⟩
abbrev s__law_asked : Stmt := topS 35
abbrev N__law_asked : List Str := ["_law_one", "_law_two", "_law_times"]
theorem sc__law_asked : FnScope N__law_asked ["_law_one", "_law_two", "_law_times"] (defScope s__law_asked) := ⟨rfl, rfl, rfl, by decide +kernel, rfl, by decide +kernel, by decide +kernel⟩
abbrev s__law_names : Stmt := topS 36
abbrev N__law_names : List Str := ["_law_cards", "_law_card"]
theorem sc__law_names : FnScope N__law_names ["_law_cards"] (defScope s__law_names) := ⟨rfl, rfl, rfl, by decide +kernel, rfl, by decide +kernel, by decide +kernel⟩
abbrev s__law_turn_good : Stmt := topS 37
abbrev N__law_turn_good : List Str := ["_law_one", "_law_two", "_law_times", "_law_pairings", "_law_mine", "_law_theirs", "_law_due_here", "_law_k", "_law_told", "_law_pairing_here", "_law_order_here", "_law_cut", "_law_row"]
theorem sc__law_turn_good : FnScope N__law_turn_good ["_law_one", "_law_two", "_law_times", "_law_pairings"] (defScope s__law_turn_good) := ⟨rfl, rfl, rfl, by decide +kernel, rfl, by decide +kernel, by decide +kernel⟩
abbrev s__law_refused : Stmt := topS 38
abbrev N__law_refused : List Str := ["_law_mine", "_law_theirs", "_law_times", "_law_one", "_law_two", "e"]
theorem sc__law_refused : FnScope N__law_refused ["_law_mine", "_law_theirs", "_law_times"] (defScope s__law_refused) := ⟨rfl, rfl, rfl, by decide +kernel, rfl, by decide +kernel, by decide +kernel⟩
abbrev s_law : Stmt := topS 39
abbrev N_law : List Str := ["_law_script", "_law_shape", "_law_count", "_law_hands_here", "_law_mine", "_law_theirs", "_law_one", "_law_two", "_law_times", "_law_pairings", "_law_a", "_law_x", "_law_k"]
theorem sc_law : FnScope N_law ["_law_script"] (defScope s_law) := ⟨rfl, rfl, rfl, by decide +kernel, rfl, by decide +kernel, by decide +kernel⟩
def m_check_hands (v_mine : (List Int)) (v_theirs : (List Int)) : R Unit :=
  (R.ifm (R.ok (!decide ((v_mine.length : Int) = (v_theirs.length : Int)))) (R.raise 1 [enc ((v_mine.length : Int) : Int), enc ((v_theirs.length : Int) : Int)]) (R.ok ()))
def m_deck (v_mine : (List Int)) (v_theirs : (List Int)) : R (List (Tp (Str × Int × Unit))) :=
  (R.lt ((enumF v_theirs).map fun x1 : (Tp (Int × Int × Unit)) => (Tp.mk (x1.t.2.1, (0 : Int), x1.t.1, ()) : (Tp (Int × Int × Int × Unit)))) fun v_keys_2 => (R.bind (R.of (catL v_keys_2 ((enumF v_mine).map fun x4 : (Tp (Int × Int × Unit)) => (Tp.mk (x4.t.2.1, (1 : Int), x4.t.1, ()) : (Tp (Int × Int × Int × Unit)))))) fun v_keys_5 => (R.ok ((sortT v_keys_5).map fun x6 : (Tp (Int × Int × Int × Unit)) => (Tp.mk ((if (decide (x6.t.2.1 = (1 : Int))) then (PySem.Str.ofString "mine") else (PySem.Str.ofString "theirs")), x6.t.2.2.1, ()) : (Tp (Str × Int × Unit)))))))
def m_turn_once (v_mine : (List Int)) (v_theirs : (List Int)) : R (Tp ((List Int) × (List Int) × Int × Unit)) :=
  (R.bind (R.bind (R.bind (R.of (v_mine.min?)) fun t1 => R.bind (R.of (v_theirs.min?)) fun t2 => (R.ok (if t2 < t1 then t2 else t1))) fun t3 => (R.ok (t3 - (1 : Int)))) fun v_bottom_4 => (R.bind (R.bind (m_deck v_mine v_theirs) fun t5 => (R.of (atI t5 (-(1 : Int))))) fun u6 => (R.ifm (R.ok (decide (u6.t.1 = (PySem.Str.ofString "mine")))) (R.bind (R.bind (R.bind (R.of (catL (cutL v_mine none (some u6.t.2.1)) ([v_bottom_4] : (List Int)))) fun t7 => (R.of (catL t7 (cutL v_mine (some (u6.t.2.1 + (1 : Int))) none)))) fun g8 => R.bind (R.ok v_theirs) fun g9 => R.bind (R.ok (-(1 : Int))) fun g10 => R.ok (Tp.mk (g8, g9, g10, ()) : (Tp ((List Int) × (List Int) × Int × Unit)))) fun a11 => R.ok a11) (R.bind (R.bind (R.ok v_mine) fun g13 => R.bind (R.bind (R.of (catL (cutL v_theirs none (some u6.t.2.1)) ([v_bottom_4] : (List Int)))) fun t12 => (R.of (catL t12 (cutL v_theirs (some (u6.t.2.1 + (1 : Int))) none)))) fun g14 => R.bind (R.ok (1 : Int)) fun g15 => R.ok (Tp.mk (g13, g14, g15, ()) : (Tp ((List Int) × (List Int) × Int × Unit)))) fun a16 => R.ok a16))))
def m_turn_b1 (x8 : Int) (s9 : (List Int) × (List Int) × Int) : R ((List Int) × (List Int) × Int) :=
  (R.bind ((m_turn_once s9.1 s9.2.1)).nox fun u10 => (R.lt (s9.2.2 + u10.t.2.2.1) fun v_change_11 => (R.ok (u10.t.1, u10.t.2.1, v_change_11))))
def m_turn (v_mine : (List Int)) (v_theirs : (List Int)) (v_steps : Int) : R (Tp ((List Int) × (List Int) × Int × Unit)) :=
  (R.bind (m_check_hands v_mine v_theirs) fun _ => (R.bind (R.ok v_mine) fun v_new_mine_1 => R.bind (R.ok v_theirs) fun v_new_theirs_2 => R.bind (R.ok (0 : Int)) fun v_change_3 => (R.ifm (R.ok (!(Tru.tru v_mine))) (R.bind (R.bind (R.ok v_new_mine_1) fun g4 => R.bind (R.ok v_new_theirs_2) fun g5 => R.bind (R.ok v_change_3) fun g6 => R.ok (Tp.mk (g4, g5, g6, ()) : (Tp ((List Int) × (List Int) × Int × Unit)))) fun a7 => R.ok a7) (R.bind (R.of (rngO 0 v_steps)) fun l16 => R.bind (foldR m_turn_b1 l16 (v_new_mine_1, v_new_theirs_2, v_change_3)) fun s9 => (R.bind (R.bind (R.ok s9.1) fun g12 => R.bind (R.ok s9.2.1) fun g13 => R.bind (R.ok s9.2.2) fun g14 => R.ok (Tp.mk (g12, g13, g14, ()) : (Tp ((List Int) × (List Int) × Int × Unit)))) fun a15 => R.ok a15)))))
def m__law_cell (v_script : Scr) (v_k : Int) : R Int :=
  (R.ifm (R.ok (decide (v_k < (v_script.xs.length : Int)))) (R.bind (R.of (atI v_script.xs v_k)) fun t1 => (R.ok t1)) (R.ifm (R.ok (decide ((0 : Int) < (v_script.xs.length : Int)))) (R.bind (R.bind (R.of (atI v_script.xs (0 : Int))) fun t2 => (R.ok t2)) fun t3 => R.bind (R.of (mulO (104729 : Int) (v_k + (1 : Int)))) fun t4 => (R.ok (t3 + t4))) (R.of (mulO (104729 : Int) (v_k + (1 : Int))))))
def m__law_draws_b1 (v_sizes : (List Int)) (v_great_3 : Bool) (v_first_4 : Int) (x6 : Int) (s7 : (List Int) × Int) : R ((List Int) × Int) :=
  (R.bind (R.ifm (R.ok (v_great_3 && (decide ((0 : Int) < s7.2)))) (R.bind (R.bind (R.of (atI v_sizes x6)) fun t40 => (R.of (modO s7.2 t40))) fun a45 => R.bind (R.of (appL s7.1 a45)) fun v_out_41 => (R.bind (R.bind (R.of (atI v_sizes x6)) fun t43 => (R.of (divO s7.2 t43))) fun v_digits_44 => (R.ok (v_out_41, v_digits_44)))) (R.bind (R.bind (R.bind (R.bind (R.bind (R.of (mulO (7919 : Int) x6)) fun t46 => (R.ok (v_first_4 + t46))) fun t47 => (R.ok (t47 + (13 : Int)))) fun t48 => (R.ok t48)) fun t50 => (R.of (modO t50 (2147483647 : Int)))) fun v_mixed_51 => (R.bind (R.bind (R.bind (R.of (mulO v_mixed_51 (v_mixed_51 + (48271 : Int)))) fun t52 => (R.ok t52)) fun t54 => (R.of (modO t54 (2147483629 : Int)))) fun v_mixed_55 => (R.bind (R.bind (R.bind (R.bind (R.of (mulO v_mixed_55 (v_mixed_55 + (69621 : Int)))) fun t56 => R.bind (R.of (mulO (31 : Int) x6)) fun t57 => (R.ok (t56 + t57))) fun t58 => (R.ok t58)) fun t60 => (R.of (modO t60 (2147483647 : Int)))) fun v_mixed_61 => (R.bind (R.bind (R.bind (R.of (divO v_mixed_61 (9 : Int))) fun t62 => (R.ok t62)) fun t65 => R.bind (R.of (atI v_sizes x6)) fun t66 => (R.of (modO t65 t66))) fun a68 => R.bind (R.of (appL s7.1 a68)) fun v_out_67 => (R.ok (v_out_67, s7.2))))))) fun s38 => (R.ok (s38.1, s38.2)))
def m__law_draws (v_cell : Int) (v_sizes : (List Int)) : R (List Int) :=
  (R.lt (if v_cell < 0 then -v_cell else v_cell) fun v_digits_1 => (R.bind (R.bind (R.of (powO (10 : Int) (18 : Int))) fun t2 => (R.ok (decide (t2 ≤ v_digits_1)))) fun v_great_3 => (R.lt v_digits_1 fun v_first_4 => (R.lt ([] : (List Int)) fun v_out_5 => (R.bind (R.of (rngO 0 (v_sizes.length : Int))) fun l69 => R.bind (foldR (m__law_draws_b1 v_sizes v_great_3 v_first_4) l69 (v_out_5, v_digits_1)) fun s7 => (R.ok s7.1))))))
def m__law_hand (v_cell : Int) (v_count : Int) (v_kind : Int) : R (List Int) :=
  (R.ifm (R.ok (decide (v_kind = (0 : Int)))) (R.bind (R.bind (R.bind (R.of (rngO 0 v_count)) fun l2 => R.ok (l2.map fun x1 : Int => (3 : Int))) fun t3 => (m__law_draws v_cell t3)) fun l5 => R.ok (l5.map fun x4 : Int => (x4 - (1 : Int)))) (R.ifm (R.ok (decide (v_kind = (1 : Int)))) (R.bind (R.bind (R.bind (R.of (rngO 0 v_count)) fun l8 => compR (fun x6 : Int => (R.ok true)) (fun x6 : Int => (R.bind (R.of (mulO (2 : Int) v_count)) fun t7 => (R.ok (t7 + (1 : Int))))) l8) fun t9 => (m__law_draws v_cell t9)) fun l11 => R.ok (l11.map fun x10 : Int => (x10 - v_count))) (R.ifm (R.ok (decide (v_kind = (2 : Int)))) (R.bind (R.bind (R.bind (R.of (rngO 0 v_count)) fun l16 => compR (fun x12 : Int => (R.ok true)) (fun x12 : Int => (R.bind (R.bind (R.of (powO (10 : Int) (15 : Int))) fun t14 => (R.of (mulO (2 : Int) t14))) fun t15 => (R.ok (t15 + (1 : Int))))) l16) fun t17 => (m__law_draws v_cell t17)) fun l20 => compR (fun x18 : Int => (R.ok true)) (fun x18 : Int => (R.bind (R.of (powO (10 : Int) (15 : Int))) fun t19 => (R.ok (x18 - t19)))) l20) (R.bind (R.bind (R.bind (R.of (rngO 0 v_count)) fun l22 => R.ok (l22.map fun x21 : Int => (v_count + (2 : Int)))) fun t23 => (m__law_draws v_cell t23)) fun l25 => R.ok (l25.map fun x24 : Int => x24)))))
def m__law_hands (v_script : Scr) (v_at : Int) (v_count : Int) : R (Tp ((List Int) × (List Int) × Unit)) :=
  (R.bind (R.bind (m__law_cell v_script v_at) fun t1 => (m__law_draws t1 ([(6 : Int), (4 : Int), (3 : Int), (40 : Int)] : (List Int)))) fun v_shape_2 => (R.bind (R.bind (m__law_cell v_script (v_at + (1 : Int))) fun t5 => R.bind (R.bind (R.of (atI v_shape_2 (0 : Int))) fun t4 => (R.of (modO t4 (4 : Int)))) fun t6 => (m__law_hand t5 v_count t6)) fun v_mine_7 => (R.bind (R.bind (m__law_cell v_script (v_at + (2 : Int))) fun t10 => R.bind (R.bind (R.of (atI v_shape_2 (0 : Int))) fun t9 => (R.of (modO t9 (4 : Int)))) fun t11 => (m__law_hand t10 v_count t11)) fun v_theirs_12 => (R.bind (R.ifm (R.bind (R.of (atI v_shape_2 (0 : Int))) fun t13 => (R.ok (decide (t13 = (4 : Int))))) (R.lt v_mine_7 fun v_theirs_40 => (R.bind (R.ifm (R.ite (decide ((0 : Int) < v_count)) (R.bind (R.of (atI v_shape_2 (1 : Int))) fun t41 => (R.ok (decide ((0 : Int) < t41)))) (R.ok false)) (R.bind (R.bind (R.bind (R.bind (R.bind (R.of (atI v_shape_2 (3 : Int))) fun t55 => (R.of (modO t55 v_count))) fun t56 => (R.of (atI v_theirs_40 t56))) fun t57 => R.bind (R.of (atI v_shape_2 (1 : Int))) fun t58 => (R.ok (t57 + t58))) fun t59 => (R.ok (t59 - (2 : Int)))) fun a63 => R.bind (R.bind (R.of (atI v_shape_2 (3 : Int))) fun t61 => (R.of (modO t61 v_count))) fun j64 => R.bind (R.of (setL v_theirs_40 j64 a63)) fun v_theirs_62 => (R.ok (v_theirs_62))) (R.ok (v_theirs_40))) fun s53 => (R.ok (s53)))) (R.ok (v_theirs_12))) fun s39 => (R.bind (R.ifm (R.bind (R.bind (R.of (atI v_shape_2 (0 : Int))) fun t65 => (R.ok (decide (t65 = (5 : Int))))) fun t67 => (R.ite t67 (R.bind (R.of (atI v_shape_2 (2 : Int))) fun t66 => (R.ok (decide ((0 : Int) < t66)))) (R.ok false))) (R.bind (R.bind (R.ok v_mine_7) fun l79 => compR (fun x75 : Int => (R.ok true)) (fun x75 : Int => (R.bind (R.bind (R.of (atI v_shape_2 (1 : Int))) fun t77 => (R.of (mulO (2 : Int) t77))) fun t78 => (R.ok ((x75 + (3 : Int)) - t78)))) l79) fun v_theirs_80 => (R.ok (v_theirs_80))) (R.ok (s39))) fun s74 => (R.ok (Tp.mk (v_mine_7, s74, ()) : (Tp ((List Int) × (List Int) × Unit)))))))))
def m__law_pairing_b1 (x8 : Int) (s9 : (List Int) × (List Int)) : R ((List Int) × (List Int)) :=
  (R.bind (R.of (atI s9.2 x8)) fun a12 => R.bind (R.of (appL s9.1 a12)) fun v_out_10 => (R.bind (R.of (catL (cutL s9.2 none (some x8)) (cutL s9.2 (some (x8 + (1 : Int))) none))) fun v_free_11 => (R.ok (v_out_10, v_free_11))))
def m__law_pairing (v_cell : Int) (v_count : Int) : R (List Int) :=
  (R.bind (R.bind (R.of (rngO 0 v_count)) fun l2 => R.ok (l2.map fun x1 : Int => x1)) fun v_free_3 => (R.lt ([] : (List Int)) fun v_out_4 => (R.bind (R.bind (R.bind (R.of (rngO 0 v_count)) fun l6 => R.ok (l6.map fun x5 : Int => (v_count - x5))) fun t7 => (m__law_draws v_cell t7)) fun l13 => R.bind (foldR m__law_pairing_b1 l13 (v_out_4, v_free_3)) fun s9 => (R.ok s9.1))))
def m__law_unrank_b1 (x5 : Int) (s6 : Int × (List Int) × (List Int)) : R (Int × (List Int) × (List Int)) :=
  (R.bind (R.of (modO s6.1 (s6.2.2.length : Int))) fun v_x_7 => (R.bind (R.of (divO s6.1 (s6.2.2.length : Int))) fun v_number_8 => (R.bind (R.of (atI s6.2.2 v_x_7)) fun a11 => R.bind (R.of (appL s6.2.1 a11)) fun v_out_9 => (R.bind (R.of (catL (cutL s6.2.2 none (some v_x_7)) (cutL s6.2.2 (some (v_x_7 + (1 : Int))) none))) fun v_free_10 => (R.ok (v_number_8, v_out_9, v_free_10))))))
def m__law_unrank (v_number : Int) (v_count : Int) : R (List Int) :=
  (R.bind (R.bind (R.of (rngO 0 v_count)) fun l2 => R.ok (l2.map fun x1 : Int => x1)) fun v_free_3 => (R.lt ([] : (List Int)) fun v_out_4 => (R.bind (R.of (rngO 0 v_count)) fun l12 => R.bind (foldR m__law_unrank_b1 l12 (v_number, v_out_4, v_free_3)) fun s6 => (R.ok s6.2.1))))
def m__law_factorial_b1 (x2 : Int) (s3 : Int) : R (Int) :=
  (R.bind (R.of (mulO s3 (x2 + (1 : Int)))) fun v_out_4 => (R.ok (v_out_4)))
def m__law_factorial (v_count : Int) : R Int :=
  (R.lt (1 : Int) fun v_out_1 => (R.bind (R.of (rngO 0 v_count)) fun l5 => R.bind (foldR m__law_factorial_b1 l5 (v_out_1)) fun s3 => (R.ok s3)))
def m__law_is_int (v_x : Int) : R Bool :=
  (R.ok (true && (!false)))
def m__law_is_ints (v_xs : (List Int)) : R Bool :=
  (R.ite true (R.bind (R.bind (R.ok v_xs) fun l2 => compR (fun x1 : Int => (R.ok true)) (fun x1 : Int => (m__law_is_int x1)) l2) fun t3 => (R.ok (t3.all id))) (R.ok false))
def m__law_result (v_mine : (List Int)) (v_theirs : (List Int)) (v_pairing : (List Int)) : R Int :=
  (R.bind (R.bind (R.of (rngO 0 (v_mine.length : Int))) fun l6 => compR (fun x1 : Int => (R.ok true)) (fun x1 : Int => (R.bind (R.bind (R.of (atI v_mine x1)) fun t3 => R.bind (R.bind (R.of (atI v_pairing x1)) fun t2 => (R.of (atI v_theirs t2))) fun t4 => (R.ok (decide (t4 ≤ t3)))) fun t5 => (R.ok (if t5 then (1 : Int) else 0)))) l6) fun t7 => (R.ok t7.sum))
def m__law_order (v_mine : (List Int)) (v_theirs : (List Int)) : R (List (Tp (Int × Int × Int × Unit))) :=
  (R.bind (R.bind (R.of (rngO 0 (v_theirs.length : Int))) fun l3 => compR (fun x1 : Int => (R.ok true)) (fun x1 : Int => (R.bind (R.of (atI v_theirs x1)) fun t2 => (R.ok (Tp.mk (t2, (0 : Int), x1, ()) : (Tp (Int × Int × Int × Unit)))))) l3) fun v_cards_4 => (R.bind (R.bind (R.bind (R.of (rngO 0 (v_mine.length : Int))) fun l11 => compR (fun x9 : Int => (R.ok true)) (fun x9 : Int => (R.bind (R.of (atI v_mine x9)) fun t10 => (R.ok (Tp.mk (t10, (1 : Int), x9, ()) : (Tp (Int × Int × Int × Unit)))))) l11) fun t12 => (R.of (catL v_cards_4 t12))) fun t13 => (R.ok (sortT t13))))
def m__law_due_b1 (v_times : Int) (v_order_1 : (List (Tp (Int × Int × Int × Unit)))) (v_size_2 : Int) (x6 : Int) (s7 : (List Int) × Int × (List Int)) : R ((List Int) × Int × (List Int)) :=
  (R.lt ((v_size_2 - (1 : Int)) - x6) fun v_first_8 => (R.bind (R.ifm (R.ok (decide (v_first_8 < v_times))) (R.bind (R.of (divO ((v_times - (1 : Int)) - v_first_8) v_size_2)) fun v_again_40 => (R.bind (R.bind (R.bind (R.bind (R.bind (R.of (atI v_order_1 (0 : Int))) fun t41 => (R.ok t41.t.1)) fun t42 => (R.ok (t42 - (1 : Int)))) fun t43 => (R.ok (t43 - v_first_8))) fun t44 => R.bind (R.of (mulO v_size_2 v_again_40)) fun t45 => (R.ok (t44 - t45))) fun v_number_46 => (R.bind (R.ifm (R.bind (R.bind (R.of (atI v_order_1 x6)) fun t47 => (R.ok t47.t.2.1)) fun t48 => (R.ok (decide (t48 = (1 : Int))))) (R.bind (R.ok v_number_46) fun a63 => R.bind (R.bind (R.of (atI v_order_1 x6)) fun t60 => (R.ok t60.t.2.2.1)) fun j64 => R.bind (R.of (setL s7.1 j64 a63)) fun v_new_mine_61 => (R.lt ((s7.2.1 - (1 : Int)) - v_again_40) fun v_change_62 => (R.ok (v_new_mine_61, v_change_62, s7.2.2)))) (R.bind (R.ok v_number_46) fun a68 => R.bind (R.bind (R.of (atI v_order_1 x6)) fun t65 => (R.ok t65.t.2.2.1)) fun j69 => R.bind (R.of (setL s7.2.2 j69 a68)) fun v_new_theirs_66 => (R.lt ((s7.2.1 + (1 : Int)) + v_again_40) fun v_change_67 => (R.ok (s7.1, v_change_67, v_new_theirs_66))))) fun s59 => (R.ok (s59.1, s59.2.1, s59.2.2))))) (R.ok (s7.1, s7.2.1, s7.2.2))) fun s39 => (R.ok (s39.1, s39.2.1, s39.2.2))))
def m__law_due (v_mine : (List Int)) (v_theirs : (List Int)) (v_times : Int) : R (List PV) :=
  (R.bind (m__law_order v_mine v_theirs) fun v_order_1 => (R.lt (v_order_1.length : Int) fun v_size_2 => (R.lt v_mine fun v_new_mine_3 => (R.lt v_theirs fun v_new_theirs_4 => (R.lt (0 : Int) fun v_change_5 => (R.bind (R.of (rngO 0 v_size_2)) fun l79 => R.bind (foldR (m__law_due_b1 v_times v_order_1 v_size_2) l79 (v_new_mine_3, v_change_5, v_new_theirs_4)) fun s7 => (R.ok ([(enc s7.1 : PV), (enc s7.2.2 : PV), (enc s7.2.1 : PV)] : (List PV)))))))))
def m__law_asked (v_one : (List Int)) (v_two : (List Int)) (v_times : Int) : R (Tp ((List Int) × (List Int) × Int × Unit)) :=
  (R.ifm (R.ok (decide (v_times < (0 : Int)))) (R.bind (m_turn v_one v_two (1 : Int)) fun a1 => R.ok a1) (R.bind (m_turn v_one v_two v_times) fun a2 => R.ok a2))
def m__law_names (v_cards : (List (Tp (Int × Int × Int × Unit)))) : R (List (Tp (Int × Int × Unit))) :=
  (R.ok (v_cards.map fun x1 : (Tp (Int × Int × Int × Unit)) => (Tp.mk (x1.t.2.1, x1.t.2.2.1, ()) : (Tp (Int × Int × Unit)))))
def m__law_turn_good_b1 (v_mine_1 : (List Int)) (v_theirs_2 : (List Int)) (v_told_6 : (Tp ((List Int) × (List Int) × Int × Unit))) (x22 : (List Int)) (s23 : Unit) : R (Stp (Unit) Bool) :=
  (R.ifm (R.bind (R.bind (m__law_result v_told_6.t.1 v_told_6.t.2.1 x22) fun t24 => R.bind (m__law_result v_mine_1 v_theirs_2 x22) fun t25 => (R.ok (t24 - t25))) fun t26 => (R.ok (!decide (t26 = v_told_6.t.2.2.1)))) (R.bind (R.ok false) fun a27 => R.ok (Stp.rt a27)) (R.ok (Stp.nx ())))
def m__law_turn_good_b2 (v_one : (List Int)) (v_two : (List Int)) (v_times : Int) (v_pairings : (List (List Int))) (v_mine_1 : (List Int)) (v_theirs_2 : (List Int)) (v_due_3 : (List PV)) (x4 : Int) (s5 : Unit) : R (Stp (Unit) Bool) :=
  (R.bind ((m__law_asked v_one v_two v_times)).nox fun v_told_6 => (R.ifm (R.ok ((!eqP (enc v_one) (enc v_mine_1)) || ((!eqP (enc v_two) (enc v_theirs_2)) || ((!true) || (!decide ((3 : Int) = (3 : Int))))))) (R.bind (R.ok false) fun a9 => R.ok (Stp.rt a9)) (R.ifm (R.bind (R.bind (m__law_is_ints v_told_6.t.1) fun t10 => R.ok (!t10)) fun t14 => (R.ite t14 (R.ok true) (R.bind (R.bind (m__law_is_ints v_told_6.t.2.1) fun t11 => R.ok (!t11)) fun t13 => (R.ite t13 (R.ok true) (R.bind (m__law_is_int v_told_6.t.2.2.1) fun t12 => R.ok (!t12)))))) (R.bind (R.ok false) fun a15 => R.ok (Stp.rt a15)) (R.ifm (R.bind (R.bind (R.of (atI v_due_3 (0 : Int))) fun t16 => (R.of ((eqQ (enc v_told_6.t.1) (enc t16)).map (!·)))) fun t20 => (R.ite t20 (R.ok true) (R.bind (R.bind (R.of (atI v_due_3 (1 : Int))) fun t17 => (R.of ((eqQ (enc v_told_6.t.2.1) (enc t17)).map (!·)))) fun t19 => (R.ite t19 (R.ok true) (R.bind (R.of (atI v_due_3 (2 : Int))) fun t18 => (R.of ((eqQ (enc v_told_6.t.2.2.1) (enc t18)).map (!·)))))))) (R.bind (R.ok false) fun a21 => R.ok (Stp.rt a21)) (R.bind (R.ok v_pairings) fun l45 => R.bind (loopR (m__law_turn_good_b1 v_mine_1 v_theirs_2 v_told_6) l45 ()) (Stp.fin (fun s23 => (R.bind (m__law_order v_mine_1 v_theirs_2) fun v_order_28 => (R.bind (R.bind (R.of (modO (if v_times < 0 then -v_times else v_times) (if (v_order_28.length : Int) > (1 : Int) then (v_order_28.length : Int) else (1 : Int)))) fun t29 => (R.ok ((v_order_28.length : Int) - t29))) fun v_cut_30 => (R.ifm (R.bind (R.bind (m__law_order v_told_6.t.1 v_told_6.t.2.1) fun t31 => (m__law_names t31)) fun t33 => R.bind (R.bind (R.of (catL (cutL v_order_28 (some v_cut_30) none) (cutL v_order_28 none (some v_cut_30)))) fun t32 => (m__law_names t32)) fun t34 => (R.ok (!eqP (enc t33) (enc t34)))) (R.bind (R.ok false) fun a35 => R.ok (Stp.rt a35)) (R.bind (R.ok (7 : Int)) fun a44 => R.bind (R.of (appL v_told_6.t.1 a44)) fun l37 => (R.bind (R.ok [1]) fun p43 => R.bind (R.of ((revP (enc (Tp.mk (l37, v_told_6.t.2.1, v_told_6.t.2.2.1, ()) : (Tp ((List Int) × (List Int) × Int × Unit)))) p43).bind (Dec.dec : PV → Option (Tp ((List Int) × (List Int) × Int × Unit))))) fun v_told_39 => (R.bind (R.ok (5 : Int)) fun a42 => R.bind (R.of (appL v_told_39.t.2.1 a42)) fun l40 => (R.ifm (R.ok ((!eqP (enc v_one) (enc v_mine_1)) || (!eqP (enc v_two) (enc v_theirs_2)))) (R.bind (R.ok false) fun a41 => R.ok (Stp.rt a41)) (R.ok (Stp.nx ())))))))))) (fun a46 => R.ok (Stp.rt a46))))))))
def m__law_turn_good (v_one : (List Int)) (v_two : (List Int)) (v_times : Int) (v_pairings : (List (List Int))) : R Bool :=
  (R.lt v_one fun v_mine_1 => (R.lt v_two fun v_theirs_2 => (R.bind (m__law_due v_mine_1 v_theirs_2 (if v_times < 0 then -v_times else v_times)) fun v_due_3 => (R.bind (R.of (rngO 0 (2 : Int))) fun l47 => R.bind (loopR (m__law_turn_good_b2 v_one v_two v_times v_pairings v_mine_1 v_theirs_2 v_due_3) l47 ()) (Stp.fin (fun s5 => (R.ok true)) (fun a48 => R.ok a48))))))
def m__law_refused (v_mine : (List Int)) (v_theirs : (List Int)) (v_times : Int) : R Bool :=
  (R.lt v_mine fun v_one_1 => (R.lt v_theirs fun v_two_2 => (R.bind (R.tryC (fun x => (x.c == 1) && x.vs.all flV) (R.bind (m__law_asked v_one_1 v_two_2 v_times) fun _ => R.ok (R.ok (Lr.nx ()))) (fun x => (R.ite (decide (x.c = 1)) (R.f2 x.vs fun (f24 : Int) (f23 : Int) => (R.ifm (R.ok ((!true) || (!true))) (R.bind (R.ok false) fun a25 => R.ok (Lr.rt a25)) (R.ifm (R.ok false) (R.bind (R.ok false) fun a26 => R.ok (Lr.rt a26)) (R.ifm (R.ok false) (R.bind (R.ok false) fun a27 => R.ok (Lr.rt a27)) (R.ifm (R.bind (R.bind (m__law_is_int f23) fun t28 => R.ok (!t28)) fun t30 => (R.ite t30 (R.ok true) (R.bind (m__law_is_int f24) fun t29 => R.ok (!t29)))) (R.bind (R.ok false) fun a31 => R.ok (Lr.rt a31)) (R.bind (R.ok ((decide (f23 = (v_mine.length : Int))) && ((decide (f24 = (v_theirs.length : Int))) && ((eqP (enc v_one_1) (enc v_mine)) && (eqP (enc v_two_2) (enc v_theirs)))))) fun a32 => R.ok (Lr.rt a32))))))) (R.bad)))) (Lr.fin (fun _ : Unit => (R.ok false)) (fun a33 => R.ok a33)))))
def m_law_b1 (s33 : (List (List Int))) (v_one_42 : (List Int)) (v_two_43 : (List Int)) (x53 : Int) (s54 : Unit) : R (Stp (Unit) Bool) :=
  (R.ifm (R.bind (m__law_turn_good v_one_42 v_two_43 x53 s33) fun t55 => R.ok (!t55)) (R.bind (R.ok false) fun a56 => R.ok (Stp.rt a56)) (R.ok (Stp.nx ())))
def m_law_b2 (v_shape_2 : (List Int)) (s6 : Int) (s18 : (List Int) × (List Int)) (x59 : Int) (s60 : Unit) : R (Stp (Unit) Bool) :=
  (R.ifm (R.bind (R.bind (R.bind (R.bind (R.bind (R.of (atI v_shape_2 (7 : Int))) fun t61 => (R.ok ([t61] : (List Int)))) fun t62 => (R.of (catL s18.1 t62))) fun t63 => (m__law_refused t63 s18.2 x59)) fun t64 => R.ok (!t64)) fun t67 => (R.ite t67 (R.ok true) (R.bind (R.bind (R.of (catL s18.2 ([(0 : Int)] : (List Int)))) fun t65 => (m__law_refused s18.1 t65 x59)) fun t66 => R.ok (!t66)))) (R.bind (R.ok false) fun a68 => R.ok (Stp.rt a68)) (R.ifm (R.ite (decide ((0 : Int) < s6)) (R.bind (R.bind (R.bind (R.bind (R.bind (R.of (atI v_shape_2 (7 : Int))) fun t69 => (R.ok t69)) fun t71 => (R.of (modO t71 s6))) fun t72 => (R.ok (cutL s18.1 none (some t72)))) fun t73 => (m__law_refused t73 s18.2 x59)) fun t74 => R.ok (!t74)) (R.ok false)) (R.bind (R.ok false) fun a75 => R.ok (Stp.rt a75)) (R.ok (Stp.nx ()))))
def m_law (v_script : Scr) : R Bool :=
  (R.bind (R.bind (m__law_cell v_script (0 : Int)) fun t1 => (m__law_draws t1 ([(8 : Int), (9 : Int), (41 : Int), (8 : Int), (3 : Int), (201 : Int), (82 : Int), (40 : Int)] : (List Int)))) fun v_shape_2 => (R.bind (R.of (atI v_shape_2 (1 : Int))) fun v_count_3 => (R.bind (R.ifm (R.bind (R.of (atI v_shape_2 (0 : Int))) fun t4 => (R.ok (decide (t4 = (7 : Int))))) (R.bind (R.of (atI v_shape_2 (2 : Int))) fun v_count_7 => (R.ok (v_count_7))) (R.ok (v_count_3))) fun s6 => (R.bind (m__law_hands v_script (1 : Int) s6) fun v_hands_8 => (R.lt v_hands_8.t.1 fun v_mine_9 => (R.lt v_hands_8.t.2.1 fun v_theirs_10 => (R.bind (R.ifm (R.bind (R.of (atI v_shape_2 (3 : Int))) fun t11 => (R.ok (decide (t11 = (7 : Int))))) (R.lt (v_mine_9.map fun x19 : Int => (0 : Int)) fun v_mine_20 => (R.bind (R.bind (R.ok v_theirs_10) fun l23 => compR (fun x21 : Int => (R.ok true)) (fun x21 : Int => (R.bind (R.of (atI v_shape_2 (4 : Int))) fun t22 => (R.ok (t22 - (1 : Int))))) l23) fun v_theirs_24 => (R.ok (v_mine_20, v_theirs_24)))) (R.ok (v_mine_9, v_theirs_10))) fun s18 => (R.bind (R.ifm (R.ok (decide (s6 ≤ (4 : Int)))) (R.bind (R.bind (R.bind (m__law_factorial s6) fun t34 => (R.of (rngO 0 t34))) fun l36 => compR (fun x35 : Int => (R.ok true)) (fun x35 : Int => (m__law_unrank x35 s6)) l36) fun v_pairings_37 => (R.ok (v_pairings_37))) (R.bind (R.bind (R.of (rngO 0 (6 : Int))) fun l40 => compR (fun x38 : Int => (R.ok true)) (fun x38 : Int => (R.bind (m__law_cell v_script ((4 : Int) + x38)) fun t39 => (m__law_pairing t39 s6))) l40) fun v_pairings_41 => (R.ok (v_pairings_41)))) fun s33 => (R.lt s18.1 fun v_one_42 => (R.lt s18.2 fun v_two_43 => (R.bind (R.bind (R.of (atI v_shape_2 (5 : Int))) fun t50 => R.bind (R.of (mulO (2 : Int) s6)) fun t51 => R.bind (R.bind (R.bind (R.of (atI v_shape_2 (6 : Int))) fun t44 => (R.ok t44)) fun t48 => R.bind (R.bind (R.of (mulO (2 : Int) s6)) fun t45 => (R.ok (t45 + (1 : Int)))) fun t49 => (R.of (modO t48 t49))) fun t52 => (R.ok ([(-(1 : Int)), (0 : Int), (1 : Int), t50, t51, t52] : (List Int)))) fun l99 => R.bind (loopR (m_law_b1 s33 v_one_42 v_two_43) l99 ()) (Stp.fin (fun s54 => (R.bind (R.bind (R.bind (R.of (atI v_shape_2 (6 : Int))) fun t57 => (R.ok ((1 : Int) + t57))) fun t58 => (R.ok ([(-(1 : Int)), (0 : Int), t58] : (List Int)))) fun l97 => R.bind (loopR (m_law_b2 v_shape_2 s6 s18) l97 ()) (Stp.fin (fun s60 => (R.bind (R.ifm (R.ok (decide ((0 : Int) < s6))) (R.bind (R.bind (R.bind (R.of (atI v_shape_2 (7 : Int))) fun t86 => (R.ok t86)) fun t88 => (R.of (modO t88 s6))) fun v_a_89 => (R.bind (R.bind (R.bind (R.of (atI v_one_42 v_a_89)) fun t90 => (R.ok (decide (t90 = (0 : Int))))) fun t91 => (R.ok (if t91 then (1 : Int) else 0))) fun a93 => R.bind (R.ok v_a_89) fun j94 => R.bind (R.of (setL v_one_42 j94 a93)) fun v_one_92 => (R.ok (v_one_92)))) (R.ok (v_one_42))) fun s85 => (R.bind (R.bind (R.of (atI v_shape_2 (6 : Int))) fun t95 => (R.ok ((1 : Int) + t95))) fun t96 => (m__law_turn_good s85 v_two_43 t96 s33)))) (fun a98 => R.ok a98)))) (fun a100 => R.ok a100)))))))))))))
section
variable {P : Program} {w : World} {K : PySem.W.Frag} {mg : Str → Option Value} {base : Heap} {T : CT}
theorem ok_check_hands {f : Addr} {fd : FuncData} (F : Fun K "check_hands" "check_hands" s_check_hands f fd) (hT : T.K = K) (y_BadHands : KdX P w K mg base T 1 "BadHands" ["mine_count", "theirs_count"] ["self", "mine_count", "theirs_count"]) (z_len : mg "len" = none) :
    FnOk P w K mg base (L2N.CX P w) 5 f fd ["mine", "theirs"] (PmX T (.val .fr) (fun b : (List Int) × (List Int) × Unit => m_check_hands b.1 b.2.1)) := by
  subst hT
  refine fn_pmXU F sc_check_hands (fun _ => rfl) fun cdv A outer s H E hr => ⟨_, (pss_cons (ps_if (pt_cmpR op_ne (pe_callB (k_len T.K rfl) (by rfl) z_len PySem.boot_len (pa_cons (pv 0) pa_nil)) (pe_callB (k_len T.K rfl) (by rfl) z_len PySem.boot_len (pa_cons (pv 1) pa_nil)) rfl) (pss_cons (L2N.ps_raise rfl (L2N.takes_of rfl rfl rfl rfl) (pmk_kdx y_BadHands (hr.mono (by decide)) (by rfl) (pa_cons (pe_callB (k_len T.K rfl) (by rfl) z_len PySem.boot_len (pa_cons (pv 0) pa_nil)) (pa_cons (pe_callB (k_len T.K rfl) (by rfl) z_len PySem.boot_len (pa_cons (pv 1) pa_nil)) pa_nil)))) pss_nil) pss_nil) pss_nil), ?_⟩
  rintro ⟨v_mine, v_theirs, _⟩
  show BD _ _ _ (m_check_hands v_mine v_theirs) _
  unfold m_check_hands
  refine bd_if (EvT.cast (evt_test (evm_opT (evm_cbT (eva_cons (evm_raw (evm_var rfl)) eva_nil) fun _ => ra_len) (evm_cbT (eva_cons (evm_raw (evm_var rfl)) eva_nil) fun _ => ra_len) fun _ _ => rv_neI)) (by first | with_reducible rfl | (simp -implicitDefEqProofs only [R.bind_assoc, R.bind_ok, R.bind_right, R.of_some, compR_map, compR_filter, compR_id, compR_idF, R.ifm_ok, Bool.and_true, Bool.or_false, R.ite_and, R.ite_or]; done) | (simp -implicitDefEqProofs only [R.bind_assoc, R.bind_ok, R.bind_right, R.of_some, compR_map, compR_filter, compR_id, compR_idF, R.ifm_ok, Bool.and_true, Bool.or_false, R.ite_ok, R.ite_and, R.ite_or]; done) | rfl)) ?_ ?_
  · refine bd_assoc ?_
    refine bd_castB (bd_raise (δ := Int × Int × Unit) (c := 1) rfl y_BadHands.fl (eva_cons (evm_flat (l2 := .raw) (evm_cbT (eva_cons (evm_raw (evm_var rfl)) eva_nil) fun _ => ra_len)) (eva_cons (evm_flat (l2 := .raw) (evm_cbT (eva_cons (evm_raw (evm_var rfl)) eva_nil) fun _ => ra_len)) eva_nil)) (fun _ => rfl) (by decide)) (by first | rfl | (simp only [R.bind_assoc, R.bind_ok]; done) | (simp only [R.bind_assoc, R.bind_ok, R.bind_right]; rfl))
  · refine bd_nil ?_
    exact bd_end (Wk.lose (Wk.lose Wk.nil)) rfl
theorem ok_deck {f : Addr} {fd : FuncData} (F : Fun K "deck" "deck" s_deck f fd) (hT : T.K = K) (z_enumerate : mg "enumerate" = none) (z_sorted : mg "sorted" = none) :
    FnOk P w K mg base CX0 1 f fd ["mine", "theirs"] (Pm T (.nw .fr) (fun b : (List Int) × (List Int) × Unit => m_deck b.1 b.2.1)) := by
  subst hT
  refine fn_pm F sc_deck (fun _ => rfl) fun cdv A outer s H E hr => ⟨_, (pss_cons (ps_setLc (i := 2) (own := [("index", 3), ("number", 4)]) (g := (gTup T.K 2 (gCons (gName 3) (gCons (gName 4) gNil)))) rfl sc_deck.nd rfl rfl (sw_true rfl rfl rfl (by decide +kernel)) (k_enum T.K rfl (by rfl) z_enumerate (pa_cons (pv 1) pa_nil)) (blkOk_by (N := N_deck) (sc := defScope s_deck) (by decide +kernel)) (fun _ _ _ _ _ => (k_gtup T.K rfl rfl (pgs_cons (pg_name (i := 3) sc_deck.nd rfl (Or.inl rfl)) (pgs_cons (pg_name (i := 4) sc_deck.nd rfl (Or.inl rfl)) pgs_nil)))) (fun _ _ _ _ _ => pts_nil) (fun _ _ _ _ _ => (pe_tup (pa_cons (pv 4) (pa_cons pe_int (pa_cons (pv 3) pa_nil)))))) (pss_cons (ps_set (i := 2) sc_deck.nd rfl (Or.inl rfl) (pe_op op_cat (pv 2) (pe_lc (own := [("index", 3), ("number", 4)]) (g := (gTup T.K 2 (gCons (gName 3) (gCons (gName 4) gNil)))) rfl sc_deck.nd (k_enum T.K rfl (by rfl) z_enumerate (pa_cons (pv 0) pa_nil)) (blkOk_by (N := N_deck) (sc := defScope s_deck) (by decide +kernel)) (fun _ _ _ _ _ => (k_gtup T.K rfl rfl (pgs_cons (pg_name (i := 3) sc_deck.nd rfl (Or.inl rfl)) (pgs_cons (pg_name (i := 4) sc_deck.nd rfl (Or.inl rfl)) pgs_nil)))) (fun _ _ _ _ _ => pts_nil) (fun _ _ _ _ _ => (pe_tup (pa_cons (pv 4) (pa_cons pe_int (pa_cons (pv 3) pa_nil)))))))) (pss_cons (ps_ret (pe_lc (own := [("_", 5), ("mark", 6), ("index", 3)]) (g := (gTup T.K 3 (gCons (gName 5) (gCons (gName 6) (gCons (gName 3) gNil))))) rfl sc_deck.nd (k_pil T.K rfl (pe_callB (k_sortedR rfl) (by rfl) z_sorted (by decide +kernel) (pa_cons (pv 2) pa_nil))) (blkOk_by (N := N_deck) (sc := defScope s_deck) (by decide +kernel)) (fun _ _ _ _ _ => (k_gtup T.K rfl rfl (pgs_cons (pg_name (i := 5) sc_deck.nd rfl (Or.inl rfl)) (pgs_cons (pg_name (i := 6) sc_deck.nd rfl (Or.inl rfl)) (pgs_cons (pg_name (i := 3) sc_deck.nd rfl (Or.inl rfl)) pgs_nil))))) (fun _ _ _ _ _ => pts_nil) (fun _ _ _ _ _ => (pe_tup (pa_cons (pe_ifExp (pt_cmpR op_eq (pv 6) pe_int rfl) pe_str pe_str) (pa_cons (pv 3) pa_nil)))))) pss_nil))), ?_⟩
  rintro ⟨v_mine, v_theirs, _⟩
  show BD _ _ _ (m_deck v_mine v_theirs) _
  unfold m_deck
  refine bd_setNP (EvN.cast (evn_lc (l := .fr) (l1 := .pa) (l3 := .pa) rfl trivial trivial (.inl rfl) (evi_enum (evm_var rfl)) (hvc rfl rfl (hv1 rfl rfl)) (tg_two trivial) (fun x1 => evt_yes) (fun x1 => (evm_tup (eva_cons (evm_flat (l2 := .fr) (evm_var rfl)) (eva_cons evm_int (eva_cons (evm_flat (l2 := .fr) (evm_var rfl)) eva_nil))) (fun _ => by show (3 : Nat) ≤ 1000; decide)))) (by first | with_reducible rfl | (simp -implicitDefEqProofs only [R.bind_assoc, R.bind_ok, R.bind_right, R.of_some, compR_map, compR_filter, compR_id, compR_idF, R.ifm_ok, Bool.and_true, Bool.or_false, R.ite_and, R.ite_or]; done) | (simp -implicitDefEqProofs only [R.bind_assoc, R.bind_ok, R.bind_right, R.of_some, compR_map, compR_filter, compR_id, compR_idF, R.ifm_ok, Bool.and_true, Bool.or_false, R.ite_ok, R.ite_and, R.ite_or]; done) | rfl)) trivial (lt_of rfl) ?_
  intro v_keys_2
  refine bd_wk (Wk.keep (Wk.keep (Wk.share (Wk.keep (Wk.keep (Wk.keep (Wk.keep Wk.nil))))))) ?_
  refine bd_setN (EvN.cast (evn_cat (evm_var rfl) (evn_ev (evn_lc (l := .fr) (l1 := .pa) (l3 := .pa) rfl trivial trivial (.inl rfl) (evi_enum (evm_var rfl)) (hvc rfl rfl (hv1 rfl rfl)) (tg_two trivial) (fun x4 => evt_yes) (fun x4 => (evm_tup (eva_cons (evm_flat (l2 := .fr) (evm_var rfl)) (eva_cons evm_int (eva_cons (evm_flat (l2 := .fr) (evm_var rfl)) eva_nil))) (fun _ => by show (3 : Nat) ≤ 1000; decide)))))) (by first | with_reducible rfl | (simp -implicitDefEqProofs only [R.bind_assoc, R.bind_ok, R.bind_right, R.of_some, compR_map, compR_filter, compR_id, compR_idF, R.ifm_ok, Bool.and_true, Bool.or_false, R.ite_and, R.ite_or]; done) | (simp -implicitDefEqProofs only [R.bind_assoc, R.bind_ok, R.bind_right, R.of_some, compR_map, compR_filter, compR_id, compR_idF, R.ifm_ok, Bool.and_true, Bool.or_false, R.ite_ok, R.ite_and, R.ite_or]; done) | rfl)) trivial (lt_of rfl) ?_
  intro v_keys_5
  exact bd_retN1 rfl (EvN.cast (evn_lc (l := .fr) (l1 := .fr) (l3 := .fr) rfl trivial trivial (.inl rfl) (evi_list (evn_ev (evn_sortTo rfl))) (hvc rfl rfl (hvc rfl rfl (hv1 rfl rfl))) (tg_three trivial) (fun x6 => evt_yes) (fun x6 => (evm_tup (eva_cons (evm_if (evt_test (evm_opT (evm_var rfl) evm_int fun _ _ => rv_eqI)) evm_str evm_str) (eva_cons (evm_var rfl) eva_nil)) (fun _ => by show (2 : Nat) ≤ 1000; decide)))) (by first | with_reducible rfl | (simp -implicitDefEqProofs only [R.bind_assoc, R.bind_ok, R.bind_right, R.of_some, compR_map, compR_filter, compR_id, compR_idF, R.ifm_ok, Bool.and_true, Bool.or_false, R.ite_and, R.ite_or]; done) | (simp -implicitDefEqProofs only [R.bind_assoc, R.bind_ok, R.bind_right, R.of_some, compR_map, compR_filter, compR_id, compR_idF, R.ifm_ok, Bool.and_true, Bool.or_false, R.ite_ok, R.ite_and, R.ite_or]; done) | rfl)) (fun _ => rfl)
theorem ok_turn_once {f : Addr} {fd : FuncData} (F : Fun K "turn_once" "turn_once" s_turn_once f fd) (hT : T.K = K) (k_deck : Kd P w K mg base CX0 "deck" ["mine", "theirs"] 1 (Pm T (.nw .fr) (fun b : (List Int) × (List Int) × Unit => m_deck b.1 b.2.1))) (z_min : mg "min" = none) :
    FnOk P w K mg base CX0 2 f fd ["mine", "theirs"] (PmK T fun xs ys => (m_turn_once xs ys).nox) := by
  subst hT
  refine fn_pmK (g := m_turn_once) F sc_turn_once rfl fun cdv A outer s H E hr => ⟨_, (pss_cons (ps_set (i := 2) sc_turn_once.nd rfl (Or.inl rfl) (pe_op op_sub (pe_callB (call_min2 rfl) (by rfl) z_min (by decide +kernel) (pa_cons (pe_callB (k_min T.K rfl rfl) (by rfl) z_min (by decide +kernel) (pa_cons (pv 0) pa_nil)) (pa_cons (pe_callB (k_min T.K rfl rfl) (by rfl) z_min (by decide +kernel) (pa_cons (pv 1) pa_nil)) pa_nil))) pe_int)) (pss_cons (ps_asg (pe_ix (k_ixl T.K rfl) (pe_kd k_deck (hr.mono (by decide)) (by rfl) (pa_cons (pv 0) (pa_cons (pv 1) pa_nil))) (pe_un un_neg pe_int) (fun _ _ => rfl)) (k_gtup T.K rfl rfl (pgs_cons (pg_name (i := 3) sc_turn_once.nd rfl (Or.inl rfl)) (pgs_cons (pg_name (i := 4) sc_turn_once.nd rfl (Or.inl rfl)) pgs_nil)))) (pss_cons (ps_if (pt_cmpR op_eq (pv 3) pe_str rfl) (pss_cons (ps_ret (pe_tup (pa_cons (pe_op op_cat (pe_op op_cat (pe_slice (k_sll T.K rfl) (pv 0) po_none (po_some (pv 4))) (pe_lst (pa_cons (pv 2) pa_nil))) (pe_slice (k_sll T.K rfl) (pv 0) (po_some (pe_op op_add (pv 4) pe_int)) po_none)) (pa_cons (pv 1) (pa_cons (pe_un un_neg pe_int) pa_nil))))) pss_nil) pss_nil) (pss_cons (ps_ret (pe_tup (pa_cons (pv 0) (pa_cons (pe_op op_cat (pe_op op_cat (pe_slice (k_sll T.K rfl) (pv 1) po_none (po_some (pv 4))) (pe_lst (pa_cons (pv 2) pa_nil))) (pe_slice (k_sll T.K rfl) (pv 1) (po_some (pe_op op_add (pv 4) pe_int)) po_none)) (pa_cons pe_int pa_nil))))) pss_nil)))), ?_⟩
  intro H0 v_mine v_theirs
  show BD _ _ _ (m_turn_once v_mine v_theirs) _
  unfold m_turn_once
  refine bd_set (Evm.cast (evm_opT (evm_cbT (eva_cons (evm_flat (l2 := .raw) (evm_cb (eva_cons (evm_own rfl) eva_nil) fun _ => ra_minL)) (eva_cons (evm_flat (l2 := .raw) (evm_cb (eva_cons (evm_own rfl) eva_nil) fun _ => ra_minL)) eva_nil)) fun _ => ra_min2) evm_int fun _ _ => rv_II) (by first | with_reducible rfl | (simp -implicitDefEqProofs only [R.bind_assoc, R.bind_ok, R.bind_right, R.of_some, compR_map, compR_filter, compR_id, compR_idF, R.ifm_ok, Bool.and_true, Bool.or_false, R.ite_and, R.ite_or]; done) | (simp -implicitDefEqProofs only [R.bind_assoc, R.bind_ok, R.bind_right, R.of_some, compR_map, compR_filter, compR_id, compR_idF, R.ifm_ok, Bool.and_true, Bool.or_false, R.ite_ok, R.ite_and, R.ite_or]; done) | rfl)) trivial (lt_of rfl) ?_
  intro v_bottom_4
  refine bd_tgt (Evm.cast (evm_ix (evn_ev (evn_callF rfl (eva_cons (evm_own rfl) (eva_cons (evm_own rfl) eva_nil)))) (evm_un evm_int fun _ _ => ru_neg)) (by first | with_reducible rfl | (simp -implicitDefEqProofs only [R.bind_assoc, R.bind_ok, R.bind_right, R.of_some, compR_map, compR_filter, compR_id, compR_idF, R.ifm_ok, Bool.and_true, Bool.or_false, R.ite_and, R.ite_or]; done) | (simp -implicitDefEqProofs only [R.bind_assoc, R.bind_ok, R.bind_right, R.of_some, compR_map, compR_filter, compR_id, compR_idF, R.ifm_ok, Bool.and_true, Bool.or_false, R.ite_ok, R.ite_and, R.ite_or]; done) | rfl)) (tg_two trivial) (by intro j hj; simp only [List.mem_cons, List.not_mem_nil, or_false] at hj; rcases hj with rfl | rfl <;> rfl) ?_
  intro u6
  refine bd_if (EvT.cast (evt_test (evm_opT (evm_var rfl) evm_str fun _ _ => rv_eqS)) (by first | with_reducible rfl | (simp -implicitDefEqProofs only [R.bind_assoc, R.bind_ok, R.bind_right, R.of_some, compR_map, compR_filter, compR_id, compR_idF, R.ifm_ok, Bool.and_true, Bool.or_false, R.ite_and, R.ite_or]; done) | (simp -implicitDefEqProofs only [R.bind_assoc, R.bind_ok, R.bind_right, R.of_some, compR_map, compR_filter, compR_id, compR_idF, R.ifm_ok, Bool.and_true, Bool.or_false, R.ite_ok, R.ite_and, R.ite_or]; done) | rfl)) ?_ ?_
  · refine bd_assoc ?_
    exact bd_retD (k := fun a11 => a11) rfl (EvG.cast (EvG.cast (evg_tup (evgs_cons (js := []) (ks := [1]) (by decide) (EvG.cast (evg_list (fun _ => rfl) (evn_flat (l2 := .fr) (evn_cat (l := .raw) (evm_raw (evn_ev (evn_flat (l2 := .fr) (evn_cat (l := .raw) (evm_raw (evn_ev (evn_slo rfl evo_none (evo_some (evm_var rfl))))) (evm_raw (evn_ev (evn_lst (l := .fr) (f := fun b : Int × Unit => ([b.1] : (List Int))) (eva_cons (evm_var rfl) eva_nil) (fun _ => rfl) (fun _ => by show (1 : Nat) ≤ 1000; decide)))))))) (evm_raw (evn_ev (evn_slo rfl (evo_some (evm_opT (evm_var rfl) evm_int fun _ _ => rv_II)) evo_none)))))) (by first | with_reducible rfl | (simp -implicitDefEqProofs only [R.bind_assoc, R.bind_ok, R.bind_right, R.of_some, compR_map, compR_filter, compR_id, compR_idF, R.ifm_ok, Bool.and_true, Bool.or_false, R.ite_and, R.ite_or]; done) | (simp -implicitDefEqProofs only [R.bind_assoc, R.bind_ok, R.bind_right, R.of_some, compR_map, compR_filter, compR_id, compR_idF, R.ifm_ok, Bool.and_true, Bool.or_false, R.ite_ok, R.ite_and, R.ite_or]; done) | rfl)) (evgs_cons (js := [1]) (ks := []) (by decide) (evg_own (i := 1) (fun _ => rfl) rfl) (evgs_cons (js := []) (ks := []) (by decide) (EvG.cast (evg_flat (fun _ => rfl) (evm_un evm_int fun _ _ => ru_neg)) (by first | with_reducible rfl | (simp -implicitDefEqProofs only [R.bind_assoc, R.bind_ok, R.bind_right, R.of_some, compR_map, compR_filter, compR_id, compR_idF, R.ifm_ok, Bool.and_true, Bool.or_false, R.ite_and, R.ite_or]; done) | (simp -implicitDefEqProofs only [R.bind_assoc, R.bind_ok, R.bind_right, R.of_some, compR_map, compR_filter, compR_id, compR_idF, R.ifm_ok, Bool.and_true, Bool.or_false, R.ite_ok, R.ite_and, R.ite_or]; done) | rfl)) evgs_nil))) (fun _ => by show (3 : Nat) ≤ 1000; decide)) (by first | with_reducible rfl | (simp -implicitDefEqProofs only [R.bind_assoc, R.bind_ok, R.bind_right, R.of_some, compR_map, compR_filter, compR_id, compR_idF, R.ifm_ok, Bool.and_true, Bool.or_false, R.ite_and, R.ite_or]; done) | (simp -implicitDefEqProofs only [R.bind_assoc, R.bind_ok, R.bind_right, R.of_some, compR_map, compR_filter, compR_id, compR_idF, R.ifm_ok, Bool.and_true, Bool.or_false, R.ite_ok, R.ite_and, R.ite_or]; done) | rfl)) (by first | with_reducible rfl | (simp -implicitDefEqProofs only [R.bind_assoc, R.bind_ok, R.bind_right, R.of_some, compR_map, compR_filter, compR_id, compR_idF, R.ifm_ok, Bool.and_true, Bool.or_false, R.ite_and, R.ite_or]; done) | (simp -implicitDefEqProofs only [R.bind_assoc, R.bind_ok, R.bind_right, R.of_some, compR_map, compR_filter, compR_id, compR_idF, R.ifm_ok, Bool.and_true, Bool.or_false, R.ite_ok, R.ite_and, R.ite_or]; done) | rfl)) (fun _ => rfl)
  · refine bd_nil ?_
    exact bd_retD (k := fun a16 => a16) rfl (EvG.cast (EvG.cast (evg_tup (evgs_cons (js := [0]) (ks := []) (by decide) (evg_own (i := 0) (fun _ => rfl) rfl) (evgs_cons (js := []) (ks := []) (by decide) (EvG.cast (evg_list (fun _ => rfl) (evn_flat (l2 := .fr) (evn_cat (l := .raw) (evm_raw (evn_ev (evn_flat (l2 := .fr) (evn_cat (l := .raw) (evm_raw (evn_ev (evn_slo rfl evo_none (evo_some (evm_var rfl))))) (evm_raw (evn_ev (evn_lst (l := .fr) (f := fun b : Int × Unit => ([b.1] : (List Int))) (eva_cons (evm_var rfl) eva_nil) (fun _ => rfl) (fun _ => by show (1 : Nat) ≤ 1000; decide)))))))) (evm_raw (evn_ev (evn_slo rfl (evo_some (evm_opT (evm_var rfl) evm_int fun _ _ => rv_II)) evo_none)))))) (by first | with_reducible rfl | (simp -implicitDefEqProofs only [R.bind_assoc, R.bind_ok, R.bind_right, R.of_some, compR_map, compR_filter, compR_id, compR_idF, R.ifm_ok, Bool.and_true, Bool.or_false, R.ite_and, R.ite_or]; done) | (simp -implicitDefEqProofs only [R.bind_assoc, R.bind_ok, R.bind_right, R.of_some, compR_map, compR_filter, compR_id, compR_idF, R.ifm_ok, Bool.and_true, Bool.or_false, R.ite_ok, R.ite_and, R.ite_or]; done) | rfl)) (evgs_cons (js := []) (ks := []) (by decide) (EvG.cast (evg_flat (fun _ => rfl) evm_int) (by first | with_reducible rfl | (simp -implicitDefEqProofs only [R.bind_assoc, R.bind_ok, R.bind_right, R.of_some, compR_map, compR_filter, compR_id, compR_idF, R.ifm_ok, Bool.and_true, Bool.or_false, R.ite_and, R.ite_or]; done) | (simp -implicitDefEqProofs only [R.bind_assoc, R.bind_ok, R.bind_right, R.of_some, compR_map, compR_filter, compR_id, compR_idF, R.ifm_ok, Bool.and_true, Bool.or_false, R.ite_ok, R.ite_and, R.ite_or]; done) | rfl)) evgs_nil))) (fun _ => by show (3 : Nat) ≤ 1000; decide)) (by first | with_reducible rfl | (simp -implicitDefEqProofs only [R.bind_assoc, R.bind_ok, R.bind_right, R.of_some, compR_map, compR_filter, compR_id, compR_idF, R.ifm_ok, Bool.and_true, Bool.or_false, R.ite_and, R.ite_or]; done) | (simp -implicitDefEqProofs only [R.bind_assoc, R.bind_ok, R.bind_right, R.of_some, compR_map, compR_filter, compR_id, compR_idF, R.ifm_ok, Bool.and_true, Bool.or_false, R.ite_ok, R.ite_and, R.ite_or]; done) | rfl)) (by first | with_reducible rfl | (simp -implicitDefEqProofs only [R.bind_assoc, R.bind_ok, R.bind_right, R.of_some, compR_map, compR_filter, compR_id, compR_idF, R.ifm_ok, Bool.and_true, Bool.or_false, R.ite_and, R.ite_or]; done) | (simp -implicitDefEqProofs only [R.bind_assoc, R.bind_ok, R.bind_right, R.of_some, compR_map, compR_filter, compR_id, compR_idF, R.ifm_ok, Bool.and_true, Bool.or_false, R.ite_ok, R.ite_and, R.ite_or]; done) | rfl)) (fun _ => rfl)
theorem ok_turn {f : Addr} {fd : FuncData} (F : Fun K "turn" "turn" s_turn f fd) (hT : T.K = K) (k_check_hands : KdR P w K mg base "check_hands" ["mine", "theirs"] 5 (PmX T (.val .fr) (fun b : (List Int) × (List Int) × Unit => m_check_hands b.1 b.2.1))) (k_turn_once : Kd P w K mg base CX0 "turn_once" ["mine", "theirs"] 2 (PmK T fun xs ys => (m_turn_once xs ys).nox)) (z_list : mg "list" = none) (z_range : mg "range" = none) :
    FnOk P w K mg base (L2N.CX P w) 6 f fd ["mine", "theirs", "steps"] (PmX T .dp (fun b : (List Int) × (List Int) × Int × Unit => m_turn b.1 b.2.1 b.2.2.1)) := by
  subst hT
  refine fn_pmX F sc_turn (fun _ => rfl) fun cdv A outer s H E hr => ⟨_, (pss_cons (ps_expr (pe_kr k_check_hands (L2N.takes_of rfl rfl rfl rfl) (hr.mono (by decide)) (by rfl) (pa_cons (pv 0) (pa_cons (pv 1) pa_nil)))) (pss_cons (ps_par3 (i := 4) (j := 5) (l := 6) (by rfl) sc_turn.nd rfl rfl rfl (by decide) (by decide) (by decide) rfl rfl rfl (pa_cons (pe_callTy (k_list T.K rfl) (by rfl) z_list PyProof.Rows.boot_list (pa_cons (pv 0) pa_nil)) (pa_cons (pe_callTy (k_list T.K rfl) (by rfl) z_list PyProof.Rows.boot_list (pa_cons (pv 1) pa_nil)) (pa_cons pe_int pa_nil))) (by rfl)) (pss_cons (ps_if (pt_not (k_tru T.K rfl (pv 0) (by intro _; rfl))) (pss_cons (ps_ret (pe_tup (pa_cons (pv 4) (pa_cons (pv 5) (pa_cons (pv 6) pa_nil))))) pss_nil) pss_nil) (pss_cons (ps_for (passes_of rfl) rfl (pi_range1 (by rfl) z_range (pa_cons (pv 2) pa_nil)) (pg_name (i := 3) sc_turn.nd rfl (Or.inl rfl)) (pss_cons (ps_asg (pe_kd k_turn_once (hr.mono (by decide)) (by rfl) (pa_cons (pv 4) (pa_cons (pv 5) pa_nil))) (k_gtup T.K rfl rfl (pgs_cons (pg_name (i := 4) sc_turn.nd rfl (Or.inl rfl)) (pgs_cons (pg_name (i := 5) sc_turn.nd rfl (Or.inl rfl)) (pgs_cons (pg_name (i := 7) sc_turn.nd rfl (Or.inl rfl)) pgs_nil))))) (pss_cons (ps_set (i := 6) sc_turn.nd rfl (Or.inl rfl) (pe_op op_add (pv 6) (pv 7))) pss_nil))) (pss_cons (ps_ret (pe_tup (pa_cons (pv 4) (pa_cons (pv 5) (pa_cons (pv 6) pa_nil))))) pss_nil))))), ?_⟩
  rintro ⟨v_mine, v_theirs, v_steps, _⟩
  show BD _ _ _ (m_turn v_mine v_theirs v_steps) _
  unfold m_turn
  refine bd_drop (Evm.cast (evm_callXF rfl (eva_cons (evm_raw (evm_var rfl)) (eva_cons (evm_raw (evm_var rfl)) eva_nil))) (by first | with_reducible rfl | (simp -implicitDefEqProofs only [R.bind_assoc, R.bind_ok, R.bind_right, R.of_some, compR_map, compR_filter, compR_id, compR_idF, R.ifm_ok, Bool.and_true, Bool.or_false, R.ite_and, R.ite_or]; done) | (simp -implicitDefEqProofs only [R.bind_assoc, R.bind_ok, R.bind_right, R.of_some, compR_map, compR_filter, compR_id, compR_idF, R.ifm_ok, Bool.and_true, Bool.or_false, R.ite_ok, R.ite_and, R.ite_or]; done) | rfl)) ?_
  refine bd_parN3 (EvN.cast (evn_flat (l2 := .fr) (evn_listof (evm_var rfl))) (by first | with_reducible rfl | (simp -implicitDefEqProofs only [R.bind_assoc, R.bind_ok, R.bind_right, R.of_some, compR_map, compR_filter, compR_id, compR_idF, R.ifm_ok, Bool.and_true, Bool.or_false, R.ite_and, R.ite_or]; done) | (simp -implicitDefEqProofs only [R.bind_assoc, R.bind_ok, R.bind_right, R.of_some, compR_map, compR_filter, compR_id, compR_idF, R.ifm_ok, Bool.and_true, Bool.or_false, R.ite_ok, R.ite_and, R.ite_or]; done) | rfl)) (EvN.cast (evn_flat (l2 := .fr) (evn_listof (evm_var rfl))) (by first | with_reducible rfl | (simp -implicitDefEqProofs only [R.bind_assoc, R.bind_ok, R.bind_right, R.of_some, compR_map, compR_filter, compR_id, compR_idF, R.ifm_ok, Bool.and_true, Bool.or_false, R.ite_and, R.ite_or]; done) | (simp -implicitDefEqProofs only [R.bind_assoc, R.bind_ok, R.bind_right, R.of_some, compR_map, compR_filter, compR_id, compR_idF, R.ifm_ok, Bool.and_true, Bool.or_false, R.ite_ok, R.ite_and, R.ite_or]; done) | rfl)) (Evm.cast evm_int (by first | with_reducible rfl | (simp -implicitDefEqProofs only [R.bind_assoc, R.bind_ok, R.bind_right, R.of_some, compR_map, compR_filter, compR_id, compR_idF, R.ifm_ok, Bool.and_true, Bool.or_false, R.ite_and, R.ite_or]; done) | (simp -implicitDefEqProofs only [R.bind_assoc, R.bind_ok, R.bind_right, R.of_some, compR_map, compR_filter, compR_id, compR_idF, R.ifm_ok, Bool.and_true, Bool.or_false, R.ite_ok, R.ite_and, R.ite_or]; done) | rfl)) trivial (lt_of rfl) (lt_of rfl) (lt_of rfl) ?_
  intro v_new_mine_1 v_new_theirs_2 v_change_3
  refine bd_if (EvT.cast (evt_not (evt_tru (evm_var rfl))) (by first | with_reducible rfl | (simp -implicitDefEqProofs only [R.bind_assoc, R.bind_ok, R.bind_right, R.of_some, compR_map, compR_filter, compR_id, compR_idF, R.ifm_ok, Bool.and_true, Bool.or_false, R.ite_and, R.ite_or]; done) | (simp -implicitDefEqProofs only [R.bind_assoc, R.bind_ok, R.bind_right, R.of_some, compR_map, compR_filter, compR_id, compR_idF, R.ifm_ok, Bool.and_true, Bool.or_false, R.ite_ok, R.ite_and, R.ite_or]; done) | rfl)) ?_ ?_
  · refine bd_assoc ?_
    exact bd_retD (k := fun a7 => a7) rfl (EvG.cast (EvG.cast (evg_tup (evgs_cons (js := [4]) (ks := [5]) (by decide) (evg_own (i := 4) (fun _ => rfl) rfl) (evgs_cons (js := [5]) (ks := []) (by decide) (evg_own (i := 5) (fun _ => rfl) rfl) (evgs_cons (js := []) (ks := []) (by decide) (EvG.cast (evg_flat (fun _ => rfl) (evm_var rfl)) (by first | with_reducible rfl | (simp -implicitDefEqProofs only [R.bind_assoc, R.bind_ok, R.bind_right, R.of_some, compR_map, compR_filter, compR_id, compR_idF, R.ifm_ok, Bool.and_true, Bool.or_false, R.ite_and, R.ite_or]; done) | (simp -implicitDefEqProofs only [R.bind_assoc, R.bind_ok, R.bind_right, R.of_some, compR_map, compR_filter, compR_id, compR_idF, R.ifm_ok, Bool.and_true, Bool.or_false, R.ite_ok, R.ite_and, R.ite_or]; done) | rfl)) evgs_nil))) (fun _ => by show (3 : Nat) ≤ 1000; decide)) (by first | with_reducible rfl | (simp -implicitDefEqProofs only [R.bind_assoc, R.bind_ok, R.bind_right, R.of_some, compR_map, compR_filter, compR_id, compR_idF, R.ifm_ok, Bool.and_true, Bool.or_false, R.ite_and, R.ite_or]; done) | (simp -implicitDefEqProofs only [R.bind_assoc, R.bind_ok, R.bind_right, R.of_some, compR_map, compR_filter, compR_id, compR_idF, R.ifm_ok, Bool.and_true, Bool.or_false, R.ite_ok, R.ite_and, R.ite_or]; done) | rfl)) (by first | with_reducible rfl | (simp -implicitDefEqProofs only [R.bind_assoc, R.bind_ok, R.bind_right, R.of_some, compR_map, compR_filter, compR_id, compR_idF, R.ifm_ok, Bool.and_true, Bool.or_false, R.ite_and, R.ite_or]; done) | (simp -implicitDefEqProofs only [R.bind_assoc, R.bind_ok, R.bind_right, R.of_some, compR_map, compR_filter, compR_id, compR_idF, R.ifm_ok, Bool.and_true, Bool.or_false, R.ite_ok, R.ite_and, R.ite_or]; done) | rfl)) (fun _ => rfl)
  · refine bd_nil ?_
    refine bd_fold (l1 := .fr) (es := (fun s9 : (List Int) × (List Int) × Int => [.sh .pa (enc (v_mine : (List Int))), .sh .pa (enc (v_theirs : (List Int))), .sh .pa (enc (v_steps : Int)), .un, .ow .fr ((s9.1 : (List Int)).map enc), .ow .fr ((s9.2.1 : (List Int)).map enc), .sh .fr (enc (s9.2.2 : Int)), .un])) (EvI.cast (evi_rng1 (evm_var rfl)) (by first | with_reducible rfl | (simp -implicitDefEqProofs only [R.bind_assoc, R.bind_ok, R.bind_right, R.of_some, compR_map, compR_filter, compR_id, compR_idF, R.ifm_ok, Bool.and_true, Bool.or_false, R.ite_and, R.ite_or]; done) | (simp -implicitDefEqProofs only [R.bind_assoc, R.bind_ok, R.bind_right, R.of_some, compR_map, compR_filter, compR_id, compR_idF, R.ifm_ok, Bool.and_true, Bool.or_false, R.ite_ok, R.ite_and, R.ite_or]; done) | rfl)) trivial (Wk.keep (Wk.keep (Wk.keep (Wk.keep (Wk.keep (Wk.keep (Wk.keep (Wk.keep Wk.nil)))))))) (tg_name trivial) (hu1 fun _ => rfl) ?_ ?_
    · intro x8 s9
      unfold m_turn_b1
      refine bd_unpK (f := m_turn_once) rfl rfl (by decide) (lt_of rfl) ?_
      intro u10
      refine bd_setP (Evm.cast (evm_opT (evm_var rfl) (evm_var rfl) fun _ _ => rv_II) (by first | with_reducible rfl | (simp -implicitDefEqProofs only [R.bind_assoc, R.bind_ok, R.bind_right, R.of_some, compR_map, compR_filter, compR_id, compR_idF, R.ifm_ok, Bool.and_true, Bool.or_false, R.ite_and, R.ite_or]; done) | (simp -implicitDefEqProofs only [R.bind_assoc, R.bind_ok, R.bind_right, R.of_some, compR_map, compR_filter, compR_id, compR_idF, R.ifm_ok, Bool.and_true, Bool.or_false, R.ite_ok, R.ite_and, R.ite_or]; done) | rfl)) trivial (lt_of rfl) ?_
      intro v_change_11
      exact bd_end (Wk.keep (Wk.keep (Wk.keep (Wk.lose (Wk.keep (Wk.keep (Wk.keep (Wk.lose Wk.nil)))))))) rfl
    intro s9
    exact bd_retD (k := fun a15 => a15) rfl (EvG.cast (EvG.cast (evg_tup (evgs_cons (js := [4]) (ks := [5]) (by decide) (evg_own (i := 4) (fun _ => rfl) rfl) (evgs_cons (js := [5]) (ks := []) (by decide) (evg_own (i := 5) (fun _ => rfl) rfl) (evgs_cons (js := []) (ks := []) (by decide) (EvG.cast (evg_flat (fun _ => rfl) (evm_var rfl)) (by first | with_reducible rfl | (simp -implicitDefEqProofs only [R.bind_assoc, R.bind_ok, R.bind_right, R.of_some, compR_map, compR_filter, compR_id, compR_idF, R.ifm_ok, Bool.and_true, Bool.or_false, R.ite_and, R.ite_or]; done) | (simp -implicitDefEqProofs only [R.bind_assoc, R.bind_ok, R.bind_right, R.of_some, compR_map, compR_filter, compR_id, compR_idF, R.ifm_ok, Bool.and_true, Bool.or_false, R.ite_ok, R.ite_and, R.ite_or]; done) | rfl)) evgs_nil))) (fun _ => by show (3 : Nat) ≤ 1000; decide)) (by first | with_reducible rfl | (simp -implicitDefEqProofs only [R.bind_assoc, R.bind_ok, R.bind_right, R.of_some, compR_map, compR_filter, compR_id, compR_idF, R.ifm_ok, Bool.and_true, Bool.or_false, R.ite_and, R.ite_or]; done) | (simp -implicitDefEqProofs only [R.bind_assoc, R.bind_ok, R.bind_right, R.of_some, compR_map, compR_filter, compR_id, compR_idF, R.ifm_ok, Bool.and_true, Bool.or_false, R.ite_ok, R.ite_and, R.ite_or]; done) | rfl)) (by first | with_reducible rfl | (simp -implicitDefEqProofs only [R.bind_assoc, R.bind_ok, R.bind_right, R.of_some, compR_map, compR_filter, compR_id, compR_idF, R.ifm_ok, Bool.and_true, Bool.or_false, R.ite_and, R.ite_or]; done) | (simp -implicitDefEqProofs only [R.bind_assoc, R.bind_ok, R.bind_right, R.of_some, compR_map, compR_filter, compR_id, compR_idF, R.ifm_ok, Bool.and_true, Bool.or_false, R.ite_ok, R.ite_and, R.ite_or]; done) | rfl)) (fun _ => rfl)
theorem ok__law_cell {f : Addr} {fd : FuncData} (F : Fun K "_law_cell" "_law_cell" s__law_cell f fd) (hT : T.K = K) (z_int : mg "int" = none) (z_len : mg "len" = none) :
    FnOk P w K mg base CX0 1 f fd ["_law_script", "_law_k"] (Pm T (.val .fr) (fun b : Scr × Int × Unit => m__law_cell b.1 b.2.1)) := by
  subst hT
  refine fn_pm F sc__law_cell (fun _ => rfl) fun cdv A outer s H E hr => ⟨_, (pss_cons (ps_if (pt_cmpR op_lt (pv 1) (pe_callB (k_len T.K rfl) (by rfl) z_len PySem.boot_len (pa_cons (pv 0) pa_nil)) rfl) (pss_cons (ps_ret (pe_callTy call_int1 (by rfl) z_int PyProof.Rows.boot_int (pa_cons (pe_ix (k_ixl T.K rfl) (pv 0) (pv 1) (fun _ _ => rfl)) pa_nil))) pss_nil) pss_nil) (pss_cons (ps_if (pt_cmpR op_gt (pe_callB (k_len T.K rfl) (by rfl) z_len PySem.boot_len (pa_cons (pv 0) pa_nil)) pe_int rfl) (pss_cons (ps_ret (pe_op op_add (pe_callTy call_int1 (by rfl) z_int PyProof.Rows.boot_int (pa_cons (pe_ix (k_ixl T.K rfl) (pv 0) pe_int (fun _ _ => rfl)) pa_nil)) (pe_op op_mul pe_int (pe_op op_add (pv 1) pe_int)))) pss_nil) pss_nil) (pss_cons (ps_ret (pe_op op_mul pe_int (pe_op op_add (pv 1) pe_int))) pss_nil))), ?_⟩
  rintro ⟨v_script, v_k, _⟩
  show BD _ _ _ (m__law_cell v_script v_k) _
  unfold m__law_cell
  refine bd_if (EvT.cast (evt_test (evm_opT (evm_var rfl) (evm_cbT (eva_cons (evm_raw (evm_var rfl)) eva_nil) fun _ => ra_lenS) fun _ _ => rv_IB)) (by first | with_reducible rfl | (simp -implicitDefEqProofs only [R.bind_assoc, R.bind_ok, R.bind_right, R.of_some, compR_map, compR_filter, compR_id, compR_idF, R.ifm_ok, Bool.and_true, Bool.or_false, R.ite_and, R.ite_or]; done) | (simp -implicitDefEqProofs only [R.bind_assoc, R.bind_ok, R.bind_right, R.of_some, compR_map, compR_filter, compR_id, compR_idF, R.ifm_ok, Bool.and_true, Bool.or_false, R.ite_ok, R.ite_and, R.ite_or]; done) | rfl)) ?_ ?_
  · refine bd_assoc ?_
    exact bd_ret1 rfl (Evm.cast (evm_cbT (eva_cons (evm_flat (l2 := .raw) (evm_ixs (evm_var rfl) (evm_var rfl))) eva_nil) fun _ => ra_int) (by first | with_reducible rfl | (simp -implicitDefEqProofs only [R.bind_assoc, R.bind_ok, R.bind_right, R.of_some, compR_map, compR_filter, compR_id, compR_idF, R.ifm_ok, Bool.and_true, Bool.or_false, R.ite_and, R.ite_or]; done) | (simp -implicitDefEqProofs only [R.bind_assoc, R.bind_ok, R.bind_right, R.of_some, compR_map, compR_filter, compR_id, compR_idF, R.ifm_ok, Bool.and_true, Bool.or_false, R.ite_ok, R.ite_and, R.ite_or]; done) | rfl)) (fun _ => rfl)
  · refine bd_nil ?_
    refine bd_if (EvT.cast (evt_test (evm_opT (evm_cbT (eva_cons (evm_raw (evm_var rfl)) eva_nil) fun _ => ra_lenS) evm_int fun _ _ => rv_IB)) (by first | with_reducible rfl | (simp -implicitDefEqProofs only [R.bind_assoc, R.bind_ok, R.bind_right, R.of_some, compR_map, compR_filter, compR_id, compR_idF, R.ifm_ok, Bool.and_true, Bool.or_false, R.ite_and, R.ite_or]; done) | (simp -implicitDefEqProofs only [R.bind_assoc, R.bind_ok, R.bind_right, R.of_some, compR_map, compR_filter, compR_id, compR_idF, R.ifm_ok, Bool.and_true, Bool.or_false, R.ite_ok, R.ite_and, R.ite_or]; done) | rfl)) ?_ ?_
    · refine bd_assoc ?_
      exact bd_ret1 rfl (Evm.cast (evm_opT (evm_cbT (eva_cons (evm_flat (l2 := .raw) (evm_ixs (evm_var rfl) evm_int)) eva_nil) fun _ => ra_int) (evm_op evm_int (evm_opT (evm_var rfl) evm_int fun _ _ => rv_II) fun _ _ _ _ => rv_mul) fun _ _ => rv_II) (by first | with_reducible rfl | (simp -implicitDefEqProofs only [R.bind_assoc, R.bind_ok, R.bind_right, R.of_some, compR_map, compR_filter, compR_id, compR_idF, R.ifm_ok, Bool.and_true, Bool.or_false, R.ite_and, R.ite_or]; done) | (simp -implicitDefEqProofs only [R.bind_assoc, R.bind_ok, R.bind_right, R.of_some, compR_map, compR_filter, compR_id, compR_idF, R.ifm_ok, Bool.and_true, Bool.or_false, R.ite_ok, R.ite_and, R.ite_or]; done) | rfl)) (fun _ => rfl)
    · refine bd_nil ?_
      exact bd_ret1 rfl (Evm.cast (evm_op evm_int (evm_opT (evm_var rfl) evm_int fun _ _ => rv_II) fun _ _ _ _ => rv_mul) (by first | with_reducible rfl | (simp -implicitDefEqProofs only [R.bind_assoc, R.bind_ok, R.bind_right, R.of_some, compR_map, compR_filter, compR_id, compR_idF, R.ifm_ok, Bool.and_true, Bool.or_false, R.ite_and, R.ite_or]; done) | (simp -implicitDefEqProofs only [R.bind_assoc, R.bind_ok, R.bind_right, R.of_some, compR_map, compR_filter, compR_id, compR_idF, R.ifm_ok, Bool.and_true, Bool.or_false, R.ite_ok, R.ite_and, R.ite_or]; done) | rfl)) (fun _ => rfl)
theorem ok__law_draws {f : Addr} {fd : FuncData} (F : Fun K "_law_draws" "_law_draws" s__law_draws f fd) (hT : T.K = K) (z_abs : mg "abs" = none) (z_int : mg "int" = none) (z_len : mg "len" = none) (z_range : mg "range" = none) :
    FnOk P w K mg base CX0 1 f fd ["_law_cell_here", "_law_sizes"] (Pm T (.nw .fr) (fun b : Int × (List Int) × Unit => m__law_draws b.1 b.2.1)) := by
  subst hT
  refine fn_pm F sc__law_draws (fun _ => rfl) fun cdv A outer s H E hr => ⟨_, (pss_cons (ps_set (i := 2) sc__law_draws.nd rfl (Or.inl rfl) (pe_callB call_abs (by rfl) z_abs PyProof.Rows.boot_abs (pa_cons (pe_callTy call_int1 (by rfl) z_int PyProof.Rows.boot_int (pa_cons (pv 0) pa_nil)) pa_nil))) (pss_cons (ps_set (i := 3) sc__law_draws.nd rfl (Or.inl rfl) (pe_cmpR op_ge (pv 2) (pe_op op_pow pe_int pe_int) rfl)) (pss_cons (ps_set (i := 4) sc__law_draws.nd rfl (Or.inl rfl) (pv 2)) (pss_cons (ps_set (i := 5) sc__law_draws.nd rfl (Or.inl rfl) (pe_lst pa_nil)) (pss_cons (ps_for PassesOwn.never rfl (pi_range1 (by rfl) z_range (pa_cons (pe_callB (k_len T.K rfl) (by rfl) z_len PySem.boot_len (pa_cons (pv 1) pa_nil)) pa_nil)) (pg_name (i := 6) sc__law_draws.nd rfl (Or.inl rfl)) (pss_cons (ps_if (pw_and (pt_val (pv 3)) (pw_and1 (pt_cmpR op_gt (pv 2) pe_int rfl))).pt (pss_cons (ps_expr (pe_bm PySem.F.plainAttrs_list PySem.F.slot_list_append PySem.F.type_list_append mt_append (pv 5) (pa_cons (pe_op op_mod (pe_callTy call_int1 (by rfl) z_int PyProof.Rows.boot_int (pa_cons (pv 2) pa_nil)) (pe_ix (k_ixl T.K rfl) (pv 1) (pv 6) (fun _ _ => rfl))) pa_nil))) (pss_cons (ps_set (i := 2) sc__law_draws.nd rfl (Or.inl rfl) (pe_op op_fdivW (pv 2) (pe_ix (k_ixl T.K rfl) (pv 1) (pv 6) (fun _ _ => rfl)))) pss_nil)) (pss_cons (ps_set (i := 7) sc__law_draws.nd rfl (Or.inl rfl) (pe_op op_mod (pe_callTy call_int1 (by rfl) z_int PyProof.Rows.boot_int (pa_cons (pe_op op_add (pe_op op_add (pv 4) (pe_op op_mul pe_int (pv 6))) pe_int) pa_nil)) pe_int)) (pss_cons (ps_set (i := 7) sc__law_draws.nd rfl (Or.inl rfl) (pe_op op_mod (pe_callTy call_int1 (by rfl) z_int PyProof.Rows.boot_int (pa_cons (pe_op op_mul (pv 7) (pe_op op_add (pv 7) pe_int)) pa_nil)) pe_int)) (pss_cons (ps_set (i := 7) sc__law_draws.nd rfl (Or.inl rfl) (pe_op op_mod (pe_callTy call_int1 (by rfl) z_int PyProof.Rows.boot_int (pa_cons (pe_op op_add (pe_op op_mul (pv 7) (pe_op op_add (pv 7) pe_int)) (pe_op op_mul pe_int (pv 6))) pa_nil)) pe_int)) (pss_cons (ps_expr (pe_bm PySem.F.plainAttrs_list PySem.F.slot_list_append PySem.F.type_list_append mt_append (pv 5) (pa_cons (pe_op op_mod (pe_callTy call_int1 (by rfl) z_int PyProof.Rows.boot_int (pa_cons (pe_op op_fdivW (pv 7) pe_int) pa_nil)) (pe_ix (k_ixl T.K rfl) (pv 1) (pv 6) (fun _ _ => rfl))) pa_nil))) pss_nil))))) pss_nil)) (pss_cons (ps_ret (pv 5)) pss_nil)))))), ?_⟩
  rintro ⟨v_cell, v_sizes, _⟩
  show BD _ _ _ (m__law_draws v_cell v_sizes) _
  unfold m__law_draws
  refine bd_setP (Evm.cast (evm_cbT (eva_cons (evm_flat (l2 := .raw) (evm_cbT (eva_cons (evm_flat (l2 := .raw) (evm_var rfl)) eva_nil) fun _ => ra_int)) eva_nil) fun _ => ra_abs) (by first | with_reducible rfl | (simp -implicitDefEqProofs only [R.bind_assoc, R.bind_ok, R.bind_right, R.of_some, compR_map, compR_filter, compR_id, compR_idF, R.ifm_ok, Bool.and_true, Bool.or_false, R.ite_and, R.ite_or]; done) | (simp -implicitDefEqProofs only [R.bind_assoc, R.bind_ok, R.bind_right, R.of_some, compR_map, compR_filter, compR_id, compR_idF, R.ifm_ok, Bool.and_true, Bool.or_false, R.ite_ok, R.ite_and, R.ite_or]; done) | rfl)) trivial (lt_of rfl) ?_
  intro v_digits_1
  refine bd_set (Evm.cast (evm_opT (evm_var rfl) (evm_op evm_int evm_int fun _ _ _ _ => rv_pow) fun _ _ => rv_IB) (by first | with_reducible rfl | (simp -implicitDefEqProofs only [R.bind_assoc, R.bind_ok, R.bind_right, R.of_some, compR_map, compR_filter, compR_id, compR_idF, R.ifm_ok, Bool.and_true, Bool.or_false, R.ite_and, R.ite_or]; done) | (simp -implicitDefEqProofs only [R.bind_assoc, R.bind_ok, R.bind_right, R.of_some, compR_map, compR_filter, compR_id, compR_idF, R.ifm_ok, Bool.and_true, Bool.or_false, R.ite_ok, R.ite_and, R.ite_or]; done) | rfl)) trivial (lt_of rfl) ?_
  intro v_great_3
  refine bd_setP (Evm.cast (evm_var rfl) (by first | with_reducible rfl | (simp -implicitDefEqProofs only [R.bind_assoc, R.bind_ok, R.bind_right, R.of_some, compR_map, compR_filter, compR_id, compR_idF, R.ifm_ok, Bool.and_true, Bool.or_false, R.ite_and, R.ite_or]; done) | (simp -implicitDefEqProofs only [R.bind_assoc, R.bind_ok, R.bind_right, R.of_some, compR_map, compR_filter, compR_id, compR_idF, R.ifm_ok, Bool.and_true, Bool.or_false, R.ite_ok, R.ite_and, R.ite_or]; done) | rfl)) trivial (lt_of rfl) ?_
  intro v_first_4
  refine bd_setNP (EvN.cast (evn_lst (l := .fr) (f := fun b : Unit => ([] : (List Int))) eva_nil (fun _ => rfl) (fun _ => by show (0 : Nat) ≤ 1000; decide)) (by first | with_reducible rfl | (simp -implicitDefEqProofs only [R.bind_assoc, R.bind_ok, R.bind_right, R.of_some, compR_map, compR_filter, compR_id, compR_idF, R.ifm_ok, Bool.and_true, Bool.or_false, R.ite_and, R.ite_or]; done) | (simp -implicitDefEqProofs only [R.bind_assoc, R.bind_ok, R.bind_right, R.of_some, compR_map, compR_filter, compR_id, compR_idF, R.ifm_ok, Bool.and_true, Bool.or_false, R.ite_ok, R.ite_and, R.ite_or]; done) | rfl)) trivial (lt_of rfl) ?_
  intro v_out_5
  refine bd_fold (l1 := .fr) (es := (fun s7 : (List Int) × Int => [.sh .pa (enc (v_cell : Int)), .sh .pa (enc (v_sizes : (List Int))), .sh .fr (enc (s7.2 : Int)), .sh .fr (enc (v_great_3 : Bool)), .sh .fr (enc (v_first_4 : Int)), .ow .fr ((s7.1 : (List Int)).map enc), .un, .un])) (EvI.cast (evi_rng1 (evm_cbT (eva_cons (evm_raw (evm_var rfl)) eva_nil) fun _ => ra_len)) (by first | with_reducible rfl | (simp -implicitDefEqProofs only [R.bind_assoc, R.bind_ok, R.bind_right, R.of_some, compR_map, compR_filter, compR_id, compR_idF, R.ifm_ok, Bool.and_true, Bool.or_false, R.ite_and, R.ite_or]; done) | (simp -implicitDefEqProofs only [R.bind_assoc, R.bind_ok, R.bind_right, R.of_some, compR_map, compR_filter, compR_id, compR_idF, R.ifm_ok, Bool.and_true, Bool.or_false, R.ite_ok, R.ite_and, R.ite_or]; done) | rfl)) trivial (Wk.keep (Wk.keep (Wk.keep (Wk.keep (Wk.keep (Wk.keep (Wk.keep (Wk.keep Wk.nil)))))))) (tg_name trivial) (hu1 fun _ => rfl) ?_ ?_
  · intro x6 s7
    unfold m__law_draws_b1
    refine bd_join (es := (fun s38 : (List Int) × Int => [.sh .pa (enc (v_cell : Int)), .sh .pa (enc (v_sizes : (List Int))), .sh .fr (enc (s38.2 : Int)), .sh .fr (enc (v_great_3 : Bool)), .sh .fr (enc (v_first_4 : Int)), .ow .fr ((s38.1 : (List Int)).map enc), .sh .fr (enc (x6 : Int)), .un])) (bd_tail ?_) ?_
    · refine bd_if (EvT.cast (evt_and (evt_B (evm_var rfl)) (evt_test (evm_opT (evm_var rfl) evm_int fun _ _ => rv_IB))) (by first | with_reducible rfl | (simp -implicitDefEqProofs only [R.bind_assoc, R.bind_ok, R.bind_right, R.of_some, compR_map, compR_filter, compR_id, compR_idF, R.ifm_ok, Bool.and_true, Bool.or_false, R.ite_and, R.ite_or]; done) | (simp -implicitDefEqProofs only [R.bind_assoc, R.bind_ok, R.bind_right, R.of_some, compR_map, compR_filter, compR_id, compR_idF, R.ifm_ok, Bool.and_true, Bool.or_false, R.ite_ok, R.ite_and, R.ite_or]; done) | rfl)) ?_ ?_
      · refine bd_assoc ?_
        refine bd_app (by rfl) (Evm.cast (evm_op (evm_cbT (eva_cons (evm_flat (l2 := .raw) (evm_var rfl)) eva_nil) fun _ => ra_int) (evm_flat (l2 := .fr) (evm_ix (evm_var rfl) (evm_var rfl))) fun _ _ _ _ => rv_mod) (by first | with_reducible rfl | (simp -implicitDefEqProofs only [R.bind_assoc, R.bind_ok, R.bind_right, R.of_some, compR_map, compR_filter, compR_id, compR_idF, R.ifm_ok, Bool.and_true, Bool.or_false, R.ite_and, R.ite_or]; done) | (simp -implicitDefEqProofs only [R.bind_assoc, R.bind_ok, R.bind_right, R.of_some, compR_map, compR_filter, compR_id, compR_idF, R.ifm_ok, Bool.and_true, Bool.or_false, R.ite_ok, R.ite_and, R.ite_or]; done) | rfl)) ?_
        intro v_out_41
        refine bd_assoc ?_
        refine bd_set (Evm.cast (evm_op (evm_var rfl) (evm_flat (l2 := .fr) (evm_ix (evm_var rfl) (evm_var rfl))) fun _ _ _ _ => rv_div) (by first | with_reducible rfl | (simp -implicitDefEqProofs only [R.bind_assoc, R.bind_ok, R.bind_right, R.of_some, compR_map, compR_filter, compR_id, compR_idF, R.ifm_ok, Bool.and_true, Bool.or_false, R.ite_and, R.ite_or]; done) | (simp -implicitDefEqProofs only [R.bind_assoc, R.bind_ok, R.bind_right, R.of_some, compR_map, compR_filter, compR_id, compR_idF, R.ifm_ok, Bool.and_true, Bool.or_false, R.ite_ok, R.ite_and, R.ite_or]; done) | rfl)) trivial (lt_of rfl) ?_
        intro v_digits_44
        refine bd_nil ?_
        exact bd_end (Wk.keep (Wk.keep (Wk.keep (Wk.keep (Wk.keep (Wk.keep (Wk.keep (Wk.keep Wk.nil)))))))) rfl
      · refine bd_assoc ?_
        refine bd_set (Evm.cast (evm_op (evm_cbT (eva_cons (evm_flat (l2 := .raw) (evm_opT (evm_opT (evm_var rfl) (evm_op evm_int (evm_var rfl) fun _ _ _ _ => rv_mul) fun _ _ => rv_II) evm_int fun _ _ => rv_II)) eva_nil) fun _ => ra_int) evm_int fun _ _ _ _ => rv_mod) (by first | with_reducible rfl | (simp -implicitDefEqProofs only [R.bind_assoc, R.bind_ok, R.bind_right, R.of_some, compR_map, compR_filter, compR_id, compR_idF, R.ifm_ok, Bool.and_true, Bool.or_false, R.ite_and, R.ite_or]; done) | (simp -implicitDefEqProofs only [R.bind_assoc, R.bind_ok, R.bind_right, R.of_some, compR_map, compR_filter, compR_id, compR_idF, R.ifm_ok, Bool.and_true, Bool.or_false, R.ite_ok, R.ite_and, R.ite_or]; done) | rfl)) trivial (lt_of rfl) ?_
        intro v_mixed_51
        refine bd_assoc ?_
        refine bd_set (Evm.cast (evm_op (evm_cbT (eva_cons (evm_flat (l2 := .raw) (evm_op (evm_var rfl) (evm_opT (evm_var rfl) evm_int fun _ _ => rv_II) fun _ _ _ _ => rv_mul)) eva_nil) fun _ => ra_int) evm_int fun _ _ _ _ => rv_mod) (by first | with_reducible rfl | (simp -implicitDefEqProofs only [R.bind_assoc, R.bind_ok, R.bind_right, R.of_some, compR_map, compR_filter, compR_id, compR_idF, R.ifm_ok, Bool.and_true, Bool.or_false, R.ite_and, R.ite_or]; done) | (simp -implicitDefEqProofs only [R.bind_assoc, R.bind_ok, R.bind_right, R.of_some, compR_map, compR_filter, compR_id, compR_idF, R.ifm_ok, Bool.and_true, Bool.or_false, R.ite_ok, R.ite_and, R.ite_or]; done) | rfl)) trivial (lt_of rfl) ?_
        intro v_mixed_55
        refine bd_assoc ?_
        refine bd_set (Evm.cast (evm_op (evm_cbT (eva_cons (evm_flat (l2 := .raw) (evm_opT (evm_op (evm_var rfl) (evm_opT (evm_var rfl) evm_int fun _ _ => rv_II) fun _ _ _ _ => rv_mul) (evm_op evm_int (evm_var rfl) fun _ _ _ _ => rv_mul) fun _ _ => rv_II)) eva_nil) fun _ => ra_int) evm_int fun _ _ _ _ => rv_mod) (by first | with_reducible rfl | (simp -implicitDefEqProofs only [R.bind_assoc, R.bind_ok, R.bind_right, R.of_some, compR_map, compR_filter, compR_id, compR_idF, R.ifm_ok, Bool.and_true, Bool.or_false, R.ite_and, R.ite_or]; done) | (simp -implicitDefEqProofs only [R.bind_assoc, R.bind_ok, R.bind_right, R.of_some, compR_map, compR_filter, compR_id, compR_idF, R.ifm_ok, Bool.and_true, Bool.or_false, R.ite_ok, R.ite_and, R.ite_or]; done) | rfl)) trivial (lt_of rfl) ?_
        intro v_mixed_61
        refine bd_assoc ?_
        refine bd_app (by rfl) (Evm.cast (evm_op (evm_cbT (eva_cons (evm_flat (l2 := .raw) (evm_op (evm_var rfl) evm_int fun _ _ _ _ => rv_div)) eva_nil) fun _ => ra_int) (evm_flat (l2 := .fr) (evm_ix (evm_var rfl) (evm_var rfl))) fun _ _ _ _ => rv_mod) (by first | with_reducible rfl | (simp -implicitDefEqProofs only [R.bind_assoc, R.bind_ok, R.bind_right, R.of_some, compR_map, compR_filter, compR_id, compR_idF, R.ifm_ok, Bool.and_true, Bool.or_false, R.ite_and, R.ite_or]; done) | (simp -implicitDefEqProofs only [R.bind_assoc, R.bind_ok, R.bind_right, R.of_some, compR_map, compR_filter, compR_id, compR_idF, R.ifm_ok, Bool.and_true, Bool.or_false, R.ite_ok, R.ite_and, R.ite_or]; done) | rfl)) ?_
        intro v_out_67
        refine bd_nil ?_
        exact bd_end (Wk.keep (Wk.keep (Wk.keep (Wk.keep (Wk.keep (Wk.keep (Wk.keep (Wk.lose Wk.nil)))))))) rfl
    intro s38
    exact bd_end (Wk.keep (Wk.keep (Wk.keep (Wk.keep (Wk.keep (Wk.keep (Wk.lose (Wk.keep Wk.nil)))))))) rfl
  intro s7
  exact bd_retO rfl (by rfl) (by rfl)
theorem ok__law_hand {f : Addr} {fd : FuncData} (F : Fun K "_law_hand" "_law_hand" s__law_hand f fd) (hT : T.K = K) (k__law_draws : Kd P w K mg base CX0 "_law_draws" ["_law_cell_here", "_law_sizes"] 1 (Pm T (.nw .fr) (fun b : Int × (List Int) × Unit => m__law_draws b.1 b.2.1))) (z_range : mg "range" = none) :
    FnOk P w K mg base CX0 2 f fd ["_law_cell_here", "_law_count", "_law_kind"] (Pm T (.nw .fr) (fun b : Int × Int × Int × Unit => m__law_hand b.1 b.2.1 b.2.2.1)) := by
  subst hT
  refine fn_pm F sc__law_hand (fun _ => rfl) fun cdv A outer s H E hr => ⟨_, (pss_cons (ps_if (pt_cmpR op_eq (pv 2) pe_int rfl) (pss_cons (ps_ret (pe_lc (own := [("_law_x", 3)]) (g := (gName 3)) rfl sc__law_hand.nd (k_pil T.K rfl (pe_kd k__law_draws (hr.mono (by decide)) (by rfl) (pa_cons (pv 0) (pa_cons (pe_lc (own := [("_law_k", 4)]) (g := (gName 4)) rfl sc__law_hand.nd (pi_range1 (by rfl) z_range (pa_cons (pv 1) pa_nil)) (blkOk_by (N := N__law_hand) (sc := defScope s__law_hand) (by decide +kernel)) (fun _ _ _ _ _ => (pg_name (i := 4) sc__law_hand.nd rfl (Or.inl rfl))) (fun _ _ _ _ _ => pts_nil) (fun _ _ _ _ _ => pe_int)) pa_nil)))) (blkOk_by (N := N__law_hand) (sc := defScope s__law_hand) (by decide +kernel)) (fun _ _ _ _ _ => (pg_name (i := 3) sc__law_hand.nd rfl (Or.inl rfl))) (fun _ _ _ _ _ => pts_nil) (fun _ _ _ _ _ => (pe_op op_sub (pv 3) pe_int)))) pss_nil) pss_nil) (pss_cons (ps_if (pt_cmpR op_eq (pv 2) pe_int rfl) (pss_cons (ps_ret (pe_lc (own := [("_law_x", 3)]) (g := (gName 3)) rfl sc__law_hand.nd (k_pil T.K rfl (pe_kd k__law_draws (hr.mono (by decide)) (by rfl) (pa_cons (pv 0) (pa_cons (pe_lc (own := [("_law_k", 4)]) (g := (gName 4)) rfl sc__law_hand.nd (pi_range1 (by rfl) z_range (pa_cons (pv 1) pa_nil)) (blkOk_by (N := N__law_hand) (sc := defScope s__law_hand) (by decide +kernel)) (fun _ _ _ _ _ => (pg_name (i := 4) sc__law_hand.nd rfl (Or.inl rfl))) (fun _ _ _ _ _ => pts_nil) (fun _ _ _ _ _ => (pe_op op_add (pe_op op_mul pe_int (pv 1)) pe_int))) pa_nil)))) (blkOk_by (N := N__law_hand) (sc := defScope s__law_hand) (by decide +kernel)) (fun _ _ _ _ _ => (pg_name (i := 3) sc__law_hand.nd rfl (Or.inl rfl))) (fun _ _ _ _ _ => pts_nil) (fun _ _ _ _ _ => (pe_op op_sub (pv 3) (pv 1))))) pss_nil) pss_nil) (pss_cons (ps_if (pt_cmpR op_eq (pv 2) pe_int rfl) (pss_cons (ps_ret (pe_lc (own := [("_law_x", 3)]) (g := (gName 3)) rfl sc__law_hand.nd (k_pil T.K rfl (pe_kd k__law_draws (hr.mono (by decide)) (by rfl) (pa_cons (pv 0) (pa_cons (pe_lc (own := [("_law_k", 4)]) (g := (gName 4)) rfl sc__law_hand.nd (pi_range1 (by rfl) z_range (pa_cons (pv 1) pa_nil)) (blkOk_by (N := N__law_hand) (sc := defScope s__law_hand) (by decide +kernel)) (fun _ _ _ _ _ => (pg_name (i := 4) sc__law_hand.nd rfl (Or.inl rfl))) (fun _ _ _ _ _ => pts_nil) (fun _ _ _ _ _ => (pe_op op_add (pe_op op_mul pe_int (pe_op op_pow pe_int pe_int)) pe_int))) pa_nil)))) (blkOk_by (N := N__law_hand) (sc := defScope s__law_hand) (by decide +kernel)) (fun _ _ _ _ _ => (pg_name (i := 3) sc__law_hand.nd rfl (Or.inl rfl))) (fun _ _ _ _ _ => pts_nil) (fun _ _ _ _ _ => (pe_op op_sub (pv 3) (pe_op op_pow pe_int pe_int))))) pss_nil) pss_nil) (pss_cons (ps_ret (pe_lc (own := [("_law_x", 3)]) (g := (gName 3)) rfl sc__law_hand.nd (k_pil T.K rfl (pe_kd k__law_draws (hr.mono (by decide)) (by rfl) (pa_cons (pv 0) (pa_cons (pe_lc (own := [("_law_k", 4)]) (g := (gName 4)) rfl sc__law_hand.nd (pi_range1 (by rfl) z_range (pa_cons (pv 1) pa_nil)) (blkOk_by (N := N__law_hand) (sc := defScope s__law_hand) (by decide +kernel)) (fun _ _ _ _ _ => (pg_name (i := 4) sc__law_hand.nd rfl (Or.inl rfl))) (fun _ _ _ _ _ => pts_nil) (fun _ _ _ _ _ => (pe_op op_add (pv 1) pe_int))) pa_nil)))) (blkOk_by (N := N__law_hand) (sc := defScope s__law_hand) (by decide +kernel)) (fun _ _ _ _ _ => (pg_name (i := 3) sc__law_hand.nd rfl (Or.inl rfl))) (fun _ _ _ _ _ => pts_nil) (fun _ _ _ _ _ => (pv 3)))) pss_nil)))), ?_⟩
  rintro ⟨v_cell, v_count, v_kind, _⟩
  show BD _ _ _ (m__law_hand v_cell v_count v_kind) _
  unfold m__law_hand
  refine bd_if (EvT.cast (evt_test (evm_opT (evm_var rfl) evm_int fun _ _ => rv_eqI)) (by first | with_reducible rfl | (simp -implicitDefEqProofs only [R.bind_assoc, R.bind_ok, R.bind_right, R.of_some, compR_map, compR_filter, compR_id, compR_idF, R.ifm_ok, Bool.and_true, Bool.or_false, R.ite_and, R.ite_or]; done) | (simp -implicitDefEqProofs only [R.bind_assoc, R.bind_ok, R.bind_right, R.of_some, compR_map, compR_filter, compR_id, compR_idF, R.ifm_ok, Bool.and_true, Bool.or_false, R.ite_ok, R.ite_and, R.ite_or]; done) | rfl)) ?_ ?_
  · refine bd_assoc ?_
    exact bd_retN1 rfl (EvN.cast (evn_lc (l := .fr) (l1 := .fr) (l3 := .fr) rfl trivial trivial (.inl rfl) (evi_list (evn_ev (evn_callF rfl (eva_cons (evm_flat (l2 := .raw) (evm_var rfl)) (eva_cons (evm_raw (evn_ev (evn_lc (l := .fr) (l1 := .fr) (l3 := .fr) rfl trivial trivial (.inl rfl) (evi_rng1 (evm_var rfl)) (hv1 rfl rfl) (tg_name trivial) (fun x1 => evt_yes) (fun x1 => evm_int)))) eva_nil))))) (hv1 rfl rfl) (tg_name trivial) (fun x4 => evt_yes) (fun x4 => (evm_opT (evm_var rfl) evm_int fun _ _ => rv_II))) (by first | with_reducible rfl | (simp -implicitDefEqProofs only [R.bind_assoc, R.bind_ok, R.bind_right, R.of_some, compR_map, compR_filter, compR_id, compR_idF, R.ifm_ok, Bool.and_true, Bool.or_false, R.ite_and, R.ite_or]; done) | (simp -implicitDefEqProofs only [R.bind_assoc, R.bind_ok, R.bind_right, R.of_some, compR_map, compR_filter, compR_id, compR_idF, R.ifm_ok, Bool.and_true, Bool.or_false, R.ite_ok, R.ite_and, R.ite_or]; done) | rfl)) (fun _ => rfl)
  · refine bd_nil ?_
    refine bd_if (EvT.cast (evt_test (evm_opT (evm_var rfl) evm_int fun _ _ => rv_eqI)) (by first | with_reducible rfl | (simp -implicitDefEqProofs only [R.bind_assoc, R.bind_ok, R.bind_right, R.of_some, compR_map, compR_filter, compR_id, compR_idF, R.ifm_ok, Bool.and_true, Bool.or_false, R.ite_and, R.ite_or]; done) | (simp -implicitDefEqProofs only [R.bind_assoc, R.bind_ok, R.bind_right, R.of_some, compR_map, compR_filter, compR_id, compR_idF, R.ifm_ok, Bool.and_true, Bool.or_false, R.ite_ok, R.ite_and, R.ite_or]; done) | rfl)) ?_ ?_
    · refine bd_assoc ?_
      exact bd_retN1 rfl (EvN.cast (evn_lc (l := .fr) (l1 := .fr) (l3 := .fr) rfl trivial trivial (.inl rfl) (evi_list (evn_ev (evn_callF rfl (eva_cons (evm_flat (l2 := .raw) (evm_var rfl)) (eva_cons (evm_raw (evn_ev (evn_lc (l := .fr) (l1 := .fr) (l3 := .fr) rfl trivial trivial (.inl rfl) (evi_rng1 (evm_var rfl)) (hv1 rfl rfl) (tg_name trivial) (fun x6 => evt_yes) (fun x6 => (evm_opT (evm_op evm_int (evm_var rfl) fun _ _ _ _ => rv_mul) evm_int fun _ _ => rv_II))))) eva_nil))))) (hv1 rfl rfl) (tg_name trivial) (fun x10 => evt_yes) (fun x10 => (evm_opT (evm_var rfl) (evm_var rfl) fun _ _ => rv_II))) (by first | with_reducible rfl | (simp -implicitDefEqProofs only [R.bind_assoc, R.bind_ok, R.bind_right, R.of_some, compR_map, compR_filter, compR_id, compR_idF, R.ifm_ok, Bool.and_true, Bool.or_false, R.ite_and, R.ite_or]; done) | (simp -implicitDefEqProofs only [R.bind_assoc, R.bind_ok, R.bind_right, R.of_some, compR_map, compR_filter, compR_id, compR_idF, R.ifm_ok, Bool.and_true, Bool.or_false, R.ite_ok, R.ite_and, R.ite_or]; done) | rfl)) (fun _ => rfl)
    · refine bd_nil ?_
      refine bd_if (EvT.cast (evt_test (evm_opT (evm_var rfl) evm_int fun _ _ => rv_eqI)) (by first | with_reducible rfl | (simp -implicitDefEqProofs only [R.bind_assoc, R.bind_ok, R.bind_right, R.of_some, compR_map, compR_filter, compR_id, compR_idF, R.ifm_ok, Bool.and_true, Bool.or_false, R.ite_and, R.ite_or]; done) | (simp -implicitDefEqProofs only [R.bind_assoc, R.bind_ok, R.bind_right, R.of_some, compR_map, compR_filter, compR_id, compR_idF, R.ifm_ok, Bool.and_true, Bool.or_false, R.ite_ok, R.ite_and, R.ite_or]; done) | rfl)) ?_ ?_
      · refine bd_assoc ?_
        exact bd_retN1 rfl (EvN.cast (evn_lc (l := .fr) (l1 := .fr) (l3 := .fr) rfl trivial trivial (.inl rfl) (evi_list (evn_ev (evn_callF rfl (eva_cons (evm_flat (l2 := .raw) (evm_var rfl)) (eva_cons (evm_raw (evn_ev (evn_lc (l := .fr) (l1 := .fr) (l3 := .fr) rfl trivial trivial (.inl rfl) (evi_rng1 (evm_var rfl)) (hv1 rfl rfl) (tg_name trivial) (fun x12 => evt_yes) (fun x12 => (evm_opT (evm_op evm_int (evm_op evm_int evm_int fun _ _ _ _ => rv_pow) fun _ _ _ _ => rv_mul) evm_int fun _ _ => rv_II))))) eva_nil))))) (hv1 rfl rfl) (tg_name trivial) (fun x18 => evt_yes) (fun x18 => (evm_opT (evm_var rfl) (evm_op evm_int evm_int fun _ _ _ _ => rv_pow) fun _ _ => rv_II))) (by first | with_reducible rfl | (simp -implicitDefEqProofs only [R.bind_assoc, R.bind_ok, R.bind_right, R.of_some, compR_map, compR_filter, compR_id, compR_idF, R.ifm_ok, Bool.and_true, Bool.or_false, R.ite_and, R.ite_or]; done) | (simp -implicitDefEqProofs only [R.bind_assoc, R.bind_ok, R.bind_right, R.of_some, compR_map, compR_filter, compR_id, compR_idF, R.ifm_ok, Bool.and_true, Bool.or_false, R.ite_ok, R.ite_and, R.ite_or]; done) | rfl)) (fun _ => rfl)
      · refine bd_nil ?_
        exact bd_retN1 rfl (EvN.cast (evn_lc (l := .fr) (l1 := .fr) (l3 := .fr) rfl trivial trivial (.inl rfl) (evi_list (evn_ev (evn_callF rfl (eva_cons (evm_flat (l2 := .raw) (evm_var rfl)) (eva_cons (evm_raw (evn_ev (evn_lc (l := .fr) (l1 := .fr) (l3 := .fr) rfl trivial trivial (.inl rfl) (evi_rng1 (evm_var rfl)) (hv1 rfl rfl) (tg_name trivial) (fun x21 => evt_yes) (fun x21 => (evm_opT (evm_var rfl) evm_int fun _ _ => rv_II))))) eva_nil))))) (hv1 rfl rfl) (tg_name trivial) (fun x24 => evt_yes) (fun x24 => (evm_var rfl))) (by first | with_reducible rfl | (simp -implicitDefEqProofs only [R.bind_assoc, R.bind_ok, R.bind_right, R.of_some, compR_map, compR_filter, compR_id, compR_idF, R.ifm_ok, Bool.and_true, Bool.or_false, R.ite_and, R.ite_or]; done) | (simp -implicitDefEqProofs only [R.bind_assoc, R.bind_ok, R.bind_right, R.of_some, compR_map, compR_filter, compR_id, compR_idF, R.ifm_ok, Bool.and_true, Bool.or_false, R.ite_ok, R.ite_and, R.ite_or]; done) | rfl)) (fun _ => rfl)
theorem ok__law_hands {f : Addr} {fd : FuncData} (F : Fun K "_law_hands" "_law_hands" s__law_hands f fd) (hT : T.K = K) (k__law_cell : Kd P w K mg base CX0 "_law_cell" ["_law_script", "_law_k"] 1 (Pm T (.val .fr) (fun b : Scr × Int × Unit => m__law_cell b.1 b.2.1))) (k__law_draws : Kd P w K mg base CX0 "_law_draws" ["_law_cell_here", "_law_sizes"] 1 (Pm T (.nw .fr) (fun b : Int × (List Int) × Unit => m__law_draws b.1 b.2.1))) (k__law_hand : Kd P w K mg base CX0 "_law_hand" ["_law_cell_here", "_law_count", "_law_kind"] 2 (Pm T (.nw .fr) (fun b : Int × Int × Int × Unit => m__law_hand b.1 b.2.1 b.2.2.1))) (z_list : mg "list" = none) :
    FnOk P w K mg base CX0 3 f fd ["_law_script", "_law_at", "_law_count"] (Pm T (.val .fr) (fun b : Scr × Int × Int × Unit => m__law_hands b.1 b.2.1 b.2.2.1)) := by
  subst hT
  refine fn_pm F sc__law_hands (fun _ => rfl) fun cdv A outer s H E hr => ⟨_, (pss_cons (ps_set (i := 3) sc__law_hands.nd rfl (Or.inr rfl) (pe_kd k__law_draws (hr.mono (by decide)) (by rfl) (pa_cons (pe_kd k__law_cell (hr.mono (by decide)) (by rfl) (pa_cons (pv 0) (pa_cons (pv 1) pa_nil))) (pa_cons (pe_lst (pa_cons pe_int (pa_cons pe_int (pa_cons pe_int (pa_cons pe_int pa_nil))))) pa_nil)))) (pss_cons (ps_set (i := 4) sc__law_hands.nd rfl (Or.inl rfl) (pe_kd k__law_hand (hr.mono (by decide)) (by rfl) (pa_cons (pe_kd k__law_cell (hr.mono (by decide)) (by rfl) (pa_cons (pv 0) (pa_cons (pe_op op_add (pv 1) pe_int) pa_nil))) (pa_cons (pv 2) (pa_cons (pe_op op_mod (pe_ix (k_ixl T.K rfl) (pv 3) pe_int (fun _ _ => rfl)) pe_int) pa_nil))))) (pss_cons (ps_set (i := 5) sc__law_hands.nd rfl (Or.inl rfl) (pe_kd k__law_hand (hr.mono (by decide)) (by rfl) (pa_cons (pe_kd k__law_cell (hr.mono (by decide)) (by rfl) (pa_cons (pv 0) (pa_cons (pe_op op_add (pv 1) pe_int) pa_nil))) (pa_cons (pv 2) (pa_cons (pe_op op_mod (pe_ix (k_ixl T.K rfl) (pv 3) pe_int (fun _ _ => rfl)) pe_int) pa_nil))))) (pss_cons (ps_if (pt_cmpR op_eq (pe_ix (k_ixl T.K rfl) (pv 3) pe_int (fun _ _ => rfl)) pe_int rfl) (pss_cons (ps_set (i := 5) sc__law_hands.nd rfl (Or.inl rfl) (pe_callTy (k_list T.K rfl) (by rfl) z_list PyProof.Rows.boot_list (pa_cons (pv 4) pa_nil))) (pss_cons (ps_if (pw_and (pt_cmpR op_gt (pv 2) pe_int rfl) (pw_and1 (pt_cmpR op_gt (pe_ix (k_ixl T.K rfl) (pv 3) pe_int (fun _ _ => rfl)) pe_int rfl))).pt (pss_cons (ps_asg (pe_op op_sub (pe_op op_add (pe_ix (k_ixl T.K rfl) (pv 5) (pe_op op_mod (pe_ix (k_ixl T.K rfl) (pv 3) pe_int (fun _ _ => rfl)) (pv 2)) (fun _ _ => rfl)) (pe_ix (k_ixl T.K rfl) (pv 3) pe_int (fun _ _ => rfl))) pe_int) (pg_sub (pv 5) (pe_op op_mod (pe_ix (k_ixl T.K rfl) (pv 3) pe_int (fun _ _ => rfl)) (pv 2)) set_list)) pss_nil) pss_nil) pss_nil)) pss_nil) (pss_cons (ps_if (pw_and (pt_cmpR op_eq (pe_ix (k_ixl T.K rfl) (pv 3) pe_int (fun _ _ => rfl)) pe_int rfl) (pw_and1 (pt_cmpR op_gt (pe_ix (k_ixl T.K rfl) (pv 3) pe_int (fun _ _ => rfl)) pe_int rfl))).pt (pss_cons (ps_setLc (i := 5) (own := [("_law_x", 6)]) (g := (gName 6)) rfl sc__law_hands.nd rfl rfl (sw_true rfl rfl rfl (by decide +kernel)) (k_pil T.K rfl (pv 4)) (blkOk_by (N := N__law_hands) (sc := defScope s__law_hands) (by decide +kernel)) (fun _ _ _ _ _ => (pg_name (i := 6) sc__law_hands.nd rfl (Or.inl rfl))) (fun _ _ _ _ _ => pts_nil) (fun _ _ _ _ _ => (pe_op op_sub (pe_op op_add (pv 6) pe_int) (pe_op op_mul pe_int (pe_ix (k_ixl T.K rfl) (pv 3) pe_int (fun _ _ => rfl)))))) pss_nil) pss_nil) (pss_cons (ps_ret (pe_tup (pa_cons (pv 4) (pa_cons (pv 5) pa_nil)))) pss_nil)))))), ?_⟩
  rintro ⟨v_script, v_at, v_count, _⟩
  show BD _ _ _ (m__law_hands v_script v_at v_count) _
  unfold m__law_hands
  refine bd_setN (EvN.cast (evn_callF rfl (eva_cons (evm_flat (l2 := .raw) (evm_callF rfl (eva_cons (evm_raw (evm_var rfl)) (eva_cons (evm_flat (l2 := .raw) (evm_var rfl)) eva_nil)))) (eva_cons (evm_raw (evn_ev (evn_lst (l := .fr) (f := fun b : Int × Int × Int × Int × Unit => ([b.1, b.2.1, b.2.2.1, b.2.2.2.1] : (List Int))) (eva_cons evm_int (eva_cons evm_int (eva_cons evm_int (eva_cons evm_int eva_nil)))) (fun _ => rfl) (fun _ => by show (4 : Nat) ≤ 1000; decide)))) eva_nil))) (by first | with_reducible rfl | (simp -implicitDefEqProofs only [R.bind_assoc, R.bind_ok, R.bind_right, R.of_some, compR_map, compR_filter, compR_id, compR_idF, R.ifm_ok, Bool.and_true, Bool.or_false, R.ite_and, R.ite_or]; done) | (simp -implicitDefEqProofs only [R.bind_assoc, R.bind_ok, R.bind_right, R.of_some, compR_map, compR_filter, compR_id, compR_idF, R.ifm_ok, Bool.and_true, Bool.or_false, R.ite_ok, R.ite_and, R.ite_or]; done) | rfl)) trivial (lt_of rfl) ?_
  intro v_shape_2
  refine bd_setN (EvN.cast (evn_callF rfl (eva_cons (evm_flat (l2 := .raw) (evm_callF rfl (eva_cons (evm_raw (evm_var rfl)) (eva_cons (evm_flat (l2 := .raw) (evm_opT (evm_var rfl) evm_int fun _ _ => rv_II)) eva_nil)))) (eva_cons (evm_flat (l2 := .raw) (evm_var rfl)) (eva_cons (evm_flat (l2 := .raw) (evm_op (evm_ixo rfl evm_int) evm_int fun _ _ _ _ => rv_mod)) eva_nil)))) (by first | with_reducible rfl | (simp -implicitDefEqProofs only [R.bind_assoc, R.bind_ok, R.bind_right, R.of_some, compR_map, compR_filter, compR_id, compR_idF, R.ifm_ok, Bool.and_true, Bool.or_false, R.ite_and, R.ite_or]; done) | (simp -implicitDefEqProofs only [R.bind_assoc, R.bind_ok, R.bind_right, R.of_some, compR_map, compR_filter, compR_id, compR_idF, R.ifm_ok, Bool.and_true, Bool.or_false, R.ite_ok, R.ite_and, R.ite_or]; done) | rfl)) trivial (lt_of rfl) ?_
  intro v_mine_7
  refine bd_setN (EvN.cast (evn_callF rfl (eva_cons (evm_flat (l2 := .raw) (evm_callF rfl (eva_cons (evm_raw (evm_var rfl)) (eva_cons (evm_flat (l2 := .raw) (evm_opT (evm_var rfl) evm_int fun _ _ => rv_II)) eva_nil)))) (eva_cons (evm_flat (l2 := .raw) (evm_var rfl)) (eva_cons (evm_flat (l2 := .raw) (evm_op (evm_ixo rfl evm_int) evm_int fun _ _ _ _ => rv_mod)) eva_nil)))) (by first | with_reducible rfl | (simp -implicitDefEqProofs only [R.bind_assoc, R.bind_ok, R.bind_right, R.of_some, compR_map, compR_filter, compR_id, compR_idF, R.ifm_ok, Bool.and_true, Bool.or_false, R.ite_and, R.ite_or]; done) | (simp -implicitDefEqProofs only [R.bind_assoc, R.bind_ok, R.bind_right, R.of_some, compR_map, compR_filter, compR_id, compR_idF, R.ifm_ok, Bool.and_true, Bool.or_false, R.ite_ok, R.ite_and, R.ite_or]; done) | rfl)) trivial (lt_of rfl) ?_
  intro v_theirs_12
  refine bd_join (es := (fun s39 : (List Int) => [.sh .pa (enc (v_script : Scr)), .sh .pa (enc (v_at : Int)), .sh .pa (enc (v_count : Int)), .ow .fr ((v_shape_2 : (List Int)).map enc), .ow .fr ((v_mine_7 : (List Int)).map enc), .ow .fr ((s39 : (List Int)).map enc), .un])) (bd_tail ?_) ?_
  · refine bd_if (EvT.cast (evt_test (evm_opT (evm_ixo rfl evm_int) evm_int fun _ _ => rv_eqI)) (by first | with_reducible rfl | (simp -implicitDefEqProofs only [R.bind_assoc, R.bind_ok, R.bind_right, R.of_some, compR_map, compR_filter, compR_id, compR_idF, R.ifm_ok, Bool.and_true, Bool.or_false, R.ite_and, R.ite_or]; done) | (simp -implicitDefEqProofs only [R.bind_assoc, R.bind_ok, R.bind_right, R.of_some, compR_map, compR_filter, compR_id, compR_idF, R.ifm_ok, Bool.and_true, Bool.or_false, R.ite_ok, R.ite_and, R.ite_or]; done) | rfl)) ?_ ?_
    · refine bd_assoc ?_
      refine bd_setNP (EvN.cast (evn_listofo rfl) (by first | with_reducible rfl | (simp -implicitDefEqProofs only [R.bind_assoc, R.bind_ok, R.bind_right, R.of_some, compR_map, compR_filter, compR_id, compR_idF, R.ifm_ok, Bool.and_true, Bool.or_false, R.ite_and, R.ite_or]; done) | (simp -implicitDefEqProofs only [R.bind_assoc, R.bind_ok, R.bind_right, R.of_some, compR_map, compR_filter, compR_id, compR_idF, R.ifm_ok, Bool.and_true, Bool.or_false, R.ite_ok, R.ite_and, R.ite_or]; done) | rfl)) trivial (lt_of rfl) ?_
      intro v_theirs_40
      refine bd_assoc ?_
      refine bd_join (es := (fun s53 : (List Int) => [.sh .pa (enc (v_script : Scr)), .sh .pa (enc (v_at : Int)), .sh .pa (enc (v_count : Int)), .ow .fr ((v_shape_2 : (List Int)).map enc), .ow .fr ((v_mine_7 : (List Int)).map enc), .ow .fr ((s53 : (List Int)).map enc), .un])) (bd_tail ?_) ?_
      · refine bd_if (EvT.cast (evt_and (evt_test (evm_opT (evm_var rfl) evm_int fun _ _ => rv_IB)) (evt_test (evm_opT (evm_ixo rfl evm_int) evm_int fun _ _ => rv_IB))) (by first | with_reducible rfl | (simp -implicitDefEqProofs only [R.bind_assoc, R.bind_ok, R.bind_right, R.of_some, compR_map, compR_filter, compR_id, compR_idF, R.ifm_ok, Bool.and_true, Bool.or_false, R.ite_and, R.ite_or]; done) | (simp -implicitDefEqProofs only [R.bind_assoc, R.bind_ok, R.bind_right, R.of_some, compR_map, compR_filter, compR_id, compR_idF, R.ifm_ok, Bool.and_true, Bool.or_false, R.ite_ok, R.ite_and, R.ite_or]; done) | rfl)) ?_ ?_
        · refine bd_assoc ?_
          refine bd_seti (by rfl) (Evm.cast (evm_opT (evm_opT (evm_ixo rfl (evm_op (evm_ixo rfl evm_int) (evm_var rfl) fun _ _ _ _ => rv_mod)) (evm_ixo rfl evm_int) fun _ _ => rv_II) evm_int fun _ _ => rv_II) (by first | with_reducible rfl | (simp -implicitDefEqProofs only [R.bind_assoc, R.bind_ok, R.bind_right, R.of_some, compR_map, compR_filter, compR_id, compR_idF, R.ifm_ok, Bool.and_true, Bool.or_false, R.ite_and, R.ite_or]; done) | (simp -implicitDefEqProofs only [R.bind_assoc, R.bind_ok, R.bind_right, R.of_some, compR_map, compR_filter, compR_id, compR_idF, R.ifm_ok, Bool.and_true, Bool.or_false, R.ite_ok, R.ite_and, R.ite_or]; done) | rfl)) (Evm.cast (evm_op (evm_ixo rfl evm_int) (evm_var rfl) fun _ _ _ _ => rv_mod) (by first | with_reducible rfl | (simp -implicitDefEqProofs only [R.bind_assoc, R.bind_ok, R.bind_right, R.of_some, compR_map, compR_filter, compR_id, compR_idF, R.ifm_ok, Bool.and_true, Bool.or_false, R.ite_and, R.ite_or]; done) | (simp -implicitDefEqProofs only [R.bind_assoc, R.bind_ok, R.bind_right, R.of_some, compR_map, compR_filter, compR_id, compR_idF, R.ifm_ok, Bool.and_true, Bool.or_false, R.ite_ok, R.ite_and, R.ite_or]; done) | rfl)) ?_
          intro v_theirs_62
          refine bd_nil ?_
          exact bd_end (Wk.keep (Wk.keep (Wk.keep (Wk.keep (Wk.keep (Wk.keep (Wk.keep Wk.nil))))))) rfl
        · refine bd_nil ?_
          exact bd_end (Wk.keep (Wk.keep (Wk.keep (Wk.keep (Wk.keep (Wk.keep (Wk.keep Wk.nil))))))) rfl
      intro s53
      refine bd_nil ?_
      exact bd_end (Wk.keep (Wk.keep (Wk.keep (Wk.keep (Wk.keep (Wk.keep (Wk.keep Wk.nil))))))) rfl
    · refine bd_nil ?_
      exact bd_end (Wk.keep (Wk.keep (Wk.keep (Wk.keep (Wk.keep (Wk.keep (Wk.keep Wk.nil))))))) rfl
  intro s39
  refine bd_join (es := (fun s74 : (List Int) => [.sh .pa (enc (v_script : Scr)), .sh .pa (enc (v_at : Int)), .sh .pa (enc (v_count : Int)), .ow .fr ((v_shape_2 : (List Int)).map enc), .ow .fr ((v_mine_7 : (List Int)).map enc), .ow .fr ((s74 : (List Int)).map enc), .un])) (bd_tail ?_) ?_
  · refine bd_if (EvT.cast (evt_and (evt_test (evm_opT (evm_ixo rfl evm_int) evm_int fun _ _ => rv_eqI)) (evt_test (evm_opT (evm_ixo rfl evm_int) evm_int fun _ _ => rv_IB))) (by first | with_reducible rfl | (simp -implicitDefEqProofs only [R.bind_assoc, R.bind_ok, R.bind_right, R.of_some, compR_map, compR_filter, compR_id, compR_idF, R.ifm_ok, Bool.and_true, Bool.or_false, R.ite_and, R.ite_or]; done) | (simp -implicitDefEqProofs only [R.bind_assoc, R.bind_ok, R.bind_right, R.of_some, compR_map, compR_filter, compR_id, compR_idF, R.ifm_ok, Bool.and_true, Bool.or_false, R.ite_ok, R.ite_and, R.ite_or]; done) | rfl)) ?_ ?_
    · refine bd_assoc ?_
      refine bd_setN (EvN.cast (evn_lc (l := .fr) (l1 := .raw) (l3 := .fr) rfl trivial trivial (.inr fun _ _ _ _ _ _ h => h.flat) (evi_list (evm_own rfl)) (hv1 rfl rfl) (tg_name trivial) (fun x75 => evt_yes) (fun x75 => (evm_opT (evm_opT (evm_var rfl) evm_int fun _ _ => rv_II) (evm_op evm_int (evm_ixo rfl evm_int) fun _ _ _ _ => rv_mul) fun _ _ => rv_II))) (by first | with_reducible rfl | (simp -implicitDefEqProofs only [R.bind_assoc, R.bind_ok, R.bind_right, R.of_some, compR_map, compR_filter, compR_id, compR_idF, R.ifm_ok, Bool.and_true, Bool.or_false, R.ite_and, R.ite_or]; done) | (simp -implicitDefEqProofs only [R.bind_assoc, R.bind_ok, R.bind_right, R.of_some, compR_map, compR_filter, compR_id, compR_idF, R.ifm_ok, Bool.and_true, Bool.or_false, R.ite_ok, R.ite_and, R.ite_or]; done) | rfl)) trivial (lt_of rfl) ?_
      intro v_theirs_80
      refine bd_nil ?_
      exact bd_end (Wk.keep (Wk.keep (Wk.keep (Wk.keep (Wk.keep (Wk.keep (Wk.keep Wk.nil))))))) rfl
    · refine bd_nil ?_
      exact bd_end (Wk.keep (Wk.keep (Wk.keep (Wk.keep (Wk.keep (Wk.keep (Wk.keep Wk.nil))))))) rfl
  intro s74
  refine bd_wk (Wk.keep (Wk.keep (Wk.keep (Wk.keep (Wk.share (Wk.keep (Wk.keep Wk.nil))))))) ?_
  refine bd_wk (Wk.keep (Wk.keep (Wk.keep (Wk.keep (Wk.keep (Wk.share (Wk.keep Wk.nil))))))) ?_
  exact bd_ret1 rfl (Evm.cast (evm_tup (eva_cons (evm_var rfl) (eva_cons (evm_var rfl) eva_nil)) (fun _ => by show (2 : Nat) ≤ 1000; decide)) (by first | with_reducible rfl | (simp -implicitDefEqProofs only [R.bind_assoc, R.bind_ok, R.bind_right, R.of_some, compR_map, compR_filter, compR_id, compR_idF, R.ifm_ok, Bool.and_true, Bool.or_false, R.ite_and, R.ite_or]; done) | (simp -implicitDefEqProofs only [R.bind_assoc, R.bind_ok, R.bind_right, R.of_some, compR_map, compR_filter, compR_id, compR_idF, R.ifm_ok, Bool.and_true, Bool.or_false, R.ite_ok, R.ite_and, R.ite_or]; done) | rfl)) (fun _ => rfl)
theorem ok__law_pairing {f : Addr} {fd : FuncData} (F : Fun K "_law_pairing" "_law_pairing" s__law_pairing f fd) (hT : T.K = K) (k__law_draws : Kd P w K mg base CX0 "_law_draws" ["_law_cell_here", "_law_sizes"] 1 (Pm T (.nw .fr) (fun b : Int × (List Int) × Unit => m__law_draws b.1 b.2.1))) (z_range : mg "range" = none) :
    FnOk P w K mg base CX0 2 f fd ["_law_cell_here", "_law_count"] (Pm T (.nw .fr) (fun b : Int × Int × Unit => m__law_pairing b.1 b.2.1)) := by
  subst hT
  refine fn_pm F sc__law_pairing (fun _ => rfl) fun cdv A outer s H E hr => ⟨_, (pss_cons (ps_setLc (i := 2) (own := [("_law_k", 5)]) (g := (gName 5)) rfl sc__law_pairing.nd rfl rfl (sw_true rfl rfl rfl (by decide +kernel)) (pi_range1 (by rfl) z_range (pa_cons (pv 1) pa_nil)) (blkOk_by (N := N__law_pairing) (sc := defScope s__law_pairing) (by decide +kernel)) (fun _ _ _ _ _ => (pg_name (i := 5) sc__law_pairing.nd rfl (Or.inl rfl))) (fun _ _ _ _ _ => pts_nil) (fun _ _ _ _ _ => (pv 5))) (pss_cons (ps_set (i := 3) sc__law_pairing.nd rfl (Or.inl rfl) (pe_lst pa_nil)) (pss_cons (ps_for PassesOwn.never rfl (k_pil T.K rfl (pe_kd k__law_draws (hr.mono (by decide)) (by rfl) (pa_cons (pv 0) (pa_cons (pe_lc (own := [("_law_k", 5)]) (g := (gName 5)) rfl sc__law_pairing.nd (pi_range1 (by rfl) z_range (pa_cons (pv 1) pa_nil)) (blkOk_by (N := N__law_pairing) (sc := defScope s__law_pairing) (by decide +kernel)) (fun _ _ _ _ _ => (pg_name (i := 5) sc__law_pairing.nd rfl (Or.inl rfl))) (fun _ _ _ _ _ => pts_nil) (fun _ _ _ _ _ => (pe_op op_sub (pv 1) (pv 5)))) pa_nil)))) (pg_name (i := 4) sc__law_pairing.nd rfl (Or.inl rfl)) (pss_cons (ps_expr (pe_bm PySem.F.plainAttrs_list PySem.F.slot_list_append PySem.F.type_list_append mt_append (pv 3) (pa_cons (pe_ix (k_ixl T.K rfl) (pv 2) (pv 4) (fun _ _ => rfl)) pa_nil))) (pss_cons (ps_set (i := 2) sc__law_pairing.nd rfl (Or.inl rfl) (pe_op op_cat (pe_slice (k_sll T.K rfl) (pv 2) po_none (po_some (pv 4))) (pe_slice (k_sll T.K rfl) (pv 2) (po_some (pe_op op_add (pv 4) pe_int)) po_none))) pss_nil))) (pss_cons (ps_ret (pv 3)) pss_nil)))), ?_⟩
  rintro ⟨v_cell, v_count, _⟩
  show BD _ _ _ (m__law_pairing v_cell v_count) _
  unfold m__law_pairing
  refine bd_setN (EvN.cast (evn_lc (l := .fr) (l1 := .fr) (l3 := .fr) rfl trivial trivial (.inl rfl) (evi_rng1 (evm_var rfl)) (hv1 rfl rfl) (tg_name trivial) (fun x1 => evt_yes) (fun x1 => (evm_var rfl))) (by first | with_reducible rfl | (simp -implicitDefEqProofs only [R.bind_assoc, R.bind_ok, R.bind_right, R.of_some, compR_map, compR_filter, compR_id, compR_idF, R.ifm_ok, Bool.and_true, Bool.or_false, R.ite_and, R.ite_or]; done) | (simp -implicitDefEqProofs only [R.bind_assoc, R.bind_ok, R.bind_right, R.of_some, compR_map, compR_filter, compR_id, compR_idF, R.ifm_ok, Bool.and_true, Bool.or_false, R.ite_ok, R.ite_and, R.ite_or]; done) | rfl)) trivial (lt_of rfl) ?_
  intro v_free_3
  refine bd_setNP (EvN.cast (evn_lst (l := .fr) (f := fun b : Unit => ([] : (List Int))) eva_nil (fun _ => rfl) (fun _ => by show (0 : Nat) ≤ 1000; decide)) (by first | with_reducible rfl | (simp -implicitDefEqProofs only [R.bind_assoc, R.bind_ok, R.bind_right, R.of_some, compR_map, compR_filter, compR_id, compR_idF, R.ifm_ok, Bool.and_true, Bool.or_false, R.ite_and, R.ite_or]; done) | (simp -implicitDefEqProofs only [R.bind_assoc, R.bind_ok, R.bind_right, R.of_some, compR_map, compR_filter, compR_id, compR_idF, R.ifm_ok, Bool.and_true, Bool.or_false, R.ite_ok, R.ite_and, R.ite_or]; done) | rfl)) trivial (lt_of rfl) ?_
  intro v_out_4
  refine bd_fold (l1 := .fr) (es := (fun s9 : (List Int) × (List Int) => [.sh .pa (enc (v_cell : Int)), .sh .pa (enc (v_count : Int)), .ow .fr ((s9.2 : (List Int)).map enc), .ow .fr ((s9.1 : (List Int)).map enc), .un, .un])) (EvI.cast (evi_list (evn_ev (evn_callF rfl (eva_cons (evm_flat (l2 := .raw) (evm_var rfl)) (eva_cons (evm_raw (evn_ev (evn_lc (l := .fr) (l1 := .fr) (l3 := .fr) rfl trivial trivial (.inl rfl) (evi_rng1 (evm_var rfl)) (hv1 rfl rfl) (tg_name trivial) (fun x5 => evt_yes) (fun x5 => (evm_opT (evm_var rfl) (evm_var rfl) fun _ _ => rv_II))))) eva_nil))))) (by first | with_reducible rfl | (simp -implicitDefEqProofs only [R.bind_assoc, R.bind_ok, R.bind_right, R.of_some, compR_map, compR_filter, compR_id, compR_idF, R.ifm_ok, Bool.and_true, Bool.or_false, R.ite_and, R.ite_or]; done) | (simp -implicitDefEqProofs only [R.bind_assoc, R.bind_ok, R.bind_right, R.of_some, compR_map, compR_filter, compR_id, compR_idF, R.ifm_ok, Bool.and_true, Bool.or_false, R.ite_ok, R.ite_and, R.ite_or]; done) | rfl)) trivial (Wk.keep (Wk.keep (Wk.keep (Wk.keep (Wk.keep (Wk.keep Wk.nil)))))) (tg_name trivial) (hu1 fun _ => rfl) ?_ ?_
  · intro x8 s9
    unfold m__law_pairing_b1
    refine bd_app (by rfl) (Evm.cast (evm_ixo rfl (evm_var rfl)) (by first | with_reducible rfl | (simp -implicitDefEqProofs only [R.bind_assoc, R.bind_ok, R.bind_right, R.of_some, compR_map, compR_filter, compR_id, compR_idF, R.ifm_ok, Bool.and_true, Bool.or_false, R.ite_and, R.ite_or]; done) | (simp -implicitDefEqProofs only [R.bind_assoc, R.bind_ok, R.bind_right, R.of_some, compR_map, compR_filter, compR_id, compR_idF, R.ifm_ok, Bool.and_true, Bool.or_false, R.ite_ok, R.ite_and, R.ite_or]; done) | rfl)) ?_
    intro v_out_10
    refine bd_setN (EvN.cast (evn_flat (l2 := .fr) (evn_cat (l := .raw) (evm_raw (evn_ev (evn_slo rfl evo_none (evo_some (evm_var rfl))))) (evm_raw (evn_ev (evn_slo rfl (evo_some (evm_opT (evm_var rfl) evm_int fun _ _ => rv_II)) evo_none))))) (by first | with_reducible rfl | (simp -implicitDefEqProofs only [R.bind_assoc, R.bind_ok, R.bind_right, R.of_some, compR_map, compR_filter, compR_id, compR_idF, R.ifm_ok, Bool.and_true, Bool.or_false, R.ite_and, R.ite_or]; done) | (simp -implicitDefEqProofs only [R.bind_assoc, R.bind_ok, R.bind_right, R.of_some, compR_map, compR_filter, compR_id, compR_idF, R.ifm_ok, Bool.and_true, Bool.or_false, R.ite_ok, R.ite_and, R.ite_or]; done) | rfl)) trivial (lt_of rfl) ?_
    intro v_free_11
    exact bd_end (Wk.keep (Wk.keep (Wk.keep (Wk.keep (Wk.lose (Wk.keep Wk.nil)))))) rfl
  intro s9
  exact bd_retO rfl (by rfl) (by rfl)
theorem ok__law_unrank {f : Addr} {fd : FuncData} (F : Fun K "_law_unrank" "_law_unrank" s__law_unrank f fd) (hT : T.K = K) (z_int : mg "int" = none) (z_len : mg "len" = none) (z_range : mg "range" = none) :
    FnOk P w K mg base CX0 1 f fd ["_law_number", "_law_count"] (Pm T (.nw .fr) (fun b : Int × Int × Unit => m__law_unrank b.1 b.2.1)) := by
  subst hT
  refine fn_pm F sc__law_unrank (fun _ => rfl) fun cdv A outer s H E hr => ⟨_, (pss_cons (ps_setLc (i := 2) (own := [("_law_k", 4)]) (g := (gName 4)) rfl sc__law_unrank.nd rfl rfl (sw_true rfl rfl rfl (by decide +kernel)) (pi_range1 (by rfl) z_range (pa_cons (pv 1) pa_nil)) (blkOk_by (N := N__law_unrank) (sc := defScope s__law_unrank) (by decide +kernel)) (fun _ _ _ _ _ => (pg_name (i := 4) sc__law_unrank.nd rfl (Or.inl rfl))) (fun _ _ _ _ _ => pts_nil) (fun _ _ _ _ _ => (pv 4))) (pss_cons (ps_set (i := 3) sc__law_unrank.nd rfl (Or.inl rfl) (pe_lst pa_nil)) (pss_cons (ps_for PassesOwn.never rfl (pi_range1 (by rfl) z_range (pa_cons (pv 1) pa_nil)) (pg_name (i := 4) sc__law_unrank.nd rfl (Or.inl rfl)) (pss_cons (ps_set (i := 5) sc__law_unrank.nd rfl (Or.inl rfl) (pe_op op_mod (pe_callTy call_int1 (by rfl) z_int PyProof.Rows.boot_int (pa_cons (pv 0) pa_nil)) (pe_callB (k_len T.K rfl) (by rfl) z_len PySem.boot_len (pa_cons (pv 2) pa_nil)))) (pss_cons (ps_set (i := 0) sc__law_unrank.nd rfl (Or.inl rfl) (pe_op op_fdivW (pv 0) (pe_callB (k_len T.K rfl) (by rfl) z_len PySem.boot_len (pa_cons (pv 2) pa_nil)))) (pss_cons (ps_expr (pe_bm PySem.F.plainAttrs_list PySem.F.slot_list_append PySem.F.type_list_append mt_append (pv 3) (pa_cons (pe_ix (k_ixl T.K rfl) (pv 2) (pv 5) (fun _ _ => rfl)) pa_nil))) (pss_cons (ps_set (i := 2) sc__law_unrank.nd rfl (Or.inl rfl) (pe_op op_cat (pe_slice (k_sll T.K rfl) (pv 2) po_none (po_some (pv 5))) (pe_slice (k_sll T.K rfl) (pv 2) (po_some (pe_op op_add (pv 5) pe_int)) po_none))) pss_nil))))) (pss_cons (ps_ret (pv 3)) pss_nil)))), ?_⟩
  rintro ⟨v_number, v_count, _⟩
  show BD _ _ _ (m__law_unrank v_number v_count) _
  unfold m__law_unrank
  refine bd_setN (EvN.cast (evn_lc (l := .fr) (l1 := .fr) (l3 := .fr) rfl trivial trivial (.inl rfl) (evi_rng1 (evm_var rfl)) (hv1 rfl rfl) (tg_name trivial) (fun x1 => evt_yes) (fun x1 => (evm_var rfl))) (by first | with_reducible rfl | (simp -implicitDefEqProofs only [R.bind_assoc, R.bind_ok, R.bind_right, R.of_some, compR_map, compR_filter, compR_id, compR_idF, R.ifm_ok, Bool.and_true, Bool.or_false, R.ite_and, R.ite_or]; done) | (simp -implicitDefEqProofs only [R.bind_assoc, R.bind_ok, R.bind_right, R.of_some, compR_map, compR_filter, compR_id, compR_idF, R.ifm_ok, Bool.and_true, Bool.or_false, R.ite_ok, R.ite_and, R.ite_or]; done) | rfl)) trivial (lt_of rfl) ?_
  intro v_free_3
  refine bd_setNP (EvN.cast (evn_lst (l := .fr) (f := fun b : Unit => ([] : (List Int))) eva_nil (fun _ => rfl) (fun _ => by show (0 : Nat) ≤ 1000; decide)) (by first | with_reducible rfl | (simp -implicitDefEqProofs only [R.bind_assoc, R.bind_ok, R.bind_right, R.of_some, compR_map, compR_filter, compR_id, compR_idF, R.ifm_ok, Bool.and_true, Bool.or_false, R.ite_and, R.ite_or]; done) | (simp -implicitDefEqProofs only [R.bind_assoc, R.bind_ok, R.bind_right, R.of_some, compR_map, compR_filter, compR_id, compR_idF, R.ifm_ok, Bool.and_true, Bool.or_false, R.ite_ok, R.ite_and, R.ite_or]; done) | rfl)) trivial (lt_of rfl) ?_
  intro v_out_4
  refine bd_fold (l1 := .fr) (es := (fun s6 : Int × (List Int) × (List Int) => [.sh .pa (enc (s6.1 : Int)), .sh .pa (enc (v_count : Int)), .ow .fr ((s6.2.2 : (List Int)).map enc), .ow .fr ((s6.2.1 : (List Int)).map enc), .un, .un])) (EvI.cast (evi_rng1 (evm_var rfl)) (by first | with_reducible rfl | (simp -implicitDefEqProofs only [R.bind_assoc, R.bind_ok, R.bind_right, R.of_some, compR_map, compR_filter, compR_id, compR_idF, R.ifm_ok, Bool.and_true, Bool.or_false, R.ite_and, R.ite_or]; done) | (simp -implicitDefEqProofs only [R.bind_assoc, R.bind_ok, R.bind_right, R.of_some, compR_map, compR_filter, compR_id, compR_idF, R.ifm_ok, Bool.and_true, Bool.or_false, R.ite_ok, R.ite_and, R.ite_or]; done) | rfl)) trivial (Wk.keep (Wk.keep (Wk.keep (Wk.keep (Wk.keep (Wk.keep Wk.nil)))))) (tg_name trivial) (hu1 fun _ => rfl) ?_ ?_
  · intro x5 s6
    unfold m__law_unrank_b1
    refine bd_set (Evm.cast (evm_op (evm_cbT (eva_cons (evm_flat (l2 := .raw) (evm_var rfl)) eva_nil) fun _ => ra_int) (evm_cbT (eva_cons (evm_own rfl) eva_nil) fun _ => ra_len) fun _ _ _ _ => rv_mod) (by first | with_reducible rfl | (simp -implicitDefEqProofs only [R.bind_assoc, R.bind_ok, R.bind_right, R.of_some, compR_map, compR_filter, compR_id, compR_idF, R.ifm_ok, Bool.and_true, Bool.or_false, R.ite_and, R.ite_or]; done) | (simp -implicitDefEqProofs only [R.bind_assoc, R.bind_ok, R.bind_right, R.of_some, compR_map, compR_filter, compR_id, compR_idF, R.ifm_ok, Bool.and_true, Bool.or_false, R.ite_ok, R.ite_and, R.ite_or]; done) | rfl)) trivial (lt_of rfl) ?_
    intro v_x_7
    refine bd_set (Evm.cast (evm_op (evm_var rfl) (evm_cbT (eva_cons (evm_own rfl) eva_nil) fun _ => ra_len) fun _ _ _ _ => rv_div) (by first | with_reducible rfl | (simp -implicitDefEqProofs only [R.bind_assoc, R.bind_ok, R.bind_right, R.of_some, compR_map, compR_filter, compR_id, compR_idF, R.ifm_ok, Bool.and_true, Bool.or_false, R.ite_and, R.ite_or]; done) | (simp -implicitDefEqProofs only [R.bind_assoc, R.bind_ok, R.bind_right, R.of_some, compR_map, compR_filter, compR_id, compR_idF, R.ifm_ok, Bool.and_true, Bool.or_false, R.ite_ok, R.ite_and, R.ite_or]; done) | rfl)) trivial (lt_of rfl) ?_
    intro v_number_8
    refine bd_app (by rfl) (Evm.cast (evm_ixo rfl (evm_var rfl)) (by first | with_reducible rfl | (simp -implicitDefEqProofs only [R.bind_assoc, R.bind_ok, R.bind_right, R.of_some, compR_map, compR_filter, compR_id, compR_idF, R.ifm_ok, Bool.and_true, Bool.or_false, R.ite_and, R.ite_or]; done) | (simp -implicitDefEqProofs only [R.bind_assoc, R.bind_ok, R.bind_right, R.of_some, compR_map, compR_filter, compR_id, compR_idF, R.ifm_ok, Bool.and_true, Bool.or_false, R.ite_ok, R.ite_and, R.ite_or]; done) | rfl)) ?_
    intro v_out_9
    refine bd_setN (EvN.cast (evn_flat (l2 := .fr) (evn_cat (l := .raw) (evm_raw (evn_ev (evn_slo rfl evo_none (evo_some (evm_var rfl))))) (evm_raw (evn_ev (evn_slo rfl (evo_some (evm_opT (evm_var rfl) evm_int fun _ _ => rv_II)) evo_none))))) (by first | with_reducible rfl | (simp -implicitDefEqProofs only [R.bind_assoc, R.bind_ok, R.bind_right, R.of_some, compR_map, compR_filter, compR_id, compR_idF, R.ifm_ok, Bool.and_true, Bool.or_false, R.ite_and, R.ite_or]; done) | (simp -implicitDefEqProofs only [R.bind_assoc, R.bind_ok, R.bind_right, R.of_some, compR_map, compR_filter, compR_id, compR_idF, R.ifm_ok, Bool.and_true, Bool.or_false, R.ite_ok, R.ite_and, R.ite_or]; done) | rfl)) trivial (lt_of rfl) ?_
    intro v_free_10
    exact bd_end (Wk.low (Wk.keep (Wk.keep (Wk.keep (Wk.lose (Wk.lose Wk.nil)))))) rfl
  intro s6
  exact bd_retO rfl (by rfl) (by rfl)
theorem ok__law_factorial {f : Addr} {fd : FuncData} (F : Fun K "_law_factorial" "_law_factorial" s__law_factorial f fd) (hT : T.K = K) (z_range : mg "range" = none) :
    FnOk P w K mg base CX0 1 f fd ["_law_count"] (Pm T (.val .fr) (fun b : Int × Unit => m__law_factorial b.1)) := by
  subst hT
  refine fn_pm F sc__law_factorial (fun _ => rfl) fun cdv A outer s H E hr => ⟨_, (pss_cons (ps_set (i := 1) sc__law_factorial.nd rfl (Or.inl rfl) pe_int) (pss_cons (ps_for PassesOwn.never rfl (pi_range1 (by rfl) z_range (pa_cons (pv 0) pa_nil)) (pg_name (i := 2) sc__law_factorial.nd rfl (Or.inl rfl)) (pss_cons (ps_set (i := 1) sc__law_factorial.nd rfl (Or.inl rfl) (pe_op op_mul (pv 1) (pe_op op_add (pv 2) pe_int))) pss_nil)) (pss_cons (ps_ret (pv 1)) pss_nil))), ?_⟩
  rintro ⟨v_count, _⟩
  show BD _ _ _ (m__law_factorial v_count) _
  unfold m__law_factorial
  refine bd_setP (Evm.cast evm_int (by first | with_reducible rfl | (simp -implicitDefEqProofs only [R.bind_assoc, R.bind_ok, R.bind_right, R.of_some, compR_map, compR_filter, compR_id, compR_idF, R.ifm_ok, Bool.and_true, Bool.or_false, R.ite_and, R.ite_or]; done) | (simp -implicitDefEqProofs only [R.bind_assoc, R.bind_ok, R.bind_right, R.of_some, compR_map, compR_filter, compR_id, compR_idF, R.ifm_ok, Bool.and_true, Bool.or_false, R.ite_ok, R.ite_and, R.ite_or]; done) | rfl)) trivial (lt_of rfl) ?_
  intro v_out_1
  refine bd_fold (l1 := .fr) (es := (fun s3 : Int => [.sh .pa (enc (v_count : Int)), .sh .fr (enc (s3 : Int)), .un])) (EvI.cast (evi_rng1 (evm_var rfl)) (by first | with_reducible rfl | (simp -implicitDefEqProofs only [R.bind_assoc, R.bind_ok, R.bind_right, R.of_some, compR_map, compR_filter, compR_id, compR_idF, R.ifm_ok, Bool.and_true, Bool.or_false, R.ite_and, R.ite_or]; done) | (simp -implicitDefEqProofs only [R.bind_assoc, R.bind_ok, R.bind_right, R.of_some, compR_map, compR_filter, compR_id, compR_idF, R.ifm_ok, Bool.and_true, Bool.or_false, R.ite_ok, R.ite_and, R.ite_or]; done) | rfl)) trivial (Wk.keep (Wk.keep (Wk.keep Wk.nil))) (tg_name trivial) (hu1 fun _ => rfl) ?_ ?_
  · intro x2 s3
    unfold m__law_factorial_b1
    refine bd_set (Evm.cast (evm_op (evm_var rfl) (evm_opT (evm_var rfl) evm_int fun _ _ => rv_II) fun _ _ _ _ => rv_mul) (by first | with_reducible rfl | (simp -implicitDefEqProofs only [R.bind_assoc, R.bind_ok, R.bind_right, R.of_some, compR_map, compR_filter, compR_id, compR_idF, R.ifm_ok, Bool.and_true, Bool.or_false, R.ite_and, R.ite_or]; done) | (simp -implicitDefEqProofs only [R.bind_assoc, R.bind_ok, R.bind_right, R.of_some, compR_map, compR_filter, compR_id, compR_idF, R.ifm_ok, Bool.and_true, Bool.or_false, R.ite_ok, R.ite_and, R.ite_or]; done) | rfl)) trivial (lt_of rfl) ?_
    intro v_out_4
    exact bd_end (Wk.keep (Wk.keep (Wk.lose Wk.nil))) rfl
  intro s3
  exact bd_ret1 rfl (Evm.cast (evm_var rfl) (by first | with_reducible rfl | (simp -implicitDefEqProofs only [R.bind_assoc, R.bind_ok, R.bind_right, R.of_some, compR_map, compR_filter, compR_id, compR_idF, R.ifm_ok, Bool.and_true, Bool.or_false, R.ite_and, R.ite_or]; done) | (simp -implicitDefEqProofs only [R.bind_assoc, R.bind_ok, R.bind_right, R.of_some, compR_map, compR_filter, compR_id, compR_idF, R.ifm_ok, Bool.and_true, Bool.or_false, R.ite_ok, R.ite_and, R.ite_or]; done) | rfl)) (fun _ => rfl)
theorem ok__law_is_int {f : Addr} {fd : FuncData} (F : Fun K "_law_is_int" "_law_is_int" s__law_is_int f fd) (hT : T.K = K) (z_bool : mg "bool" = none) (z_int : mg "int" = none) (z_isinstance : mg "isinstance" = none) :
    FnOk P w K mg base CX0 1 f fd ["_law_x"] (Pm T (.val .fr) (fun b : Int × Unit => m__law_is_int b.1)) := by
  subst hT
  refine fn_pm F sc__law_is_int (fun _ => rfl) fun cdv A outer s H E hr => ⟨_, (pss_cons (ps_ret (pe_and (pe_callB (k_isi T.K rfl) (by rfl) z_isinstance (by decide +kernel) (pa_cons (pv 0) (pa_cons (pe_bltn (v := .ty "int") (by rfl) z_int PyProof.Rows.boot_int rfl) pa_nil))) (pe_one (pe_not (pe_callB (k_isi T.K rfl) (by rfl) z_isinstance (by decide +kernel) (pa_cons (pv 0) (pa_cons (pe_bltn (v := .ty "bool") (by rfl) z_bool (by decide +kernel) rfl) pa_nil))))))) pss_nil), ?_⟩
  rintro ⟨v_x, _⟩
  show BD _ _ _ (m__law_is_int v_x) _
  unfold m__law_is_int
  exact bd_ret1 rfl (Evm.cast (evm_and (evm_isi (α := Int) (b := true) (evm_var rfl) (by decide +kernel)) (evm_not (evm_isi (α := Int) (b := false) (evm_var rfl) (by decide +kernel)))) (by first | with_reducible rfl | (simp -implicitDefEqProofs only [R.bind_assoc, R.bind_ok, R.bind_right, R.of_some, compR_map, compR_filter, compR_id, compR_idF, R.ifm_ok, Bool.and_true, Bool.or_false, R.ite_and, R.ite_or]; done) | (simp -implicitDefEqProofs only [R.bind_assoc, R.bind_ok, R.bind_right, R.of_some, compR_map, compR_filter, compR_id, compR_idF, R.ifm_ok, Bool.and_true, Bool.or_false, R.ite_ok, R.ite_and, R.ite_or]; done) | rfl)) (fun _ => rfl)
theorem psc__law_is_int : PlainScope ["_law_x"] (defScope s__law_is_int) := ⟨rfl, rfl, rfl, by decide +kernel, by decide +kernel, by decide +kernel, by decide +kernel⟩
theorem okq__law_is_int {f : Addr} {fd : FuncData} (F : Fun K "_law_is_int" "_law_is_int" s__law_is_int f fd) (hT : T.K = K) (z_bool : mg "bool" = none) (z_int : mg "int" = none) (z_isinstance : mg "isinstance" = none) :
    FnQ P w K mg base 1 f fd ["_law_x"] (Pm T (.val .fr) (fun b : Int × Unit => m__law_is_int b.1)) := by
  subst hT
  refine fn_pmQ F psc__law_is_int (fun _ => rfl) fun cdv A outer s H hr => ⟨_, (pss_cons (ps_ret (pe_and (pe_callB (k_isi T.K rfl) (by rfl) z_isinstance (by decide +kernel) (pa_cons (pv 0) (pa_cons (pe_bltn (v := .ty "int") (by rfl) z_int PyProof.Rows.boot_int rfl) pa_nil))) (pe_one (pe_not (pe_callB (k_isi T.K rfl) (by rfl) z_isinstance (by decide +kernel) (pa_cons (pv 0) (pa_cons (pe_bltn (v := .ty "bool") (by rfl) z_bool (by decide +kernel) rfl) pa_nil))))))) pss_nil), ?_⟩
  rintro ⟨v_x, _⟩
  show BD _ _ _ (m__law_is_int v_x) _
  unfold m__law_is_int
  exact bd_ret1 rfl (Evm.cast (evm_and (evm_isi (α := Int) (b := true) (evm_var rfl) (by decide +kernel)) (evm_not (evm_isi (α := Int) (b := false) (evm_var rfl) (by decide +kernel)))) (by first | with_reducible rfl | (simp -implicitDefEqProofs only [R.bind_assoc, R.bind_ok, R.bind_right, R.of_some, compR_map, compR_filter, compR_id, compR_idF, R.ifm_ok, Bool.and_true, Bool.or_false, R.ite_and, R.ite_or]; done) | (simp -implicitDefEqProofs only [R.bind_assoc, R.bind_ok, R.bind_right, R.of_some, compR_map, compR_filter, compR_id, compR_idF, R.ifm_ok, Bool.and_true, Bool.or_false, R.ite_ok, R.ite_and, R.ite_or]; done) | rfl)) (fun _ => rfl)
theorem ok__law_is_ints {f : Addr} {fd : FuncData} (F : Fun K "_law_is_ints" "_law_is_ints" s__law_is_ints f fd) (hT : T.K = K) (k__law_is_int : Kd P w K mg base CX0 "_law_is_int" ["_law_x"] 1 (Pm T (.val .fr) (fun b : Int × Unit => m__law_is_int b.1))) (z_all : mg "all" = none) (z_isinstance : mg "isinstance" = none) (z_list : mg "list" = none) :
    FnOk P w K mg base CX0 2 f fd ["_law_xs"] (Pm T (.val .fr) (fun b : (List Int) × Unit => m__law_is_ints b.1)) := by
  subst hT
  refine fn_pm F sc__law_is_ints (fun _ => rfl) fun cdv A outer s H E hr => ⟨_, (pss_cons (ps_ret (pe_and (pe_callB (k_isi T.K rfl) (by rfl) z_isinstance (by decide +kernel) (pa_cons (pv 0) (pa_cons (pe_bltn (v := .ty "list") (by rfl) z_list PyProof.Rows.boot_list rfl) pa_nil))) (pe_one (pe_callB (k_all T.K rfl rfl) (by rfl) z_all (by decide +kernel) (pa_cons (pe_lc (own := [("_law_x", 1)]) (g := (gName 1)) rfl sc__law_is_ints.nd (k_pil T.K rfl (pv 0)) (blkOk_by (N := N__law_is_ints) (sc := defScope s__law_is_ints) (by decide +kernel)) (fun _ _ _ _ _ => (pg_name (i := 1) sc__law_is_ints.nd rfl (Or.inl rfl))) (fun _ _ _ _ _ => pts_nil) (fun _ _ _ _ _ => (pe_kd k__law_is_int (hr.mono (by decide)) (by rfl) (pa_cons (pv 1) pa_nil)))) pa_nil))))) pss_nil), ?_⟩
  rintro ⟨v_xs, _⟩
  show BD _ _ _ (m__law_is_ints v_xs) _
  unfold m__law_is_ints
  exact bd_ret1 rfl (Evm.cast (evm_and (evm_isi (α := (List Int)) (b := true) (evm_var rfl) (by decide +kernel)) (evm_cbT (eva_cons (evm_raw (evn_ev (evn_lc (l := .fr) (l1 := .pa) (l3 := .fr) rfl trivial trivial (.inr fun _ _ _ _ _ _ h => h.flat) (evi_list (evm_var rfl)) (hv1 rfl rfl) (tg_name trivial) (fun x1 => evt_yes) (fun x1 => (evm_callF rfl (eva_cons (evm_flat (l2 := .raw) (evm_var rfl)) eva_nil)))))) eva_nil) fun _ => ra_all)) (by first | with_reducible rfl | (simp -implicitDefEqProofs only [R.bind_assoc, R.bind_ok, R.bind_right, R.of_some, compR_map, compR_filter, compR_id, compR_idF, R.ifm_ok, Bool.and_true, Bool.or_false, R.ite_and, R.ite_or]; done) | (simp -implicitDefEqProofs only [R.bind_assoc, R.bind_ok, R.bind_right, R.of_some, compR_map, compR_filter, compR_id, compR_idF, R.ifm_ok, Bool.and_true, Bool.or_false, R.ite_ok, R.ite_and, R.ite_or]; done) | rfl)) (fun _ => rfl)
theorem ok__law_result {f : Addr} {fd : FuncData} (F : Fun K "_law_result" "_law_result" s__law_result f fd) (hT : T.K = K) (z_int : mg "int" = none) (z_len : mg "len" = none) (z_range : mg "range" = none) (z_sum : mg "sum" = none) :
    FnOk P w K mg base CX0 1 f fd ["_law_mine", "_law_theirs", "_law_pairing_here"] (Pm T (.val .fr) (fun b : (List Int) × (List Int) × (List Int) × Unit => m__law_result b.1 b.2.1 b.2.2.1)) := by
  subst hT
  refine fn_pm F sc__law_result (fun _ => rfl) fun cdv A outer s H E hr => ⟨_, (pss_cons (ps_ret (pe_callB (k_sum T.K rfl rfl) (by rfl) z_sum (by decide +kernel) (pa_cons (pe_lc (own := [("_law_m", 3)]) (g := (gName 3)) rfl sc__law_result.nd (pi_range1 (by rfl) z_range (pa_cons (pe_callB (k_len T.K rfl) (by rfl) z_len PySem.boot_len (pa_cons (pv 0) pa_nil)) pa_nil)) (blkOk_by (N := N__law_result) (sc := defScope s__law_result) (by decide +kernel)) (fun _ _ _ _ _ => (pg_name (i := 3) sc__law_result.nd rfl (Or.inl rfl))) (fun _ _ _ _ _ => pts_nil) (fun _ _ _ _ _ => (pe_callTy call_int1 (by rfl) z_int PyProof.Rows.boot_int (pa_cons (pe_cmpR op_ge (pe_ix (k_ixl T.K rfl) (pv 0) (pv 3) (fun _ _ => rfl)) (pe_ix (k_ixl T.K rfl) (pv 1) (pe_ix (k_ixl T.K rfl) (pv 2) (pv 3) (fun _ _ => rfl)) (fun _ _ => rfl)) rfl) pa_nil)))) pa_nil))) pss_nil), ?_⟩
  rintro ⟨v_mine, v_theirs, v_pairing, _⟩
  show BD _ _ _ (m__law_result v_mine v_theirs v_pairing) _
  unfold m__law_result
  exact bd_ret1 rfl (Evm.cast (evm_cbT (eva_cons (evm_raw (evn_ev (evn_lc (l := .fr) (l1 := .fr) (l3 := .fr) rfl trivial trivial (.inl rfl) (evi_rng1 (evm_cbT (eva_cons (evm_raw (evm_var rfl)) eva_nil) fun _ => ra_len)) (hv1 rfl rfl) (tg_name trivial) (fun x1 => evt_yes) (fun x1 => (evm_cbT (eva_cons (evm_flat (l2 := .raw) (evm_opT (evm_flat (l2 := .fr) (evm_ix (evm_var rfl) (evm_var rfl))) (evm_flat (l2 := .fr) (evm_ix (evm_var rfl) (evm_flat (l2 := .fr) (evm_ix (evm_var rfl) (evm_var rfl))))) fun _ _ => rv_IB)) eva_nil) fun _ => ra_intB))))) eva_nil) fun _ => ra_sum) (by first | with_reducible rfl | (simp -implicitDefEqProofs only [R.bind_assoc, R.bind_ok, R.bind_right, R.of_some, compR_map, compR_filter, compR_id, compR_idF, R.ifm_ok, Bool.and_true, Bool.or_false, R.ite_and, R.ite_or]; done) | (simp -implicitDefEqProofs only [R.bind_assoc, R.bind_ok, R.bind_right, R.of_some, compR_map, compR_filter, compR_id, compR_idF, R.ifm_ok, Bool.and_true, Bool.or_false, R.ite_ok, R.ite_and, R.ite_or]; done) | rfl)) (fun _ => rfl)
theorem ok__law_order {f : Addr} {fd : FuncData} (F : Fun K "_law_order" "_law_order" s__law_order f fd) (hT : T.K = K) (z_len : mg "len" = none) (z_range : mg "range" = none) (z_sorted : mg "sorted" = none) :
    FnOk P w K mg base CX0 1 f fd ["_law_mine", "_law_theirs"] (Pm T (.nw .fr) (fun b : (List Int) × (List Int) × Unit => m__law_order b.1 b.2.1)) := by
  subst hT
  refine fn_pm F sc__law_order (fun _ => rfl) fun cdv A outer s H E hr => ⟨_, (pss_cons (ps_setLc (i := 2) (own := [("_law_k", 3)]) (g := (gName 3)) rfl sc__law_order.nd rfl rfl (sw_true rfl rfl rfl (by decide +kernel)) (pi_range1 (by rfl) z_range (pa_cons (pe_callB (k_len T.K rfl) (by rfl) z_len PySem.boot_len (pa_cons (pv 1) pa_nil)) pa_nil)) (blkOk_by (N := N__law_order) (sc := defScope s__law_order) (by decide +kernel)) (fun _ _ _ _ _ => (pg_name (i := 3) sc__law_order.nd rfl (Or.inl rfl))) (fun _ _ _ _ _ => pts_nil) (fun _ _ _ _ _ => (pe_tup (pa_cons (pe_ix (k_ixl T.K rfl) (pv 1) (pv 3) (fun _ _ => rfl)) (pa_cons pe_int (pa_cons (pv 3) pa_nil)))))) (pss_cons (ps_ret (pe_callB (k_sortedR rfl) (by rfl) z_sorted (by decide +kernel) (pa_cons (pe_op op_cat (pv 2) (pe_lc (own := [("_law_k", 3)]) (g := (gName 3)) rfl sc__law_order.nd (pi_range1 (by rfl) z_range (pa_cons (pe_callB (k_len T.K rfl) (by rfl) z_len PySem.boot_len (pa_cons (pv 0) pa_nil)) pa_nil)) (blkOk_by (N := N__law_order) (sc := defScope s__law_order) (by decide +kernel)) (fun _ _ _ _ _ => (pg_name (i := 3) sc__law_order.nd rfl (Or.inl rfl))) (fun _ _ _ _ _ => pts_nil) (fun _ _ _ _ _ => (pe_tup (pa_cons (pe_ix (k_ixl T.K rfl) (pv 0) (pv 3) (fun _ _ => rfl)) (pa_cons pe_int (pa_cons (pv 3) pa_nil))))))) pa_nil))) pss_nil)), ?_⟩
  rintro ⟨v_mine, v_theirs, _⟩
  show BD _ _ _ (m__law_order v_mine v_theirs) _
  unfold m__law_order
  refine bd_setN (EvN.cast (evn_lc (l := .fr) (l1 := .fr) (l3 := .fr) rfl trivial trivial (.inl rfl) (evi_rng1 (evm_cbT (eva_cons (evm_raw (evm_var rfl)) eva_nil) fun _ => ra_len)) (hv1 rfl rfl) (tg_name trivial) (fun x1 => evt_yes) (fun x1 => (evm_tup (eva_cons (evm_flat (l2 := .fr) (evm_ix (evm_var rfl) (evm_var rfl))) (eva_cons evm_int (eva_cons (evm_var rfl) eva_nil))) (fun _ => by show (3 : Nat) ≤ 1000; decide)))) (by first | with_reducible rfl | (simp -implicitDefEqProofs only [R.bind_assoc, R.bind_ok, R.bind_right, R.of_some, compR_map, compR_filter, compR_id, compR_idF, R.ifm_ok, Bool.and_true, Bool.or_false, R.ite_and, R.ite_or]; done) | (simp -implicitDefEqProofs only [R.bind_assoc, R.bind_ok, R.bind_right, R.of_some, compR_map, compR_filter, compR_id, compR_idF, R.ifm_ok, Bool.and_true, Bool.or_false, R.ite_ok, R.ite_and, R.ite_or]; done) | rfl)) trivial (lt_of rfl) ?_
  intro v_cards_4
  refine bd_wk (Wk.keep (Wk.keep (Wk.share (Wk.keep Wk.nil)))) ?_
  exact bd_retN1 rfl (EvN.cast (evn_sortT (evn_ev (evn_cat (evm_var rfl) (evn_ev (evn_lc (l := .fr) (l1 := .fr) (l3 := .fr) rfl trivial trivial (.inl rfl) (evi_rng1 (evm_cbT (eva_cons (evm_raw (evm_var rfl)) eva_nil) fun _ => ra_len)) (hv1 rfl rfl) (tg_name trivial) (fun x9 => evt_yes) (fun x9 => (evm_tup (eva_cons (evm_flat (l2 := .fr) (evm_ix (evm_var rfl) (evm_var rfl))) (eva_cons evm_int (eva_cons (evm_var rfl) eva_nil))) (fun _ => by show (3 : Nat) ≤ 1000; decide)))))))) (by first | with_reducible rfl | (simp -implicitDefEqProofs only [R.bind_assoc, R.bind_ok, R.bind_right, R.of_some, compR_map, compR_filter, compR_id, compR_idF, R.ifm_ok, Bool.and_true, Bool.or_false, R.ite_and, R.ite_or]; done) | (simp -implicitDefEqProofs only [R.bind_assoc, R.bind_ok, R.bind_right, R.of_some, compR_map, compR_filter, compR_id, compR_idF, R.ifm_ok, Bool.and_true, Bool.or_false, R.ite_ok, R.ite_and, R.ite_or]; done) | rfl)) (fun _ => rfl)
theorem ok__law_due {f : Addr} {fd : FuncData} (F : Fun K "_law_due" "_law_due" s__law_due f fd) (hT : T.K = K) (k__law_order : Kd P w K mg base CX0 "_law_order" ["_law_mine", "_law_theirs"] 1 (Pm T (.nw .fr) (fun b : (List Int) × (List Int) × Unit => m__law_order b.1 b.2.1))) (z_len : mg "len" = none) (z_list : mg "list" = none) (z_range : mg "range" = none) :
    FnOk P w K mg base CX0 2 f fd ["_law_mine", "_law_theirs", "_law_times"] (Pm T (.nw .fr) (fun b : (List Int) × (List Int) × Int × Unit => m__law_due b.1 b.2.1 b.2.2.1)) := by
  subst hT
  refine fn_pm F sc__law_due (fun _ => rfl) fun cdv A outer s H E hr => ⟨_, (pss_cons (ps_set (i := 3) sc__law_due.nd rfl (Or.inl rfl) (pe_kd k__law_order (hr.mono (by decide)) (by rfl) (pa_cons (pv 0) (pa_cons (pv 1) pa_nil)))) (pss_cons (ps_set (i := 4) sc__law_due.nd rfl (Or.inl rfl) (pe_callB (k_len T.K rfl) (by rfl) z_len PySem.boot_len (pa_cons (pv 3) pa_nil))) (pss_cons (ps_set (i := 5) sc__law_due.nd rfl (Or.inl rfl) (pe_callTy (k_list T.K rfl) (by rfl) z_list PyProof.Rows.boot_list (pa_cons (pv 0) pa_nil))) (pss_cons (ps_set (i := 6) sc__law_due.nd rfl (Or.inl rfl) (pe_callTy (k_list T.K rfl) (by rfl) z_list PyProof.Rows.boot_list (pa_cons (pv 1) pa_nil))) (pss_cons (ps_set (i := 7) sc__law_due.nd rfl (Or.inl rfl) pe_int) (pss_cons (ps_for PassesOwn.never rfl (pi_range1 (by rfl) z_range (pa_cons (pv 4) pa_nil)) (pg_name (i := 8) sc__law_due.nd rfl (Or.inl rfl)) (pss_cons (ps_set (i := 9) sc__law_due.nd rfl (Or.inl rfl) (pe_op op_sub (pe_op op_sub (pv 4) pe_int) (pv 8))) (pss_cons (ps_if (pt_cmpR op_gt (pv 2) (pv 9) rfl) (pss_cons (ps_set (i := 10) sc__law_due.nd rfl (Or.inl rfl) (pe_op op_fdivW (pe_op op_sub (pe_op op_sub (pv 2) pe_int) (pv 9)) (pv 4))) (pss_cons (ps_set (i := 11) sc__law_due.nd rfl (Or.inl rfl) (pe_op op_sub (pe_op op_sub (pe_op op_sub (pe_ix (k_ixt T.K rfl) (pe_ix (k_ixl T.K rfl) (pv 3) pe_int (fun _ _ => rfl)) pe_int (fun _ _ => rfl)) pe_int) (pv 9)) (pe_op op_mul (pv 4) (pv 10)))) (pss_cons (ps_if (pt_cmpR op_eq (pe_ix (k_ixt T.K rfl) (pe_ix (k_ixl T.K rfl) (pv 3) (pv 8) (fun _ _ => rfl)) pe_int (fun _ _ => rfl)) pe_int rfl) (pss_cons (ps_asg (pv 11) (pg_sub (pv 5) (pe_ix (k_ixt T.K rfl) (pe_ix (k_ixl T.K rfl) (pv 3) (pv 8) (fun _ _ => rfl)) pe_int (fun _ _ => rfl)) set_list)) (pss_cons (ps_set (i := 7) sc__law_due.nd rfl (Or.inl rfl) (pe_op op_sub (pe_op op_sub (pv 7) pe_int) (pv 10))) pss_nil)) (pss_cons (ps_asg (pv 11) (pg_sub (pv 6) (pe_ix (k_ixt T.K rfl) (pe_ix (k_ixl T.K rfl) (pv 3) (pv 8) (fun _ _ => rfl)) pe_int (fun _ _ => rfl)) set_list)) (pss_cons (ps_set (i := 7) sc__law_due.nd rfl (Or.inl rfl) (pe_op op_add (pe_op op_add (pv 7) pe_int) (pv 10))) pss_nil))) pss_nil))) pss_nil) pss_nil))) (pss_cons (ps_ret (pe_lst (pa_cons (pv 5) (pa_cons (pv 6) (pa_cons (pv 7) pa_nil))))) pss_nil))))))), ?_⟩
  rintro ⟨v_mine, v_theirs, v_times, _⟩
  show BD _ _ _ (m__law_due v_mine v_theirs v_times) _
  unfold m__law_due
  refine bd_setN (EvN.cast (evn_callF rfl (eva_cons (evm_raw (evm_var rfl)) (eva_cons (evm_raw (evm_var rfl)) eva_nil))) (by first | with_reducible rfl | (simp -implicitDefEqProofs only [R.bind_assoc, R.bind_ok, R.bind_right, R.of_some, compR_map, compR_filter, compR_id, compR_idF, R.ifm_ok, Bool.and_true, Bool.or_false, R.ite_and, R.ite_or]; done) | (simp -implicitDefEqProofs only [R.bind_assoc, R.bind_ok, R.bind_right, R.of_some, compR_map, compR_filter, compR_id, compR_idF, R.ifm_ok, Bool.and_true, Bool.or_false, R.ite_ok, R.ite_and, R.ite_or]; done) | rfl)) trivial (lt_of rfl) ?_
  intro v_order_1
  refine bd_setP (Evm.cast (evm_cbT (eva_cons (evm_own rfl) eva_nil) fun _ => ra_len) (by first | with_reducible rfl | (simp -implicitDefEqProofs only [R.bind_assoc, R.bind_ok, R.bind_right, R.of_some, compR_map, compR_filter, compR_id, compR_idF, R.ifm_ok, Bool.and_true, Bool.or_false, R.ite_and, R.ite_or]; done) | (simp -implicitDefEqProofs only [R.bind_assoc, R.bind_ok, R.bind_right, R.of_some, compR_map, compR_filter, compR_id, compR_idF, R.ifm_ok, Bool.and_true, Bool.or_false, R.ite_ok, R.ite_and, R.ite_or]; done) | rfl)) trivial (lt_of rfl) ?_
  intro v_size_2
  refine bd_setNP (EvN.cast (evn_flat (l2 := .fr) (evn_listof (evm_var rfl))) (by first | with_reducible rfl | (simp -implicitDefEqProofs only [R.bind_assoc, R.bind_ok, R.bind_right, R.of_some, compR_map, compR_filter, compR_id, compR_idF, R.ifm_ok, Bool.and_true, Bool.or_false, R.ite_and, R.ite_or]; done) | (simp -implicitDefEqProofs only [R.bind_assoc, R.bind_ok, R.bind_right, R.of_some, compR_map, compR_filter, compR_id, compR_idF, R.ifm_ok, Bool.and_true, Bool.or_false, R.ite_ok, R.ite_and, R.ite_or]; done) | rfl)) trivial (lt_of rfl) ?_
  intro v_new_mine_3
  refine bd_setNP (EvN.cast (evn_flat (l2 := .fr) (evn_listof (evm_var rfl))) (by first | with_reducible rfl | (simp -implicitDefEqProofs only [R.bind_assoc, R.bind_ok, R.bind_right, R.of_some, compR_map, compR_filter, compR_id, compR_idF, R.ifm_ok, Bool.and_true, Bool.or_false, R.ite_and, R.ite_or]; done) | (simp -implicitDefEqProofs only [R.bind_assoc, R.bind_ok, R.bind_right, R.of_some, compR_map, compR_filter, compR_id, compR_idF, R.ifm_ok, Bool.and_true, Bool.or_false, R.ite_ok, R.ite_and, R.ite_or]; done) | rfl)) trivial (lt_of rfl) ?_
  intro v_new_theirs_4
  refine bd_setP (Evm.cast evm_int (by first | with_reducible rfl | (simp -implicitDefEqProofs only [R.bind_assoc, R.bind_ok, R.bind_right, R.of_some, compR_map, compR_filter, compR_id, compR_idF, R.ifm_ok, Bool.and_true, Bool.or_false, R.ite_and, R.ite_or]; done) | (simp -implicitDefEqProofs only [R.bind_assoc, R.bind_ok, R.bind_right, R.of_some, compR_map, compR_filter, compR_id, compR_idF, R.ifm_ok, Bool.and_true, Bool.or_false, R.ite_ok, R.ite_and, R.ite_or]; done) | rfl)) trivial (lt_of rfl) ?_
  intro v_change_5
  refine bd_fold (l1 := .fr) (es := (fun s7 : (List Int) × Int × (List Int) => [.sh .pa (enc (v_mine : (List Int))), .sh .pa (enc (v_theirs : (List Int))), .sh .pa (enc (v_times : Int)), .ow .fr ((v_order_1 : (List (Tp (Int × Int × Int × Unit)))).map enc), .sh .fr (enc (v_size_2 : Int)), .ow .fr ((s7.1 : (List Int)).map enc), .ow .fr ((s7.2.2 : (List Int)).map enc), .sh .fr (enc (s7.2.1 : Int)), .un, .un, .un, .un])) (EvI.cast (evi_rng1 (evm_var rfl)) (by first | with_reducible rfl | (simp -implicitDefEqProofs only [R.bind_assoc, R.bind_ok, R.bind_right, R.of_some, compR_map, compR_filter, compR_id, compR_idF, R.ifm_ok, Bool.and_true, Bool.or_false, R.ite_and, R.ite_or]; done) | (simp -implicitDefEqProofs only [R.bind_assoc, R.bind_ok, R.bind_right, R.of_some, compR_map, compR_filter, compR_id, compR_idF, R.ifm_ok, Bool.and_true, Bool.or_false, R.ite_ok, R.ite_and, R.ite_or]; done) | rfl)) trivial (Wk.keep (Wk.keep (Wk.keep (Wk.keep (Wk.keep (Wk.keep (Wk.keep (Wk.keep (Wk.keep (Wk.keep (Wk.keep (Wk.keep Wk.nil)))))))))))) (tg_name trivial) (hu1 fun _ => rfl) ?_ ?_
  · intro x6 s7
    unfold m__law_due_b1
    refine bd_setP (Evm.cast (evm_opT (evm_opT (evm_var rfl) evm_int fun _ _ => rv_II) (evm_var rfl) fun _ _ => rv_II) (by first | with_reducible rfl | (simp -implicitDefEqProofs only [R.bind_assoc, R.bind_ok, R.bind_right, R.of_some, compR_map, compR_filter, compR_id, compR_idF, R.ifm_ok, Bool.and_true, Bool.or_false, R.ite_and, R.ite_or]; done) | (simp -implicitDefEqProofs only [R.bind_assoc, R.bind_ok, R.bind_right, R.of_some, compR_map, compR_filter, compR_id, compR_idF, R.ifm_ok, Bool.and_true, Bool.or_false, R.ite_ok, R.ite_and, R.ite_or]; done) | rfl)) trivial (lt_of rfl) ?_
    intro v_first_8
    refine bd_join (es := (fun s39 : (List Int) × Int × (List Int) => [.sh .pa (enc (v_mine : (List Int))), .sh .pa (enc (v_theirs : (List Int))), .sh .pa (enc (v_times : Int)), .ow .fr ((v_order_1 : (List (Tp (Int × Int × Int × Unit)))).map enc), .sh .fr (enc (v_size_2 : Int)), .ow .fr ((s39.1 : (List Int)).map enc), .ow .fr ((s39.2.2 : (List Int)).map enc), .sh .fr (enc (s39.2.1 : Int)), .sh .fr (enc (x6 : Int)), .sh .fr (enc (v_first_8 : Int)), .un, .un])) (bd_tail ?_) ?_
    · refine bd_if (EvT.cast (evt_test (evm_opT (evm_var rfl) (evm_var rfl) fun _ _ => rv_IB)) (by first | with_reducible rfl | (simp -implicitDefEqProofs only [R.bind_assoc, R.bind_ok, R.bind_right, R.of_some, compR_map, compR_filter, compR_id, compR_idF, R.ifm_ok, Bool.and_true, Bool.or_false, R.ite_and, R.ite_or]; done) | (simp -implicitDefEqProofs only [R.bind_assoc, R.bind_ok, R.bind_right, R.of_some, compR_map, compR_filter, compR_id, compR_idF, R.ifm_ok, Bool.and_true, Bool.or_false, R.ite_ok, R.ite_and, R.ite_or]; done) | rfl)) ?_ ?_
      · refine bd_assoc ?_
        refine bd_set (Evm.cast (evm_op (evm_opT (evm_opT (evm_var rfl) evm_int fun _ _ => rv_II) (evm_var rfl) fun _ _ => rv_II) (evm_var rfl) fun _ _ _ _ => rv_div) (by first | with_reducible rfl | (simp -implicitDefEqProofs only [R.bind_assoc, R.bind_ok, R.bind_right, R.of_some, compR_map, compR_filter, compR_id, compR_idF, R.ifm_ok, Bool.and_true, Bool.or_false, R.ite_and, R.ite_or]; done) | (simp -implicitDefEqProofs only [R.bind_assoc, R.bind_ok, R.bind_right, R.of_some, compR_map, compR_filter, compR_id, compR_idF, R.ifm_ok, Bool.and_true, Bool.or_false, R.ite_ok, R.ite_and, R.ite_or]; done) | rfl)) trivial (lt_of rfl) ?_
        intro v_again_40
        refine bd_assoc ?_
        refine bd_set (Evm.cast (evm_opT (evm_opT (evm_opT (evm_ixt (j := 0) (g := fun d : Int × Int × Int × Unit => d.1) (evm_ixo rfl evm_int) (fun _ => rfl)) evm_int fun _ _ => rv_II) (evm_var rfl) fun _ _ => rv_II) (evm_op (evm_var rfl) (evm_var rfl) fun _ _ _ _ => rv_mul) fun _ _ => rv_II) (by first | with_reducible rfl | (simp -implicitDefEqProofs only [R.bind_assoc, R.bind_ok, R.bind_right, R.of_some, compR_map, compR_filter, compR_id, compR_idF, R.ifm_ok, Bool.and_true, Bool.or_false, R.ite_and, R.ite_or]; done) | (simp -implicitDefEqProofs only [R.bind_assoc, R.bind_ok, R.bind_right, R.of_some, compR_map, compR_filter, compR_id, compR_idF, R.ifm_ok, Bool.and_true, Bool.or_false, R.ite_ok, R.ite_and, R.ite_or]; done) | rfl)) trivial (lt_of rfl) ?_
        intro v_number_46
        refine bd_assoc ?_
        refine bd_join (es := (fun s59 : (List Int) × Int × (List Int) => [.sh .pa (enc (v_mine : (List Int))), .sh .pa (enc (v_theirs : (List Int))), .sh .pa (enc (v_times : Int)), .ow .fr ((v_order_1 : (List (Tp (Int × Int × Int × Unit)))).map enc), .sh .fr (enc (v_size_2 : Int)), .ow .fr ((s59.1 : (List Int)).map enc), .ow .fr ((s59.2.2 : (List Int)).map enc), .sh .fr (enc (s59.2.1 : Int)), .sh .fr (enc (x6 : Int)), .sh .fr (enc (v_first_8 : Int)), .sh .fr (enc (v_again_40 : Int)), .sh .fr (enc (v_number_46 : Int))])) (bd_tail ?_) ?_
        · refine bd_if (EvT.cast (evt_test (evm_opT (evm_ixt (j := 1) (g := fun d : Int × Int × Int × Unit => d.2.1) (evm_ixo rfl (evm_var rfl)) (fun _ => rfl)) evm_int fun _ _ => rv_eqI)) (by first | with_reducible rfl | (simp -implicitDefEqProofs only [R.bind_assoc, R.bind_ok, R.bind_right, R.of_some, compR_map, compR_filter, compR_id, compR_idF, R.ifm_ok, Bool.and_true, Bool.or_false, R.ite_and, R.ite_or]; done) | (simp -implicitDefEqProofs only [R.bind_assoc, R.bind_ok, R.bind_right, R.of_some, compR_map, compR_filter, compR_id, compR_idF, R.ifm_ok, Bool.and_true, Bool.or_false, R.ite_ok, R.ite_and, R.ite_or]; done) | rfl)) ?_ ?_
          · refine bd_assoc ?_
            refine bd_seti (by rfl) (Evm.cast (evm_var rfl) (by first | with_reducible rfl | (simp -implicitDefEqProofs only [R.bind_assoc, R.bind_ok, R.bind_right, R.of_some, compR_map, compR_filter, compR_id, compR_idF, R.ifm_ok, Bool.and_true, Bool.or_false, R.ite_and, R.ite_or]; done) | (simp -implicitDefEqProofs only [R.bind_assoc, R.bind_ok, R.bind_right, R.of_some, compR_map, compR_filter, compR_id, compR_idF, R.ifm_ok, Bool.and_true, Bool.or_false, R.ite_ok, R.ite_and, R.ite_or]; done) | rfl)) (Evm.cast (evm_ixt (j := 2) (g := fun d : Int × Int × Int × Unit => d.2.2.1) (evm_ixo rfl (evm_var rfl)) (fun _ => rfl)) (by first | with_reducible rfl | (simp -implicitDefEqProofs only [R.bind_assoc, R.bind_ok, R.bind_right, R.of_some, compR_map, compR_filter, compR_id, compR_idF, R.ifm_ok, Bool.and_true, Bool.or_false, R.ite_and, R.ite_or]; done) | (simp -implicitDefEqProofs only [R.bind_assoc, R.bind_ok, R.bind_right, R.of_some, compR_map, compR_filter, compR_id, compR_idF, R.ifm_ok, Bool.and_true, Bool.or_false, R.ite_ok, R.ite_and, R.ite_or]; done) | rfl)) ?_
            intro v_new_mine_61
            refine bd_assoc ?_
            refine bd_setP (Evm.cast (evm_opT (evm_opT (evm_var rfl) evm_int fun _ _ => rv_II) (evm_var rfl) fun _ _ => rv_II) (by first | with_reducible rfl | (simp -implicitDefEqProofs only [R.bind_assoc, R.bind_ok, R.bind_right, R.of_some, compR_map, compR_filter, compR_id, compR_idF, R.ifm_ok, Bool.and_true, Bool.or_false, R.ite_and, R.ite_or]; done) | (simp -implicitDefEqProofs only [R.bind_assoc, R.bind_ok, R.bind_right, R.of_some, compR_map, compR_filter, compR_id, compR_idF, R.ifm_ok, Bool.and_true, Bool.or_false, R.ite_ok, R.ite_and, R.ite_or]; done) | rfl)) trivial (lt_of rfl) ?_
            intro v_change_62
            refine bd_nil ?_
            exact bd_end (Wk.keep (Wk.keep (Wk.keep (Wk.keep (Wk.keep (Wk.keep (Wk.keep (Wk.keep (Wk.keep (Wk.keep (Wk.keep (Wk.keep Wk.nil)))))))))))) rfl
          · refine bd_assoc ?_
            refine bd_seti (by rfl) (Evm.cast (evm_var rfl) (by first | with_reducible rfl | (simp -implicitDefEqProofs only [R.bind_assoc, R.bind_ok, R.bind_right, R.of_some, compR_map, compR_filter, compR_id, compR_idF, R.ifm_ok, Bool.and_true, Bool.or_false, R.ite_and, R.ite_or]; done) | (simp -implicitDefEqProofs only [R.bind_assoc, R.bind_ok, R.bind_right, R.of_some, compR_map, compR_filter, compR_id, compR_idF, R.ifm_ok, Bool.and_true, Bool.or_false, R.ite_ok, R.ite_and, R.ite_or]; done) | rfl)) (Evm.cast (evm_ixt (j := 2) (g := fun d : Int × Int × Int × Unit => d.2.2.1) (evm_ixo rfl (evm_var rfl)) (fun _ => rfl)) (by first | with_reducible rfl | (simp -implicitDefEqProofs only [R.bind_assoc, R.bind_ok, R.bind_right, R.of_some, compR_map, compR_filter, compR_id, compR_idF, R.ifm_ok, Bool.and_true, Bool.or_false, R.ite_and, R.ite_or]; done) | (simp -implicitDefEqProofs only [R.bind_assoc, R.bind_ok, R.bind_right, R.of_some, compR_map, compR_filter, compR_id, compR_idF, R.ifm_ok, Bool.and_true, Bool.or_false, R.ite_ok, R.ite_and, R.ite_or]; done) | rfl)) ?_
            intro v_new_theirs_66
            refine bd_assoc ?_
            refine bd_setP (Evm.cast (evm_opT (evm_opT (evm_var rfl) evm_int fun _ _ => rv_II) (evm_var rfl) fun _ _ => rv_II) (by first | with_reducible rfl | (simp -implicitDefEqProofs only [R.bind_assoc, R.bind_ok, R.bind_right, R.of_some, compR_map, compR_filter, compR_id, compR_idF, R.ifm_ok, Bool.and_true, Bool.or_false, R.ite_and, R.ite_or]; done) | (simp -implicitDefEqProofs only [R.bind_assoc, R.bind_ok, R.bind_right, R.of_some, compR_map, compR_filter, compR_id, compR_idF, R.ifm_ok, Bool.and_true, Bool.or_false, R.ite_ok, R.ite_and, R.ite_or]; done) | rfl)) trivial (lt_of rfl) ?_
            intro v_change_67
            refine bd_nil ?_
            exact bd_end (Wk.keep (Wk.keep (Wk.keep (Wk.keep (Wk.keep (Wk.keep (Wk.keep (Wk.keep (Wk.keep (Wk.keep (Wk.keep (Wk.keep Wk.nil)))))))))))) rfl
        intro s59
        refine bd_nil ?_
        exact bd_end (Wk.keep (Wk.keep (Wk.keep (Wk.keep (Wk.keep (Wk.keep (Wk.keep (Wk.keep (Wk.keep (Wk.keep (Wk.lose (Wk.lose Wk.nil)))))))))))) rfl
      · refine bd_nil ?_
        exact bd_end (Wk.keep (Wk.keep (Wk.keep (Wk.keep (Wk.keep (Wk.keep (Wk.keep (Wk.keep (Wk.keep (Wk.keep (Wk.keep (Wk.keep Wk.nil)))))))))))) rfl
    intro s39
    exact bd_end (Wk.keep (Wk.keep (Wk.keep (Wk.keep (Wk.keep (Wk.keep (Wk.keep (Wk.keep (Wk.lose (Wk.lose (Wk.keep (Wk.keep Wk.nil)))))))))))) rfl
  intro s7
  refine bd_wk (Wk.keep (Wk.keep (Wk.keep (Wk.keep (Wk.keep (Wk.share (Wk.keep (Wk.keep (Wk.keep (Wk.keep (Wk.keep (Wk.keep Wk.nil)))))))))))) ?_
  refine bd_wk (Wk.keep (Wk.keep (Wk.keep (Wk.keep (Wk.keep (Wk.keep (Wk.share (Wk.keep (Wk.keep (Wk.keep (Wk.keep (Wk.keep Wk.nil)))))))))))) ?_
  exact bd_retN1 rfl (EvN.cast (evn_lst (l := .fr) (f := fun b : PV × PV × PV × Unit => ([b.1, b.2.1, b.2.2.1] : (List PV))) (eva_cons (evm_co (f := (fun c76 : (List Int) => (enc c76 : PV))) (evm_var rfl) (fun _ => rfl)) (eva_cons (evm_co (f := (fun c77 : (List Int) => (enc c77 : PV))) (evm_var rfl) (fun _ => rfl)) (eva_cons (evm_co (f := (fun c78 : Int => (enc c78 : PV))) (evm_var rfl) (fun _ => rfl)) eva_nil))) (fun _ => rfl) (fun _ => by show (3 : Nat) ≤ 1000; decide)) (by first | with_reducible rfl | (simp -implicitDefEqProofs only [R.bind_assoc, R.bind_ok, R.bind_right, R.of_some, compR_map, compR_filter, compR_id, compR_idF, R.ifm_ok, Bool.and_true, Bool.or_false, R.ite_and, R.ite_or]; done) | (simp -implicitDefEqProofs only [R.bind_assoc, R.bind_ok, R.bind_right, R.of_some, compR_map, compR_filter, compR_id, compR_idF, R.ifm_ok, Bool.and_true, Bool.or_false, R.ite_ok, R.ite_and, R.ite_or]; done) | rfl)) (fun _ => rfl)
theorem ok__law_asked {f : Addr} {fd : FuncData} (F : Fun K "_law_asked" "_law_asked" s__law_asked f fd) (hT : T.K = K) (k_turn__d2 : KdV P w K mg base (L2N.CX P w) "turn" ["mine", "theirs", "steps"] [V.int 1] 6 (PmX T .dp (fun b : (List Int) × (List Int) × Int × Unit => m_turn b.1 b.2.1 b.2.2.1))) (k_turn__k2 : KdN P w K mg base (L2N.CX P w) "turn" ["mine", "theirs", "steps"] 2 ["steps"] 6 (PmX T .dp (fun b : (List Int) × (List Int) × Int × Unit => m_turn b.1 b.2.1 b.2.2.1))) :
    FnOk P w K mg base (L2N.CX P w) 7 f fd ["_law_one", "_law_two", "_law_times"] (PmX T .dp (fun b : (List Int) × (List Int) × Int × Unit => m__law_asked b.1 b.2.1 b.2.2.1)) := by
  subst hT
  refine fn_pmX F sc__law_asked (fun _ => rfl) fun cdv A outer s H E hr => ⟨_, (pss_cons (ps_if (pt_cmpR op_lt (pv 2) pe_int rfl) (pss_cons (ps_ret (pe_kvX k_turn__d2 (L2N.takes_of rfl rfl rfl rfl) (hr.mono (by decide)) (by rfl) (pa_cons (pv 0) (pa_cons (pv 1) pa_nil)))) pss_nil) pss_nil) (pss_cons (ps_ret (pe_knX k_turn__k2 (L2N.takes_of rfl rfl rfl rfl) (hr.mono (by decide)) (by rfl) (pa_cons (pv 0) (pa_cons (pv 1) pa_nil)) (pk_cons (pv 2) pk_nil))) pss_nil)), ?_⟩
  rintro ⟨v_one, v_two, v_times, _⟩
  show BD _ _ _ (m__law_asked v_one v_two v_times) _
  unfold m__law_asked
  refine bd_if (EvT.cast (evt_test (evm_opT (evm_var rfl) evm_int fun _ _ => rv_IB)) (by first | with_reducible rfl | (simp -implicitDefEqProofs only [R.bind_assoc, R.bind_ok, R.bind_right, R.of_some, compR_map, compR_filter, compR_id, compR_idF, R.ifm_ok, Bool.and_true, Bool.or_false, R.ite_and, R.ite_or]; done) | (simp -implicitDefEqProofs only [R.bind_assoc, R.bind_ok, R.bind_right, R.of_some, compR_map, compR_filter, compR_id, compR_idF, R.ifm_ok, Bool.and_true, Bool.or_false, R.ite_ok, R.ite_and, R.ite_or]; done) | rfl)) ?_ ?_
  · refine bd_assoc ?_
    exact bd_retD (k := fun a1 => a1) rfl (EvG.cast (EvG.cast (evg_new (evd_sdX (hW := rfl) (c := fun b : (List Int) × (List Int) × Unit => (b.1, b.2.1, (1 : Int), ())) (dps := [enc (1 : Int)]) (dvs := [V.int 1]) (fun _ => rfl) (fun _ _ => reps_cons rfl (reps_nil)) (eva_cons (evm_raw (evm_var rfl)) (eva_cons (evm_raw (evm_var rfl)) eva_nil)))) (by first | with_reducible rfl | (simp -implicitDefEqProofs only [R.bind_assoc, R.bind_ok, R.bind_right, R.of_some, compR_map, compR_filter, compR_id, compR_idF, R.ifm_ok, Bool.and_true, Bool.or_false, R.ite_and, R.ite_or]; done) | (simp -implicitDefEqProofs only [R.bind_assoc, R.bind_ok, R.bind_right, R.of_some, compR_map, compR_filter, compR_id, compR_idF, R.ifm_ok, Bool.and_true, Bool.or_false, R.ite_ok, R.ite_and, R.ite_or]; done) | rfl)) (by first | with_reducible rfl | (simp -implicitDefEqProofs only [R.bind_assoc, R.bind_ok, R.bind_right, R.of_some, compR_map, compR_filter, compR_id, compR_idF, R.ifm_ok, Bool.and_true, Bool.or_false, R.ite_and, R.ite_or]; done) | (simp -implicitDefEqProofs only [R.bind_assoc, R.bind_ok, R.bind_right, R.of_some, compR_map, compR_filter, compR_id, compR_idF, R.ifm_ok, Bool.and_true, Bool.or_false, R.ite_ok, R.ite_and, R.ite_or]; done) | rfl)) (fun _ => rfl)
  · refine bd_nil ?_
    exact bd_retD (k := fun a2 => a2) rfl (EvG.cast (EvG.cast (evg_new (evd_knX (c := fun (b : (List Int) × (List Int) × Unit) (z : Int × Unit) => (b.1, b.2.1, z.1, ())) rfl (fun _ => rfl) (fun _ => rfl) (fun _ _ => rfl) (eva_cons (evm_raw (evm_var rfl)) (eva_cons (evm_raw (evm_var rfl)) eva_nil)) (eva_cons (evm_flat (l2 := .raw) (evm_var rfl)) eva_nil))) (by first | with_reducible rfl | (simp -implicitDefEqProofs only [R.bind_assoc, R.bind_ok, R.bind_right, R.of_some, compR_map, compR_filter, compR_id, compR_idF, R.ifm_ok, Bool.and_true, Bool.or_false, R.ite_and, R.ite_or]; done) | (simp -implicitDefEqProofs only [R.bind_assoc, R.bind_ok, R.bind_right, R.of_some, compR_map, compR_filter, compR_id, compR_idF, R.ifm_ok, Bool.and_true, Bool.or_false, R.ite_ok, R.ite_and, R.ite_or]; done) | rfl)) (by first | with_reducible rfl | (simp -implicitDefEqProofs only [R.bind_assoc, R.bind_ok, R.bind_right, R.of_some, compR_map, compR_filter, compR_id, compR_idF, R.ifm_ok, Bool.and_true, Bool.or_false, R.ite_and, R.ite_or]; done) | (simp -implicitDefEqProofs only [R.bind_assoc, R.bind_ok, R.bind_right, R.of_some, compR_map, compR_filter, compR_id, compR_idF, R.ifm_ok, Bool.and_true, Bool.or_false, R.ite_ok, R.ite_and, R.ite_or]; done) | rfl)) (fun _ => rfl)
theorem ok__law_names {f : Addr} {fd : FuncData} (F : Fun K "_law_names" "_law_names" s__law_names f fd) (hT : T.K = K) :
    FnOk P w K mg base CX0 1 f fd ["_law_cards"] (Pm T (.nw .fr) (fun b : (List (Tp (Int × Int × Int × Unit))) × Unit => m__law_names b.1)) := by
  subst hT
  refine fn_pm F sc__law_names (fun _ => rfl) fun cdv A outer s H E hr => ⟨_, (pss_cons (ps_ret (pe_lc (own := [("_law_card", 1)]) (g := (gName 1)) rfl sc__law_names.nd (k_pil T.K rfl (pv 0)) (blkOk_by (N := N__law_names) (sc := defScope s__law_names) (by decide +kernel)) (fun _ _ _ _ _ => (pg_name (i := 1) sc__law_names.nd rfl (Or.inl rfl))) (fun _ _ _ _ _ => pts_nil) (fun _ _ _ _ _ => (pe_tup (pa_cons (pe_ix (k_ixt T.K rfl) (pv 1) pe_int (fun _ _ => rfl)) (pa_cons (pe_ix (k_ixt T.K rfl) (pv 1) pe_int (fun _ _ => rfl)) pa_nil)))))) pss_nil), ?_⟩
  rintro ⟨v_cards, _⟩
  show BD _ _ _ (m__law_names v_cards) _
  unfold m__law_names
  exact bd_retN1 rfl (EvN.cast (evn_lc (l := .fr) (l1 := .pa) (l3 := .pa) rfl trivial trivial (.inl rfl) (evi_list (evm_var rfl)) (hv1 rfl rfl) (tg_name trivial) (fun x1 => evt_yes) (fun x1 => (evm_tup (eva_cons (evm_flat (l2 := .fr) (evm_ixt (j := 1) (g := fun d : Int × Int × Int × Unit => d.2.1) (evm_var rfl) (fun _ => rfl))) (eva_cons (evm_flat (l2 := .fr) (evm_ixt (j := 2) (g := fun d : Int × Int × Int × Unit => d.2.2.1) (evm_var rfl) (fun _ => rfl))) eva_nil)) (fun _ => by show (2 : Nat) ≤ 1000; decide)))) (by first | with_reducible rfl | (simp -implicitDefEqProofs only [R.bind_assoc, R.bind_ok, R.bind_right, R.of_some, compR_map, compR_filter, compR_id, compR_idF, R.ifm_ok, Bool.and_true, Bool.or_false, R.ite_and, R.ite_or]; done) | (simp -implicitDefEqProofs only [R.bind_assoc, R.bind_ok, R.bind_right, R.of_some, compR_map, compR_filter, compR_id, compR_idF, R.ifm_ok, Bool.and_true, Bool.or_false, R.ite_ok, R.ite_and, R.ite_or]; done) | rfl)) (fun _ => rfl)
theorem ok__law_turn_good {f : Addr} {fd : FuncData} (F : Fun K "_law_turn_good" "_law_turn_good" s__law_turn_good f fd) (hT : T.K = K) (k__law_asked : KdR P w K mg base "_law_asked" ["_law_one", "_law_two", "_law_times"] 7 (PmX T .dp (fun b : (List Int) × (List Int) × Int × Unit => m__law_asked b.1 b.2.1 b.2.2.1))) (k__law_due : Kd P w K mg base CX0 "_law_due" ["_law_mine", "_law_theirs", "_law_times"] 2 (Pm T (.nw .fr) (fun b : (List Int) × (List Int) × Int × Unit => m__law_due b.1 b.2.1 b.2.2.1))) (k__law_is_int : Kd P w K mg base CX0 "_law_is_int" ["_law_x"] 1 (Pm T (.val .fr) (fun b : Int × Unit => m__law_is_int b.1))) (k__law_is_ints : Kd P w K mg base CX0 "_law_is_ints" ["_law_xs"] 2 (Pm T (.val .fr) (fun b : (List Int) × Unit => m__law_is_ints b.1))) (k__law_names : Kd P w K mg base CX0 "_law_names" ["_law_cards"] 1 (Pm T (.nw .fr) (fun b : (List (Tp (Int × Int × Int × Unit))) × Unit => m__law_names b.1))) (k__law_order : Kd P w K mg base CX0 "_law_order" ["_law_mine", "_law_theirs"] 1 (Pm T (.nw .fr) (fun b : (List Int) × (List Int) × Unit => m__law_order b.1 b.2.1))) (k__law_result : Kd P w K mg base CX0 "_law_result" ["_law_mine", "_law_theirs", "_law_pairing_here"] 1 (Pm T (.val .fr) (fun b : (List Int) × (List Int) × (List Int) × Unit => m__law_result b.1 b.2.1 b.2.2.1))) (z_abs : mg "abs" = none) (z_int : mg "int" = none) (z_isinstance : mg "isinstance" = none) (z_len : mg "len" = none) (z_list : mg "list" = none) (z_max : mg "max" = none) (z_range : mg "range" = none) (z_tuple : mg "tuple" = none) :
    FnOk P w K mg base CX0 8 f fd ["_law_one", "_law_two", "_law_times", "_law_pairings"] (Pm T (.val .fr) (fun b : (List Int) × (List Int) × Int × (List (List Int)) × Unit => m__law_turn_good b.1 b.2.1 b.2.2.1 b.2.2.2.1)) := by
  subst hT
  refine fn_pm F sc__law_turn_good (fun _ => rfl) fun cdv A outer s H E hr => ⟨_, (pss_cons (ps_set (i := 4) sc__law_turn_good.nd rfl (Or.inl rfl) (pe_callTy (k_list T.K rfl) (by rfl) z_list PyProof.Rows.boot_list (pa_cons (pv 0) pa_nil))) (pss_cons (ps_set (i := 5) sc__law_turn_good.nd rfl (Or.inl rfl) (pe_callTy (k_list T.K rfl) (by rfl) z_list PyProof.Rows.boot_list (pa_cons (pv 1) pa_nil))) (pss_cons (ps_set (i := 6) sc__law_turn_good.nd rfl (Or.inl rfl) (pe_kd k__law_due (hr.mono (by decide)) (by rfl) (pa_cons (pv 4) (pa_cons (pv 5) (pa_cons (pe_callB call_abs (by rfl) z_abs PyProof.Rows.boot_abs (pa_cons (pv 2) pa_nil)) pa_nil))))) (pss_cons (ps_for PassesOwn.never rfl (pi_range1 (by rfl) z_range (pa_cons pe_int pa_nil)) (pg_name (i := 7) sc__law_turn_good.nd rfl (Or.inl rfl)) (pss_cons (ps_set (i := 8) sc__law_turn_good.nd rfl (Or.inl rfl) (pe_krq k__law_asked (hr.mono (by decide)) (by rfl) (pa_cons (pv 0) (pa_cons (pv 1) (pa_cons (pv 2) pa_nil))))) (pss_cons (ps_if (pw_or (pt_cmpR (k_neD T.K rfl (by exact hr.units)) (pv 0) (pv 4) rfl) (pw_or (pt_cmpR (k_neD T.K rfl (by exact hr.units)) (pv 1) (pv 5) rfl) (pw_or (pt_not (pt_val (pe_callB (k_isi T.K rfl) (by rfl) z_isinstance (by decide +kernel) (pa_cons (pv 8) (pa_cons (pe_bltn (v := .ty "tuple") (by rfl) z_tuple (by decide +kernel) rfl) pa_nil))))) (pw_or1 (pt_cmpR op_ne (pe_callB (k_len T.K rfl) (by rfl) z_len PySem.boot_len (pa_cons (pv 8) pa_nil)) pe_int rfl))))).pt (pss_cons (ps_ret pe_bl) pss_nil) pss_nil) (pss_cons (ps_if (pw_or (pt_not (pt_val (pe_kd k__law_is_ints (hr.mono (by decide)) (by rfl) (pa_cons (pe_ix (k_ixt T.K rfl) (pv 8) pe_int (fun _ _ => rfl)) pa_nil)))) (pw_or (pt_not (pt_val (pe_kd k__law_is_ints (hr.mono (by decide)) (by rfl) (pa_cons (pe_ix (k_ixt T.K rfl) (pv 8) pe_int (fun _ _ => rfl)) pa_nil)))) (pw_or1 (pt_not (pt_val (pe_kd k__law_is_int (hr.mono (by decide)) (by rfl) (pa_cons (pe_ix (k_ixt T.K rfl) (pv 8) pe_int (fun _ _ => rfl)) pa_nil))))))).pt (pss_cons (ps_ret pe_bl) pss_nil) pss_nil) (pss_cons (ps_if (pw_or (pt_cmpR (k_neD T.K rfl (by exact hr.units)) (pe_ix (k_ixt T.K rfl) (pv 8) pe_int (fun _ _ => rfl)) (pe_ix (k_ixl T.K rfl) (pv 6) pe_int (fun _ _ => rfl)) rfl) (pw_or (pt_cmpR (k_neD T.K rfl (by exact hr.units)) (pe_ix (k_ixt T.K rfl) (pv 8) pe_int (fun _ _ => rfl)) (pe_ix (k_ixl T.K rfl) (pv 6) pe_int (fun _ _ => rfl)) rfl) (pw_or1 (pt_cmpR (k_neD T.K rfl (by exact hr.units)) (pe_ix (k_ixt T.K rfl) (pv 8) pe_int (fun _ _ => rfl)) (pe_ix (k_ixl T.K rfl) (pv 6) pe_int (fun _ _ => rfl)) rfl)))).pt (pss_cons (ps_ret pe_bl) pss_nil) pss_nil) (pss_cons (ps_for PassesOwn.never rfl (k_pil T.K rfl (pv 3)) (pg_name (i := 9) sc__law_turn_good.nd rfl (Or.inl rfl)) (pss_cons (ps_if (pt_cmpR op_ne (pe_op op_sub (pe_kd k__law_result (hr.mono (by decide)) (by rfl) (pa_cons (pe_ix (k_ixt T.K rfl) (pv 8) pe_int (fun _ _ => rfl)) (pa_cons (pe_ix (k_ixt T.K rfl) (pv 8) pe_int (fun _ _ => rfl)) (pa_cons (pv 9) pa_nil)))) (pe_kd k__law_result (hr.mono (by decide)) (by rfl) (pa_cons (pv 4) (pa_cons (pv 5) (pa_cons (pv 9) pa_nil))))) (pe_ix (k_ixt T.K rfl) (pv 8) pe_int (fun _ _ => rfl)) rfl) (pss_cons (ps_ret pe_bl) pss_nil) pss_nil) pss_nil)) (pss_cons (ps_set (i := 10) sc__law_turn_good.nd rfl (Or.inl rfl) (pe_kd k__law_order (hr.mono (by decide)) (by rfl) (pa_cons (pv 4) (pa_cons (pv 5) pa_nil)))) (pss_cons (ps_set (i := 11) sc__law_turn_good.nd rfl (Or.inl rfl) (pe_op op_sub (pe_callB (k_len T.K rfl) (by rfl) z_len PySem.boot_len (pa_cons (pv 10) pa_nil)) (pe_op op_mod (pe_callTy call_int1 (by rfl) z_int PyProof.Rows.boot_int (pa_cons (pe_callB call_abs (by rfl) z_abs PyProof.Rows.boot_abs (pa_cons (pv 2) pa_nil)) pa_nil)) (pe_callB (call_max2 rfl) (by rfl) z_max (by decide +kernel) (pa_cons pe_int (pa_cons (pe_callB (k_len T.K rfl) (by rfl) z_len PySem.boot_len (pa_cons (pv 10) pa_nil)) pa_nil)))))) (pss_cons (ps_if (pt_cmpR (k_neD T.K rfl (by exact hr.units)) (pe_kd k__law_names (hr.mono (by decide)) (by rfl) (pa_cons (pe_kd k__law_order (hr.mono (by decide)) (by rfl) (pa_cons (pe_ix (k_ixt T.K rfl) (pv 8) pe_int (fun _ _ => rfl)) (pa_cons (pe_ix (k_ixt T.K rfl) (pv 8) pe_int (fun _ _ => rfl)) pa_nil))) pa_nil)) (pe_kd k__law_names (hr.mono (by decide)) (by rfl) (pa_cons (pe_op op_cat (pe_slice (k_sll T.K rfl) (pv 10) (po_some (pv 11)) po_none) (pe_slice (k_sll T.K rfl) (pv 10) po_none (po_some (pv 11)))) pa_nil)) rfl) (pss_cons (ps_ret pe_bl) pss_nil) pss_nil) (pss_cons (ps_set (i := 12) sc__law_turn_good.nd rfl (Or.inl rfl) (pe_ix (k_ixt T.K rfl) (pv 8) pe_int (fun _ _ => rfl))) (pss_cons (ps_expr (pe_bm PySem.F.plainAttrs_list PySem.F.slot_list_append PySem.F.type_list_append mt_append (pv 12) (pa_cons pe_int pa_nil))) (pss_cons (ps_set (i := 12) sc__law_turn_good.nd rfl (Or.inl rfl) (pe_ix (k_ixt T.K rfl) (pv 8) pe_int (fun _ _ => rfl))) (pss_cons (ps_expr (pe_bm0 PySem.F.plainAttrs_list PySem.F.slot_list_reverse PySem.F.type_list_reverse mt_reverse (pv 12))) (pss_cons (ps_expr (pe_bm PySem.F.plainAttrs_list PySem.F.slot_list_append PySem.F.type_list_append mt_append (pv 12) (pa_cons pe_int pa_nil))) (pss_cons (ps_if (pw_or (pt_cmpR (k_neD T.K rfl (by exact hr.units)) (pv 0) (pv 4) rfl) (pw_or1 (pt_cmpR (k_neD T.K rfl (by exact hr.units)) (pv 1) (pv 5) rfl))).pt (pss_cons (ps_ret pe_bl) pss_nil) pss_nil) pss_nil))))))))))))))) (pss_cons (ps_ret pe_bl) pss_nil))))), ?_⟩
  rintro ⟨v_one, v_two, v_times, v_pairings, _⟩
  show BD _ _ _ (m__law_turn_good v_one v_two v_times v_pairings) _
  unfold m__law_turn_good
  refine bd_setNP (EvN.cast (evn_flat (l2 := .fr) (evn_listof (evm_var rfl))) (by first | with_reducible rfl | (simp -implicitDefEqProofs only [R.bind_assoc, R.bind_ok, R.bind_right, R.of_some, compR_map, compR_filter, compR_id, compR_idF, R.ifm_ok, Bool.and_true, Bool.or_false, R.ite_and, R.ite_or]; done) | (simp -implicitDefEqProofs only [R.bind_assoc, R.bind_ok, R.bind_right, R.of_some, compR_map, compR_filter, compR_id, compR_idF, R.ifm_ok, Bool.and_true, Bool.or_false, R.ite_ok, R.ite_and, R.ite_or]; done) | rfl)) trivial (lt_of rfl) ?_
  intro v_mine_1
  refine bd_setNP (EvN.cast (evn_flat (l2 := .fr) (evn_listof (evm_var rfl))) (by first | with_reducible rfl | (simp -implicitDefEqProofs only [R.bind_assoc, R.bind_ok, R.bind_right, R.of_some, compR_map, compR_filter, compR_id, compR_idF, R.ifm_ok, Bool.and_true, Bool.or_false, R.ite_and, R.ite_or]; done) | (simp -implicitDefEqProofs only [R.bind_assoc, R.bind_ok, R.bind_right, R.of_some, compR_map, compR_filter, compR_id, compR_idF, R.ifm_ok, Bool.and_true, Bool.or_false, R.ite_ok, R.ite_and, R.ite_or]; done) | rfl)) trivial (lt_of rfl) ?_
  intro v_theirs_2
  refine bd_setN (EvN.cast (evn_callF rfl (eva_cons (evm_own rfl) (eva_cons (evm_own rfl) (eva_cons (evm_flat (l2 := .raw) (evm_cbT (eva_cons (evm_flat (l2 := .raw) (evm_var rfl)) eva_nil) fun _ => ra_abs)) eva_nil)))) (by first | with_reducible rfl | (simp -implicitDefEqProofs only [R.bind_assoc, R.bind_ok, R.bind_right, R.of_some, compR_map, compR_filter, compR_id, compR_idF, R.ifm_ok, Bool.and_true, Bool.or_false, R.ite_and, R.ite_or]; done) | (simp -implicitDefEqProofs only [R.bind_assoc, R.bind_ok, R.bind_right, R.of_some, compR_map, compR_filter, compR_id, compR_idF, R.ifm_ok, Bool.and_true, Bool.or_false, R.ite_ok, R.ite_and, R.ite_or]; done) | rfl)) trivial (lt_of rfl) ?_
  intro v_due_3
  refine bd_for (l1 := .fr) (es := (fun s5 : Unit => [.sh .pa (enc (v_one : (List Int))), .sh .pa (enc (v_two : (List Int))), .sh .pa (enc (v_times : Int)), .sh .pa (enc (v_pairings : (List (List Int)))), .ow .fr ((v_mine_1 : (List Int)).map enc), .ow .fr ((v_theirs_2 : (List Int)).map enc), .ow .fr ((v_due_3 : (List PV)).map enc), .un, .un, .un, .un, .un, .un])) (er := fun a => enc a) (EvI.cast (evi_rng1 evm_int) (by first | with_reducible rfl | (simp -implicitDefEqProofs only [R.bind_assoc, R.bind_ok, R.bind_right, R.of_some, compR_map, compR_filter, compR_id, compR_idF, R.ifm_ok, Bool.and_true, Bool.or_false, R.ite_and, R.ite_or]; done) | (simp -implicitDefEqProofs only [R.bind_assoc, R.bind_ok, R.bind_right, R.of_some, compR_map, compR_filter, compR_id, compR_idF, R.ifm_ok, Bool.and_true, Bool.or_false, R.ite_ok, R.ite_and, R.ite_or]; done) | rfl)) trivial (Wk.keep (Wk.keep (Wk.keep (Wk.keep (Wk.keep (Wk.keep (Wk.keep (Wk.keep (Wk.keep (Wk.keep (Wk.keep (Wk.keep (Wk.keep Wk.nil))))))))))))) (tg_name trivial) (hu1 fun _ => rfl) ?_ ?_ (fun a => ⟨_, rfl, rfl⟩)
  · intro x4 s5
    unfold m__law_turn_good_b2
    refine bd_setD (EvD.cast (evd_callQ (eva_cons (evm_raw (evm_var rfl)) (eva_cons (evm_raw (evm_var rfl)) (eva_cons (evm_flat (l2 := .raw) (evm_var rfl)) eva_nil)))) (by first | with_reducible rfl | (simp -implicitDefEqProofs only [R.bind_assoc, R.bind_ok, R.bind_right, R.of_some, compR_map, compR_filter, compR_id, compR_idF, R.ifm_ok, Bool.and_true, Bool.or_false, R.ite_and, R.ite_or]; done) | (simp -implicitDefEqProofs only [R.bind_assoc, R.bind_ok, R.bind_right, R.of_some, compR_map, compR_filter, compR_id, compR_idF, R.ifm_ok, Bool.and_true, Bool.or_false, R.ite_ok, R.ite_and, R.ite_or]; done) | rfl)) (lt_of rfl) ?_
    intro v_told_6 v7 as8
    refine bd_if (EvT.cast (evt_or (evt_test (evm_opT (evm_var rfl) (evm_own rfl) fun _ _ => rv_neD (α := (List Int)) (β := (List Int)))) (evt_or (evt_test (evm_opT (evm_var rfl) (evm_own rfl) fun _ _ => rv_neD (α := (List Int)) (β := (List Int)))) (evt_or (evt_not (evt_B (evm_isi (α := (Tp ((List Int) × (List Int) × Int × Unit))) (b := true) (evm_dp rfl) (by decide +kernel)))) (evt_test (evm_opT (evm_cbT (eva_cons (evm_dp rfl) eva_nil) fun _ => (ra_lenT (n := 3) fun _ => rfl)) evm_int fun _ _ => rv_neI))))) (by first | with_reducible rfl | (simp -implicitDefEqProofs only [R.bind_assoc, R.bind_ok, R.bind_right, R.of_some, compR_map, compR_filter, compR_id, compR_idF, R.ifm_ok, Bool.and_true, Bool.or_false, R.ite_and, R.ite_or]; done) | (simp -implicitDefEqProofs only [R.bind_assoc, R.bind_ok, R.bind_right, R.of_some, compR_map, compR_filter, compR_id, compR_idF, R.ifm_ok, Bool.and_true, Bool.or_false, R.ite_ok, R.ite_and, R.ite_or]; done) | (simp -implicitDefEqProofs only [R.bind_ok, R.of_some, R.ifm_ok, R.ite_and, R.ite_or, Int.cast_ofNat_Int]; done) | rfl)) ?_ ?_
    · refine bd_assoc ?_
      exact bd_ret (k := fun a9 => (Stp.rt a9)) rfl (Evm.cast evm_bl (by first | with_reducible rfl | (simp -implicitDefEqProofs only [R.bind_assoc, R.bind_ok, R.bind_right, R.of_some, compR_map, compR_filter, compR_id, compR_idF, R.ifm_ok, Bool.and_true, Bool.or_false, R.ite_and, R.ite_or]; done) | (simp -implicitDefEqProofs only [R.bind_assoc, R.bind_ok, R.bind_right, R.of_some, compR_map, compR_filter, compR_id, compR_idF, R.ifm_ok, Bool.and_true, Bool.or_false, R.ite_ok, R.ite_and, R.ite_or]; done) | rfl)) (fun _ => rfl)
    · refine bd_nil ?_
      refine bd_if (EvT.cast (evt_or (evt_not (evt_B (evm_callF rfl (eva_cons (evm_ixt (j := 0) (g := fun d : (List Int) × (List Int) × Int × Unit => d.1) (evm_dp rfl) (fun _ => rfl)) eva_nil)))) (evt_or (evt_not (evt_B (evm_callF rfl (eva_cons (evm_ixt (j := 1) (g := fun d : (List Int) × (List Int) × Int × Unit => d.2.1) (evm_dp rfl) (fun _ => rfl)) eva_nil)))) (evt_not (evt_B (evm_callF rfl (eva_cons (evm_ixt (j := 2) (g := fun d : (List Int) × (List Int) × Int × Unit => d.2.2.1) (evm_dp rfl) (fun _ => rfl)) eva_nil)))))) (by first | with_reducible rfl | (simp -implicitDefEqProofs only [R.bind_assoc, R.bind_ok, R.bind_right, R.of_some, compR_map, compR_filter, compR_id, compR_idF, R.ifm_ok, Bool.and_true, Bool.or_false, R.ite_and, R.ite_or]; done) | (simp -implicitDefEqProofs only [R.bind_assoc, R.bind_ok, R.bind_right, R.of_some, compR_map, compR_filter, compR_id, compR_idF, R.ifm_ok, Bool.and_true, Bool.or_false, R.ite_ok, R.ite_and, R.ite_or]; done) | rfl)) ?_ ?_
      · refine bd_assoc ?_
        exact bd_ret (k := fun a15 => (Stp.rt a15)) rfl (Evm.cast evm_bl (by first | with_reducible rfl | (simp -implicitDefEqProofs only [R.bind_assoc, R.bind_ok, R.bind_right, R.of_some, compR_map, compR_filter, compR_id, compR_idF, R.ifm_ok, Bool.and_true, Bool.or_false, R.ite_and, R.ite_or]; done) | (simp -implicitDefEqProofs only [R.bind_assoc, R.bind_ok, R.bind_right, R.of_some, compR_map, compR_filter, compR_id, compR_idF, R.ifm_ok, Bool.and_true, Bool.or_false, R.ite_ok, R.ite_and, R.ite_or]; done) | rfl)) (fun _ => rfl)
      · refine bd_nil ?_
        refine bd_if (EvT.cast (evt_or (evt_test (evm_op (evm_ixt (j := 0) (g := fun d : (List Int) × (List Int) × Int × Unit => d.1) (evm_dp rfl) (fun _ => rfl)) (evm_ixo rfl evm_int) fun _ _ _ _ => rv_neQ)) (evt_or (evt_test (evm_op (evm_ixt (j := 1) (g := fun d : (List Int) × (List Int) × Int × Unit => d.2.1) (evm_dp rfl) (fun _ => rfl)) (evm_ixo rfl evm_int) fun _ _ _ _ => rv_neQ)) (evt_test (evm_op (evm_ixt (j := 2) (g := fun d : (List Int) × (List Int) × Int × Unit => d.2.2.1) (evm_dp rfl) (fun _ => rfl)) (evm_ixo rfl evm_int) fun _ _ _ _ => rv_neQ)))) (by first | with_reducible rfl | (simp -implicitDefEqProofs only [R.bind_assoc, R.bind_ok, R.bind_right, R.of_some, compR_map, compR_filter, compR_id, compR_idF, R.ifm_ok, Bool.and_true, Bool.or_false, R.ite_and, R.ite_or]; done) | (simp -implicitDefEqProofs only [R.bind_assoc, R.bind_ok, R.bind_right, R.of_some, compR_map, compR_filter, compR_id, compR_idF, R.ifm_ok, Bool.and_true, Bool.or_false, R.ite_ok, R.ite_and, R.ite_or]; done) | rfl)) ?_ ?_
        · refine bd_assoc ?_
          exact bd_ret (k := fun a21 => (Stp.rt a21)) rfl (Evm.cast evm_bl (by first | with_reducible rfl | (simp -implicitDefEqProofs only [R.bind_assoc, R.bind_ok, R.bind_right, R.of_some, compR_map, compR_filter, compR_id, compR_idF, R.ifm_ok, Bool.and_true, Bool.or_false, R.ite_and, R.ite_or]; done) | (simp -implicitDefEqProofs only [R.bind_assoc, R.bind_ok, R.bind_right, R.of_some, compR_map, compR_filter, compR_id, compR_idF, R.ifm_ok, Bool.and_true, Bool.or_false, R.ite_ok, R.ite_and, R.ite_or]; done) | rfl)) (fun _ => rfl)
        · refine bd_nil ?_
          refine bd_for (l1 := .pa) (es := (fun s23 : Unit => [.sh .pa (enc (v_one : (List Int))), .sh .pa (enc (v_two : (List Int))), .sh .pa (enc (v_times : Int)), .sh .pa (enc (v_pairings : (List (List Int)))), .ow .fr ((v_mine_1 : (List Int)).map enc), .ow .fr ((v_theirs_2 : (List Int)).map enc), .ow .fr ((v_due_3 : (List PV)).map enc), .sh .fr (enc (x4 : Int)), dpS T (enc (v_told_6 : (Tp ((List Int) × (List Int) × Int × Unit)))) v7 as8, .un, .un, .un, .un])) (er := fun a => enc a) (EvI.cast (evi_list (evm_var rfl)) (by first | with_reducible rfl | (simp -implicitDefEqProofs only [R.bind_assoc, R.bind_ok, R.bind_right, R.of_some, compR_map, compR_filter, compR_id, compR_idF, R.ifm_ok, Bool.and_true, Bool.or_false, R.ite_and, R.ite_or]; done) | (simp -implicitDefEqProofs only [R.bind_assoc, R.bind_ok, R.bind_right, R.of_some, compR_map, compR_filter, compR_id, compR_idF, R.ifm_ok, Bool.and_true, Bool.or_false, R.ite_ok, R.ite_and, R.ite_or]; done) | rfl)) trivial (Wk.keep (Wk.keep (Wk.keep (Wk.keep (Wk.keep (Wk.keep (Wk.keep (Wk.keep (Wk.keep (Wk.keep (Wk.keep (Wk.keep (Wk.keep Wk.nil))))))))))))) (tg_name trivial) (hu1 fun _ => rfl) ?_ ?_ (fun a => ⟨_, rfl, rfl⟩)
          · intro x22 s23
            unfold m__law_turn_good_b1
            refine bd_if (EvT.cast (evt_test (evm_opT (evm_opT (evm_callF rfl (eva_cons (evm_ixt (j := 0) (g := fun d : (List Int) × (List Int) × Int × Unit => d.1) (evm_dp rfl) (fun _ => rfl)) (eva_cons (evm_ixt (j := 1) (g := fun d : (List Int) × (List Int) × Int × Unit => d.2.1) (evm_dp rfl) (fun _ => rfl)) (eva_cons (evm_raw (evm_var rfl)) eva_nil)))) (evm_callF rfl (eva_cons (evm_own rfl) (eva_cons (evm_own rfl) (eva_cons (evm_raw (evm_var rfl)) eva_nil)))) fun _ _ => rv_II) (evm_ixt (j := 2) (g := fun d : (List Int) × (List Int) × Int × Unit => d.2.2.1) (evm_dp rfl) (fun _ => rfl)) fun _ _ => rv_neI)) (by first | with_reducible rfl | (simp -implicitDefEqProofs only [R.bind_assoc, R.bind_ok, R.bind_right, R.of_some, compR_map, compR_filter, compR_id, compR_idF, R.ifm_ok, Bool.and_true, Bool.or_false, R.ite_and, R.ite_or]; done) | (simp -implicitDefEqProofs only [R.bind_assoc, R.bind_ok, R.bind_right, R.of_some, compR_map, compR_filter, compR_id, compR_idF, R.ifm_ok, Bool.and_true, Bool.or_false, R.ite_ok, R.ite_and, R.ite_or]; done) | rfl)) ?_ ?_
            · refine bd_assoc ?_
              exact bd_ret (k := fun a27 => (Stp.rt a27)) rfl (Evm.cast evm_bl (by first | with_reducible rfl | (simp -implicitDefEqProofs only [R.bind_assoc, R.bind_ok, R.bind_right, R.of_some, compR_map, compR_filter, compR_id, compR_idF, R.ifm_ok, Bool.and_true, Bool.or_false, R.ite_and, R.ite_or]; done) | (simp -implicitDefEqProofs only [R.bind_assoc, R.bind_ok, R.bind_right, R.of_some, compR_map, compR_filter, compR_id, compR_idF, R.ifm_ok, Bool.and_true, Bool.or_false, R.ite_ok, R.ite_and, R.ite_or]; done) | rfl)) (fun _ => rfl)
            · refine bd_nil ?_
              exact bd_end (Wk.keep (Wk.keep (Wk.keep (Wk.keep (Wk.keep (Wk.keep (Wk.keep (Wk.keep (Wk.keep (Wk.lose (Wk.keep (Wk.keep (Wk.keep Wk.nil))))))))))))) rfl
          intro s23
          refine bd_setN (EvN.cast (evn_callF rfl (eva_cons (evm_own rfl) (eva_cons (evm_own rfl) eva_nil))) (by first | with_reducible rfl | (simp -implicitDefEqProofs only [R.bind_assoc, R.bind_ok, R.bind_right, R.of_some, compR_map, compR_filter, compR_id, compR_idF, R.ifm_ok, Bool.and_true, Bool.or_false, R.ite_and, R.ite_or]; done) | (simp -implicitDefEqProofs only [R.bind_assoc, R.bind_ok, R.bind_right, R.of_some, compR_map, compR_filter, compR_id, compR_idF, R.ifm_ok, Bool.and_true, Bool.or_false, R.ite_ok, R.ite_and, R.ite_or]; done) | rfl)) trivial (lt_of rfl) ?_
          intro v_order_28
          refine bd_set (Evm.cast (evm_opT (evm_cbT (eva_cons (evm_own rfl) eva_nil) fun _ => ra_len) (evm_op (evm_cbT (eva_cons (evm_flat (l2 := .raw) (evm_cbT (eva_cons (evm_flat (l2 := .raw) (evm_var rfl)) eva_nil) fun _ => ra_abs)) eva_nil) fun _ => ra_int) (evm_cbT (eva_cons (evm_flat (l2 := .raw) evm_int) (eva_cons (evm_flat (l2 := .raw) (evm_cbT (eva_cons (evm_own rfl) eva_nil) fun _ => ra_len)) eva_nil)) fun _ => ra_max2) fun _ _ _ _ => rv_mod) fun _ _ => rv_II) (by first | with_reducible rfl | (simp -implicitDefEqProofs only [R.bind_assoc, R.bind_ok, R.bind_right, R.of_some, compR_map, compR_filter, compR_id, compR_idF, R.ifm_ok, Bool.and_true, Bool.or_false, R.ite_and, R.ite_or]; done) | (simp -implicitDefEqProofs only [R.bind_assoc, R.bind_ok, R.bind_right, R.of_some, compR_map, compR_filter, compR_id, compR_idF, R.ifm_ok, Bool.and_true, Bool.or_false, R.ite_ok, R.ite_and, R.ite_or]; done) | rfl)) trivial (lt_of rfl) ?_
          intro v_cut_30
          refine bd_if (EvT.cast (evt_test (evm_opT (evn_ev (evn_callF rfl (eva_cons (evm_raw (evn_ev (evn_callF rfl (eva_cons (evm_ixt (j := 0) (g := fun d : (List Int) × (List Int) × Int × Unit => d.1) (evm_dp rfl) (fun _ => rfl)) (eva_cons (evm_ixt (j := 1) (g := fun d : (List Int) × (List Int) × Int × Unit => d.2.1) (evm_dp rfl) (fun _ => rfl)) eva_nil))))) eva_nil))) (evn_ev (evn_callF rfl (eva_cons (evm_raw (evn_ev (evn_cat (evn_ev (evn_slo rfl (evo_some (evm_var rfl)) evo_none)) (evn_ev (evn_slo rfl evo_none (evo_some (evm_var rfl))))))) eva_nil))) fun _ _ => rv_neD (α := (List (Tp (Int × Int × Unit)))) (β := (List (Tp (Int × Int × Unit)))))) (by first | with_reducible rfl | (simp -implicitDefEqProofs only [R.bind_assoc, R.bind_ok, R.bind_right, R.of_some, compR_map, compR_filter, compR_id, compR_idF, R.ifm_ok, Bool.and_true, Bool.or_false, R.ite_and, R.ite_or]; done) | (simp -implicitDefEqProofs only [R.bind_assoc, R.bind_ok, R.bind_right, R.of_some, compR_map, compR_filter, compR_id, compR_idF, R.ifm_ok, Bool.and_true, Bool.or_false, R.ite_ok, R.ite_and, R.ite_or]; done) | rfl)) ?_ ?_
          · refine bd_assoc ?_
            exact bd_ret (k := fun a35 => (Stp.rt a35)) rfl (Evm.cast evm_bl (by first | with_reducible rfl | (simp -implicitDefEqProofs only [R.bind_assoc, R.bind_ok, R.bind_right, R.of_some, compR_map, compR_filter, compR_id, compR_idF, R.ifm_ok, Bool.and_true, Bool.or_false, R.ite_and, R.ite_or]; done) | (simp -implicitDefEqProofs only [R.bind_assoc, R.bind_ok, R.bind_right, R.of_some, compR_map, compR_filter, compR_id, compR_idF, R.ifm_ok, Bool.and_true, Bool.or_false, R.ite_ok, R.ite_and, R.ite_or]; done) | rfl)) (fun _ => rfl)
          · refine bd_nil ?_
            refine bd_alS (i := 8) rfl (EvQ.cast (evq_ixT (K := T.K) (k := 0) evq_var) (by rfl)) (lt_of rfl) ?_
            intro w36
            refine bd_appS (i := 8) (x := (v_told_6 : (Tp ((List Int) × (List Int) × Int × Unit)))) (xs := v_told_6.t.1) (f := (fun ys : (List Int) => (Tp.mk (ys, v_told_6.t.2.1, v_told_6.t.2.2.1, ()) : (Tp ((List Int) × (List Int) × Int × Unit))))) rfl (by repeat (first | exact trivial | refine And.intro (fun _ z => z) ?_)) (evq_al rfl).evp rfl (fun _ => rfl) (fun _ => rfl) (Evm.cast evm_int (by first | with_reducible rfl | (simp -implicitDefEqProofs only [R.bind_assoc, R.bind_ok, R.bind_right, R.of_some, compR_map, compR_filter, compR_id, compR_idF, R.ifm_ok, Bool.and_true, Bool.or_false, R.ite_and, R.ite_or]; done) | (simp -implicitDefEqProofs only [R.bind_assoc, R.bind_ok, R.bind_right, R.of_some, compR_map, compR_filter, compR_id, compR_idF, R.ifm_ok, Bool.and_true, Bool.or_false, R.ite_ok, R.ite_and, R.ite_or]; done) | rfl)) ?_
            intro l37
            refine bd_alS (i := 8) rfl (EvQ.cast (evq_ixT (K := T.K) (k := 1) evq_var) (by rfl)) (lt_of rfl) ?_
            intro w38
            refine bd_revQ (i := 8) (x := ((Tp.mk (l37, v_told_6.t.2.1, v_told_6.t.2.2.1, ()) : (Tp ((List Int) × (List Int) × Int × Unit))) : (Tp ((List Int) × (List Int) × Int × Unit)))) rfl (by repeat (first | exact trivial | refine And.intro (fun _ z => z) ?_)) (EvP.cast (evq_al rfl).evp (by first | with_reducible rfl | (simp -implicitDefEqProofs only [R.bind_assoc, R.bind_ok, R.bind_right, R.of_some, compR_map, compR_filter, compR_id, compR_idF, R.ifm_ok, Bool.and_true, Bool.or_false, R.ite_and, R.ite_or]; done) | (simp -implicitDefEqProofs only [R.bind_assoc, R.bind_ok, R.bind_right, R.of_some, compR_map, compR_filter, compR_id, compR_idF, R.ifm_ok, Bool.and_true, Bool.or_false, R.ite_ok, R.ite_and, R.ite_or]; done) | rfl)) ?_
            intro v_told_39
            refine bd_appS (i := 8) (x := (v_told_39 : (Tp ((List Int) × (List Int) × Int × Unit)))) (xs := v_told_39.t.2.1) (f := (fun ys : (List Int) => (Tp.mk (v_told_39.t.1, ys, v_told_39.t.2.2.1, ()) : (Tp ((List Int) × (List Int) × Int × Unit))))) rfl (by repeat (first | exact trivial | refine And.intro (fun _ z => z) ?_)) (evq_al rfl).evp rfl (fun _ => rfl) (fun _ => rfl) (Evm.cast evm_int (by first | with_reducible rfl | (simp -implicitDefEqProofs only [R.bind_assoc, R.bind_ok, R.bind_right, R.of_some, compR_map, compR_filter, compR_id, compR_idF, R.ifm_ok, Bool.and_true, Bool.or_false, R.ite_and, R.ite_or]; done) | (simp -implicitDefEqProofs only [R.bind_assoc, R.bind_ok, R.bind_right, R.of_some, compR_map, compR_filter, compR_id, compR_idF, R.ifm_ok, Bool.and_true, Bool.or_false, R.ite_ok, R.ite_and, R.ite_or]; done) | rfl)) ?_
            intro l40
            refine bd_if (EvT.cast (evt_or (evt_test (evm_opT (evm_var rfl) (evm_own rfl) fun _ _ => rv_neD (α := (List Int)) (β := (List Int)))) (evt_test (evm_opT (evm_var rfl) (evm_own rfl) fun _ _ => rv_neD (α := (List Int)) (β := (List Int))))) (by first | with_reducible rfl | (simp -implicitDefEqProofs only [R.bind_assoc, R.bind_ok, R.bind_right, R.of_some, compR_map, compR_filter, compR_id, compR_idF, R.ifm_ok, Bool.and_true, Bool.or_false, R.ite_and, R.ite_or]; done) | (simp -implicitDefEqProofs only [R.bind_assoc, R.bind_ok, R.bind_right, R.of_some, compR_map, compR_filter, compR_id, compR_idF, R.ifm_ok, Bool.and_true, Bool.or_false, R.ite_ok, R.ite_and, R.ite_or]; done) | rfl)) ?_ ?_
            · refine bd_assoc ?_
              exact bd_ret (k := fun a41 => (Stp.rt a41)) rfl (Evm.cast evm_bl (by first | with_reducible rfl | (simp -implicitDefEqProofs only [R.bind_assoc, R.bind_ok, R.bind_right, R.of_some, compR_map, compR_filter, compR_id, compR_idF, R.ifm_ok, Bool.and_true, Bool.or_false, R.ite_and, R.ite_or]; done) | (simp -implicitDefEqProofs only [R.bind_assoc, R.bind_ok, R.bind_right, R.of_some, compR_map, compR_filter, compR_id, compR_idF, R.ifm_ok, Bool.and_true, Bool.or_false, R.ite_ok, R.ite_and, R.ite_or]; done) | rfl)) (fun _ => rfl)
            · refine bd_nil ?_
              exact bd_end (Wk.keep (Wk.keep (Wk.keep (Wk.keep (Wk.keep (Wk.keep (Wk.keep (Wk.lose (Wk.lose (Wk.keep (Wk.lose (Wk.lose (Wk.lose Wk.nil))))))))))))) rfl
  intro s5
  exact bd_ret1 rfl (Evm.cast evm_bl (by first | with_reducible rfl | (simp -implicitDefEqProofs only [R.bind_assoc, R.bind_ok, R.bind_right, R.of_some, compR_map, compR_filter, compR_id, compR_idF, R.ifm_ok, Bool.and_true, Bool.or_false, R.ite_and, R.ite_or]; done) | (simp -implicitDefEqProofs only [R.bind_assoc, R.bind_ok, R.bind_right, R.of_some, compR_map, compR_filter, compR_id, compR_idF, R.ifm_ok, Bool.and_true, Bool.or_false, R.ite_ok, R.ite_and, R.ite_or]; done) | rfl)) (fun _ => rfl)
theorem ok__law_refused {f : Addr} {fd : FuncData} (F : Fun K "_law_refused" "_law_refused" s__law_refused f fd) (hT : T.K = K) (k__law_asked : KdR P w K mg base "_law_asked" ["_law_one", "_law_two", "_law_times"] 7 (PmX T .dp (fun b : (List Int) × (List Int) × Int × Unit => m__law_asked b.1 b.2.1 b.2.2.1))) (y_BadHands : KdX P w K mg base T 1 "BadHands" ["mine_count", "theirs_count"] ["self", "mine_count", "theirs_count"]) (q__law_is_int : KdQ P w K mg base "_law_is_int" ["_law_x"] 1 (Pm T (.val .fr) (fun b : Int × Unit => m__law_is_int b.1))) (w_BadBounds : mg "BadBounds" = some (.ref (T.addr 9))) (w_BadCard : mg "BadCard" = some (.ref (T.addr 3))) (w_BadHands : mg "BadHands" = some (.ref (T.addr 1))) (w_BadPairing : mg "BadPairing" = some (.ref (T.addr 4))) (w_BadPlace : mg "BadPlace" = some (.ref (T.addr 5))) (w_BadSchedule : mg "BadSchedule" = some (.ref (T.addr 10))) (w_BadText : mg "BadText" = some (.ref (T.addr 11))) (w_BadWord : mg "BadWord" = some (.ref (T.addr 2))) (w_ClimbrowError : mg "ClimbrowError" = some (.ref (T.addr 0))) (w_Contradiction : mg "Contradiction" = some (.ref (T.addr 8))) (w_DuplicateName : mg "DuplicateName" = some (.ref (T.addr 13))) (w_OutOfTurn : mg "OutOfTurn" = some (.ref (T.addr 6))) (w_UnknownName : mg "UnknownName" = some (.ref (T.addr 12))) (w_Unreachable : mg "Unreachable" = some (.ref (T.addr 7))) (v_BadHands : ExcC K (T.addr 1)) (t_BadHands_BadBounds : PySem.W.kitOne K (.ref (T.addr 1)) (.ref (T.addr 9)) = some false) (t_BadHands_BadCard : PySem.W.kitOne K (.ref (T.addr 1)) (.ref (T.addr 3)) = some false) (t_BadHands_BadHands : PySem.W.kitOne K (.ref (T.addr 1)) (.ref (T.addr 1)) = some true) (t_BadHands_BadPairing : PySem.W.kitOne K (.ref (T.addr 1)) (.ref (T.addr 4)) = some false) (t_BadHands_BadPlace : PySem.W.kitOne K (.ref (T.addr 1)) (.ref (T.addr 5)) = some false) (t_BadHands_BadSchedule : PySem.W.kitOne K (.ref (T.addr 1)) (.ref (T.addr 10)) = some false) (t_BadHands_BadText : PySem.W.kitOne K (.ref (T.addr 1)) (.ref (T.addr 11)) = some false) (t_BadHands_BadWord : PySem.W.kitOne K (.ref (T.addr 1)) (.ref (T.addr 2)) = some false) (t_BadHands_Contradiction : PySem.W.kitOne K (.ref (T.addr 1)) (.ref (T.addr 8)) = some false) (t_BadHands_DuplicateName : PySem.W.kitOne K (.ref (T.addr 1)) (.ref (T.addr 13)) = some false) (t_BadHands_OutOfTurn : PySem.W.kitOne K (.ref (T.addr 1)) (.ref (T.addr 6)) = some false) (t_BadHands_UnknownName : PySem.W.kitOne K (.ref (T.addr 1)) (.ref (T.addr 12)) = some false) (t_BadHands_Unreachable : PySem.W.kitOne K (.ref (T.addr 1)) (.ref (T.addr 7)) = some false) (t_BadHands_ValueError : PySem.W.kitOne K (.ref (T.addr 1)) (.type "ValueError") = some true) (m_BadHands_ClimbrowError__y : PySem.W.exmOne K (.ref (T.addr 1)) (.ref (T.addr 0)) = some true) (xf_BadHands : XfC K (T.addr 1)) (xn_BadHands_mine_count : PySem.W.findIn K (.ref (T.addr 1)) "mine_count" = some none) (xn_BadHands_theirs_count : PySem.W.findIn K (.ref (T.addr 1)) "theirs_count" = some none) (z_ValueError : mg "ValueError" = none) (z_isinstance : mg "isinstance" = none) (z_len : mg "len" = none) (z_list : mg "list" = none) :
    FnOk P w K mg base CX0 8 f fd ["_law_mine", "_law_theirs", "_law_times"] (Pm T (.val .fr) (fun b : (List Int) × (List Int) × Int × Unit => m__law_refused b.1 b.2.1 b.2.2.1)) := by
  subst hT
  refine fn_pm F sc__law_refused (fun _ => rfl) fun cdv A outer s H E hr => ⟨_, (pss_cons (ps_set (i := 3) sc__law_refused.nd rfl (Or.inl rfl) (pe_callTy (k_list T.K rfl) (by rfl) z_list PyProof.Rows.boot_list (pa_cons (pv 0) pa_nil))) (pss_cons (ps_set (i := 4) sc__law_refused.nd rfl (Or.inl rfl) (pe_callTy (k_list T.K rfl) (by rfl) z_list PyProof.Rows.boot_list (pa_cons (pv 1) pa_nil))) (pss_cons (ps_tryM (Wout := fun _ _ _ _ => False) sc__law_refused.nd rfl rfl tk0 (.named (i := 5) rfl rfl ⟨rfl, by decide, Or.inl w_ClimbrowError⟩ (fun a oe cls d pn hz hf => ex_t ⟨_, (pss_cons (ps_if (pw_or (pt_not (pt_val (pe_callB (call_isX hz.zc hf) (by rfl) z_isinstance (by decide +kernel) (pa_cons (pv 5) (pa_cons (C8.pe_gc (v := .ref (T.addr 1)) (by rfl) ⟨_, w_BadHands, rfl⟩) pa_nil))))) (pw_or1 (pt_not (pt_val (pe_callB (call_isX hz.zc hf) (by rfl) z_isinstance (by decide +kernel) (pa_cons (pv 5) (pa_cons (pe_bltn (v := .ty "ValueError") (by rfl) z_ValueError (by decide +kernel) rfl) pa_nil))))))).pt (pss_cons (ps_ret pe_bl) pss_nil) pss_nil) (pss_cons (ps_if (pt_val (pe_callB (call_isXT hz.zc hf) (by rfl) z_isinstance (by decide +kernel) (pa_cons (pv 5) (pa_cons (pe_tup (pa_cons (C8.pe_gc (v := .ref (T.addr 9)) (by rfl) ⟨_, w_BadBounds, rfl⟩) (pa_cons (C8.pe_gc (v := .ref (T.addr 3)) (by rfl) ⟨_, w_BadCard, rfl⟩) (pa_cons (C8.pe_gc (v := .ref (T.addr 4)) (by rfl) ⟨_, w_BadPairing, rfl⟩) (pa_cons (C8.pe_gc (v := .ref (T.addr 5)) (by rfl) ⟨_, w_BadPlace, rfl⟩) (pa_cons (C8.pe_gc (v := .ref (T.addr 10)) (by rfl) ⟨_, w_BadSchedule, rfl⟩) (pa_cons (C8.pe_gc (v := .ref (T.addr 11)) (by rfl) ⟨_, w_BadText, rfl⟩) (pa_cons (C8.pe_gc (v := .ref (T.addr 2)) (by rfl) ⟨_, w_BadWord, rfl⟩) (pa_cons (C8.pe_gc (v := .ref (T.addr 8)) (by rfl) ⟨_, w_Contradiction, rfl⟩) pa_nil))))))))) pa_nil)))) (pss_cons (ps_ret pe_bl) pss_nil) pss_nil) (pss_cons (ps_if (pt_val (pe_callB (call_isXT hz.zc hf) (by rfl) z_isinstance (by decide +kernel) (pa_cons (pv 5) (pa_cons (pe_tup (pa_cons (C8.pe_gc (v := .ref (T.addr 13)) (by rfl) ⟨_, w_DuplicateName, rfl⟩) (pa_cons (C8.pe_gc (v := .ref (T.addr 6)) (by rfl) ⟨_, w_OutOfTurn, rfl⟩) (pa_cons (C8.pe_gc (v := .ref (T.addr 12)) (by rfl) ⟨_, w_UnknownName, rfl⟩) (pa_cons (C8.pe_gc (v := .ref (T.addr 7)) (by rfl) ⟨_, w_Unreachable, rfl⟩) pa_nil))))) pa_nil)))) (pss_cons (ps_ret pe_bl) pss_nil) pss_nil) (pss_cons (ps_if (pw_or (pt_not (pt_val (pe_kdq q__law_is_int (roomH_mark (hr.mono (by decide))) (by rfl) (pa_cons (pe_xfU hz.zc hf (pv 5)) pa_nil)))) (pw_or1 (pt_not (pt_val (pe_kdq q__law_is_int (roomH_mark (hr.mono (by decide))) (by rfl) (pa_cons (pe_xfU hz.zc hf (pv 5)) pa_nil)))))).pt (pss_cons (ps_ret pe_bl) pss_nil) pss_nil) (pss_cons (ps_ret (pe_and (pe_cmpR op_eq (pe_xfU hz.zc hf (pv 5)) (pe_callB (k_len T.K rfl) (by rfl) z_len PySem.boot_len (pa_cons (pv 0) pa_nil)) rfl) (pe_and (pe_cmpR op_eq (pe_xfU hz.zc hf (pv 5)) (pe_callB (k_len T.K rfl) (by rfl) z_len PySem.boot_len (pa_cons (pv 1) pa_nil)) rfl) (pe_and (pe_cmpR (k_eqD T.K rfl (by exact hr.units)) (pv 3) (pv 0) rfl) (pe_one (pe_cmpR (k_eqD T.K rfl (by exact hr.units)) (pv 4) (pv 1) rfl)))))) pss_nil))))), rfl⟩) .nil) (fun W pn xe tk _ => ex_t ⟨_, (pss_cons (ps_expr (pe_kr k__law_asked tk (hr.mono (by decide)) (by rfl) (pa_cons (pv 3) (pa_cons (pv 4) (pa_cons (pv 2) pa_nil))))) pss_nil), rfl⟩)) (pss_cons (ps_ret pe_bl) pss_nil)))), ?_⟩
  rintro ⟨v_mine, v_theirs, v_times, _⟩
  show BD _ _ _ (m__law_refused v_mine v_theirs v_times) _
  unfold m__law_refused
  refine bd_setNP (EvN.cast (evn_flat (l2 := .fr) (evn_listof (evm_var rfl))) (by first | with_reducible rfl | (simp -implicitDefEqProofs only [R.bind_assoc, R.bind_ok, R.bind_right, R.of_some, compR_map, compR_filter, compR_id, compR_idF, R.ifm_ok, Bool.and_true, Bool.or_false, R.ite_and, R.ite_or]; done) | (simp -implicitDefEqProofs only [R.bind_assoc, R.bind_ok, R.bind_right, R.of_some, compR_map, compR_filter, compR_id, compR_idF, R.ifm_ok, Bool.and_true, Bool.or_false, R.ite_ok, R.ite_and, R.ite_or]; done) | rfl)) trivial (lt_of rfl) ?_
  intro v_one_1
  refine bd_setNP (EvN.cast (evn_flat (l2 := .fr) (evn_listof (evm_var rfl))) (by first | with_reducible rfl | (simp -implicitDefEqProofs only [R.bind_assoc, R.bind_ok, R.bind_right, R.of_some, compR_map, compR_filter, compR_id, compR_idF, R.ifm_ok, Bool.and_true, Bool.or_false, R.ite_and, R.ite_or]; done) | (simp -implicitDefEqProofs only [R.bind_assoc, R.bind_ok, R.bind_right, R.of_some, compR_map, compR_filter, compR_id, compR_idF, R.ifm_ok, Bool.and_true, Bool.or_false, R.ite_ok, R.ite_and, R.ite_or]; done) | rfl)) trivial (lt_of rfl) ?_
  intro v_two_2
  refine bd_seqL (es := (fun _ : Unit => [.sh .pa (enc (v_mine : (List Int))), .sh .pa (enc (v_theirs : (List Int))), .sh .pa (enc (v_times : Int)), .ow .fr ((v_one_1 : (List Int)).map enc), .ow .fr ((v_two_2 : (List Int)).map enc), .un])) (er := fun a => enc a) ?_ ?_ (fun a => ⟨_, rfl, rfl⟩)
  · refine bd_tryM (okc := (fun x => (x.c == 1) && x.vs.all flV)) (ms := fun x => (R.ite (decide (x.c = 1)) (R.f2 x.vs fun (f24 : Int) (f23 : Int) => (R.ifm (R.ok ((!true) || (!true))) (R.bind (R.ok false) fun a25 => R.ok (Lr.rt a25)) (R.ifm (R.ok false) (R.bind (R.ok false) fun a26 => R.ok (Lr.rt a26)) (R.ifm (R.ok false) (R.bind (R.ok false) fun a27 => R.ok (Lr.rt a27)) (R.ifm (R.bind (R.bind (m__law_is_int f23) fun t28 => R.ok (!t28)) fun t30 => (R.ite t30 (R.ok true) (R.bind (m__law_is_int f24) fun t29 => R.ok (!t29)))) (R.bind (R.ok false) fun a31 => R.ok (Lr.rt a31)) (R.bind (R.ok ((decide (f23 = (v_mine.length : Int))) && ((decide (f24 = (v_theirs.length : Int))) && ((eqP (enc v_one_1) (enc v_mine)) && (eqP (enc v_two_2) (enc v_theirs)))))) fun a32 => R.ok (Lr.rt a32))))))) (R.bad))) (fun b => by cases b with | nx s => exact .inl ⟨_, rfl⟩ | rt a => exact .inr ⟨_, rfl⟩) (fun x hx => by rw [Bool.and_eq_true] at hx; exact hx.2) (fun x hok => ?_) (fun W => ?_)
    · obtain ⟨c, vs⟩ := x
      rw [Bool.and_eq_true] at hok
      have hc := hok.1
      simp only [Bool.or_eq_true, beq_iff_eq] at hc
      subst hc
      refine .named m_BadHands_ClimbrowError__y (lt_of rfl) (fun a d => ?_)
      show BD _ _ _ (R.f2 vs fun (f24 : Int) (f23 : Int) => (R.ifm (R.ok ((!true) || (!true))) (R.bind (R.ok false) fun a25 => R.ok (Lr.rt a25)) (R.ifm (R.ok false) (R.bind (R.ok false) fun a26 => R.ok (Lr.rt a26)) (R.ifm (R.ok false) (R.bind (R.ok false) fun a27 => R.ok (Lr.rt a27)) (R.ifm (R.bind (R.bind (m__law_is_int f23) fun t28 => R.ok (!t28)) fun t30 => (R.ite t30 (R.ok true) (R.bind (m__law_is_int f24) fun t29 => R.ok (!t29)))) (R.bind (R.ok false) fun a31 => R.ok (Lr.rt a31)) (R.bind (R.ok ((decide (f23 = (v_mine.length : Int))) && ((decide (f24 = (v_theirs.length : Int))) && ((eqP (enc v_one_1) (enc v_mine)) && (eqP (enc v_two_2) (enc v_theirs)))))) fun a32 => R.ok (Lr.rt a32))))))) _
      refine bd_f2 fun f24 f23 hv => ?_
      subst hv
      refine bd_assoc ?_
      refine bd_if (EvT.cast (evt_or (evt_not (evt_B (evm_isX (x := ⟨1, [enc f24, enc f23]⟩) (c := .ref (T.addr 1)) rfl (List.cons_ne_nil _ _) v_BadHands (.own _) t_BadHands_BadHands))) (evt_not (evt_B (evm_isX (x := ⟨1, [enc f24, enc f23]⟩) (c := .ty "ValueError") rfl (List.cons_ne_nil _ _) v_BadHands (.ty _) t_BadHands_ValueError)))) (by first | with_reducible rfl | (simp -implicitDefEqProofs only [R.bind_assoc, R.bind_ok, R.bind_right, R.of_some, compR_map, compR_filter, compR_id, compR_idF, R.ifm_ok, Bool.and_true, Bool.or_false, R.ite_and, R.ite_or]; done) | (simp -implicitDefEqProofs only [R.bind_assoc, R.bind_ok, R.bind_right, R.of_some, compR_map, compR_filter, compR_id, compR_idF, R.ifm_ok, Bool.and_true, Bool.or_false, R.ite_ok, R.ite_and, R.ite_or]; done) | rfl)) ?_ ?_
      · refine bd_assoc ?_
        exact bd_ret (k := fun a25 => (Lr.rt a25)) rfl (Evm.cast evm_bl (by first | with_reducible rfl | (simp -implicitDefEqProofs only [R.bind_assoc, R.bind_ok, R.bind_right, R.of_some, compR_map, compR_filter, compR_id, compR_idF, R.ifm_ok, Bool.and_true, Bool.or_false, R.ite_and, R.ite_or]; done) | (simp -implicitDefEqProofs only [R.bind_assoc, R.bind_ok, R.bind_right, R.of_some, compR_map, compR_filter, compR_id, compR_idF, R.ifm_ok, Bool.and_true, Bool.or_false, R.ite_ok, R.ite_and, R.ite_or]; done) | rfl)) (fun _ => rfl)
      · refine bd_nil ?_
        refine bd_assoc ?_
        refine bd_if (EvT.cast (evt_B (evm_isXT (x := ⟨1, [enc f24, enc f23]⟩) (cs := [.ref (T.addr 9), .ref (T.addr 3), .ref (T.addr 4), .ref (T.addr 5), .ref (T.addr 10), .ref (T.addr 11), .ref (T.addr 2), .ref (T.addr 8)]) (cvs := [.ref (T.addr 9), .ref (T.addr 3), .ref (T.addr 4), .ref (T.addr 5), .ref (T.addr 10), .ref (T.addr 11), .ref (T.addr 2), .ref (T.addr 8)]) rfl (List.cons_ne_nil _ _) v_BadHands (by show (8 : Nat) ≤ 1000; decide) (.cons (.own _) (.cons (.own _) (.cons (.own _) (.cons (.own _) (.cons (.own _) (.cons (.own _) (.cons (.own _) (.cons (.own _) .nil)))))))) (kitAny_cons (r := false) t_BadHands_BadBounds (fun _ => (kitAny_cons (r := false) t_BadHands_BadCard (fun _ => (kitAny_cons (r := false) t_BadHands_BadPairing (fun _ => (kitAny_cons (r := false) t_BadHands_BadPlace (fun _ => (kitAny_cons (r := false) t_BadHands_BadSchedule (fun _ => (kitAny_cons (r := false) t_BadHands_BadText (fun _ => (kitAny_cons (r := false) t_BadHands_BadWord (fun _ => (kitAny_cons (r := false) t_BadHands_Contradiction (fun _ => kitAny_nil) (fun z => Bool.noConfusion z))) (fun z => Bool.noConfusion z))) (fun z => Bool.noConfusion z))) (fun z => Bool.noConfusion z))) (fun z => Bool.noConfusion z))) (fun z => Bool.noConfusion z))) (fun z => Bool.noConfusion z))) (fun z => Bool.noConfusion z)))) (by first | with_reducible rfl | (simp -implicitDefEqProofs only [R.bind_assoc, R.bind_ok, R.bind_right, R.of_some, compR_map, compR_filter, compR_id, compR_idF, R.ifm_ok, Bool.and_true, Bool.or_false, R.ite_and, R.ite_or]; done) | (simp -implicitDefEqProofs only [R.bind_assoc, R.bind_ok, R.bind_right, R.of_some, compR_map, compR_filter, compR_id, compR_idF, R.ifm_ok, Bool.and_true, Bool.or_false, R.ite_ok, R.ite_and, R.ite_or]; done) | rfl)) ?_ ?_
        · refine bd_assoc ?_
          exact bd_ret (k := fun a26 => (Lr.rt a26)) rfl (Evm.cast evm_bl (by first | with_reducible rfl | (simp -implicitDefEqProofs only [R.bind_assoc, R.bind_ok, R.bind_right, R.of_some, compR_map, compR_filter, compR_id, compR_idF, R.ifm_ok, Bool.and_true, Bool.or_false, R.ite_and, R.ite_or]; done) | (simp -implicitDefEqProofs only [R.bind_assoc, R.bind_ok, R.bind_right, R.of_some, compR_map, compR_filter, compR_id, compR_idF, R.ifm_ok, Bool.and_true, Bool.or_false, R.ite_ok, R.ite_and, R.ite_or]; done) | rfl)) (fun _ => rfl)
        · refine bd_nil ?_
          refine bd_assoc ?_
          refine bd_if (EvT.cast (evt_B (evm_isXT (x := ⟨1, [enc f24, enc f23]⟩) (cs := [.ref (T.addr 13), .ref (T.addr 6), .ref (T.addr 12), .ref (T.addr 7)]) (cvs := [.ref (T.addr 13), .ref (T.addr 6), .ref (T.addr 12), .ref (T.addr 7)]) rfl (List.cons_ne_nil _ _) v_BadHands (by show (4 : Nat) ≤ 1000; decide) (.cons (.own _) (.cons (.own _) (.cons (.own _) (.cons (.own _) .nil)))) (kitAny_cons (r := false) t_BadHands_DuplicateName (fun _ => (kitAny_cons (r := false) t_BadHands_OutOfTurn (fun _ => (kitAny_cons (r := false) t_BadHands_UnknownName (fun _ => (kitAny_cons (r := false) t_BadHands_Unreachable (fun _ => kitAny_nil) (fun z => Bool.noConfusion z))) (fun z => Bool.noConfusion z))) (fun z => Bool.noConfusion z))) (fun z => Bool.noConfusion z)))) (by first | with_reducible rfl | (simp -implicitDefEqProofs only [R.bind_assoc, R.bind_ok, R.bind_right, R.of_some, compR_map, compR_filter, compR_id, compR_idF, R.ifm_ok, Bool.and_true, Bool.or_false, R.ite_and, R.ite_or]; done) | (simp -implicitDefEqProofs only [R.bind_assoc, R.bind_ok, R.bind_right, R.of_some, compR_map, compR_filter, compR_id, compR_idF, R.ifm_ok, Bool.and_true, Bool.or_false, R.ite_ok, R.ite_and, R.ite_or]; done) | rfl)) ?_ ?_
          · refine bd_assoc ?_
            exact bd_ret (k := fun a27 => (Lr.rt a27)) rfl (Evm.cast evm_bl (by first | with_reducible rfl | (simp -implicitDefEqProofs only [R.bind_assoc, R.bind_ok, R.bind_right, R.of_some, compR_map, compR_filter, compR_id, compR_idF, R.ifm_ok, Bool.and_true, Bool.or_false, R.ite_and, R.ite_or]; done) | (simp -implicitDefEqProofs only [R.bind_assoc, R.bind_ok, R.bind_right, R.of_some, compR_map, compR_filter, compR_id, compR_idF, R.ifm_ok, Bool.and_true, Bool.or_false, R.ite_ok, R.ite_and, R.ite_or]; done) | rfl)) (fun _ => rfl)
          · refine bd_nil ?_
            refine bd_assoc ?_
            refine bd_if (EvT.cast (evt_or (evt_not (evt_B (evm_callF rfl (eva_cons (evm_flat (l2 := .raw) (evm_xfU (x := ⟨1, [enc f24, enc f23]⟩) (f := "mine_count") (v := f23) (j := 1) rfl (List.cons_ne_nil _ _) (by rw [y_BadHands.fl]; decide) (by rw [y_BadHands.fl]; rfl) rfl rfl xf_BadHands xn_BadHands_mine_count)) eva_nil)))) (evt_not (evt_B (evm_callF rfl (eva_cons (evm_flat (l2 := .raw) (evm_xfU (x := ⟨1, [enc f24, enc f23]⟩) (f := "theirs_count") (v := f24) (j := 0) rfl (List.cons_ne_nil _ _) (by rw [y_BadHands.fl]; decide) (by rw [y_BadHands.fl]; rfl) rfl rfl xf_BadHands xn_BadHands_theirs_count)) eva_nil))))) (by first | with_reducible rfl | (simp -implicitDefEqProofs only [R.bind_assoc, R.bind_ok, R.bind_right, R.of_some, compR_map, compR_filter, compR_id, compR_idF, R.ifm_ok, Bool.and_true, Bool.or_false, R.ite_and, R.ite_or]; done) | (simp -implicitDefEqProofs only [R.bind_assoc, R.bind_ok, R.bind_right, R.of_some, compR_map, compR_filter, compR_id, compR_idF, R.ifm_ok, Bool.and_true, Bool.or_false, R.ite_ok, R.ite_and, R.ite_or]; done) | rfl)) ?_ ?_
            · refine bd_assoc ?_
              exact bd_ret (k := fun a31 => (Lr.rt a31)) rfl (Evm.cast evm_bl (by first | with_reducible rfl | (simp -implicitDefEqProofs only [R.bind_assoc, R.bind_ok, R.bind_right, R.of_some, compR_map, compR_filter, compR_id, compR_idF, R.ifm_ok, Bool.and_true, Bool.or_false, R.ite_and, R.ite_or]; done) | (simp -implicitDefEqProofs only [R.bind_assoc, R.bind_ok, R.bind_right, R.of_some, compR_map, compR_filter, compR_id, compR_idF, R.ifm_ok, Bool.and_true, Bool.or_false, R.ite_ok, R.ite_and, R.ite_or]; done) | rfl)) (fun _ => rfl)
            · refine bd_nil ?_
              refine bd_assoc ?_
              exact bd_ret (k := fun a32 => (Lr.rt a32)) rfl (Evm.cast (evm_and (evm_opT (evm_xfU (x := ⟨1, [enc f24, enc f23]⟩) (f := "mine_count") (v := f23) (j := 1) rfl (List.cons_ne_nil _ _) (by rw [y_BadHands.fl]; decide) (by rw [y_BadHands.fl]; rfl) rfl rfl xf_BadHands xn_BadHands_mine_count) (evm_cbT (eva_cons (evm_raw (evm_var rfl)) eva_nil) fun _ => ra_len) fun _ _ => rv_eqI) (evm_and (evm_opT (evm_xfU (x := ⟨1, [enc f24, enc f23]⟩) (f := "theirs_count") (v := f24) (j := 0) rfl (List.cons_ne_nil _ _) (by rw [y_BadHands.fl]; decide) (by rw [y_BadHands.fl]; rfl) rfl rfl xf_BadHands xn_BadHands_theirs_count) (evm_cbT (eva_cons (evm_raw (evm_var rfl)) eva_nil) fun _ => ra_len) fun _ _ => rv_eqI) (evm_and (evm_opT (evm_own rfl) (evm_var rfl) fun _ _ => rv_eqD (α := (List Int)) (β := (List Int))) (evm_opT (evm_own rfl) (evm_var rfl) fun _ _ => rv_eqD (α := (List Int)) (β := (List Int)))))) (by first | with_reducible rfl | (simp -implicitDefEqProofs only [R.bind_assoc, R.bind_ok, R.bind_right, R.of_some, compR_map, compR_filter, compR_id, compR_idF, R.ifm_ok, Bool.and_true, Bool.or_false, R.ite_and, R.ite_or]; done) | (simp -implicitDefEqProofs only [R.bind_assoc, R.bind_ok, R.bind_right, R.of_some, compR_map, compR_filter, compR_id, compR_idF, R.ifm_ok, Bool.and_true, Bool.or_false, R.ite_ok, R.ite_and, R.ite_or]; done) | rfl)) (fun _ => rfl)
    · refine bdx_assoc ?_
      refine bdx_end (Evm.cast (evm_ofD (evd_callX rfl (eva_cons (evm_own rfl) (eva_cons (evm_own rfl) (eva_cons (evm_flat (l2 := .raw) (evm_var rfl)) eva_nil))))) (by first | with_reducible rfl | (simp -implicitDefEqProofs only [R.bind_assoc, R.bind_ok, R.bind_right, R.of_some, compR_map, compR_filter, compR_id, compR_idF, R.ifm_ok, Bool.and_true, Bool.or_false, R.ite_and, R.ite_or]; done) | (simp -implicitDefEqProofs only [R.bind_assoc, R.bind_ok, R.bind_right, R.of_some, compR_map, compR_filter, compR_id, compR_idF, R.ifm_ok, Bool.and_true, Bool.or_false, R.ite_ok, R.ite_and, R.ite_or]; done) | rfl)) ?_
      repeat (with_reducible refine bd_nil ?_)
      exact bd_end (Wk.keep (Wk.keep (Wk.keep (Wk.keep (Wk.keep (Wk.keep Wk.nil)))))) rfl
  intro _
  exact bd_ret1 rfl (Evm.cast evm_bl (by first | with_reducible rfl | (simp -implicitDefEqProofs only [R.bind_assoc, R.bind_ok, R.bind_right, R.of_some, compR_map, compR_filter, compR_id, compR_idF, R.ifm_ok, Bool.and_true, Bool.or_false, R.ite_and, R.ite_or]; done) | (simp -implicitDefEqProofs only [R.bind_assoc, R.bind_ok, R.bind_right, R.of_some, compR_map, compR_filter, compR_id, compR_idF, R.ifm_ok, Bool.and_true, Bool.or_false, R.ite_ok, R.ite_and, R.ite_or]; done) | rfl)) (fun _ => rfl)
theorem ok_law {f : Addr} {fd : FuncData} (F : Fun K "law" "law" s_law f fd) (hT : T.K = K) (k__law_cell : Kd P w K mg base CX0 "_law_cell" ["_law_script", "_law_k"] 1 (Pm T (.val .fr) (fun b : Scr × Int × Unit => m__law_cell b.1 b.2.1))) (k__law_draws : Kd P w K mg base CX0 "_law_draws" ["_law_cell_here", "_law_sizes"] 1 (Pm T (.nw .fr) (fun b : Int × (List Int) × Unit => m__law_draws b.1 b.2.1))) (k__law_factorial : Kd P w K mg base CX0 "_law_factorial" ["_law_count"] 1 (Pm T (.val .fr) (fun b : Int × Unit => m__law_factorial b.1))) (k__law_hands : Kd P w K mg base CX0 "_law_hands" ["_law_script", "_law_at", "_law_count"] 3 (Pm T (.val .fr) (fun b : Scr × Int × Int × Unit => m__law_hands b.1 b.2.1 b.2.2.1))) (k__law_pairing : Kd P w K mg base CX0 "_law_pairing" ["_law_cell_here", "_law_count"] 2 (Pm T (.nw .fr) (fun b : Int × Int × Unit => m__law_pairing b.1 b.2.1))) (k__law_refused : Kd P w K mg base CX0 "_law_refused" ["_law_mine", "_law_theirs", "_law_times"] 8 (Pm T (.val .fr) (fun b : (List Int) × (List Int) × Int × Unit => m__law_refused b.1 b.2.1 b.2.2.1))) (k__law_turn_good : Kd P w K mg base CX0 "_law_turn_good" ["_law_one", "_law_two", "_law_times", "_law_pairings"] 8 (Pm T (.val .fr) (fun b : (List Int) × (List Int) × Int × (List (List Int)) × Unit => m__law_turn_good b.1 b.2.1 b.2.2.1 b.2.2.2.1))) (k__law_unrank : Kd P w K mg base CX0 "_law_unrank" ["_law_number", "_law_count"] 1 (Pm T (.nw .fr) (fun b : Int × Int × Unit => m__law_unrank b.1 b.2.1))) (z_int : mg "int" = none) (z_list : mg "list" = none) (z_range : mg "range" = none) :
    FnOk P w K mg base CX0 9 f fd ["_law_script"] (Pm T (.val .fr) (fun b : Scr × Unit => m_law b.1)) := by
  subst hT
  refine fn_pm F sc_law (fun _ => rfl) fun cdv A outer s H E hr => ⟨_, (pss_cons (ps_set (i := 1) sc_law.nd rfl (Or.inr rfl) (pe_kd k__law_draws (hr.mono (by decide)) (by rfl) (pa_cons (pe_kd k__law_cell (hr.mono (by decide)) (by rfl) (pa_cons (pv 0) (pa_cons pe_int pa_nil))) (pa_cons (pe_lst (pa_cons pe_int (pa_cons pe_int (pa_cons pe_int (pa_cons pe_int (pa_cons pe_int (pa_cons pe_int (pa_cons pe_int (pa_cons pe_int pa_nil))))))))) pa_nil)))) (pss_cons (ps_set (i := 2) sc_law.nd rfl (Or.inr rfl) (pe_ix (k_ixl T.K rfl) (pv 1) pe_int (fun _ _ => rfl))) (pss_cons (ps_if (pt_cmpR op_eq (pe_ix (k_ixl T.K rfl) (pv 1) pe_int (fun _ _ => rfl)) pe_int rfl) (pss_cons (ps_set (i := 2) sc_law.nd rfl (Or.inr rfl) (pe_ix (k_ixl T.K rfl) (pv 1) pe_int (fun _ _ => rfl))) pss_nil) pss_nil) (pss_cons (ps_set (i := 3) sc_law.nd rfl (Or.inl rfl) (pe_kd k__law_hands (hr.mono (by decide)) (by rfl) (pa_cons (pv 0) (pa_cons pe_int (pa_cons (pv 2) pa_nil))))) (pss_cons (ps_set (i := 4) sc_law.nd rfl (Or.inl rfl) (pe_ix (k_ixt T.K rfl) (pv 3) pe_int (fun _ _ => rfl))) (pss_cons (ps_set (i := 5) sc_law.nd rfl (Or.inl rfl) (pe_ix (k_ixt T.K rfl) (pv 3) pe_int (fun _ _ => rfl))) (pss_cons (ps_if (pt_cmpR op_eq (pe_ix (k_ixl T.K rfl) (pv 1) pe_int (fun _ _ => rfl)) pe_int rfl) (pss_cons (ps_setLc (i := 4) (own := [("_law_x", 11)]) (g := (gName 11)) rfl sc_law.nd rfl rfl (sw_true rfl rfl rfl (by decide +kernel)) (k_pil T.K rfl (pv 4)) (blkOk_by (N := N_law) (sc := defScope s_law) (by decide +kernel)) (fun _ _ _ _ _ => (pg_name (i := 11) sc_law.nd rfl (Or.inl rfl))) (fun _ _ _ _ _ => pts_nil) (fun _ _ _ _ _ => pe_int)) (pss_cons (ps_setLc (i := 5) (own := [("_law_x", 11)]) (g := (gName 11)) rfl sc_law.nd rfl rfl (sw_true rfl rfl rfl (by decide +kernel)) (k_pil T.K rfl (pv 5)) (blkOk_by (N := N_law) (sc := defScope s_law) (by decide +kernel)) (fun _ _ _ _ _ => (pg_name (i := 11) sc_law.nd rfl (Or.inl rfl))) (fun _ _ _ _ _ => pts_nil) (fun _ _ _ _ _ => (pe_op op_sub (pe_ix (k_ixl T.K rfl) (pv 1) pe_int (fun _ _ => rfl)) pe_int))) pss_nil)) pss_nil) (pss_cons (ps_if (pt_cmpR op_le (pv 2) pe_int rfl) (pss_cons (ps_setLc (i := 9) (own := [("_law_k", 12)]) (g := (gName 12)) rfl sc_law.nd rfl rfl (sw_true rfl rfl rfl (by decide +kernel)) (pi_range1 (by rfl) z_range (pa_cons (pe_kd k__law_factorial (hr.mono (by decide)) (by rfl) (pa_cons (pv 2) pa_nil)) pa_nil)) (blkOk_by (N := N_law) (sc := defScope s_law) (by decide +kernel)) (fun _ _ _ _ _ => (pg_name (i := 12) sc_law.nd rfl (Or.inl rfl))) (fun _ _ _ _ _ => pts_nil) (fun _ _ _ _ _ => (pe_kd k__law_unrank (hr.mono (by decide)) (by rfl) (pa_cons (pv 12) (pa_cons (pv 2) pa_nil))))) pss_nil) (pss_cons (ps_setLc (i := 9) (own := [("_law_k", 12)]) (g := (gName 12)) rfl sc_law.nd rfl rfl (sw_true rfl rfl rfl (by decide +kernel)) (pi_range1 (by rfl) z_range (pa_cons pe_int pa_nil)) (blkOk_by (N := N_law) (sc := defScope s_law) (by decide +kernel)) (fun _ _ _ _ _ => (pg_name (i := 12) sc_law.nd rfl (Or.inl rfl))) (fun _ _ _ _ _ => pts_nil) (fun _ _ _ _ _ => (pe_kd k__law_pairing (hr.mono (by decide)) (by rfl) (pa_cons (pe_kd k__law_cell (hr.mono (by decide)) (by rfl) (pa_cons (pv 0) (pa_cons (pe_op op_add pe_int (pv 12)) pa_nil))) (pa_cons (pv 2) pa_nil))))) pss_nil)) (pss_cons (ps_set (i := 6) sc_law.nd rfl (Or.inl rfl) (pe_callTy (k_list T.K rfl) (by rfl) z_list PyProof.Rows.boot_list (pa_cons (pv 4) pa_nil))) (pss_cons (ps_set (i := 7) sc_law.nd rfl (Or.inl rfl) (pe_callTy (k_list T.K rfl) (by rfl) z_list PyProof.Rows.boot_list (pa_cons (pv 5) pa_nil))) (pss_cons (ps_for PassesOwn.never rfl (k_pil T.K rfl (pe_lst (pa_cons (pe_un un_neg pe_int) (pa_cons pe_int (pa_cons pe_int (pa_cons (pe_ix (k_ixl T.K rfl) (pv 1) pe_int (fun _ _ => rfl)) (pa_cons (pe_op op_mul pe_int (pv 2)) (pa_cons (pe_op op_mod (pe_callTy call_int1 (by rfl) z_int PyProof.Rows.boot_int (pa_cons (pe_ix (k_ixl T.K rfl) (pv 1) pe_int (fun _ _ => rfl)) pa_nil)) (pe_op op_add (pe_op op_mul pe_int (pv 2)) pe_int)) pa_nil)))))))) (pg_name (i := 8) sc_law.nd rfl (Or.inl rfl)) (pss_cons (ps_if (pt_not (pt_val (pe_kd k__law_turn_good (hr.mono (by decide)) (by rfl) (pa_cons (pv 6) (pa_cons (pv 7) (pa_cons (pv 8) (pa_cons (pv 9) pa_nil))))))) (pss_cons (ps_ret pe_bl) pss_nil) pss_nil) pss_nil)) (pss_cons (ps_for PassesOwn.never rfl (k_pil T.K rfl (pe_lst (pa_cons (pe_un un_neg pe_int) (pa_cons pe_int (pa_cons (pe_op op_add pe_int (pe_ix (k_ixl T.K rfl) (pv 1) pe_int (fun _ _ => rfl))) pa_nil))))) (pg_name (i := 8) sc_law.nd rfl (Or.inl rfl)) (pss_cons (ps_if (pw_or (pt_not (pt_val (pe_kd k__law_refused (hr.mono (by decide)) (by rfl) (pa_cons (pe_op op_cat (pv 4) (pe_lst (pa_cons (pe_ix (k_ixl T.K rfl) (pv 1) pe_int (fun _ _ => rfl)) pa_nil))) (pa_cons (pv 5) (pa_cons (pv 8) pa_nil)))))) (pw_or1 (pt_not (pt_val (pe_kd k__law_refused (hr.mono (by decide)) (by rfl) (pa_cons (pv 4) (pa_cons (pe_op op_cat (pv 5) (pe_lst (pa_cons pe_int pa_nil))) (pa_cons (pv 8) pa_nil)))))))).pt (pss_cons (ps_ret pe_bl) pss_nil) pss_nil) (pss_cons (ps_if (pw_and (pt_cmpR op_gt (pv 2) pe_int rfl) (pw_and1 (pt_not (pt_val (pe_kd k__law_refused (hr.mono (by decide)) (by rfl) (pa_cons (pe_slice (k_sll T.K rfl) (pv 4) po_none (po_some (pe_op op_mod (pe_callTy call_int1 (by rfl) z_int PyProof.Rows.boot_int (pa_cons (pe_ix (k_ixl T.K rfl) (pv 1) pe_int (fun _ _ => rfl)) pa_nil)) (pv 2)))) (pa_cons (pv 5) (pa_cons (pv 8) pa_nil)))))))).pt (pss_cons (ps_ret pe_bl) pss_nil) pss_nil) pss_nil))) (pss_cons (ps_if (pt_cmpR op_gt (pv 2) pe_int rfl) (pss_cons (ps_set (i := 10) sc_law.nd rfl (Or.inl rfl) (pe_op op_mod (pe_callTy call_int1 (by rfl) z_int PyProof.Rows.boot_int (pa_cons (pe_ix (k_ixl T.K rfl) (pv 1) pe_int (fun _ _ => rfl)) pa_nil)) (pv 2))) (pss_cons (ps_asg (pe_callTy call_int1 (by rfl) z_int PyProof.Rows.boot_int (pa_cons (pe_cmpR op_eq (pe_ix (k_ixl T.K rfl) (pv 6) (pv 10) (fun _ _ => rfl)) pe_int rfl) pa_nil)) (pg_sub (pv 6) (pv 10) set_list)) pss_nil)) pss_nil) (pss_cons (ps_ret (pe_kd k__law_turn_good (hr.mono (by decide)) (by rfl) (pa_cons (pv 6) (pa_cons (pv 7) (pa_cons (pe_op op_add pe_int (pe_ix (k_ixl T.K rfl) (pv 1) pe_int (fun _ _ => rfl))) (pa_cons (pv 9) pa_nil)))))) pss_nil)))))))))))))), ?_⟩
  rintro ⟨v_script, _⟩
  show BD _ _ _ (m_law v_script) _
  unfold m_law
  refine bd_setN (EvN.cast (evn_callF rfl (eva_cons (evm_flat (l2 := .raw) (evm_callF rfl (eva_cons (evm_raw (evm_var rfl)) (eva_cons (evm_flat (l2 := .raw) evm_int) eva_nil)))) (eva_cons (evm_raw (evn_ev (evn_lst (l := .fr) (f := fun b : Int × Int × Int × Int × Int × Int × Int × Int × Unit => ([b.1, b.2.1, b.2.2.1, b.2.2.2.1, b.2.2.2.2.1, b.2.2.2.2.2.1, b.2.2.2.2.2.2.1, b.2.2.2.2.2.2.2.1] : (List Int))) (eva_cons evm_int (eva_cons evm_int (eva_cons evm_int (eva_cons evm_int (eva_cons evm_int (eva_cons evm_int (eva_cons evm_int (eva_cons evm_int eva_nil)))))))) (fun _ => rfl) (fun _ => by show (8 : Nat) ≤ 1000; decide)))) eva_nil))) (by first | with_reducible rfl | (simp -implicitDefEqProofs only [R.bind_assoc, R.bind_ok, R.bind_right, R.of_some, compR_map, compR_filter, compR_id, compR_idF, R.ifm_ok, Bool.and_true, Bool.or_false, R.ite_and, R.ite_or]; done) | (simp -implicitDefEqProofs only [R.bind_assoc, R.bind_ok, R.bind_right, R.of_some, compR_map, compR_filter, compR_id, compR_idF, R.ifm_ok, Bool.and_true, Bool.or_false, R.ite_ok, R.ite_and, R.ite_or]; done) | rfl)) trivial (lt_of rfl) ?_
  intro v_shape_2
  refine bd_set (Evm.cast (evm_ixo rfl evm_int) (by first | with_reducible rfl | (simp -implicitDefEqProofs only [R.bind_assoc, R.bind_ok, R.bind_right, R.of_some, compR_map, compR_filter, compR_id, compR_idF, R.ifm_ok, Bool.and_true, Bool.or_false, R.ite_and, R.ite_or]; done) | (simp -implicitDefEqProofs only [R.bind_assoc, R.bind_ok, R.bind_right, R.of_some, compR_map, compR_filter, compR_id, compR_idF, R.ifm_ok, Bool.and_true, Bool.or_false, R.ite_ok, R.ite_and, R.ite_or]; done) | rfl)) trivial (lt_of rfl) ?_
  intro v_count_3
  refine bd_join (es := (fun s6 : Int => [.sh .pa (enc (v_script : Scr)), .ow .fr ((v_shape_2 : (List Int)).map enc), .sh .fr (enc (s6 : Int)), .un, .un, .un, .un, .un, .un, .un, .un, .un, .un])) (bd_tail ?_) ?_
  · refine bd_if (EvT.cast (evt_test (evm_opT (evm_ixo rfl evm_int) evm_int fun _ _ => rv_eqI)) (by first | with_reducible rfl | (simp -implicitDefEqProofs only [R.bind_assoc, R.bind_ok, R.bind_right, R.of_some, compR_map, compR_filter, compR_id, compR_idF, R.ifm_ok, Bool.and_true, Bool.or_false, R.ite_and, R.ite_or]; done) | (simp -implicitDefEqProofs only [R.bind_assoc, R.bind_ok, R.bind_right, R.of_some, compR_map, compR_filter, compR_id, compR_idF, R.ifm_ok, Bool.and_true, Bool.or_false, R.ite_ok, R.ite_and, R.ite_or]; done) | rfl)) ?_ ?_
    · refine bd_assoc ?_
      refine bd_set (Evm.cast (evm_ixo rfl evm_int) (by first | with_reducible rfl | (simp -implicitDefEqProofs only [R.bind_assoc, R.bind_ok, R.bind_right, R.of_some, compR_map, compR_filter, compR_id, compR_idF, R.ifm_ok, Bool.and_true, Bool.or_false, R.ite_and, R.ite_or]; done) | (simp -implicitDefEqProofs only [R.bind_assoc, R.bind_ok, R.bind_right, R.of_some, compR_map, compR_filter, compR_id, compR_idF, R.ifm_ok, Bool.and_true, Bool.or_false, R.ite_ok, R.ite_and, R.ite_or]; done) | rfl)) trivial (lt_of rfl) ?_
      intro v_count_7
      refine bd_nil ?_
      exact bd_end (Wk.keep (Wk.keep (Wk.keep (Wk.keep (Wk.keep (Wk.keep (Wk.keep (Wk.keep (Wk.keep (Wk.keep (Wk.keep (Wk.keep (Wk.keep Wk.nil))))))))))))) rfl
    · refine bd_nil ?_
      exact bd_end (Wk.keep (Wk.keep (Wk.keep (Wk.keep (Wk.keep (Wk.keep (Wk.keep (Wk.keep (Wk.keep (Wk.keep (Wk.keep (Wk.keep (Wk.keep Wk.nil))))))))))))) rfl
  intro s6
  refine bd_set (Evm.cast (evm_callF rfl (eva_cons (evm_raw (evm_var rfl)) (eva_cons (evm_flat (l2 := .raw) evm_int) (eva_cons (evm_flat (l2 := .raw) (evm_var rfl)) eva_nil)))) (by first | with_reducible rfl | (simp -implicitDefEqProofs only [R.bind_assoc, R.bind_ok, R.bind_right, R.of_some, compR_map, compR_filter, compR_id, compR_idF, R.ifm_ok, Bool.and_true, Bool.or_false, R.ite_and, R.ite_or]; done) | (simp -implicitDefEqProofs only [R.bind_assoc, R.bind_ok, R.bind_right, R.of_some, compR_map, compR_filter, compR_id, compR_idF, R.ifm_ok, Bool.and_true, Bool.or_false, R.ite_ok, R.ite_and, R.ite_or]; done) | rfl)) trivial (lt_of rfl) ?_
  intro v_hands_8
  refine bd_setP (Evm.cast (evm_ixt (j := 0) (g := fun d : (List Int) × (List Int) × Unit => d.1) (evm_var rfl) (fun _ => rfl)) (by first | with_reducible rfl | (simp -implicitDefEqProofs only [R.bind_assoc, R.bind_ok, R.bind_right, R.of_some, compR_map, compR_filter, compR_id, compR_idF, R.ifm_ok, Bool.and_true, Bool.or_false, R.ite_and, R.ite_or]; done) | (simp -implicitDefEqProofs only [R.bind_assoc, R.bind_ok, R.bind_right, R.of_some, compR_map, compR_filter, compR_id, compR_idF, R.ifm_ok, Bool.and_true, Bool.or_false, R.ite_ok, R.ite_and, R.ite_or]; done) | rfl)) trivial (lt_of rfl) ?_
  intro v_mine_9
  refine bd_setP (Evm.cast (evm_ixt (j := 1) (g := fun d : (List Int) × (List Int) × Unit => d.2.1) (evm_var rfl) (fun _ => rfl)) (by first | with_reducible rfl | (simp -implicitDefEqProofs only [R.bind_assoc, R.bind_ok, R.bind_right, R.of_some, compR_map, compR_filter, compR_id, compR_idF, R.ifm_ok, Bool.and_true, Bool.or_false, R.ite_and, R.ite_or]; done) | (simp -implicitDefEqProofs only [R.bind_assoc, R.bind_ok, R.bind_right, R.of_some, compR_map, compR_filter, compR_id, compR_idF, R.ifm_ok, Bool.and_true, Bool.or_false, R.ite_ok, R.ite_and, R.ite_or]; done) | rfl)) trivial (lt_of rfl) ?_
  intro v_theirs_10
  refine bd_join (es := (fun s18 : (List Int) × (List Int) => [.sh .pa (enc (v_script : Scr)), .ow .fr ((v_shape_2 : (List Int)).map enc), .sh .fr (enc (s6 : Int)), .sh .fr (enc (v_hands_8 : (Tp ((List Int) × (List Int) × Unit)))), .sh .fr (enc (s18.1 : (List Int))), .sh .fr (enc (s18.2 : (List Int))), .un, .un, .un, .un, .un, .un, .un])) (bd_tail ?_) ?_
  · refine bd_if (EvT.cast (evt_test (evm_opT (evm_ixo rfl evm_int) evm_int fun _ _ => rv_eqI)) (by first | with_reducible rfl | (simp -implicitDefEqProofs only [R.bind_assoc, R.bind_ok, R.bind_right, R.of_some, compR_map, compR_filter, compR_id, compR_idF, R.ifm_ok, Bool.and_true, Bool.or_false, R.ite_and, R.ite_or]; done) | (simp -implicitDefEqProofs only [R.bind_assoc, R.bind_ok, R.bind_right, R.of_some, compR_map, compR_filter, compR_id, compR_idF, R.ifm_ok, Bool.and_true, Bool.or_false, R.ite_ok, R.ite_and, R.ite_or]; done) | rfl)) ?_ ?_
    · refine bd_assoc ?_
      refine bd_setNP (EvN.cast (evn_lc (l := .fr) (l1 := .fr) (l3 := .fr) rfl trivial trivial (.inl rfl) (evi_list (evm_var rfl)) (hv1 rfl rfl) (tg_name trivial) (fun x19 => evt_yes) (fun x19 => evm_int)) (by first | with_reducible rfl | (simp -implicitDefEqProofs only [R.bind_assoc, R.bind_ok, R.bind_right, R.of_some, compR_map, compR_filter, compR_id, compR_idF, R.ifm_ok, Bool.and_true, Bool.or_false, R.ite_and, R.ite_or]; done) | (simp -implicitDefEqProofs only [R.bind_assoc, R.bind_ok, R.bind_right, R.of_some, compR_map, compR_filter, compR_id, compR_idF, R.ifm_ok, Bool.and_true, Bool.or_false, R.ite_ok, R.ite_and, R.ite_or]; done) | rfl)) trivial (lt_of rfl) ?_
      intro v_mine_20
      refine bd_assoc ?_
      refine bd_setN (EvN.cast (evn_lc (l := .fr) (l1 := .fr) (l3 := .fr) rfl trivial trivial (.inl rfl) (evi_list (evm_var rfl)) (hv1 rfl rfl) (tg_name trivial) (fun x21 => evt_yes) (fun x21 => (evm_opT (evm_ixo rfl evm_int) evm_int fun _ _ => rv_II))) (by first | with_reducible rfl | (simp -implicitDefEqProofs only [R.bind_assoc, R.bind_ok, R.bind_right, R.of_some, compR_map, compR_filter, compR_id, compR_idF, R.ifm_ok, Bool.and_true, Bool.or_false, R.ite_and, R.ite_or]; done) | (simp -implicitDefEqProofs only [R.bind_assoc, R.bind_ok, R.bind_right, R.of_some, compR_map, compR_filter, compR_id, compR_idF, R.ifm_ok, Bool.and_true, Bool.or_false, R.ite_ok, R.ite_and, R.ite_or]; done) | rfl)) trivial (lt_of rfl) ?_
      intro v_theirs_24
      refine bd_nil ?_
      exact bd_end (Wk.keep (Wk.keep (Wk.keep (Wk.keep (Wk.share (Wk.share (Wk.keep (Wk.keep (Wk.keep (Wk.keep (Wk.keep (Wk.keep (Wk.keep Wk.nil))))))))))))) rfl
    · refine bd_nil ?_
      exact bd_end (Wk.keep (Wk.keep (Wk.keep (Wk.keep (Wk.keep (Wk.keep (Wk.keep (Wk.keep (Wk.keep (Wk.keep (Wk.keep (Wk.keep (Wk.keep Wk.nil))))))))))))) rfl
  intro s18
  refine bd_join (es := (fun s33 : (List (List Int)) => [.sh .pa (enc (v_script : Scr)), .ow .fr ((v_shape_2 : (List Int)).map enc), .sh .fr (enc (s6 : Int)), .sh .fr (enc (v_hands_8 : (Tp ((List Int) × (List Int) × Unit)))), .sh .fr (enc (s18.1 : (List Int))), .sh .fr (enc (s18.2 : (List Int))), .un, .un, .un, .ow .fr ((s33 : (List (List Int))).map enc), .un, .un, .un])) (bd_tail ?_) ?_
  · refine bd_if (EvT.cast (evt_test (evm_opT (evm_var rfl) evm_int fun _ _ => rv_IB)) (by first | with_reducible rfl | (simp -implicitDefEqProofs only [R.bind_assoc, R.bind_ok, R.bind_right, R.of_some, compR_map, compR_filter, compR_id, compR_idF, R.ifm_ok, Bool.and_true, Bool.or_false, R.ite_and, R.ite_or]; done) | (simp -implicitDefEqProofs only [R.bind_assoc, R.bind_ok, R.bind_right, R.of_some, compR_map, compR_filter, compR_id, compR_idF, R.ifm_ok, Bool.and_true, Bool.or_false, R.ite_ok, R.ite_and, R.ite_or]; done) | rfl)) ?_ ?_
    · refine bd_assoc ?_
      refine bd_setN (EvN.cast (evn_lc (l := .fr) (l1 := .fr) (l3 := .fr) rfl trivial trivial (.inl rfl) (evi_rng1 (evm_callF rfl (eva_cons (evm_flat (l2 := .raw) (evm_var rfl)) eva_nil))) (hv1 rfl rfl) (tg_name trivial) (fun x35 => evt_yes) (fun x35 => (evn_ev (evn_callF rfl (eva_cons (evm_flat (l2 := .raw) (evm_var rfl)) (eva_cons (evm_flat (l2 := .raw) (evm_var rfl)) eva_nil)))))) (by first | with_reducible rfl | (simp -implicitDefEqProofs only [R.bind_assoc, R.bind_ok, R.bind_right, R.of_some, compR_map, compR_filter, compR_id, compR_idF, R.ifm_ok, Bool.and_true, Bool.or_false, R.ite_and, R.ite_or]; done) | (simp -implicitDefEqProofs only [R.bind_assoc, R.bind_ok, R.bind_right, R.of_some, compR_map, compR_filter, compR_id, compR_idF, R.ifm_ok, Bool.and_true, Bool.or_false, R.ite_ok, R.ite_and, R.ite_or]; done) | rfl)) trivial (lt_of rfl) ?_
      intro v_pairings_37
      refine bd_nil ?_
      exact bd_end (Wk.keep (Wk.keep (Wk.keep (Wk.keep (Wk.keep (Wk.keep (Wk.keep (Wk.keep (Wk.keep (Wk.keep (Wk.keep (Wk.keep (Wk.keep Wk.nil))))))))))))) rfl
    · refine bd_assoc ?_
      refine bd_setN (EvN.cast (evn_lc (l := .fr) (l1 := .fr) (l3 := .fr) rfl trivial trivial (.inl rfl) (evi_rng1 evm_int) (hv1 rfl rfl) (tg_name trivial) (fun x38 => evt_yes) (fun x38 => (evn_ev (evn_callF rfl (eva_cons (evm_flat (l2 := .raw) (evm_callF rfl (eva_cons (evm_raw (evm_var rfl)) (eva_cons (evm_flat (l2 := .raw) (evm_opT evm_int (evm_var rfl) fun _ _ => rv_II)) eva_nil)))) (eva_cons (evm_flat (l2 := .raw) (evm_var rfl)) eva_nil)))))) (by first | with_reducible rfl | (simp -implicitDefEqProofs only [R.bind_assoc, R.bind_ok, R.bind_right, R.of_some, compR_map, compR_filter, compR_id, compR_idF, R.ifm_ok, Bool.and_true, Bool.or_false, R.ite_and, R.ite_or]; done) | (simp -implicitDefEqProofs only [R.bind_assoc, R.bind_ok, R.bind_right, R.of_some, compR_map, compR_filter, compR_id, compR_idF, R.ifm_ok, Bool.and_true, Bool.or_false, R.ite_ok, R.ite_and, R.ite_or]; done) | rfl)) trivial (lt_of rfl) ?_
      intro v_pairings_41
      refine bd_nil ?_
      exact bd_end (Wk.keep (Wk.keep (Wk.keep (Wk.keep (Wk.keep (Wk.keep (Wk.keep (Wk.keep (Wk.keep (Wk.keep (Wk.keep (Wk.keep (Wk.keep Wk.nil))))))))))))) rfl
  intro s33
  refine bd_setNP (EvN.cast (evn_listof (evm_var rfl)) (by first | with_reducible rfl | (simp -implicitDefEqProofs only [R.bind_assoc, R.bind_ok, R.bind_right, R.of_some, compR_map, compR_filter, compR_id, compR_idF, R.ifm_ok, Bool.and_true, Bool.or_false, R.ite_and, R.ite_or]; done) | (simp -implicitDefEqProofs only [R.bind_assoc, R.bind_ok, R.bind_right, R.of_some, compR_map, compR_filter, compR_id, compR_idF, R.ifm_ok, Bool.and_true, Bool.or_false, R.ite_ok, R.ite_and, R.ite_or]; done) | rfl)) trivial (lt_of rfl) ?_
  intro v_one_42
  refine bd_setNP (EvN.cast (evn_listof (evm_var rfl)) (by first | with_reducible rfl | (simp -implicitDefEqProofs only [R.bind_assoc, R.bind_ok, R.bind_right, R.of_some, compR_map, compR_filter, compR_id, compR_idF, R.ifm_ok, Bool.and_true, Bool.or_false, R.ite_and, R.ite_or]; done) | (simp -implicitDefEqProofs only [R.bind_assoc, R.bind_ok, R.bind_right, R.of_some, compR_map, compR_filter, compR_id, compR_idF, R.ifm_ok, Bool.and_true, Bool.or_false, R.ite_ok, R.ite_and, R.ite_or]; done) | rfl)) trivial (lt_of rfl) ?_
  intro v_two_43
  refine bd_for (l1 := .fr) (es := (fun s54 : Unit => [.sh .pa (enc (v_script : Scr)), .ow .fr ((v_shape_2 : (List Int)).map enc), .sh .fr (enc (s6 : Int)), .sh .fr (enc (v_hands_8 : (Tp ((List Int) × (List Int) × Unit)))), .sh .fr (enc (s18.1 : (List Int))), .sh .fr (enc (s18.2 : (List Int))), .ow .fr ((v_one_42 : (List Int)).map enc), .ow .fr ((v_two_43 : (List Int)).map enc), .un, .ow .fr ((s33 : (List (List Int))).map enc), .un, .un, .un])) (er := fun a => enc a) (EvI.cast (evi_list (evn_ev (evn_lst (l := .fr) (f := fun b : Int × Int × Int × Int × Int × Int × Unit => ([b.1, b.2.1, b.2.2.1, b.2.2.2.1, b.2.2.2.2.1, b.2.2.2.2.2.1] : (List Int))) (eva_cons (evm_un evm_int fun _ _ => ru_neg) (eva_cons evm_int (eva_cons evm_int (eva_cons (evm_ixo rfl evm_int) (eva_cons (evm_op evm_int (evm_var rfl) fun _ _ _ _ => rv_mul) (eva_cons (evm_op (evm_cbT (eva_cons (evm_flat (l2 := .raw) (evm_ixo rfl evm_int)) eva_nil) fun _ => ra_int) (evm_opT (evm_op evm_int (evm_var rfl) fun _ _ _ _ => rv_mul) evm_int fun _ _ => rv_II) fun _ _ _ _ => rv_mod) eva_nil)))))) (fun _ => rfl) (fun _ => by show (6 : Nat) ≤ 1000; decide)))) (by first | with_reducible rfl | (simp -implicitDefEqProofs only [R.bind_assoc, R.bind_ok, R.bind_right, R.of_some, compR_map, compR_filter, compR_id, compR_idF, R.ifm_ok, Bool.and_true, Bool.or_false, R.ite_and, R.ite_or]; done) | (simp -implicitDefEqProofs only [R.bind_assoc, R.bind_ok, R.bind_right, R.of_some, compR_map, compR_filter, compR_id, compR_idF, R.ifm_ok, Bool.and_true, Bool.or_false, R.ite_ok, R.ite_and, R.ite_or]; done) | rfl)) trivial (Wk.keep (Wk.keep (Wk.keep (Wk.keep (Wk.keep (Wk.keep (Wk.keep (Wk.keep (Wk.keep (Wk.keep (Wk.keep (Wk.keep (Wk.keep Wk.nil))))))))))))) (tg_name trivial) (hu1 fun _ => rfl) ?_ ?_ (fun a => ⟨_, rfl, rfl⟩)
  · intro x53 s54
    unfold m_law_b1
    refine bd_if (EvT.cast (evt_not (evt_B (evm_callF rfl (eva_cons (evm_own rfl) (eva_cons (evm_own rfl) (eva_cons (evm_flat (l2 := .raw) (evm_var rfl)) (eva_cons (evm_own rfl) eva_nil))))))) (by first | with_reducible rfl | (simp -implicitDefEqProofs only [R.bind_assoc, R.bind_ok, R.bind_right, R.of_some, compR_map, compR_filter, compR_id, compR_idF, R.ifm_ok, Bool.and_true, Bool.or_false, R.ite_and, R.ite_or]; done) | (simp -implicitDefEqProofs only [R.bind_assoc, R.bind_ok, R.bind_right, R.of_some, compR_map, compR_filter, compR_id, compR_idF, R.ifm_ok, Bool.and_true, Bool.or_false, R.ite_ok, R.ite_and, R.ite_or]; done) | rfl)) ?_ ?_
    · refine bd_assoc ?_
      exact bd_ret (k := fun a56 => (Stp.rt a56)) rfl (Evm.cast evm_bl (by first | with_reducible rfl | (simp -implicitDefEqProofs only [R.bind_assoc, R.bind_ok, R.bind_right, R.of_some, compR_map, compR_filter, compR_id, compR_idF, R.ifm_ok, Bool.and_true, Bool.or_false, R.ite_and, R.ite_or]; done) | (simp -implicitDefEqProofs only [R.bind_assoc, R.bind_ok, R.bind_right, R.of_some, compR_map, compR_filter, compR_id, compR_idF, R.ifm_ok, Bool.and_true, Bool.or_false, R.ite_ok, R.ite_and, R.ite_or]; done) | rfl)) (fun _ => rfl)
    · refine bd_nil ?_
      exact bd_end (Wk.keep (Wk.keep (Wk.keep (Wk.keep (Wk.keep (Wk.keep (Wk.keep (Wk.keep (Wk.lose (Wk.keep (Wk.keep (Wk.keep (Wk.keep Wk.nil))))))))))))) rfl
  intro s54
  refine bd_for (l1 := .fr) (es := (fun s60 : Unit => [.sh .pa (enc (v_script : Scr)), .ow .fr ((v_shape_2 : (List Int)).map enc), .sh .fr (enc (s6 : Int)), .sh .fr (enc (v_hands_8 : (Tp ((List Int) × (List Int) × Unit)))), .sh .fr (enc (s18.1 : (List Int))), .sh .fr (enc (s18.2 : (List Int))), .ow .fr ((v_one_42 : (List Int)).map enc), .ow .fr ((v_two_43 : (List Int)).map enc), .un, .ow .fr ((s33 : (List (List Int))).map enc), .un, .un, .un])) (er := fun a => enc a) (EvI.cast (evi_list (evn_ev (evn_lst (l := .fr) (f := fun b : Int × Int × Int × Unit => ([b.1, b.2.1, b.2.2.1] : (List Int))) (eva_cons (evm_un evm_int fun _ _ => ru_neg) (eva_cons evm_int (eva_cons (evm_opT evm_int (evm_ixo rfl evm_int) fun _ _ => rv_II) eva_nil))) (fun _ => rfl) (fun _ => by show (3 : Nat) ≤ 1000; decide)))) (by first | with_reducible rfl | (simp -implicitDefEqProofs only [R.bind_assoc, R.bind_ok, R.bind_right, R.of_some, compR_map, compR_filter, compR_id, compR_idF, R.ifm_ok, Bool.and_true, Bool.or_false, R.ite_and, R.ite_or]; done) | (simp -implicitDefEqProofs only [R.bind_assoc, R.bind_ok, R.bind_right, R.of_some, compR_map, compR_filter, compR_id, compR_idF, R.ifm_ok, Bool.and_true, Bool.or_false, R.ite_ok, R.ite_and, R.ite_or]; done) | rfl)) trivial (Wk.keep (Wk.keep (Wk.keep (Wk.keep (Wk.keep (Wk.keep (Wk.keep (Wk.keep (Wk.keep (Wk.keep (Wk.keep (Wk.keep (Wk.keep Wk.nil))))))))))))) (tg_name trivial) (hu1 fun _ => rfl) ?_ ?_ (fun a => ⟨_, rfl, rfl⟩)
  · intro x59 s60
    unfold m_law_b2
    refine bd_if (EvT.cast (evt_or (evt_not (evt_B (evm_callF rfl (eva_cons (evm_raw (evn_ev (evn_flat (l2 := .fr) (evn_cat (l := .raw) (evm_raw (evm_var rfl)) (evm_raw (evn_ev (evn_lst (l := .fr) (f := fun b : Int × Unit => ([b.1] : (List Int))) (eva_cons (evm_ixo rfl evm_int) eva_nil) (fun _ => rfl) (fun _ => by show (1 : Nat) ≤ 1000; decide)))))))) (eva_cons (evm_raw (evm_var rfl)) (eva_cons (evm_flat (l2 := .raw) (evm_var rfl)) eva_nil)))))) (evt_not (evt_B (evm_callF rfl (eva_cons (evm_raw (evm_var rfl)) (eva_cons (evm_raw (evn_ev (evn_flat (l2 := .fr) (evn_cat (l := .raw) (evm_raw (evm_var rfl)) (evm_raw (evn_ev (evn_lst (l := .fr) (f := fun b : Int × Unit => ([b.1] : (List Int))) (eva_cons evm_int eva_nil) (fun _ => rfl) (fun _ => by show (1 : Nat) ≤ 1000; decide)))))))) (eva_cons (evm_flat (l2 := .raw) (evm_var rfl)) eva_nil))))))) (by first | with_reducible rfl | (simp -implicitDefEqProofs only [R.bind_assoc, R.bind_ok, R.bind_right, R.of_some, compR_map, compR_filter, compR_id, compR_idF, R.ifm_ok, Bool.and_true, Bool.or_false, R.ite_and, R.ite_or]; done) | (simp -implicitDefEqProofs only [R.bind_assoc, R.bind_ok, R.bind_right, R.of_some, compR_map, compR_filter, compR_id, compR_idF, R.ifm_ok, Bool.and_true, Bool.or_false, R.ite_ok, R.ite_and, R.ite_or]; done) | rfl)) ?_ ?_
    · refine bd_assoc ?_
      exact bd_ret (k := fun a68 => (Stp.rt a68)) rfl (Evm.cast evm_bl (by first | with_reducible rfl | (simp -implicitDefEqProofs only [R.bind_assoc, R.bind_ok, R.bind_right, R.of_some, compR_map, compR_filter, compR_id, compR_idF, R.ifm_ok, Bool.and_true, Bool.or_false, R.ite_and, R.ite_or]; done) | (simp -implicitDefEqProofs only [R.bind_assoc, R.bind_ok, R.bind_right, R.of_some, compR_map, compR_filter, compR_id, compR_idF, R.ifm_ok, Bool.and_true, Bool.or_false, R.ite_ok, R.ite_and, R.ite_or]; done) | rfl)) (fun _ => rfl)
    · refine bd_nil ?_
      refine bd_if (EvT.cast (evt_and (evt_test (evm_opT (evm_var rfl) evm_int fun _ _ => rv_IB)) (evt_not (evt_B (evm_callF rfl (eva_cons (evm_raw (evn_ev (evn_sl (evm_var rfl) evo_none (evo_some (evm_op (evm_cbT (eva_cons (evm_flat (l2 := .raw) (evm_ixo rfl evm_int)) eva_nil) fun _ => ra_int) (evm_var rfl) fun _ _ _ _ => rv_mod))))) (eva_cons (evm_raw (evm_var rfl)) (eva_cons (evm_flat (l2 := .raw) (evm_var rfl)) eva_nil))))))) (by first | with_reducible rfl | (simp -implicitDefEqProofs only [R.bind_assoc, R.bind_ok, R.bind_right, R.of_some, compR_map, compR_filter, compR_id, compR_idF, R.ifm_ok, Bool.and_true, Bool.or_false, R.ite_and, R.ite_or]; done) | (simp -implicitDefEqProofs only [R.bind_assoc, R.bind_ok, R.bind_right, R.of_some, compR_map, compR_filter, compR_id, compR_idF, R.ifm_ok, Bool.and_true, Bool.or_false, R.ite_ok, R.ite_and, R.ite_or]; done) | rfl)) ?_ ?_
      · refine bd_assoc ?_
        exact bd_ret (k := fun a75 => (Stp.rt a75)) rfl (Evm.cast evm_bl (by first | with_reducible rfl | (simp -implicitDefEqProofs only [R.bind_assoc, R.bind_ok, R.bind_right, R.of_some, compR_map, compR_filter, compR_id, compR_idF, R.ifm_ok, Bool.and_true, Bool.or_false, R.ite_and, R.ite_or]; done) | (simp -implicitDefEqProofs only [R.bind_assoc, R.bind_ok, R.bind_right, R.of_some, compR_map, compR_filter, compR_id, compR_idF, R.ifm_ok, Bool.and_true, Bool.or_false, R.ite_ok, R.ite_and, R.ite_or]; done) | rfl)) (fun _ => rfl)
      · refine bd_nil ?_
        exact bd_end (Wk.keep (Wk.keep (Wk.keep (Wk.keep (Wk.keep (Wk.keep (Wk.keep (Wk.keep (Wk.lose (Wk.keep (Wk.keep (Wk.keep (Wk.keep Wk.nil))))))))))))) rfl
  intro s60
  refine bd_join (es := (fun s85 : (List Int) => [.sh .pa (enc (v_script : Scr)), .ow .fr ((v_shape_2 : (List Int)).map enc), .sh .fr (enc (s6 : Int)), .sh .fr (enc (v_hands_8 : (Tp ((List Int) × (List Int) × Unit)))), .sh .fr (enc (s18.1 : (List Int))), .sh .fr (enc (s18.2 : (List Int))), .ow .fr ((s85 : (List Int)).map enc), .ow .fr ((v_two_43 : (List Int)).map enc), .un, .ow .fr ((s33 : (List (List Int))).map enc), .un, .un, .un])) (bd_tail ?_) ?_
  · refine bd_if (EvT.cast (evt_test (evm_opT (evm_var rfl) evm_int fun _ _ => rv_IB)) (by first | with_reducible rfl | (simp -implicitDefEqProofs only [R.bind_assoc, R.bind_ok, R.bind_right, R.of_some, compR_map, compR_filter, compR_id, compR_idF, R.ifm_ok, Bool.and_true, Bool.or_false, R.ite_and, R.ite_or]; done) | (simp -implicitDefEqProofs only [R.bind_assoc, R.bind_ok, R.bind_right, R.of_some, compR_map, compR_filter, compR_id, compR_idF, R.ifm_ok, Bool.and_true, Bool.or_false, R.ite_ok, R.ite_and, R.ite_or]; done) | rfl)) ?_ ?_
    · refine bd_assoc ?_
      refine bd_set (Evm.cast (evm_op (evm_cbT (eva_cons (evm_flat (l2 := .raw) (evm_ixo rfl evm_int)) eva_nil) fun _ => ra_int) (evm_var rfl) fun _ _ _ _ => rv_mod) (by first | with_reducible rfl | (simp -implicitDefEqProofs only [R.bind_assoc, R.bind_ok, R.bind_right, R.of_some, compR_map, compR_filter, compR_id, compR_idF, R.ifm_ok, Bool.and_true, Bool.or_false, R.ite_and, R.ite_or]; done) | (simp -implicitDefEqProofs only [R.bind_assoc, R.bind_ok, R.bind_right, R.of_some, compR_map, compR_filter, compR_id, compR_idF, R.ifm_ok, Bool.and_true, Bool.or_false, R.ite_ok, R.ite_and, R.ite_or]; done) | rfl)) trivial (lt_of rfl) ?_
      intro v_a_89
      refine bd_assoc ?_
      refine bd_seti (by rfl) (Evm.cast (evm_cbT (eva_cons (evm_flat (l2 := .raw) (evm_opT (evm_ixo rfl (evm_var rfl)) evm_int fun _ _ => rv_eqI)) eva_nil) fun _ => ra_intB) (by first | with_reducible rfl | (simp -implicitDefEqProofs only [R.bind_assoc, R.bind_ok, R.bind_right, R.of_some, compR_map, compR_filter, compR_id, compR_idF, R.ifm_ok, Bool.and_true, Bool.or_false, R.ite_and, R.ite_or]; done) | (simp -implicitDefEqProofs only [R.bind_assoc, R.bind_ok, R.bind_right, R.of_some, compR_map, compR_filter, compR_id, compR_idF, R.ifm_ok, Bool.and_true, Bool.or_false, R.ite_ok, R.ite_and, R.ite_or]; done) | rfl)) (Evm.cast (evm_var rfl) (by first | with_reducible rfl | (simp -implicitDefEqProofs only [R.bind_assoc, R.bind_ok, R.bind_right, R.of_some, compR_map, compR_filter, compR_id, compR_idF, R.ifm_ok, Bool.and_true, Bool.or_false, R.ite_and, R.ite_or]; done) | (simp -implicitDefEqProofs only [R.bind_assoc, R.bind_ok, R.bind_right, R.of_some, compR_map, compR_filter, compR_id, compR_idF, R.ifm_ok, Bool.and_true, Bool.or_false, R.ite_ok, R.ite_and, R.ite_or]; done) | rfl)) ?_
      intro v_one_92
      refine bd_nil ?_
      exact bd_end (Wk.keep (Wk.keep (Wk.keep (Wk.keep (Wk.keep (Wk.keep (Wk.keep (Wk.keep (Wk.keep (Wk.keep (Wk.lose (Wk.keep (Wk.keep Wk.nil))))))))))))) rfl
    · refine bd_nil ?_
      exact bd_end (Wk.keep (Wk.keep (Wk.keep (Wk.keep (Wk.keep (Wk.keep (Wk.keep (Wk.keep (Wk.keep (Wk.keep (Wk.keep (Wk.keep (Wk.keep Wk.nil))))))))))))) rfl
  intro s85
  exact bd_ret1 rfl (Evm.cast (evm_callF rfl (eva_cons (evm_own rfl) (eva_cons (evm_own rfl) (eva_cons (evm_flat (l2 := .raw) (evm_opT evm_int (evm_ixo rfl evm_int) fun _ _ => rv_II)) (eva_cons (evm_own rfl) eva_nil))))) (by first | with_reducible rfl | (simp -implicitDefEqProofs only [R.bind_assoc, R.bind_ok, R.bind_right, R.of_some, compR_map, compR_filter, compR_id, compR_idF, R.ifm_ok, Bool.and_true, Bool.or_false, R.ite_and, R.ite_or]; done) | (simp -implicitDefEqProofs only [R.bind_assoc, R.bind_ok, R.bind_right, R.of_some, compR_map, compR_filter, compR_id, compR_idF, R.ifm_ok, Bool.and_true, Bool.or_false, R.ite_ok, R.ite_and, R.ite_or]; done) | rfl)) (fun _ => rfl)
end
end K14

set_option linter.all false
set_option maxRecDepth 100000
set_option maxHeartbeats 4000000
namespace K14
open PySem PySem.Spec L2 Pv Rot
open Cm (srt Card isM isT cmOf ctOf pos num idx res IsP)
open Enc (enc)
open Encs (encs)
theorem e_cell : m__law_cell = Cm.m__law_cell := rfl
theorem e_draws : m__law_draws = Cm.m__law_draws := rfl
theorem e_hands : m__law_hands = Cm.m__law_hands := rfl
theorem e_order : m__law_order = Cm.m__law_order := rfl
theorem e_deck : m_deck = Cm.m_deck := rfl
theorem e_result : m__law_result = Cm.m__law_result := rfl
theorem e_unrank : m__law_unrank = Cm.m__law_unrank := rfl
theorem e_fact : m__law_factorial = Cm.m__law_factorial := rfl
theorem e_pairing : m__law_pairing = Cm.m__law_pairing := rfl
theorem leT_of {c d : Card} (h : ltT c d = true) : leT c d = true := by
  unfold ltT at h
  rw [Cm.lex_eq] at h
  unfold leT
  rw [Srt3.lexL_asym _ _ h]
  rfl
/-- the card with another number -/
def mvC (c : Card) (B : Int) : Card := ⟨(B, c.t.2.1, c.t.2.2.1, ())⟩
theorem set_getD {a : List Int} {m i : Nat} {B : Int} (hm : m < a.length) : (a.set m B).getD i 0 = if i = m then B else a.getD i 0 := by
  rw [List.getD_eq_getElem?_getD, List.getElem?_set]
  by_cases e : m = i
  · subst e
    rw [if_pos rfl, if_pos hm, if_pos rfl]
    rfl
  · rw [if_neg e, if_neg (fun z => e z.symm), List.getD_eq_getElem?_getD]
section
variable {a b : List Int}
theorem cards_M {m : Nat} (hm : m < a.length) (B : Int) : Cm.cards (a.set m B) b = (Cm.cards a b).map fun d => if d = cmOf a m then mvC d B else d := by
  rw [Cm.cards_is, Cm.cards_is, List.map_append, List.map_map, List.map_map, List.length_set]
  congr 1
  · refine List.map_congr_left fun i hi => ?_
    show _ = if ctOf b i = cmOf a m then _ else _
    rw [if_neg (fun e => Cm.MT_ne m i e.symm)]
  · refine List.map_congr_left fun i hi => ?_
    show _ = if cmOf a i = cmOf a m then mvC (cmOf a i) B else cmOf a i
    rw [set_getD hm]
    by_cases e : i = m
    · subst e
      rw [if_pos rfl, if_pos rfl]
      rfl
    · rw [if_neg e, if_neg (Cm.M_ne e)]
      rfl
theorem cards_T {t : Nat} (ht : t < b.length) (B : Int) : Cm.cards a (b.set t B) = (Cm.cards a b).map fun d => if d = ctOf b t then mvC d B else d := by
  rw [Cm.cards_is, Cm.cards_is, List.map_append, List.map_map, List.map_map, List.length_set]
  congr 1
  · refine List.map_congr_left fun i hi => ?_
    show _ = if ctOf b i = ctOf b t then mvC (ctOf b i) B else ctOf b i
    rw [set_getD ht]
    by_cases e : i = t
    · subst e
      rw [if_pos rfl, if_pos rfl]
      rfl
    · rw [if_neg e, if_neg (Cm.T_ne e)]
      rfl
  · refine List.map_congr_left fun i hi => ?_
    show _ = if cmOf a i = ctOf b t then _ else _
    rw [if_neg (Cm.MT_ne i t)]
/-- the top card goes below all others -/
theorem srt_mv {a' b' : List Int} {P : List Card} {c : Card} {B : Int} (hS : srt a b = P ++ [c]) (hB : ∀ d, d ∈ srt a b → B < num d) (e : Cm.cards a' b' = (Cm.cards a b).map fun d => if d = c then mvC d B else d) : srt a' b' = mvC c B :: P := by
  have nd := Cm.srt_nodup (mine := a) (theirs := b)
  have lt := Cm.srt_lt a b
  rw [hS] at nd lt
  have np : ∀ d, d ∈ P → d ≠ c := fun d hd e => (List.nodup_append.mp nd).2.2 d hd c (List.mem_singleton.mpr rfl) e
  have pm : (srt a' b').Perm (mvC c B :: P) := by
    have p1 : (srt a' b').Perm ((srt a b).map fun d => if d = c then mvC d B else d) := (Cm.srt_perm a' b').trans (by rw [e]; exact (Cm.srt_perm a b).symm.map _)
    rw [hS, List.map_append, List.map_singleton, if_pos rfl, List.map_congr_left (g := id) (fun d hd => by rw [if_neg (np d hd)]; rfl), List.map_id] at p1
    exact p1.trans List.perm_append_comm
  refine sortT_one pm (sortT_le _) (List.pairwise_cons.mpr ⟨fun d hd => leT_of ?_, ((List.pairwise_append.mp lt).1).imp fun h => leT_of h⟩)
  rw [Cm.ltT_card]
  have q : B < d.t.1 := hB d (by rw [hS]; exact List.mem_append_left _ hd)
  show (if B = d.t.1 then _ else decide (B < d.t.1)) = true
  rw [if_neg (by omega), decide_eq_true q]
theorem head_le {x : Card} {xs : List Card} (h : srt a b = x :: xs) {d : Card} (hd : d ∈ srt a b) : num x ≤ num d := by
  have lt := Cm.srt_lt a b
  rw [h] at lt hd
  rcases List.mem_cons.mp hd with rfl | hd
  · exact Int.le_refl _
  · exact Cm.num_le ((List.pairwise_cons.mp lt).1 d hd)
theorem below_last {P : List Card} {c : Card} (h : srt a b = P ++ [c]) {d : Card} (hd : d ∈ srt a b) (ne : d ≠ c) : ltT d c = true := by
  have lt := Cm.srt_lt a b
  rw [h] at lt hd
  rcases List.mem_append.mp hd with m | m
  · exact (List.pairwise_append.mp lt).2.2 d m c (List.mem_singleton.mpr rfl)
  · exact absurd (List.mem_singleton.mp m) ne
theorem cm_mem {i : Nat} (h : i < a.length) : cmOf a i ∈ srt a b := (Cm.srt_perm a b).mem_iff.mpr (by rw [Cm.cards_is]; exact List.mem_append_right _ (List.mem_map.mpr ⟨i, List.mem_range.mpr h, rfl⟩))
theorem ct_mem {i : Nat} (h : i < b.length) : ctOf b i ∈ srt a b := (Cm.srt_perm a b).mem_iff.mpr (by rw [Cm.cards_is]; exact List.mem_append_left _ (List.mem_map.mpr ⟨i, List.mem_range.mpr h, rfl⟩))
/-- the least number of all -/
theorem min_is {x : Card} {xs : List Card} (h : srt a b = x :: xs) (ha : 0 < a.length) (hb : 0 < b.length) : (R.bind (R.of (a.min?)) fun t1 => R.bind (R.of (b.min?)) fun t2 => (R.ok (if t2 < t1 then t2 else t1))) = .ok (num x) := by
  obtain ⟨ma, ea⟩ : ∃ z, a.min? = some z := by
    cases e : a.min? with
    | none => rw [List.min?_eq_none_iff.mp e] at ha; exact absurd ha (Nat.lt_irrefl _)
    | some z => exact ⟨z, rfl⟩
  obtain ⟨mb, eb⟩ : ∃ z, b.min? = some z := by
    cases e : b.min? with
    | none => rw [List.min?_eq_none_iff.mp e] at hb; exact absurd hb (Nat.lt_irrefl _)
    | some z => exact ⟨z, rfl⟩
  rw [ea, eb, R.of_some, R.bind_ok, R.of_some, R.bind_ok]
  obtain ⟨ma1, ma2⟩ := List.min?_eq_some_iff.mp ea
  obtain ⟨mb1, mb2⟩ := List.min?_eq_some_iff.mp eb
  have la : num x ≤ ma := by
    obtain ⟨i, hi, rfl⟩ := List.getElem_of_mem ma1
    have := head_le h (cm_mem (b := b) hi)
    have e : num (cmOf a i) = a[i] := by show a.getD i 0 = _; rw [List.getD_eq_getElem?_getD, List.getElem?_eq_getElem hi]; rfl
    omega
  have lb : num x ≤ mb := by
    obtain ⟨i, hi, rfl⟩ := List.getElem_of_mem mb1
    have := head_le h (ct_mem (a := a) hi)
    have e : num (ctOf b i) = b[i] := by show b.getD i 0 = _; rw [List.getD_eq_getElem?_getD, List.getElem?_eq_getElem hi]; rfl
    omega
  have up : ma ≤ num x ∨ mb ≤ num x := by
    have hx : x ∈ srt a b := by rw [h]; exact List.mem_cons_self
    rcases Cm.mem_idx hx with ⟨_, i, hi, e⟩ | ⟨_, i, hi, e⟩
    · left
      rw [e]
      show ma ≤ a.getD i 0
      rw [List.getD_eq_getElem?_getD, List.getElem?_eq_getElem hi]
      exact ma2 _ (List.getElem_mem hi)
    · right
      rw [e]
      show mb ≤ b.getD i 0
      rw [List.getD_eq_getElem?_getD, List.getElem?_eq_getElem hi]
      exact mb2 _ (List.getElem_mem hi)
  congr 1
  split <;> omega
theorem last_at {α : Type} {P : List α} {c : α} : atI (P ++ [c]) (-(1 : Int)) = some c := (Pv.atI_last _).trans (by rw [List.getLast?_append]; rfl)
theorem set_cut {a : List Int} {m : Nat} (hm : m < a.length) (hl : a.length ≤ 1000) (B : Int) : (R.bind (R.of (catL (cutL a none (some (m : Int))) ([B] : List Int))) fun t7 => (R.of (catL t7 (cutL a (some ((m : Int) + (1 : Int))) none)))) = .ok (a.set m B) := by
  have hLm : (LIM : Nat) = 1000000 := rfl
  rw [cutL_to (by omega), cutL_from (by omega), Int.toNat_natCast, show ((m : Int) + 1).toNat = m + 1 by omega]
  rw [show catL (a.take m) [B] = some (a.take m ++ [B]) from if_pos (by rw [List.length_take]; show _ + 1 ≤ _; omega), R.of_some, R.bind_ok]
  rw [show catL (a.take m ++ [B]) (a.drop (m + 1)) = some (a.take m ++ [B] ++ a.drop (m + 1)) from if_pos (by rw [List.length_append, List.length_take, List.length_drop]; show _ + 1 + _ ≤ _; omega), R.of_some]
  congr 1
  rw [List.set_eq_take_append_cons_drop, if_pos hm, List.append_assoc]
  rfl
end
end K14
namespace K14
open PySem PySem.Spec L2 Pv Rot
open Cm (srt Card isM isT cmOf ctOf pos num idx res IsP)
open Enc (enc)
open Encs (encs)
/-- what one step makes: the card c, last of the deck, takes the number B -/
def newA (a : List Int) (c : Card) (B : Int) : List Int := if isM c then a.set (idx c).toNat B else a
def newB (b : List Int) (c : Card) (B : Int) : List Int := if isM c then b else b.set (idx c).toNat B
def sg (c : Card) : Int := if isM c then -1 else 1
section
variable {a b : List Int}
theorem new_len (c : Card) (B : Int) : (newA a c B).length = a.length ∧ (newB b c B).length = b.length := by
  unfold newA newB
  cases isM c
  · exact ⟨rfl, List.length_set ..⟩
  · exact ⟨List.length_set .., rfl⟩
theorem srt_new {P : List Card} {c : Card} {B : Int} (hS : srt a b = P ++ [c]) (hB : ∀ d, d ∈ srt a b → B < num d) : srt (newA a c B) (newB b c B) = mvC c B :: P := by
  have mc : c ∈ srt a b := by rw [hS]; exact List.mem_append_right _ (List.mem_singleton.mpr rfl)
  rcases Cm.mem_idx mc with ⟨_, i, hi, rfl⟩ | ⟨_, i, hi, rfl⟩
  · exact srt_mv hS hB (cards_M hi B)
  · exact srt_mv hS hB (cards_T hi B)
theorem once_is {x c : Card} {xs P : List Card} (ha : 0 < a.length) (hb : 0 < b.length) (la : a.length ≤ 1000) (lb : b.length ≤ 1000) (h1 : srt a b = x :: xs) (h2 : srt a b = P ++ [c]) :
    m_turn_once a b = .ok ⟨(newA a c (num x - 1), newB b c (num x - 1), sg c, ())⟩ := by
  have mc : c ∈ srt a b := by rw [h2]; exact List.mem_append_right _ (List.mem_singleton.mpr rfl)
  unfold m_turn_once
  rw [min_is h1 ha hb, R.bind_ok, R.bind_ok, e_deck, Cm.deck_is la lb, R.bind_ok, h2, List.map_append, List.map_singleton, last_at, R.of_some, R.bind_ok]
  rcases Cm.mem_idx mc with ⟨_, i, hi, rfl⟩ | ⟨_, i, hi, rfl⟩
  · have e : (Cm.side (cmOf a i)).t.2.1 = (i : Int) := rfl
    rw [show decide ((Cm.side (cmOf a i)).t.1 = PySem.Str.ofString "mine") = true from decide_eq_true rfl, e, R.ifm_ok]
    show (R.bind (R.bind (R.bind (R.of (catL (cutL a none (some (i : Int))) ([num x - 1] : List Int))) fun t7 => (R.of (catL t7 (cutL a (some ((i : Int) + (1 : Int))) none)))) fun g8 => R.bind (R.ok b) fun g9 => R.bind (R.ok (-(1 : Int))) fun g10 => R.ok (Tp.mk (g8, g9, g10, ()) : (Tp ((List Int) × (List Int) × Int × Unit)))) fun a11 => R.ok a11) = _
    rw [set_cut hi la]
    rfl
  · have e : (Cm.side (ctOf b i)).t.2.1 = (i : Int) := rfl
    rw [show decide ((Cm.side (ctOf b i)).t.1 = PySem.Str.ofString "mine") = false from (show decide (PySem.Str.ofString "theirs" = PySem.Str.ofString "mine") = false by decide +kernel), e, R.ifm_ok]
    show (R.bind (R.bind (R.ok a) fun g13 => R.bind (R.bind (R.of (catL (cutL b none (some (i : Int))) ([num x - 1] : List Int))) fun t12 => (R.of (catL t12 (cutL b (some ((i : Int) + (1 : Int))) none)))) fun g14 => R.bind (R.ok (1 : Int)) fun g15 => R.ok (Tp.mk (g13, g14, g15, ()) : (Tp ((List Int) × (List Int) × Int × Unit)))) fun a16 => R.ok a16) = _
    rw [set_cut hi lb]
    rfl
/-! ### what a step does to all results -/
theorem cnt_one {p q : Nat → Bool} {n k : Nat} (hk : k < n) (h : ∀ i, i < n → i ≠ k → p i = q i) (hp : p k = false) (hq : q k = true) : ((List.range n).filter q).length = ((List.range n).filter p).length + 1 := by
  induction n with
  | zero => exact absurd hk (Nat.not_lt_zero _)
  | succ n ih =>
    rw [List.range_succ, List.filter_append, List.filter_append, List.length_append, List.length_append]
    by_cases e : k = n
    · subst e
      have : (List.range k).filter q = (List.range k).filter p := List.filter_congr fun i hi => (h i (by have := List.mem_range.mp hi; omega) (by have := List.mem_range.mp hi; omega)).symm
      rw [this, List.filter_cons, List.filter_cons, hp, hq]
      rfl
    · rw [ih (by omega) (fun i hi => h i (by omega))]
      have : [n].filter q = [n].filter p := List.filter_congr fun i hi => by
        rw [List.mem_singleton.mp hi]
        exact (h n (by omega) (fun z => e z.symm)).symm
      rw [this]
      omega
theorem res_new {P : List Card} {c : Card} {B : Int} {p : List Int} (he : a.length = b.length) (hS : srt a b = P ++ [c]) (hB : ∀ d, d ∈ srt a b → B < num d) (hp : IsP a.length p) :
    (res (newA a c B) (newB b c B) p : Int) = res a b p + sg c := by
  have mc : c ∈ srt a b := by rw [hS]; exact List.mem_append_right _ (List.mem_singleton.mpr rfl)
  have mate : ∀ i, i < a.length → 0 ≤ p.getD i 0 ∧ p.getD i 0 < (a.length : Int) := fun i hi => hp.at hi
  have nT : ∀ i, i < b.length → B < b.getD i 0 := fun i hi => hB _ (ct_mem (a := a) hi)
  have nM : ∀ i, i < a.length → B < a.getD i 0 := fun i hi => hB _ (cm_mem (b := b) hi)
  rcases Cm.mem_idx mc with ⟨_, i, hi, rfl⟩ | ⟨_, i, hi, rfl⟩
  · -- my card
    have eA : newA a (cmOf a i) B = a.set i B := rfl
    have eB : newB b (cmOf a i) B = b := rfl
    have es : sg (cmOf a i) = -1 := rfl
    rw [eA, eB, es]
    unfold Cm.res
    rw [List.length_set]
    have m1 := mate i hi
    have key := cnt_one (n := a.length) (k := i) (p := fun m => decide (b.getD (p.getD m 0).toNat 0 ≤ (a.set i B).getD m 0)) (q := fun m => decide (b.getD (p.getD m 0).toNat 0 ≤ a.getD m 0)) hi (fun j hj ne => by
      show decide (_ ≤ (a.set i B).getD j 0) = _
      rw [set_getD hi, if_neg ne]) (by
      show decide (_ ≤ (a.set i B).getD i 0) = false
      rw [set_getD hi, if_pos rfl]
      have := nT (p.getD i 0).toNat (by omega)
      exact decide_eq_false (by omega)) (by
      have hj : (p.getD i 0).toNat < b.length := by omega
      have lt := below_last hS (ct_mem (a := a) hj) (fun e => Cm.MT_ne i _ e.symm)
      rw [Cm.T_lt (x := ctOf b (p.getD i 0).toNat) (c := cmOf a i) rfl rfl] at lt
      exact decide_eq_true (of_decide_eq_true lt))
    omega
  · -- their card
    have eA : newA a (ctOf b i) B = a := rfl
    have eB : newB b (ctOf b i) B = b.set i B := rfl
    have es : sg (ctOf b i) = 1 := rfl
    rw [eA, eB, es]
    unfold Cm.res
    obtain ⟨k, hk, ek⟩ : ∃ k, k < a.length ∧ p.getD k 0 = (i : Int) := by
      have hm : (i : Int) ∈ p := hp.perm.mem_iff.mpr (List.mem_map.mpr ⟨i, List.mem_range.mpr (by omega), rfl⟩)
      obtain ⟨k, hk, e⟩ := List.getElem_of_mem hm
      exact ⟨k, by have := hp.1; omega, by rw [List.getD_eq_getElem?_getD, List.getElem?_eq_getElem hk]; exact e⟩
    have key := cnt_one (n := a.length) (k := k) (p := fun m => decide (b.getD (p.getD m 0).toNat 0 ≤ a.getD m 0)) (q := fun m => decide ((b.set i B).getD (p.getD m 0).toNat 0 ≤ a.getD m 0)) hk (fun j hj ne => by
      show _ = decide ((b.set i B).getD (p.getD j 0).toNat 0 ≤ _)
      have mj := mate j hj
      rw [set_getD hi, if_neg]
      intro e
      have e2 : p.getD j 0 = p.getD k 0 := by rw [ek]; omega
      exact ne (hp.inj hj hk e2)) (by
      show decide (b.getD (p.getD k 0).toNat 0 ≤ a.getD k 0) = false
      rw [ek, Int.toNat_natCast]
      have lt := below_last hS (cm_mem (b := b) hk) (Cm.MT_ne k i)
      rw [Cm.M_lt (x := cmOf a k) (c := ctOf b i) rfl rfl] at lt
      have := of_decide_eq_true lt
      have q : a.getD k 0 < b.getD i 0 := this
      exact decide_eq_false (by omega)) (by
      show decide ((b.set i B).getD (p.getD k 0).toNat 0 ≤ a.getD k 0) = true
      rw [ek, Int.toNat_natCast, set_getD hi, if_pos rfl]
      have := nM k hk
      exact decide_eq_true (by omega))
    omega
end
end K14
namespace K14
open PySem PySem.Spec L2 Pv Rot
open Cm (srt Card isM isT cmOf ctOf pos num idx res IsP)
open Enc (enc)
open Encs (encs)
/-! ### the deck after t steps -/
def nk (S : List Card) (k : Nat) : Card := S.getD k ⟨(0, 0, 0, ())⟩
/-- how often the card at k was turned -/
def cnt (N t k : Nat) : Nat := if N - 1 - k < t then 1 + (t - 1 - (N - 1 - k)) / N else 0
/-- its number -/
def numT (S : List Card) (t k : Nat) : Int := if S.length - 1 - k < t then num (nk S 0) - 1 - ((S.length - 1 - k : Nat) : Int) - (S.length : Int) * (((t - 1 - (S.length - 1 - k)) / S.length : Nat) : Int) else num (nk S k)
def cT (S : List Card) (t k : Nat) : Card := mvC (nk S k) (numT S t k)
def md (N q : Nat) : Nat := if q < N then q else q - N
def ROT (S : List Card) (t : Nat) : List Card := (List.range S.length).map fun p => cT S t (md S.length (p + (S.length - t % S.length)))
section
variable {S : List Card} {t k : Nat}
theorem ROT_len : (ROT S t).length = S.length := by unfold ROT; rw [List.length_map, List.length_range]
theorem ROT_at {p : Nat} (hp : p < S.length) : (ROT S t)[p]? = some (cT S t (md S.length (p + (S.length - t % S.length)))) := by
  unfold ROT
  rw [List.getElem?_map, List.getElem?_range hp]
  rfl
theorem mod_next {N : Nat} (h0 : 0 < N) : (t + 1) % N = if t % N + 1 < N then t % N + 1 else 0 := by
  have hr := Nat.mod_lt t h0
  rw [Nat.add_mod]
  by_cases h1 : N = 1
  · subst h1
    rw [if_neg (by omega)]
    omega
  · rw [Nat.mod_eq_of_lt (show 1 < N by omega)]
    split
    · rename_i h
      exact Nat.mod_eq_of_lt h
    · rename_i h
      rw [show t % N + 1 = N by omega, Nat.mod_self]
theorem mulq (N q : Nat) : ((N : Int) * (q : Int)) = ((N * q : Nat) : Int) := (Int.natCast_mul N q).symm
theorem div_same {N t f : Nat} (h0 : 0 < N) (hf : f < N) (ft : f < t) (ne : f ≠ t % N) : (t + 1 - 1 - f) / N = (t - 1 - f) / N := by
  rw [show t + 1 - 1 - f = (t - 1 - f) + 1 by omega, Nat.succ_div, if_neg, Nat.add_zero]
  intro ⟨q, hq⟩
  refine ne ?_
  have : t = f + N * q := by omega
  rw [this, Nat.add_mul_mod_self_left, Nat.mod_eq_of_lt hf]
theorem cnt_next (h0 : 0 < S.length) (hk : k < S.length) : cnt S.length (t + 1) k = cnt S.length t k + if k = S.length - 1 - t % S.length then 1 else 0 := by
  have hr := Nat.mod_lt t h0
  have dm := Nat.mod_add_div t S.length
  unfold cnt
  by_cases e : k = S.length - 1 - t % S.length
  · rw [if_pos e]
    have ef : S.length - 1 - k = t % S.length := by omega
    rw [ef, if_pos (by omega)]
    have e1 : (t + 1 - 1 - t % S.length) / S.length = t / S.length := by
      rw [show t + 1 - 1 - t % S.length = S.length * (t / S.length) by omega, Nat.mul_div_cancel_left _ h0]
    rw [e1]
    by_cases lt : t % S.length < t
    · rw [if_pos lt]
      have hq : 0 < t / S.length := by
        rcases Nat.eq_zero_or_pos (t / S.length) with z | z
        · rw [z, Nat.mul_zero] at dm; omega
        · exact z
      obtain ⟨q, eq⟩ : ∃ q, t / S.length = q + 1 := ⟨t / S.length - 1, by omega⟩
      rw [eq] at dm ⊢
      rw [show t - 1 - t % S.length = (S.length - 1) + S.length * q by rw [Nat.mul_add] at dm; omega, Nat.add_mul_div_left _ _ h0, Nat.div_eq_of_lt (show S.length - 1 < S.length by omega)]
      omega
    · rw [if_neg lt]
      have : t / S.length = 0 := by
        rcases Nat.eq_zero_or_pos (t / S.length) with z | z
        · exact z
        · have : S.length * 1 ≤ S.length * (t / S.length) := Nat.mul_le_mul_left _ z
          omega
      rw [this]
  · rw [if_neg e, Nat.add_zero]
    have nf : S.length - 1 - k ≠ t % S.length := by omega
    by_cases ft : S.length - 1 - k < t
    · rw [if_pos ft, if_pos (by omega), div_same h0 (by omega) ft nf, Nat.add_zero]
    · rw [if_neg ft, if_neg]
      intro h
      have : S.length - 1 - k = t := by omega
      exact nf (by rw [this]; exact (Nat.mod_eq_of_lt (by omega)).symm)
theorem num_next (h0 : 0 < S.length) (hk : k < S.length) : numT S (t + 1) k = if k = S.length - 1 - t % S.length then num (nk S 0) - 1 - (t : Int) else numT S t k := by
  have hr := Nat.mod_lt t h0
  have dm := Nat.mod_add_div t S.length
  unfold numT
  by_cases e : k = S.length - 1 - t % S.length
  · rw [if_pos e]
    have ef : S.length - 1 - k = t % S.length := by omega
    rw [ef, if_pos (by omega), mulq]
    have e1 : (t + 1 - 1 - t % S.length) / S.length = t / S.length := by
      rw [show t + 1 - 1 - t % S.length = S.length * (t / S.length) by omega, Nat.mul_div_cancel_left _ h0]
    rw [e1]
    omega
  · rw [if_neg e]
    have nf : S.length - 1 - k ≠ t % S.length := by omega
    by_cases ft : S.length - 1 - k < t
    · rw [if_pos ft, if_pos (by omega), div_same h0 (by omega) ft nf]
    · rw [if_neg ft, if_neg]
      intro h
      have : S.length - 1 - k = t := by omega
      exact nf (by rw [this]; exact (Nat.mod_eq_of_lt (by omega)).symm)
/-- the number of the first -/
theorem num_head (h0 : 0 < S.length) : numT S t (md S.length (0 + (S.length - t % S.length))) = num (nk S 0) - (t : Int) := by
  have hr := Nat.mod_lt t h0
  have dm := Nat.mod_add_div t S.length
  unfold md
  by_cases r0 : t % S.length = 0
  · rw [r0, if_neg (by omega)]
    have e0 : 0 + (S.length - 0) - S.length = 0 := by omega
    rw [e0]
    unfold numT
    by_cases t0 : t = 0
    · subst t0
      rw [if_neg (by omega)]
      omega
    · have hq : 0 < t / S.length := by
        rcases Nat.eq_zero_or_pos (t / S.length) with z | z
        · rw [z, Nat.mul_zero] at dm; omega
        · exact z
      obtain ⟨q, eq⟩ : ∃ q, t / S.length = q + 1 := ⟨t / S.length - 1, by omega⟩
      rw [eq, Nat.mul_add] at dm
      rw [if_pos (by omega), mulq, show (t - 1 - (S.length - 1 - 0)) = S.length * q by omega, Nat.mul_div_cancel_left _ h0]
      omega
  · rw [if_pos (by omega)]
    unfold numT
    have ef : S.length - 1 - (0 + (S.length - t % S.length)) = t % S.length - 1 := by omega
    rw [ef, if_pos (by omega), mulq, show t - 1 - (t % S.length - 1) = S.length * (t / S.length) by omega, Nat.mul_div_cancel_left _ h0]
    omega
theorem cT_mv (B : Int) : mvC (cT S t k) B = mvC (nk S k) B := rfl
/-- one step of the ring -/
theorem ROT_step (h0 : 0 < S.length) : ∃ (P xs : List Card), ROT S t = P ++ [cT S t (S.length - 1 - t % S.length)] ∧ ROT S t = cT S t (md S.length (0 + (S.length - t % S.length))) :: xs ∧
    mvC (cT S t (S.length - 1 - t % S.length)) (num (nk S 0) - (t : Int) - 1) :: P = ROT S (t + 1) := by
  have hr := Nat.mod_lt t h0
  have hlen := ROT_len (S := S) (t := t)
  refine ⟨(ROT S t).take (S.length - 1), (ROT S t).drop 1, ?_, ?_, ?_⟩
  · have e : (ROT S t).drop (S.length - 1) = [cT S t (S.length - 1 - t % S.length)] := by
      refine List.ext_getElem? fun i => ?_
      rw [List.getElem?_drop]
      by_cases hi : i = 0
      · subst hi
        rw [ROT_at (by omega)]
        show _ = some _
        congr 2
        unfold md
        split <;> omega
      · rw [List.getElem?_eq_none (by rw [hlen]; omega), List.getElem?_eq_none (by show 1 ≤ i; omega)]
    rw [← e, List.take_append_drop]
  · refine List.ext_getElem? fun i => ?_
    cases i with
    | zero => rw [ROT_at h0]; rfl
    | succ i => rw [List.getElem?_cons_succ, List.getElem?_drop, Nat.add_comm 1 i]
  · refine List.ext_getElem? fun i => ?_
    have mn := mod_next (t := t) h0
    cases i with
    | zero =>
      rw [ROT_at h0, List.getElem?_cons_zero]
      have ek : md S.length (0 + (S.length - (t + 1) % S.length)) = S.length - 1 - t % S.length := by
        rw [mn]
        unfold md
        by_cases q : t % S.length + 1 < S.length
        · rw [if_pos q]; split <;> omega
        · rw [if_neg q]; split <;> omega
      rw [ek, cT_mv]
      unfold cT
      rw [num_next h0 (by omega), if_pos rfl, show num (nk S 0) - (t : Int) - 1 = num (nk S 0) - 1 - (t : Int) by omega]
    | succ i =>
      rw [List.getElem?_cons_succ]
      by_cases hi : i < S.length - 1
      · rw [List.getElem?_take_of_lt hi, ROT_at (by omega), ROT_at (by omega)]
        have ek : md S.length (i + 1 + (S.length - (t + 1) % S.length)) = md S.length (i + (S.length - t % S.length)) := by
          rw [mn]
          unfold md
          by_cases q : t % S.length + 1 < S.length
          · rw [if_pos q]; split <;> split <;> omega
          · rw [if_neg q]; split <;> split <;> omega
        rw [ek]
        have hk : md S.length (i + (S.length - t % S.length)) < S.length ∧ md S.length (i + (S.length - t % S.length)) ≠ S.length - 1 - t % S.length := by
          unfold md
          split <;> omega
        unfold cT
        rw [num_next h0 hk.1, if_neg hk.2]
      · rw [List.getElem?_eq_none (by rw [List.length_take, hlen]; omega), List.getElem?_eq_none (by rw [ROT_len]; omega)]
end
end K14
namespace K14
open PySem PySem.Spec L2 Pv Rot
open Cm (srt Card isM isT cmOf ctOf pos num idx res IsP)
open Enc (enc)
open Encs (encs)
/-! ### t steps -/
def csum (S : List Card) (t : Nat) : Nat → Int
  | 0 => 0
  | K + 1 => csum S t K + sg (nk S K) * (cnt S.length t K : Int)
theorem csum_one {S : List Card} {t k : Nat} (h0 : 0 < S.length) (hk : k = S.length - 1 - t % S.length) : ∀ K, K ≤ S.length → csum S (t + 1) K = csum S t K + if k < K then sg (nk S k) else 0
  | 0, _ => by
    rw [if_neg (Nat.not_lt_zero _)]
    rfl
  | K + 1, hK => by
    show csum S (t + 1) K + sg (nk S K) * (cnt S.length (t + 1) K : Int) = csum S t K + sg (nk S K) * (cnt S.length t K : Int) + _
    rw [csum_one h0 hk K (by omega), cnt_next h0 (by omega), ← hk]
    by_cases e : K = k
    · subst e
      rw [if_pos rfl, if_neg (Nat.lt_irrefl _), if_pos (by omega), Int.natCast_add, Int.mul_add]
      show _ + 0 + (_ + _ * 1) = _
      omega
    · rw [if_neg e, Nat.add_zero]
      by_cases q : k < K
      · rw [if_pos q, if_pos (by omega)]; omega
      · rw [if_neg q, if_neg (by omega)]; omega
section
variable {a b : List Int}
/-- the hands after t steps -/
def Is (a b : List Int) (t : Nat) (a' b' : List Int) (ch : Int) : Prop := a'.length = a.length ∧ b'.length = b.length ∧ srt a' b' = ROT (srt a b) t ∧ ch = csum (srt a b) t (srt a b).length ∧ ∀ p, IsP a.length p → (res a' b' p : Int) = res a b p + ch
theorem ROT_zero (S : List Card) : ROT S 0 = S := by
  refine List.ext_getElem? fun i => ?_
  by_cases hi : i < S.length
  · rw [ROT_at hi, List.getElem?_eq_getElem hi]
    have e : md S.length (i + (S.length - 0 % S.length)) = i := by
      rw [Nat.zero_mod]
      unfold md
      split <;> omega
    rw [e]
    have en : nk S i = S[i] := by unfold nk; rw [List.getD_eq_getElem?_getD, List.getElem?_eq_getElem hi]; rfl
    unfold cT numT
    rw [if_neg (Nat.not_lt_zero _), en]
    rfl
  · rw [List.getElem?_eq_none (by rw [ROT_len]; omega), List.getElem?_eq_none (by omega)]
theorem csum_zero (S : List Card) : ∀ K, csum S 0 K = 0
  | 0 => rfl
  | K + 1 => by
    show csum S 0 K + sg (nk S K) * (cnt S.length 0 K : Int) = 0
    rw [csum_zero S K]
    unfold cnt
    rw [if_neg (Nat.not_lt_zero _)]
    show 0 + _ * 0 = (0 : Int)
    omega
theorem Is.start : Is a b 0 a b 0 := ⟨rfl, rfl, (ROT_zero _).symm, (csum_zero _ _).symm, fun p _ => by omega⟩
theorem Is.step {a' b' : List Int} {ch : Int} {t : Nat} (he : a.length = b.length) (h0 : 0 < a.length) (hl : a.length ≤ 100) (h : Is a b t a' b' ch) (x : Int) : ∃ a2 b2 ch2, m_turn_b1 x (a', b', ch) = .ok (a2, b2, ch2) ∧ Is a b (t + 1) a2 b2 ch2 := by
  obtain ⟨l1, l2, hs, hc, hr⟩ := h
  have sl := Cm.srt_len a b
  have s0 : 0 < (srt a b).length := by omega
  obtain ⟨P, xs, e1, e2, e3⟩ := ROT_step (S := srt a b) (t := t) s0
  have q1 := hs.trans e1
  have q2 := hs.trans e2
  have hB := num_head (S := srt a b) (t := t) s0
  have hn : num (cT (srt a b) t (md (srt a b).length (0 + ((srt a b).length - t % (srt a b).length)))) = num (nk (srt a b) 0) - (t : Int) := hB
  have lo : ∀ d, d ∈ srt a' b' → num (nk (srt a b) 0) - (t : Int) - 1 < num d := fun d hd => by
    have := head_le q2 hd
    omega
  have eo := once_is (a := a') (b := b') (by omega) (by omega) (by omega) (by omega) q2 q1
  rw [hn] at eo
  have sn := srt_new q1 lo
  rw [e3] at sn
  have nl := new_len (a := a') (b := b') (cT (srt a b) t ((srt a b).length - 1 - t % (srt a b).length)) (num (nk (srt a b) 0) - (t : Int) - 1)
  have esg : sg (cT (srt a b) t ((srt a b).length - 1 - t % (srt a b).length)) = sg (nk (srt a b) ((srt a b).length - 1 - t % (srt a b).length)) := rfl
  refine ⟨_, _, ch + sg (cT (srt a b) t ((srt a b).length - 1 - t % (srt a b).length)), ?_, nl.1.trans l1, nl.2.trans l2, sn, ?_, fun p hp => ?_⟩
  · unfold m_turn_b1
    rw [eo]
    rfl
  · rw [hc, csum_one s0 rfl _ (Nat.le_refl _), if_pos (by omega), esg]
  · rw [res_new (by omega) q1 lo (by rw [l1]; exact hp), hr p hp]
    omega
theorem fold_turn (he : a.length = b.length) (h0 : 0 < a.length) (hl : a.length ≤ 100) : ∀ (L : List Int) (t : Nat) (a' b' : List Int) (ch : Int), Is a b t a' b' ch → ∃ a2 b2 ch2, foldR m_turn_b1 L (a', b', ch) = .ok (a2, b2, ch2) ∧ Is a b (t + L.length) a2 b2 ch2
  | [], t, a', b', ch, h => ⟨a', b', ch, rfl, h⟩
  | x :: L, t, a', b', ch, h => by
    obtain ⟨a2, b2, c2, e, h2⟩ := h.step he h0 hl x
    obtain ⟨a3, b3, c3, e3, h3⟩ := fold_turn he h0 hl L (t + 1) a2 b2 c2 h2
    refine ⟨a3, b3, c3, ?_, by rw [List.length_cons, show t + (L.length + 1) = t + 1 + L.length by omega]; exact h3⟩
    show R.bind (m_turn_b1 x (a', b', ch)) _ = _
    rw [e, R.bind_ok]
    exact e3
theorem hands_ok (h : a.length = b.length) : m_check_hands a b = .ok () := by
  unfold m_check_hands
  rw [decide_eq_true (show (a.length : Int) = (b.length : Int) by omega)]
  rfl
theorem turn_is (he : a.length = b.length) (hl : a.length ≤ 100) (t : Nat) (ht : t ≤ 1000) : ∃ a2 b2 ch, m_turn a b (t : Int) = .ok ⟨(a2, b2, ch, ())⟩ ∧ a2.length = a.length ∧ b2.length = b.length ∧
    ((a.length = 0 ∧ a2 = a ∧ b2 = b ∧ ch = 0) ∨ (0 < a.length ∧ Is a b t a2 b2 ch)) := by
  unfold m_turn
  rw [hands_ok he, R.bind_ok, R.bind_ok, R.bind_ok, R.bind_ok]
  by_cases h0 : a.length = 0
  · have ea : a = [] := List.length_eq_zero_iff.mp h0
    subst ea
    exact ⟨[], b, 0, rfl, rfl, rfl, .inl ⟨rfl, rfl, rfl, rfl⟩⟩
  · have tr : Tru.tru a = true := by
      cases a with
      | nil => exact absurd rfl h0
      | cons x xs => rfl
    rw [tr, R.ifm_ok]
    obtain ⟨a2, b2, ch, e, h⟩ := fold_turn he (by omega) hl ((List.range t).map fun i : Nat => (i : Int)) 0 a b 0 Is.start
    rw [List.length_map, List.length_range, Nat.zero_add] at h
    refine ⟨a2, b2, ch, ?_, h.1, h.2.1, .inr ⟨by omega, h⟩⟩
    show (R.bind (R.of (rngO 0 (t : Int))) fun l16 => R.bind (foldR m_turn_b1 l16 (a, b, 0)) fun s9 => _) = _
    rw [show rngO 0 (t : Int) = some (Pv.rng 0 (t : Int)) from if_pos (by omega), rng_nat, R.of_some, R.bind_ok, e, R.bind_ok]
    rfl
theorem turn_no (h : a.length ≠ b.length) (ha : a.length ≤ 1000) (hb : b.length ≤ 1000) (x : Int) : m_turn a b x = .ex ⟨1, [enc (b.length : Int), enc (a.length : Int)]⟩ := by
  unfold m_turn m_check_hands
  rw [decide_eq_false (show ¬ (a.length : Int) = (b.length : Int) by omega)]
  show R.bind (R.raise 1 [enc (a.length : Int), enc (b.length : Int)] : R Unit) _ = _
  rw [Cm.raise_two ⟨by omega, by omega⟩ ⟨by omega, by omega⟩]
  rfl
end
end K14
namespace K14
open PySem PySem.Spec L2 Pv Rot
open Cm (srt Card isM isT cmOf ctOf pos num idx res IsP)
open Enc (enc)
open Encs (encs)
/-! ### what is due -/
section
variable {a b : List Int} {t : Nat}
theorem set_is {xs : List Int} {k : Nat} {v : Int} (h : k < xs.length) : R.of (setL xs (k : Int) v) = .ok (xs.set k v) := by
  unfold setL ixN
  rw [if_pos (by omega), if_pos (by omega), Int.toNat_natCast]
  rfl
structure J (a b : List Int) (t K : Nat) (z : List Int × Int × List Int) : Prop where
  l1 : z.1.length = a.length
  l2 : z.2.2.length = b.length
  ch : z.2.1 = csum (srt a b) t K
  m : ∀ i, i < a.length → z.1.getD i 0 = if pos a b (cmOf a i) < K then numT (srt a b) t (pos a b (cmOf a i)) else a.getD i 0
  tt : ∀ i, i < b.length → z.2.2.getD i 0 = if pos a b (ctOf b i) < K then numT (srt a b) t (pos a b (ctOf b i)) else b.getD i 0
theorem b1_yes {times size x f q mq : Int} {order : List Card} {c0 c : Card} {z : List Int × Int × List Int} (e1 : (size - (1 : Int)) - x = f) (e2 : f < times) (e3 : divO ((times - (1 : Int)) - f) size = some q) (e4 : atI order (0 : Int) = some c0) (e5 : atI order x = some c) (e6 : mulO size q = some mq) :
    m__law_due_b1 times order size x z = (if c.t.2.1 = 1 then (R.of (setL z.1 c.t.2.2.1 (c0.t.1 - 1 - f - mq))).bind fun M => .ok (M, z.2.1 - 1 - q, z.2.2) else (R.of (setL z.2.2 c.t.2.2.1 (c0.t.1 - 1 - f - mq))).bind fun T => .ok (z.1, z.2.1 + 1 + q, T)) := by
  unfold m__law_due_b1
  dsimp only [R.lt]
  rw [e1, decide_eq_true e2, e3, e4, e5]
  simp -implicitDefEqProofs only [R.of_some, R.bind_ok, R.ifm_ok, e6]
  by_cases h : c.t.2.1 = 1
  · rw [if_pos h, decide_eq_true h]
    show R.bind (R.bind (R.bind (R.of (setL z.1 c.t.2.2.1 (c0.t.1 - 1 - f - mq))) fun v => R.ok (v, z.2.1 - 1 - q, z.2.2)) _) _ = _
    cases R.of (setL z.1 c.t.2.2.1 (c0.t.1 - 1 - f - mq)) <;> rfl
  · rw [if_neg h, decide_eq_false h]
    show R.bind (R.bind (R.bind (R.of (setL z.2.2 c.t.2.2.1 (c0.t.1 - 1 - f - mq))) fun v => R.ok (z.1, z.2.1 + 1 + q, v)) _) _ = _
    cases R.of (setL z.2.2 c.t.2.2.1 (c0.t.1 - 1 - f - mq)) <;> rfl
theorem b1_no {times size x f : Int} {order : List Card} {z : List Int × Int × List Int} (e1 : (size - (1 : Int)) - x = f) (e2 : ¬ f < times) : m__law_due_b1 times order size x z = .ok z := by
  unfold m__law_due_b1
  dsimp only [R.lt]
  rw [e1, decide_eq_false e2]
  rfl
theorem nk_at {S : List Card} {k : Nat} {c : Card} (h : S[k]? = some c) : nk S k = c := by unfold nk; rw [List.getD_eq_getElem?_getD, h]; rfl
theorem due_step (ht : t ≤ 1000) (hl : a.length ≤ 100) (hb : b.length ≤ 100) {K : Nat} (hK : K < (srt a b).length) {z : List Int × Int × List Int} (hz : J a b t K z) :
    ∃ z', m__law_due_b1 (t : Int) (srt a b) ((srt a b).length : Int) (K : Int) z = .ok z' ∧ J a b t (K + 1) z' := by
  have sl := Cm.srt_len a b
  have hg := List.getElem?_eq_getElem hK
  have h0 : 0 < (srt a b).length := by omega
  have hg0 := List.getElem?_eq_getElem h0
  have n0 : nk (srt a b) 0 = (srt a b)[0] := nk_at hg0
  have nK : nk (srt a b) K = (srt a b)[K] := nk_at hg
  have pM : ∀ i, i < a.length → (pos a b (cmOf a i) = K ↔ (srt a b)[K] = cmOf a i) := fun i hi => by
    constructor
    · intro e
      have := Cm.pos_at (mine := a) (theirs := b) (cm_mem (b := b) hi)
      rw [e, hg] at this
      exact Option.some.inj this
    · intro e
      exact Cm.pos_eq (by rw [hg, e])
  have pT : ∀ i, i < b.length → (pos a b (ctOf b i) = K ↔ (srt a b)[K] = ctOf b i) := fun i hi => by
    constructor
    · intro e
      have := Cm.pos_at (mine := a) (theirs := b) (ct_mem (a := a) hi)
      rw [e, hg] at this
      exact Option.some.inj this
    · intro e
      exact Cm.pos_eq (by rw [hg, e])
  have ef : ((srt a b).length : Int) - 1 - (K : Int) = (((srt a b).length - 1 - K : Nat) : Int) := by omega
  by_cases ft : (srt a b).length - 1 - K < t
  · have ed : divO (((t : Int) - 1) - (((srt a b).length - 1 - K : Nat) : Int)) ((srt a b).length : Int) = some ((((t - 1 - ((srt a b).length - 1 - K)) / (srt a b).length : Nat)) : Int) := by
      rw [show ((t : Int) - 1) - (((srt a b).length - 1 - K : Nat) : Int) = ((t - 1 - ((srt a b).length - 1 - K) : Nat) : Int) by omega]
      exact optIf_pos ⟨by omega, Int.lt_of_le_of_lt (show ((srt a b).length : Int) ≤ 1000 by omega) (by decide +kernel)⟩
    have qs : (t - 1 - ((srt a b).length - 1 - K)) / (srt a b).length ≤ 1000 := Nat.le_trans (Nat.div_le_self ..) (by omega)
    have em : mulO ((srt a b).length : Int) ((((t - 1 - ((srt a b).length - 1 - K)) / (srt a b).length : Nat)) : Int) = some (((srt a b).length : Int) * ((((t - 1 - ((srt a b).length - 1 - K)) / (srt a b).length : Nat)) : Int)) := by
      unfold mulO
      exact optIf_pos (.inl ⟨by omega, by omega⟩)
    have eN : numT (srt a b) t K = (srt a b)[0].t.1 - 1 - (((srt a b).length - 1 - K : Nat) : Int) - ((srt a b).length : Int) * ((((t - 1 - ((srt a b).length - 1 - K)) / (srt a b).length : Nat)) : Int) := by
      unfold numT
      rw [if_pos ft, n0]
      rfl
    have eC : (cnt (srt a b).length t K : Int) = 1 + ((((t - 1 - ((srt a b).length - 1 - K)) / (srt a b).length : Nat)) : Int) := by
      unfold cnt
      rw [if_pos ft]
      omega
    rw [b1_yes ef (by omega) ed (show atI (srt a b) (0 : Int) = some (srt a b)[0] from atI_nat hg0) (atI_nat hg) em, ← eN]
    rcases Cm.mem_idx (List.getElem_mem hK) with ⟨_, i, hi, ec⟩ | ⟨_, i, hi, ec⟩
    · rw [ec, if_pos (show (cmOf a i).t.2.1 = 1 from rfl), show (cmOf a i).t.2.2.1 = (i : Int) from rfl, set_is (by rw [hz.l1]; exact hi)]
      refine ⟨_, rfl, ⟨by show (z.1.set i _).length = _; rw [List.length_set]; exact hz.l1, hz.l2, ?_, fun j hj => ?_, fun j hj => ?_⟩⟩
      · show z.2.1 - 1 - _ = csum (srt a b) t K + sg (nk (srt a b) K) * (cnt (srt a b).length t K : Int)
        rw [nK, ec, eC, hz.ch, show sg (cmOf a i) = -1 from rfl]
        omega
      · show (z.1.set i (numT (srt a b) t K)).getD j 0 = _
        rw [set_getD (by rw [hz.l1]; exact hi)]
        by_cases e : j = i
        · subst e
          rw [if_pos rfl, (pM j hj).mpr ec, if_pos (Nat.lt_succ_self K)]
        · have ne : pos a b (cmOf a j) ≠ K := fun q => Cm.M_ne e (((pM j hj).mp q).symm.trans ec)
          rw [if_neg e, hz.m j hj]
          by_cases q : pos a b (cmOf a j) < K
          · rw [if_pos q, if_pos (by omega)]
          · rw [if_neg q, if_neg (by omega)]
      · have ne : pos a b (ctOf b j) ≠ K := fun q => Cm.MT_ne i j (ec.symm.trans ((pT j hj).mp q))
        show z.2.2.getD j 0 = _
        rw [hz.tt j hj]
        by_cases q : pos a b (ctOf b j) < K
        · rw [if_pos q, if_pos (by omega)]
        · rw [if_neg q, if_neg (by omega)]
    · rw [ec, if_neg (show ¬ (ctOf b i).t.2.1 = 1 by show ¬ (0 : Int) = 1; decide), show (ctOf b i).t.2.2.1 = (i : Int) from rfl, set_is (by rw [hz.l2]; exact hi)]
      refine ⟨_, rfl, ⟨hz.l1, by show (z.2.2.set i _).length = _; rw [List.length_set]; exact hz.l2, ?_, fun j hj => ?_, fun j hj => ?_⟩⟩
      · show z.2.1 + 1 + _ = csum (srt a b) t K + sg (nk (srt a b) K) * (cnt (srt a b).length t K : Int)
        rw [nK, ec, eC, hz.ch, show sg (ctOf b i) = 1 from rfl]
        omega
      · have ne : pos a b (cmOf a j) ≠ K := fun q => Cm.MT_ne j i (((pM j hj).mp q).symm.trans ec)
        show z.1.getD j 0 = _
        rw [hz.m j hj]
        by_cases q : pos a b (cmOf a j) < K
        · rw [if_pos q, if_pos (by omega)]
        · rw [if_neg q, if_neg (by omega)]
      · show (z.2.2.set i (numT (srt a b) t K)).getD j 0 = _
        rw [set_getD (by rw [hz.l2]; exact hi)]
        by_cases e : j = i
        · subst e
          rw [if_pos rfl, (pT j hj).mpr ec, if_pos (Nat.lt_succ_self K)]
        · have ne : pos a b (ctOf b j) ≠ K := fun q => Cm.T_ne e (((pT j hj).mp q).symm.trans ec)
          rw [if_neg e, hz.tt j hj]
          by_cases q : pos a b (ctOf b j) < K
          · rw [if_pos q, if_pos (by omega)]
          · rw [if_neg q, if_neg (by omega)]
  · rw [b1_no ef (by omega)]
    have eN : numT (srt a b) t K = (srt a b)[K].t.1 := by
      unfold numT
      rw [if_neg ft, nK]
      rfl
    refine ⟨z, rfl, ⟨hz.l1, hz.l2, ?_, fun j hj => ?_, fun j hj => ?_⟩⟩
    · show z.2.1 = csum (srt a b) t K + sg (nk (srt a b) K) * (cnt (srt a b).length t K : Int)
      rw [hz.ch]
      unfold cnt
      rw [if_neg ft]
      show _ = _ + _ * 0
      omega
    · rw [hz.m j hj]
      by_cases q : pos a b (cmOf a j) < K
      · rw [if_pos q, if_pos (by omega)]
      · rw [if_neg q]
        by_cases q2 : pos a b (cmOf a j) = K
        · rw [q2, if_pos (Nat.lt_succ_self K), eN, (pM j hj).mp q2]
          rfl
        · rw [if_neg (by omega)]
    · rw [hz.tt j hj]
      by_cases q : pos a b (ctOf b j) < K
      · rw [if_pos q, if_pos (by omega)]
      · rw [if_neg q]
        by_cases q2 : pos a b (ctOf b j) = K
        · rw [q2, if_pos (Nat.lt_succ_self K), eN, (pT j hj).mp q2]
          rfl
        · rw [if_neg (by omega)]
theorem due_fold (ht : t ≤ 1000) (hl : a.length ≤ 100) (hb : b.length ≤ 100) : ∀ (m K : Nat) (z : List Int × Int × List Int), K + m ≤ (srt a b).length → J a b t K z → ∃ z', foldR (m__law_due_b1 (t : Int) (srt a b) ((srt a b).length : Int)) ((List.range' K m).map fun i : Nat => (i : Int)) z = .ok z' ∧ J a b t (K + m) z'
  | 0, K, z, _, h => ⟨z, rfl, h⟩
  | m + 1, K, z, hm, h => by
    obtain ⟨z1, e1, h1⟩ := due_step ht hl hb (show K < (srt a b).length by omega) h
    obtain ⟨z2, e2, h2⟩ := due_fold ht hl hb m (K + 1) z1 (by omega) h1
    rw [List.range'_succ, List.map_cons]
    refine ⟨z2, ?_, by rw [show K + (m + 1) = K + 1 + m by omega]; exact h2⟩
    show R.bind (m__law_due_b1 (t : Int) (srt a b) ((srt a b).length : Int) (K : Int) z) _ = _
    rw [e1, R.bind_ok]
    exact e2
theorem ext_getD {x y : List Int} (hl : x.length = y.length) (h : ∀ i, i < x.length → x.getD i 0 = y.getD i 0) : x = y := by
  refine List.ext_getElem? fun i => ?_
  by_cases hi : i < x.length
  · have := h i hi
    rw [List.getD_eq_getElem?_getD, List.getD_eq_getElem?_getD, List.getElem?_eq_getElem hi, List.getElem?_eq_getElem (show i < y.length by omega)] at this
    rw [List.getElem?_eq_getElem hi, List.getElem?_eq_getElem (show i < y.length by omega)]
    exact congrArg some this
  · rw [List.getElem?_eq_none (by omega), List.getElem?_eq_none (by omega)]
/-- each card has its number after t steps -/
theorem in_ROT {S : List Card} {k : Nat} (hk : k < S.length) : cT S t k ∈ ROT S t := by
  have hr := Nat.mod_lt t (show 0 < S.length by omega)
  have e : (ROT S t)[md S.length (k + t % S.length)]? = some (cT S t k) := by
    rw [ROT_at (by unfold md; split <;> omega)]
    congr 2
    unfold md
    split <;> split <;> omega
  exact List.mem_of_getElem? e
theorem Is.num_M {a2 b2 : List Int} {ch : Int} (h : Is a b t a2 b2 ch) {i : Nat} (hi : i < a.length) : a2.getD i 0 = numT (srt a b) t (pos a b (cmOf a i)) := by
  have mm := cm_mem (b := b) hi
  have m := in_ROT (t := t) (Cm.pos_lt mm)
  rw [← h.2.2.1] at m
  have e : cT (srt a b) t (pos a b (cmOf a i)) = ⟨(numT (srt a b) t (pos a b (cmOf a i)), (1 : Int), (i : Int), ())⟩ := by
    unfold cT
    rw [nk_at (Cm.pos_at mm)]
    rfl
  rw [e] at m
  rcases Cm.mem_idx m with ⟨_, j, hj, ec⟩ | ⟨h0, _⟩
  · have e1 : (i : Int) = (j : Int) := congrArg (fun c : Card => c.t.2.2.1) ec
    have e2 : numT (srt a b) t (pos a b (cmOf a i)) = a2.getD j 0 := congrArg (fun c : Card => c.t.1) ec
    rw [e2, show j = i by omega]
  · have : (true : Bool) = false := h0
    cases this
theorem Is.num_T {a2 b2 : List Int} {ch : Int} (h : Is a b t a2 b2 ch) {i : Nat} (hi : i < b.length) : b2.getD i 0 = numT (srt a b) t (pos a b (ctOf b i)) := by
  have mm := ct_mem (a := a) hi
  have m := in_ROT (t := t) (Cm.pos_lt mm)
  rw [← h.2.2.1] at m
  have e : cT (srt a b) t (pos a b (ctOf b i)) = ⟨(numT (srt a b) t (pos a b (ctOf b i)), (0 : Int), (i : Int), ())⟩ := by
    unfold cT
    rw [nk_at (Cm.pos_at mm)]
    rfl
  rw [e] at m
  rcases Cm.mem_idx m with ⟨h0, _⟩ | ⟨_, j, hj, ec⟩
  · have : (false : Bool) = true := h0
    cases this
  · have e1 : (i : Int) = (j : Int) := congrArg (fun c : Card => c.t.2.2.1) ec
    have e2 : numT (srt a b) t (pos a b (ctOf b i)) = b2.getD j 0 := congrArg (fun c : Card => c.t.1) ec
    rw [e2, show j = i by omega]
theorem due_is (ht : t ≤ 1000) (hl : a.length ≤ 100) (hb : b.length ≤ 100) {a2 b2 : List Int} {ch : Int} (h : Is a b t a2 b2 ch) : m__law_due a b (t : Int) = .ok [(enc a2 : PV), (enc b2 : PV), (enc ch : PV)] := by
  have sl := Cm.srt_len a b
  obtain ⟨z, ez, hz⟩ := due_fold (t := t) ht hl hb (srt a b).length 0 (a, 0, b) (by omega) ⟨rfl, rfl, rfl, fun i _ => by rw [if_neg (Nat.not_lt_zero _)], fun i _ => by rw [if_neg (Nat.not_lt_zero _)]⟩
  rw [Nat.zero_add] at hz
  unfold m__law_due
  rw [e_order, Cm.law_order hl hb, R.bind_ok]
  dsimp only [R.lt]
  rw [show rngO 0 ((srt a b).length : Int) = some (Pv.rng 0 ((srt a b).length : Int)) from if_pos (by omega), rng_nat, R.of_some, R.bind_ok, List.range_eq_range', ez, R.bind_ok]
  have q1 : z.1 = a2 := ext_getD (by rw [hz.l1]; exact h.1.symm) fun i hi => by
    rw [hz.l1] at hi
    rw [hz.m i hi, if_pos (Cm.pos_lt (cm_mem (b := b) hi)), h.num_M hi]
  have q2 : z.2.2 = b2 := ext_getD (by rw [hz.l2]; exact h.2.1.symm) fun i hi => by
    rw [hz.l2] at hi
    rw [hz.tt i hi, if_pos (Cm.pos_lt (ct_mem (a := a) hi)), h.num_T hi]
  rw [q1, q2, hz.ch, h.2.2.2.1]
theorem due_zero (ha : a.length = 0) (hb : b.length = 0) : m__law_due a b (t : Int) = .ok [(enc a : PV), (enc b : PV), (enc (0 : Int) : PV)] := by
  have ea : a = [] := List.length_eq_zero_iff.mp ha
  have eb : b = [] := List.length_eq_zero_iff.mp hb
  subst ea
  subst eb
  have sl := Cm.srt_len [] []
  unfold m__law_due
  rw [e_order, Cm.law_order (by decide) (by decide), R.bind_ok, List.length_eq_zero_iff.mp sl]
  rfl
/-! ### the order -/
def nmC (c : Card) : Tp (Int × Int × Unit) := Tp.mk (c.t.2.1, c.t.2.2.1, ())
theorem names_is (L : List Card) : m__law_names L = .ok (L.map nmC) := rfl
theorem rot_names {S : List Card} (h0 : 0 < S.length) : (ROT S t).map nmC = (S.drop (S.length - t % S.length) ++ S.take (S.length - t % S.length)).map nmC := by
  have hr := Nat.mod_lt t h0
  refine List.ext_getElem? fun i => ?_
  rw [List.getElem?_map, List.getElem?_map]
  by_cases hi : i < S.length
  · rw [ROT_at hi]
    have hm : md S.length (i + (S.length - t % S.length)) < S.length := by unfold md; split <;> omega
    have e : (S.drop (S.length - t % S.length) ++ S.take (S.length - t % S.length))[i]? = some (nk S (md S.length (i + (S.length - t % S.length)))) := by
      have en : S[md S.length (i + (S.length - t % S.length))]? = some (nk S (md S.length (i + (S.length - t % S.length)))) := by
        unfold nk
        rw [List.getD_eq_getElem?_getD, List.getElem?_eq_getElem hm]
        rfl
      rw [← en]
      unfold md
      by_cases q : i < t % S.length
      · rw [List.getElem?_append_left (by rw [List.length_drop]; omega), List.getElem?_drop, if_pos (by omega)]
        congr 1
        omega
      · rw [List.getElem?_append_right (by rw [List.length_drop]; omega), List.length_drop, List.getElem?_take_of_lt (by omega), if_neg (by omega)]
        congr 1
        omega
    rw [e]
    rfl
  · rw [List.getElem?_eq_none (by rw [ROT_len]; omega), List.getElem?_eq_none (by rw [List.length_append, List.length_drop, List.length_take]; omega)]
end
end K14
namespace K14
open PySem PySem.Spec L2 Pv Rot
open Cm (srt Card isM isT cmOf ctOf pos num idx res IsP)
open Enc (enc)
open Encs (encs)
theorem ite_f {α : Type} (m n : R α) : R.ite false m n = n := rfl
theorem decL_int : ∀ xs : List Int, decL (xs.map enc) = some xs
  | [] => rfl
  | x :: xs => by
    show ((some x : Option Int).bind fun a => ((decL (xs.map enc) : Option (List Int))).map fun as => a :: as) = _
    rw [decL_int xs]
    rfl
theorem dec_3 (x y : List Int) (z : Int) : (Dec.dec (.tup [.lst (x.map enc), .lst (y.map enc), enc z]) : Option (Tp (List Int × List Int × Int × Unit))) = some ⟨(x, y, z, ())⟩ := by
  show ((((decL (x.map enc) : Option (List Int)).bind fun a => (((decL (y.map enc) : Option (List Int)).bind fun b => ((some z : Option Int).bind fun c => ((some () : Option Unit)).map fun u => (c, u)).map fun r => (b, r))).map fun r => (a, r))).map Tp.mk) = _
  rw [decL_int, decL_int]
  rfl
theorem ints_imV (xs : List Int) : (xs.map (enc : Int → PV)).all imV = true := by
  rw [List.all_map]
  exact List.all_eq_true.mpr fun _ _ => rfl
theorem rev_is (x y : List Int) (z : Int) : ((revP (enc (Tp.mk (x, y, z, ()) : (Tp ((List Int) × (List Int) × Int × Unit)))) [1]).bind (Dec.dec : PV → Option (Tp ((List Int) × (List Int) × Int × Unit)))) = some ⟨(x, y.reverse, z, ())⟩ := by
  have e : revP (enc (Tp.mk (x, y, z, ()) : (Tp ((List Int) × (List Int) × Int × Unit)))) [1] = some (.tup [.lst (x.map enc), .lst (y.reverse.map enc), enc z]) := by
    show (if (y.map (enc : Int → PV)).all imV = true then some (PV.tup [.lst (x.map enc), .lst (y.map enc).reverse, enc z]) else none) = _
    rw [if_pos (ints_imV y), List.map_reverse]
  rw [e]
  exact dec_3 x y.reverse z
theorem ints_yes (xs : List Int) : m__law_is_ints xs = .ok true := by
  unfold m__law_is_ints
  show (R.bind (R.bind (R.ok xs) fun l2 => compR (fun x1 : Int => (R.ok true)) (fun x1 : Int => (m__law_is_int x1)) l2) fun t3 => (R.ok (t3.all id))) = _
  rw [R.bind_ok, show compR (fun x1 : Int => (R.ok true)) (fun x1 : Int => (m__law_is_int x1)) xs = .ok ((xs.filter fun _ => true).map fun _ => true) from compR_ok (fun _ _ => rfl) (fun _ _ => rfl), filter_yes]
  show R.ok _ = R.ok true
  congr 1
  rw [List.all_map]
  exact List.all_eq_true.mpr fun _ _ => rfl
theorem loop_nx {α A : Type} {f : α → Unit → R (Stp Unit A)} : ∀ L : List α, (∀ x, x ∈ L → f x () = .ok (.nx ())) → loopR f L () = .ok (.nx ())
  | [], _ => rfl
  | x :: xs, h => by
    show R.bind (f x ()) _ = _
    rw [h x (List.mem_cons_self ..), R.bind_ok]
    exact loop_nx xs fun y hy => h y (List.mem_cons_of_mem _ hy)
theorem app_ok {xs : List Int} (h : xs.length ≤ 900) (x : Int) : appL xs x = some (xs ++ [x]) := by
  have h5 : (LIM : Nat) = 1000000 := rfl
  exact optIf_pos (by omega)
section
variable {a b : List Int}
/-- what is asked: the number of steps -/
theorem asked_is (times : Int) (h : times = -1 ∨ 0 ≤ times) : m__law_asked a b times = m_turn a b (((if times < 0 then -times else times).toNat : Nat) : Int) := by
  unfold m__law_asked
  by_cases q : times < 0
  · have e : times = -1 := by omega
    subst e
    show R.bind (m_turn a b 1) (fun a1 => R.ok a1) = m_turn a b 1
    cases m_turn a b 1 <;> rfl
  · rw [decide_eq_false q, if_neg q, show ((times.toNat : Nat) : Int) = times by omega]
    show R.bind (m_turn a b times) (fun a1 => R.ok a1) = _
    cases m_turn a b times <;> rfl
theorem good_ok (he : a.length = b.length) (hl : a.length ≤ 45) {times : Int} (ht : times = -1 ∨ (0 ≤ times ∧ times ≤ 500)) {ps : List (List Int)} (hp : ∀ p, p ∈ ps → IsP a.length p) : m__law_turn_good a b times ps = .ok true := by
  have hLm : (LIM : Nat) = 1000000 := rfl
  have sl := Cm.srt_len a b
  obtain ⟨t, et⟩ : ∃ t : Nat, (if times < 0 then -times else times) = (t : Int) := ⟨(if times < 0 then -times else times).toNat, by split <;> omega⟩
  have t5 : t ≤ 500 := by
    have : (t : Int) ≤ 500 := by rw [← et]; split <;> omega
    omega
  obtain ⟨a2, b2, ch, eT, l1, l2, hcase⟩ := turn_is he (by omega) t (by omega)
  have due : m__law_due a b (t : Int) = .ok [(enc a2 : PV), (enc b2 : PV), (enc ch : PV)] := by
    rcases hcase with ⟨z, rfl, rfl, rfl⟩ | ⟨_, h⟩
    · exact due_zero z (by omega)
    · exact due_is (by omega) (by omega) (by omega) h
  have results : ∀ p, p ∈ ps → (res a2 b2 p : Int) - res a b p = ch := fun p hp' => by
    rcases hcase with ⟨z, rfl, rfl, rfl⟩ | ⟨_, h⟩
    · omega
    · have := h.2.2.2.2 p (hp p hp')
      omega
  have asked : m__law_asked a b times = .ok ⟨(a2, b2, ch, ())⟩ := by
    rw [asked_is times (by omega), et, Int.toNat_natCast]
    exact eT
  unfold m__law_turn_good
  dsimp only [R.lt]
  rw [et, due, R.bind_ok, show rngO 0 (2 : Int) = some [0, 1] from rfl, R.of_some, R.bind_ok]
  have each : ∀ x : Int, m__law_turn_good_b2 a b times ps a b [(enc a2 : PV), (enc b2 : PV), (enc ch : PV)] x () = .ok (.nx ()) := fun x => by
    unfold m__law_turn_good_b2
    rw [asked]
    show R.ifm (R.ok ((!eqP (enc a) (enc a)) || ((!eqP (enc b) (enc b)) || ((!true) || (!decide ((3 : Int) = (3 : Int))))))) _ _ = _
    rw [eqP_self, eqP_self, show ((!true) || ((!true) || ((!true) || (!decide ((3 : Int) = (3 : Int)))))) = false from rfl]
    show R.ifm (R.bind (R.bind (m__law_is_ints a2) fun t10 => R.ok (!t10)) fun t14 => (R.ite t14 (R.ok true) (R.bind (R.bind (m__law_is_ints b2) fun t11 => R.ok (!t11)) fun t13 => (R.ite t13 (R.ok true) (R.bind (m__law_is_int ch) fun t12 => R.ok (!t12)))))) _ _ = _
    rw [ints_yes, ints_yes]
    show R.ifm (R.bind (R.of ((eqQ (enc a2) (enc (enc a2 : PV))).map (!·))) fun t20 => (R.ite t20 (R.ok true) (R.bind (R.of ((eqQ (enc b2) (enc (enc b2 : PV))).map (!·))) fun t19 => (R.ite t19 (R.ok true) (R.of ((eqQ (enc ch) (enc (enc ch : PV))).map (!·))))))) _ _ = _
    rw [show eqQ (enc a2) (enc (enc a2 : PV)) = some true from (eqQ_enc a2 a2).trans (congrArg some (eqP_self _)), show eqQ (enc b2) (enc (enc b2 : PV)) = some true from (eqQ_enc b2 b2).trans (congrArg some (eqP_self _)), show eqQ (enc ch) (enc (enc ch : PV)) = some true from (eqQ_enc ch ch).trans (congrArg some (eqP_self _))]
    show R.bind (loopR (m__law_turn_good_b1 a b ⟨(a2, b2, ch, ())⟩) ps ()) _ = _
    rw [loop_nx ps (fun p hp' => by
      have ip := hp p hp'
      unfold m__law_turn_good_b1
      show R.ifm (R.bind (R.bind (m__law_result a2 b2 p) fun t24 => R.bind (m__law_result a b p) fun t25 => (R.ok (t24 - t25))) fun t26 => (R.ok (!decide (t26 = ch)))) _ _ = _
      rw [e_result, Cm.result_is (by rw [ip.1, l1]) (by omega) (fun x hx => by have := ip.2.2 x hx; omega), R.bind_ok, Cm.result_is ip.1 (by omega) (fun x hx => by have := ip.2.2 x hx; omega), R.bind_ok, R.bind_ok, decide_eq_true (results p hp')]
      rfl), R.bind_ok]
    show R.bind (m__law_order a b) (fun v_order_28 => _) = _
    rw [e_order, Cm.law_order (by omega) (by omega), R.bind_ok, et, Cm.law_order (by show a2.length ≤ 100; omega) (by show b2.length ≤ 100; omega)]
    obtain ⟨cut, ec, en⟩ : ∃ cut : Nat, (R.bind (R.of (modO (t : Int) (if ((srt a b).length : Int) > (1 : Int) then ((srt a b).length : Int) else (1 : Int)))) fun t29 => (R.ok (((srt a b).length : Int) - t29))) = .ok (cut : Int) ∧ (srt a2 b2).map nmC = ((srt a b).drop cut ++ (srt a b).take cut).map nmC := by
      rcases hcase with ⟨z, rfl, rfl, rfl⟩ | ⟨z, h⟩
      · have s0 : srt a2 b2 = [] := List.length_eq_zero_iff.mp (by omega)
        refine ⟨0, ?_, by rw [s0]; rfl⟩
        rw [s0]
        show (R.bind (R.of (modO (t : Int) (1 : Int))) fun t29 => (R.ok ((0 : Int) - t29))) = _
        rw [show modO (t : Int) 1 = some ((t : Int) % 1) from optIf_pos (by decide), R.of_some, R.bind_ok]
        congr 1
        omega
      · have hr := Nat.mod_lt t (show 0 < (srt a b).length by omega)
        refine ⟨(srt a b).length - t % (srt a b).length, ?_, by rw [h.2.2.1]; exact rot_names (by omega)⟩
        rw [if_pos (by omega), show modO (t : Int) ((srt a b).length : Int) = some (((t % (srt a b).length : Nat)) : Int) from optIf_pos (by omega), R.of_some, R.bind_ok]
        congr 1
        omega
    rw [ec, R.bind_ok, R.bind_ok, names_is, R.bind_ok, cutL_from (by omega), cutL_to (by omega), Int.toNat_natCast, show catL ((srt a b).drop cut) ((srt a b).take cut) = some ((srt a b).drop cut ++ (srt a b).take cut) from if_pos (by rw [List.length_drop, List.length_take]; omega), R.of_some, R.bind_ok, names_is, R.bind_ok, en, eqP_self, show (!true) = false from rfl, R.ifm_ok, ite_f]
    show (R.bind (R.ok (7 : Int)) fun a44 => R.bind (R.of (appL a2 a44)) fun l37 => _) = _
    rw [R.bind_ok, app_ok (by omega), R.of_some, R.bind_ok, R.bind_ok, rev_is, R.of_some, R.bind_ok, R.bind_ok]
    show (R.bind (R.of (appL b2.reverse (5 : Int))) fun l40 => _) = _
    rw [app_ok (by rw [List.length_reverse]; omega), R.of_some, R.bind_ok]
    rfl
  rw [loop_nx _ (fun x _ => each x), R.bind_ok]
  rfl
theorem refused_ok (h : a.length ≠ b.length) (ha : a.length ≤ 1000) (hb : b.length ≤ 1000) {times : Int} (ht : times = -1 ∨ 0 ≤ times) : m__law_refused a b times = .ok true := by
  have asked : m__law_asked a b times = .ex ⟨1, [enc (b.length : Int), enc (a.length : Int)]⟩ := by
    rw [asked_is times ht]
    exact turn_no h ha hb _
  unfold m__law_refused
  dsimp only [R.lt]
  rw [asked]
  show R.ok ((decide ((a.length : Int) = (a.length : Int))) && ((decide ((b.length : Int) = (b.length : Int))) && ((eqP (enc a) (enc a)) && (eqP (enc b) (enc b))))) = _
  rw [eqP_self, eqP_self, decide_eq_true rfl, decide_eq_true rfl]
  rfl
end
end K14
namespace K14
open PySem PySem.Spec L2 Pv Rot
open Cm (srt Card isM isT cmOf ctOf pos num idx res IsP)
open Enc (enc)
open Encs (encs)
theorem drawn_of (s : Scr) (k : Int) (hk : 0 ≤ k) {zs : List Int} (hl : zs.length ≤ 1000) (hz : ∀ z, z ∈ zs → 0 < z ∧ z < 10000000000000000) : Ok (R.bind (m__law_cell s k) fun t => m__law_draws t zs) (Drawn zs) := by
  rw [e_cell, e_draws]
  exact Ok.bind ((Cm.cell_ok s k hk).imp fun c _ => Cm.draws_ok c _ hl hz)
theorem comp_all {α β : Type} {f : α → R β} {Q : β → Prop} : ∀ L : List α, (∀ x, x ∈ L → Ok (f x) Q) → Ok (compR (fun _ : α => R.ok true) f L) fun ys => ys.length = L.length ∧ ∀ y, y ∈ ys → Q y
  | [], _ => Ok.ok ⟨rfl, fun y hy => by cases hy⟩
  | x :: L, h => by
    obtain ⟨y, e, q⟩ := h x (List.mem_cons_self ..)
    obtain ⟨ys, e2, q2, q3⟩ := comp_all L fun z hz => h z (List.mem_cons_of_mem _ hz)
    refine ⟨y :: ys, ?_, by rw [List.length_cons, q2, List.length_cons], fun z hz => ?_⟩
    · unfold compR
      rw [e, e2]
      rfl
    · rcases List.mem_cons.mp hz with rfl | hz
      · exact q
      · exact q3 z hz
theorem law_all (sc : Scr) : m_law sc = .ok true := by
  refine Ok.get ?_
  unfold m_law
  have h1 : (LIM : Nat) = 1000000 := rfl
  refine Ok.via (fun sh => Drawn [8, 9, 41, 8, 3, 201, 82, 40] sh) (drawn_of sc 0 (by omega) (by show (8 : Nat) ≤ 1000; omega) (by decide)) fun sh hsh => ?_
  obtain ⟨s0, e0, p0, q0⟩ := drawn_get hsh 0 8 rfl
  obtain ⟨s1, e1, p1, q1⟩ := drawn_get hsh 1 9 rfl
  obtain ⟨s2, e2, p2, q2⟩ := drawn_get hsh 2 41 rfl
  obtain ⟨s3, e3, p3, q3⟩ := drawn_get hsh 3 8 rfl
  obtain ⟨s4, e4, p4, q4⟩ := drawn_get hsh 4 3 rfl
  obtain ⟨s5, e5, p5, q5⟩ := drawn_get hsh 5 201 rfl
  obtain ⟨s6, e6, p6, q6⟩ := drawn_get hsh 6 82 rfl
  obtain ⟨s7, e7, p7, q7⟩ := drawn_get hsh 7 40 rfl
  have e0 : atI sh (0 : Int) = some s0 := e0
  have e1 : atI sh (1 : Int) = some s1 := e1
  have e2 : atI sh (2 : Int) = some s2 := e2
  have e3 : atI sh (3 : Int) = some s3 := e3
  have e4 : atI sh (4 : Int) = some s4 := e4
  have e5 : atI sh (5 : Int) = some s5 := e5
  have e6 : atI sh (6 : Int) = some s6 := e6
  have e7 : atI sh (7 : Int) = some s7 := e7
  rw [e0, e1, e2, e3, e4, e5, e6]
  clear hsh
  simp only [R.of_some, R.bind_ok, R.ifm_ok]
  refine Ok.via (fun c : Int => 0 ≤ c ∧ c ≤ 40) (Ok.ite (fun _ => Ok.ok (by omega)) fun _ => Ok.ok (by omega)) fun c hc => ?_
  obtain ⟨n, rfl⟩ : ∃ n : Nat, c = (n : Int) := ⟨c.toNat, by omega⟩
  have hn : n ≤ 40 := by omega
  refine Ok.via (fun t : Tp (List Int × List Int × Unit) => (t.t.1.length : Int) = (n : Int) ∧ (t.t.2.1.length : Int) = (n : Int)) (by rw [e_hands]; exact Cm.hands_ok sc 1 n (by omega) (by omega)) fun hd hhd => ?_
  obtain ⟨⟨a0, b0, ⟨⟩⟩⟩ := hd
  have ha0 : a0.length = n := by have : (a0.length : Int) = n := hhd.1; omega
  have hb0 : b0.length = n := by have : (b0.length : Int) = n := hhd.2; omega
  dsimp only [R.lt]
  refine Ok.via (fun z : List Int × List Int => z.1.length = n ∧ z.2.length = n) ?_ fun z hz => ?_
  · refine Ok.ite (fun _ => ?_) fun _ => Ok.ok ⟨ha0, hb0⟩
    refine Ok.via (fun y : List Int => y.length = n) (Ok.eq (compR_ok (p := fun _ => true) (g := fun _ : Int => s4 - 1) (fun _ _ => rfl) (fun _ _ => rfl)) (by rw [List.length_map, List.filter_eq_self.mpr (fun _ _ => rfl)]; exact hb0)) fun y hy => Ok.ok ⟨by rw [List.length_map]; exact ha0, hy⟩
  obtain ⟨a, b⟩ := z
  have ha : a.length = n := hz.1
  have hb : b.length = n := hz.2
  refine Ok.via (fun ps : List (List Int) => ∀ p, p ∈ ps → IsP n p) ?_ fun ps hps => ?_
  · refine Ok.ite (fun c4 => ?_) fun _ => ?_
    · have n4 : n ≤ 4 := by have := of_decide_eq_true c4; omega
      rw [e_fact, Cm.fact_is (by omega), R.bind_ok]
      have f24 : Cm.fact n ≤ 24 := by
        rcases (show n = 0 ∨ n = 1 ∨ n = 2 ∨ n = 3 ∨ n = 4 by omega) with rfl | rfl | rfl | rfl | rfl <;> decide
      rw [show rngO 0 (Cm.fact n : Int) = some (Pv.rng 0 (Cm.fact n : Int)) from if_pos (by omega), rng_nat, R.of_some, R.bind_ok]
      refine Ok.via (fun ps : List (List Int) => ∀ p, p ∈ ps → IsP n p) ((comp_all (Q := IsP n) _ fun x hx => ?_).imp fun ps h => h.2) fun ps h => Ok.ok h
      obtain ⟨k, hk, rfl⟩ := List.mem_map.mp hx
      rw [e_unrank]
      exact Ok.eq (Cm.unrank_is (by omega)) Cm.unr_isP
    · rw [show rngO 0 (6 : Int) = some [0, 1, 2, 3, 4, 5] from rfl, R.of_some, R.bind_ok]
      refine Ok.via (fun ps : List (List Int) => ∀ p, p ∈ ps → IsP n p) ((comp_all (Q := IsP n) _ fun x hx => ?_).imp fun ps h => h.2) fun ps h => Ok.ok h
      have hx0 : 0 ≤ x := by
        simp only [List.mem_cons, List.not_mem_nil, or_false] at hx
        rcases hx with rfl | rfl | rfl | rfl | rfl | rfl <;> decide
      rw [e_cell, e_pairing]
      exact Ok.bind ((Cm.cell_ok sc _ (by omega)).imp fun c _ => (Cm.pairing_ok c (n := (n : Int)) (by omega)).imp fun p hp => by rwa [Int.toNat_natCast] at hp)
  have he : a.length = b.length := by omega
  have pa : ∀ {x : List Int}, x.length = n → ∀ p, p ∈ ps → IsP x.length p := fun hx p hp => by rw [hx]; exact hps p hp
  have m2 : mulO (2 : Int) (n : Int) = some (2 * (n : Int)) := by unfold mulO; exact optIf_pos (.inl (by decide))
  rw [m2]
  simp only [R.of_some, R.bind_ok]
  rw [show modO s6 (2 * (n : Int) + 1) = some (s6 % (2 * (n : Int) + 1)) from optIf_pos (by omega)]
  simp only [R.of_some, R.bind_ok]
  have g6 := Int.emod_nonneg s6 (show 2 * (n : Int) + 1 ≠ 0 by omega)
  have g6' := Int.emod_lt_of_pos s6 (show 0 < 2 * (n : Int) + 1 by omega)
  rw [loop_nx _ (fun x hx => by
    unfold m_law_b1
    rw [good_ok (a := a) (b := b) he (by omega) (by
      simp only [List.mem_cons, List.not_mem_nil, or_false] at hx
      rcases hx with rfl | rfl | rfl | rfl | rfl | rfl <;> omega) (pa ha)]
    rfl), R.bind_ok]
  show Ok (R.bind (loopR (m_law_b2 sh (n : Int) (a, b)) [(-(1 : Int)), (0 : Int), (1 : Int) + s6] ()) _) _
  rw [loop_nx _ (fun x hx => by
    have hx' : x = -1 ∨ 0 ≤ x := by
      simp only [List.mem_cons, List.not_mem_nil, or_false] at hx
      rcases hx with rfl | rfl | rfl <;> omega
    unfold m_law_b2
    rw [e7]
    simp only [R.of_some, R.bind_ok]
    rw [show catL (a, b).1 ([s7] : List Int) = some (a ++ [s7]) from if_pos (by show a.length + 1 ≤ _; omega), show catL (a, b).2 ([(0 : Int)] : List Int) = some (b ++ [0]) from if_pos (by show b.length + 1 ≤ _; omega)]
    simp only [R.of_some, R.bind_ok]
    rw [refused_ok (a := a ++ [s7]) (b := b) (by rw [List.length_append]; show a.length + 1 ≠ _; omega) (by rw [List.length_append]; show a.length + 1 ≤ _; omega) (by omega) hx', refused_ok (a := a) (b := b ++ [0]) (by rw [List.length_append]; show _ ≠ b.length + 1; omega) (by omega) (by rw [List.length_append]; show b.length + 1 ≤ _; omega) hx']
    by_cases n0 : (0 : Int) < (n : Int)
    · rw [decide_eq_true n0, show modO s7 (n : Int) = some (s7 % (n : Int)) from optIf_pos n0]
      have g7 := Int.emod_nonneg s7 (show (n : Int) ≠ 0 by omega)
      have g7' := Int.emod_lt_of_pos s7 n0
      simp only [R.of_some, R.bind_ok]
      rw [cutL_to g7, refused_ok (a := a.take (s7 % (n : Int)).toNat) (b := b) (by rw [List.length_take]; omega) (by rw [List.length_take]; omega) (by omega) hx']
      rfl
    · rw [decide_eq_false n0]
      rfl), R.bind_ok]
  rw [e7]
  simp only [R.of_some, R.bind_ok]
  show Ok (R.bind (R.ite (decide ((0 : Int) < (n : Int))) _ (R.ok a)) _) _
  refine Ok.via (fun x : List Int => x.length = n) (Ok.ite (fun c => ?_) fun _ => Ok.ok ha) fun x hx => ?_
  · have n0 := of_decide_eq_true c
    have g7 := Int.emod_nonneg s7 (show (n : Int) ≠ 0 by omega)
    have g7' := Int.emod_lt_of_pos s7 n0
    rw [show modO s7 (n : Int) = some (s7 % (n : Int)) from optIf_pos n0]
    obtain ⟨v, hv, _⟩ := atI_of (xs := a) g7 (by omega)
    simp only [R.of_some, R.bind_ok, hv]
    exact Ok.bind (Ok.set g7 (by omega) (Ok.ok (by rw [List.length_set]; exact ha)))
  · rw [good_ok (a := x) (b := b) (by omega) (by omega) (by omega) (pa hx)]
    exact Ok.ok rfl
theorem law_true (ns : List Int) (_hl : ns.length ≤ 63) : m_law ⟨ns⟩ = .ok true := law_all ⟨ns⟩
end K14

set_option Elab.async false
set_option linter.all false
set_option maxRecDepth 100000
set_option maxHeartbeats 4000000
namespace K14
open PySem PySem.Spec L2 Pv
open Enc (enc)
open Encs (encs)
section
variable {P : Program} {w : World} {K : PySem.W.Frag} {mg : Str → Option Value} {base : Heap}
abbrev s_BadHands_init : Stmt := inClass (topS 2) 0
theorem sc_BadHands_init : SupScope ["self", "mine_count", "theirs_count"] (defScope s_BadHands_init) := ⟨rfl, rfl, rfl, by decide +kernel, by decide +kernel, by decide +kernel, by decide +kernel⟩
set_option maxRecDepth 100000 in
theorem all_mk {l : PySem.W.OpenLaw} {w : World} {K : PySem.W.Frag} {h : Heap} {mg : Str → Option Value} {fa f1 f2 f3 f4 f5 f6 f7 f8 f9 f10 f11 f12 f13 f14 f15 f16 f17 f18 f19 f20 f21 C0 C1 C2 C3 C4 C5 C6 C7 C8 C9 C10 C11 C12 C13 fX1 KD4 : Addr} (X : K.In h) (G : h.Ns mainGlobals mg) (hfa : mg "law" = some (.ref fa))
    {od1 an1 od2 an2 od3 an3 od4 an4 od5 an5 od6 an6 od7 an7 od8 an8 od9 an9 od10 an10 od11 an11 od12 an12 od13 an13 od14 an14 od15 an15 od16 an16 od17 an17 od18 an18 od19 an19 od20 an20 od21 an21 : Option Addr} {sl1 sl2 sl3 sl4 sl5 sl6 sl7 sl8 sl9 sl10 sl11 sl12 sl13 sl14 sl15 sl16 sl17 sl18 sl19 sl20 sl21 : Array (Option Value)} {oc1 kV1 dc1 pm1 cd1 ct1 oc2 kV2 dc2 pm2 cd2 ct2 oc3 kV3 dc3 pm3 cd3 ct3 oc4 dc4 pm4 cd4 ct4 oc5 kV5 dc5 pm5 cd5 ct5 oc6 kV6 dc6 pm6 cd6 ct6 oc7 kV7 dc7 pm7 cd7 ct7 oc8 kV8 dc8 pm8 cd8 ct8 oc9 kV9 dc9 pm9 cd9 ct9 oc10 kV10 dc10 pm10 cd10 ct10 oc11 kV11 dc11 pm11 cd11 ct11 oc12 kV12 dc12 pm12 cd12 ct12 oc13 kV13 dc13 pm13 cd13 ct13 oc14 kV14 dc14 pm14 cd14 ct14 oc15 kV15 dc15 pm15 cd15 ct15 oc16 kV16 dc16 pm16 cd16 ct16 oc17 kV17 dc17 pm17 cd17 ct17 oc18 kV18 dc18 pm18 cd18 ct18 oc19 kV19 dc19 pm19 cd19 ct19 oc20 kV20 dc20 pm20 cd20 ct20 oc21 kV21 dc21 pm21 cd21 ct21 : Value} {tk4_0 : Tok} {nm1 qn1 : Str} {N1 : Addr} {bs1 : List Value} {sn1 : List Str} {sub1 : List Value} {ab1 : Bool} {col1 : Option Bool} {dd1 : Option Addr} {ka1 kb1 kc1 kd1 ke1 : Option Value} {ocX1 kVX1 dcX1 pmX1 ctX1 : Value} {odX1 anX1 : Option Addr} {slX1 : Array (Option Value)} {cda1 cc1 : Addr} {ccl1 : Value} {cdd1 : Option Addr} {cvs1 : Array Value} {ccs1 : Array (Option Value)} {fil1 : Str} {tf1 : Tok} {cl1 : Value} {cld1 : Option Addr} {csl1 : Array (Option Value)} {cdD1 : ClassData}
    (z_ValueError : PySem.W.nsIn K mainGlobals "ValueError" = some none)
    (z_abs : PySem.W.nsIn K mainGlobals "abs" = some none)
    (z_all : PySem.W.nsIn K mainGlobals "all" = some none)
    (z_bool : PySem.W.nsIn K mainGlobals "bool" = some none)
    (z_enumerate : PySem.W.nsIn K mainGlobals "enumerate" = some none)
    (z_int : PySem.W.nsIn K mainGlobals "int" = some none)
    (z_isinstance : PySem.W.nsIn K mainGlobals "isinstance" = some none)
    (z_len : PySem.W.nsIn K mainGlobals "len" = some none)
    (z_list : PySem.W.nsIn K mainGlobals "list" = some none)
    (z_max : PySem.W.nsIn K mainGlobals "max" = some none)
    (z_min : PySem.W.nsIn K mainGlobals "min" = some none)
    (z_range : PySem.W.nsIn K mainGlobals "range" = some none)
    (z_sorted : PySem.W.nsIn K mainGlobals "sorted" = some none)
    (z_sum : PySem.W.nsIn K mainGlobals "sum" = some none)
    (z_super : PySem.W.nsIn K mainGlobals "super" = some none)
    (z_tuple : PySem.W.nsIn K mainGlobals "tuple" = some none)
    (aC0 : PySem.W.nsIn K mainGlobals "ClimbrowError" = some (some (.ref C0)))
    (aC1 : PySem.W.nsIn K mainGlobals "BadHands" = some (some (.ref C1)))
    (aC2 : PySem.W.nsIn K mainGlobals "BadWord" = some (some (.ref C2)))
    (aC3 : PySem.W.nsIn K mainGlobals "BadCard" = some (some (.ref C3)))
    (aC4 : PySem.W.nsIn K mainGlobals "BadPairing" = some (some (.ref C4)))
    (aC5 : PySem.W.nsIn K mainGlobals "BadPlace" = some (some (.ref C5)))
    (aC6 : PySem.W.nsIn K mainGlobals "OutOfTurn" = some (some (.ref C6)))
    (aC7 : PySem.W.nsIn K mainGlobals "Unreachable" = some (some (.ref C7)))
    (aC8 : PySem.W.nsIn K mainGlobals "Contradiction" = some (some (.ref C8)))
    (aC9 : PySem.W.nsIn K mainGlobals "BadBounds" = some (some (.ref C9)))
    (aC10 : PySem.W.nsIn K mainGlobals "BadSchedule" = some (some (.ref C10)))
    (aC11 : PySem.W.nsIn K mainGlobals "BadText" = some (some (.ref C11)))
    (aC12 : PySem.W.nsIn K mainGlobals "UnknownName" = some (some (.ref C12)))
    (aC13 : PySem.W.nsIn K mainGlobals "DuplicateName" = some (some (.ref C13)))
    (eC0 : PySem.W.subIn K (.ref C0) (.type "BaseException") = some true)
    (tC0 : PySem.W.typeIn K (.ref C0) = some (.type "type"))
    (hC0 : PySem.W.hasDictIn K C0 = true)
    (eC1 : PySem.W.subIn K (.ref C1) (.type "BaseException") = some true)
    (tC1 : PySem.W.typeIn K (.ref C1) = some (.type "type"))
    (hC1 : PySem.W.hasDictIn K C1 = true)
    (xL1 : K.lookup C1 = some (excClassObj nm1 qn1 C1 N1 bs1 [.ref C0, .type "ValueError", .type "Exception", .type "BaseException", .type "object"] true sn1 sub1 ab1 col1 dd1 ka1 kb1 kc1 kd1 ke1 "ValueError.__new__"))
    (sa1 : PySem.W.findIn K (.ref C1) "__setattr__" = some (some (.builtin "object.__setattr__")))
    (kk1 : PySem.W.keepIn K (.ref C1) = true)
    (ai1 : PySem.W.findIn K (.ref C1) "__init__" = some (some (.ref fX1)))
    (ti1 : PySem.W.typeIn K (.ref fX1) = some (.type "function"))
    (lX1 : K.lookup fX1 = some ⟨ocX1, odX1, .func (PySem.W.ksFn "__init__" "BadHands.__init__" (defArgs s_BadHands_init) (defBody s_BadHands_init) (defScope s_BadHands_init) .none kVX1 dcX1 pmX1 anX1 (.ref cda1) ctX1 cc1), slX1⟩)
    (cX1 : PySem.W.codeIn K (.ref cda1) "BadHands.__init__" = true)
    (lcd1 : K.lookup cda1 = some ⟨ccl1, cdd1, .fields cvs1, ccs1⟩)
    (hvs1 : cvs1[2]? = some (.str fil1 tf1))
    (hfi1 : ((l.prog.main.file : Str) == fil1) = true)
    (lce1 : K.lookup cc1 = some ⟨cl1, cld1, .cell (some (.ref C1)), csl1⟩)
    (hcl1 : PySem.W.clsIn K C1 = some cdD1)
    (hms1 : PySem.W.mroIn K C1 (.ref C1) = some true)
    (hup1 : PySem.W.ks_superIn K C1 C1 "__init__" = some (some (.builtin "ValueError.__init__")))
    (hbs1 : PySem.W.subIn K (.ref C1) (.type "ValueError") = some true)
    (nf1_mine_count : PySem.W.findIn K (.ref C1) "mine_count" = some none)
    (nf1_theirs_count : PySem.W.findIn K (.ref C1) "theirs_count" = some none)
    (htop : (l.prog.main.scope.names.lookup ("super" : Str)).isSome = false)
    (hopq : PySem.W.nsIn K cStatics "thirdparty.any" = some none)
    (ga1 : PySem.W.findIn K (.ref C1) "__getattribute__" = some (some (.builtin "BaseException.__getattribute__")))
    (gg1 : PySem.W.findIn K (.ref C1) "__getattr__" = some none)
    (hx1 : PySem.W.findIn K (.ref C1) "__class__" = some (some (.builtin "object.__class__")))
    (mo1 : PySem.W.mroIn K C1 (.type "object") = some true)
    (gc1 : PySem.W.specialIn K (.builtin "object.__class__") "__get__" = some (some (.builtin "getset_descriptor.__get__")))
    (gc2 : PySem.W.takesIn K (.builtin "object.__class__") = some true)
    (t_BadHands_BadBounds : PySem.W.kitOne K (.ref C1) (.ref C9) = some false)
    (t_BadHands_BadCard : PySem.W.kitOne K (.ref C1) (.ref C3) = some false)
    (t_BadHands_BadHands : PySem.W.kitOne K (.ref C1) (.ref C1) = some true)
    (t_BadHands_BadPairing : PySem.W.kitOne K (.ref C1) (.ref C4) = some false)
    (t_BadHands_BadPlace : PySem.W.kitOne K (.ref C1) (.ref C5) = some false)
    (t_BadHands_BadSchedule : PySem.W.kitOne K (.ref C1) (.ref C10) = some false)
    (t_BadHands_BadText : PySem.W.kitOne K (.ref C1) (.ref C11) = some false)
    (t_BadHands_BadWord : PySem.W.kitOne K (.ref C1) (.ref C2) = some false)
    (t_BadHands_Contradiction : PySem.W.kitOne K (.ref C1) (.ref C8) = some false)
    (t_BadHands_DuplicateName : PySem.W.kitOne K (.ref C1) (.ref C13) = some false)
    (t_BadHands_OutOfTurn : PySem.W.kitOne K (.ref C1) (.ref C6) = some false)
    (t_BadHands_UnknownName : PySem.W.kitOne K (.ref C1) (.ref C12) = some false)
    (t_BadHands_Unreachable : PySem.W.kitOne K (.ref C1) (.ref C7) = some false)
    (t_BadHands_ValueError : PySem.W.kitOne K (.ref C1) (.type "ValueError") = some true)
    (sb_BadHands_ClimbrowError_y : PySem.W.subIn K (.ref C1) (.ref C0) = some true)
    (a1 : PySem.W.nsIn K mainGlobals "check_hands" = some (some (.ref f1)))
    (l1 : K.lookup f1 = some ⟨oc1, od1, .func (PySem.W.fnOf "check_hands" "check_hands" (defArgs s_check_hands) (defBody s_check_hands) (defScope s_check_hands) .none kV1 dc1 pm1 an1 cd1 ct1), sl1⟩)
    (c1 : PySem.W.codeIn K cd1 "check_hands" = true)
    (k1 : PySem.W.keepIn K (.ref f1) = true)
    (a2 : PySem.W.nsIn K mainGlobals "deck" = some (some (.ref f2)))
    (l2 : K.lookup f2 = some ⟨oc2, od2, .func (PySem.W.fnOf "deck" "deck" (defArgs s_deck) (defBody s_deck) (defScope s_deck) .none kV2 dc2 pm2 an2 cd2 ct2), sl2⟩)
    (c2 : PySem.W.codeIn K cd2 "deck" = true)
    (k2 : PySem.W.keepIn K (.ref f2) = true)
    (a3 : PySem.W.nsIn K mainGlobals "turn_once" = some (some (.ref f3)))
    (l3 : K.lookup f3 = some ⟨oc3, od3, .func (PySem.W.fnOf "turn_once" "turn_once" (defArgs s_turn_once) (defBody s_turn_once) (defScope s_turn_once) .none kV3 dc3 pm3 an3 cd3 ct3), sl3⟩)
    (c3 : PySem.W.codeIn K cd3 "turn_once" = true)
    (k3 : PySem.W.keepIn K (.ref f3) = true)
    (a4 : PySem.W.nsIn K mainGlobals "turn" = some (some (.ref f4)))
    (l4 : K.lookup f4 = some ⟨oc4, od4, .func (PySem.W.fnOf "turn" "turn" (defArgs s_turn) (defBody s_turn) (defScope s_turn) .none (.ref KD4) dc4 pm4 an4 cd4 ct4), sl4⟩)
    (c4 : PySem.W.codeIn K cd4 "turn" = true)
    (k4 : PySem.W.keepIn K (.ref f4) = true)
    (kw4_0 : PySem.W.nsIn K KD4 "steps" = some (some (.int 1 tk4_0)))
    (a5 : PySem.W.nsIn K mainGlobals "_law_cell" = some (some (.ref f5)))
    (l5 : K.lookup f5 = some ⟨oc5, od5, .func (PySem.W.fnOf "_law_cell" "_law_cell" (defArgs s__law_cell) (defBody s__law_cell) (defScope s__law_cell) .none kV5 dc5 pm5 an5 cd5 ct5), sl5⟩)
    (c5 : PySem.W.codeIn K cd5 "_law_cell" = true)
    (k5 : PySem.W.keepIn K (.ref f5) = true)
    (a6 : PySem.W.nsIn K mainGlobals "_law_draws" = some (some (.ref f6)))
    (l6 : K.lookup f6 = some ⟨oc6, od6, .func (PySem.W.fnOf "_law_draws" "_law_draws" (defArgs s__law_draws) (defBody s__law_draws) (defScope s__law_draws) .none kV6 dc6 pm6 an6 cd6 ct6), sl6⟩)
    (c6 : PySem.W.codeIn K cd6 "_law_draws" = true)
    (k6 : PySem.W.keepIn K (.ref f6) = true)
    (a7 : PySem.W.nsIn K mainGlobals "_law_hand" = some (some (.ref f7)))
    (l7 : K.lookup f7 = some ⟨oc7, od7, .func (PySem.W.fnOf "_law_hand" "_law_hand" (defArgs s__law_hand) (defBody s__law_hand) (defScope s__law_hand) .none kV7 dc7 pm7 an7 cd7 ct7), sl7⟩)
    (c7 : PySem.W.codeIn K cd7 "_law_hand" = true)
    (k7 : PySem.W.keepIn K (.ref f7) = true)
    (a8 : PySem.W.nsIn K mainGlobals "_law_hands" = some (some (.ref f8)))
    (l8 : K.lookup f8 = some ⟨oc8, od8, .func (PySem.W.fnOf "_law_hands" "_law_hands" (defArgs s__law_hands) (defBody s__law_hands) (defScope s__law_hands) .none kV8 dc8 pm8 an8 cd8 ct8), sl8⟩)
    (c8 : PySem.W.codeIn K cd8 "_law_hands" = true)
    (k8 : PySem.W.keepIn K (.ref f8) = true)
    (a9 : PySem.W.nsIn K mainGlobals "_law_pairing" = some (some (.ref f9)))
    (l9 : K.lookup f9 = some ⟨oc9, od9, .func (PySem.W.fnOf "_law_pairing" "_law_pairing" (defArgs s__law_pairing) (defBody s__law_pairing) (defScope s__law_pairing) .none kV9 dc9 pm9 an9 cd9 ct9), sl9⟩)
    (c9 : PySem.W.codeIn K cd9 "_law_pairing" = true)
    (k9 : PySem.W.keepIn K (.ref f9) = true)
    (a10 : PySem.W.nsIn K mainGlobals "_law_unrank" = some (some (.ref f10)))
    (l10 : K.lookup f10 = some ⟨oc10, od10, .func (PySem.W.fnOf "_law_unrank" "_law_unrank" (defArgs s__law_unrank) (defBody s__law_unrank) (defScope s__law_unrank) .none kV10 dc10 pm10 an10 cd10 ct10), sl10⟩)
    (c10 : PySem.W.codeIn K cd10 "_law_unrank" = true)
    (k10 : PySem.W.keepIn K (.ref f10) = true)
    (a11 : PySem.W.nsIn K mainGlobals "_law_factorial" = some (some (.ref f11)))
    (l11 : K.lookup f11 = some ⟨oc11, od11, .func (PySem.W.fnOf "_law_factorial" "_law_factorial" (defArgs s__law_factorial) (defBody s__law_factorial) (defScope s__law_factorial) .none kV11 dc11 pm11 an11 cd11 ct11), sl11⟩)
    (c11 : PySem.W.codeIn K cd11 "_law_factorial" = true)
    (k11 : PySem.W.keepIn K (.ref f11) = true)
    (a12 : PySem.W.nsIn K mainGlobals "_law_is_int" = some (some (.ref f12)))
    (l12 : K.lookup f12 = some ⟨oc12, od12, .func (PySem.W.fnOf "_law_is_int" "_law_is_int" (defArgs s__law_is_int) (defBody s__law_is_int) (defScope s__law_is_int) .none kV12 dc12 pm12 an12 cd12 ct12), sl12⟩)
    (c12 : PySem.W.codeIn K cd12 "_law_is_int" = true)
    (k12 : PySem.W.keepIn K (.ref f12) = true)
    (a13 : PySem.W.nsIn K mainGlobals "_law_is_ints" = some (some (.ref f13)))
    (l13 : K.lookup f13 = some ⟨oc13, od13, .func (PySem.W.fnOf "_law_is_ints" "_law_is_ints" (defArgs s__law_is_ints) (defBody s__law_is_ints) (defScope s__law_is_ints) .none kV13 dc13 pm13 an13 cd13 ct13), sl13⟩)
    (c13 : PySem.W.codeIn K cd13 "_law_is_ints" = true)
    (k13 : PySem.W.keepIn K (.ref f13) = true)
    (a14 : PySem.W.nsIn K mainGlobals "_law_result" = some (some (.ref f14)))
    (l14 : K.lookup f14 = some ⟨oc14, od14, .func (PySem.W.fnOf "_law_result" "_law_result" (defArgs s__law_result) (defBody s__law_result) (defScope s__law_result) .none kV14 dc14 pm14 an14 cd14 ct14), sl14⟩)
    (c14 : PySem.W.codeIn K cd14 "_law_result" = true)
    (k14 : PySem.W.keepIn K (.ref f14) = true)
    (a15 : PySem.W.nsIn K mainGlobals "_law_order" = some (some (.ref f15)))
    (l15 : K.lookup f15 = some ⟨oc15, od15, .func (PySem.W.fnOf "_law_order" "_law_order" (defArgs s__law_order) (defBody s__law_order) (defScope s__law_order) .none kV15 dc15 pm15 an15 cd15 ct15), sl15⟩)
    (c15 : PySem.W.codeIn K cd15 "_law_order" = true)
    (k15 : PySem.W.keepIn K (.ref f15) = true)
    (a16 : PySem.W.nsIn K mainGlobals "_law_due" = some (some (.ref f16)))
    (l16 : K.lookup f16 = some ⟨oc16, od16, .func (PySem.W.fnOf "_law_due" "_law_due" (defArgs s__law_due) (defBody s__law_due) (defScope s__law_due) .none kV16 dc16 pm16 an16 cd16 ct16), sl16⟩)
    (c16 : PySem.W.codeIn K cd16 "_law_due" = true)
    (k16 : PySem.W.keepIn K (.ref f16) = true)
    (a17 : PySem.W.nsIn K mainGlobals "_law_asked" = some (some (.ref f17)))
    (l17 : K.lookup f17 = some ⟨oc17, od17, .func (PySem.W.fnOf "_law_asked" "_law_asked" (defArgs s__law_asked) (defBody s__law_asked) (defScope s__law_asked) .none kV17 dc17 pm17 an17 cd17 ct17), sl17⟩)
    (c17 : PySem.W.codeIn K cd17 "_law_asked" = true)
    (k17 : PySem.W.keepIn K (.ref f17) = true)
    (a18 : PySem.W.nsIn K mainGlobals "_law_names" = some (some (.ref f18)))
    (l18 : K.lookup f18 = some ⟨oc18, od18, .func (PySem.W.fnOf "_law_names" "_law_names" (defArgs s__law_names) (defBody s__law_names) (defScope s__law_names) .none kV18 dc18 pm18 an18 cd18 ct18), sl18⟩)
    (c18 : PySem.W.codeIn K cd18 "_law_names" = true)
    (k18 : PySem.W.keepIn K (.ref f18) = true)
    (a19 : PySem.W.nsIn K mainGlobals "_law_turn_good" = some (some (.ref f19)))
    (l19 : K.lookup f19 = some ⟨oc19, od19, .func (PySem.W.fnOf "_law_turn_good" "_law_turn_good" (defArgs s__law_turn_good) (defBody s__law_turn_good) (defScope s__law_turn_good) .none kV19 dc19 pm19 an19 cd19 ct19), sl19⟩)
    (c19 : PySem.W.codeIn K cd19 "_law_turn_good" = true)
    (k19 : PySem.W.keepIn K (.ref f19) = true)
    (a20 : PySem.W.nsIn K mainGlobals "_law_refused" = some (some (.ref f20)))
    (l20 : K.lookup f20 = some ⟨oc20, od20, .func (PySem.W.fnOf "_law_refused" "_law_refused" (defArgs s__law_refused) (defBody s__law_refused) (defScope s__law_refused) .none kV20 dc20 pm20 an20 cd20 ct20), sl20⟩)
    (c20 : PySem.W.codeIn K cd20 "_law_refused" = true)
    (k20 : PySem.W.keepIn K (.ref f20) = true)
    (a21 : PySem.W.nsIn K mainGlobals "law" = some (some (.ref f21)))
    (l21 : K.lookup f21 = some ⟨oc21, od21, .func (PySem.W.fnOf "law" "law" (defArgs s_law) (defBody s_law) (defScope s_law) .none kV21 dc21 pm21 an21 cd21 ct21), sl21⟩)
    (c21 : PySem.W.codeIn K cd21 "law" = true)
    (k21 : PySem.W.keepIn K (.ref f21) = true)
    : ∃ fd : FuncData, (∀ (s : Shared) (v : Value), BindsTo s fd ⟨[v], []⟩ [("_law_script", v)]) ∧ ∀ base : Heap, K.In base → base.Ns mainGlobals mg → FnOk l.prog w K mg base CX0 9 fa fd ["_law_script"] (spLaw K) := by
  have e := hfa.symm.trans (PySem.W.mg_of X G a21)
  cases e
  have y_ValueError := PySem.W.mg_none_of X G z_ValueError
  have y_abs := PySem.W.mg_none_of X G z_abs
  have y_all := PySem.W.mg_none_of X G z_all
  have y_bool := PySem.W.mg_none_of X G z_bool
  have y_enumerate := PySem.W.mg_none_of X G z_enumerate
  have y_int := PySem.W.mg_none_of X G z_int
  have y_isinstance := PySem.W.mg_none_of X G z_isinstance
  have y_len := PySem.W.mg_none_of X G z_len
  have y_list := PySem.W.mg_none_of X G z_list
  have y_max := PySem.W.mg_none_of X G z_max
  have y_min := PySem.W.mg_none_of X G z_min
  have y_range := PySem.W.mg_none_of X G z_range
  have y_sorted := PySem.W.mg_none_of X G z_sorted
  have y_sum := PySem.W.mg_none_of X G z_sum
  have y_super := PySem.W.mg_none_of X G z_super
  have y_tuple := PySem.W.mg_none_of X G z_tuple
  have bX1 : Binds K (PySem.W.ksFn "__init__" "BadHands.__init__" (defArgs s_BadHands_init) (defBody s_BadHands_init) (defScope s_BadHands_init) .none kVX1 dcX1 pmX1 anX1 (.ref cda1) ctX1 cc1) ["self", "mine_count", "theirs_count"] [] := .all fun us hl => match us, hl with | [_, _, _], _ => rfl
  have oc1 : OexC K C1 := ⟨⟨_, _, _, _, _, _, _, _, _, _, _, _, _, _, _, xL1, by first | rfl | decide +kernel⟩, sa1, eC1, tC1, kk1⟩
  have sf1 : SupFacts l.prog K mg (defScope s_BadHands_init) (defArgs s_BadHands_init) cda1 cc1 C1 C1 "self" "ValueError.__init__" := ⟨⟨_, rfl, rfl⟩, ⟨_, _, _, _, _, _, lcd1, hvs1, hfi1⟩, ⟨_, _, _, lce1⟩, ⟨_, hcl1⟩, hms1, y_super, by decide +kernel, by decide +kernel, htop, hopq, hup1, hbs1⟩
  have F1 := fun_mk (st := s_check_hands) l1 c1 k1
  have b1 := F1.binds (ps := ["mine", "theirs"]) fun _ _ _ _ _ _ us hl => match us, hl with | [_, _], _ => rfl
  have F2 := fun_mk (st := s_deck) l2 c2 k2
  have b2 := F2.binds (ps := ["mine", "theirs"]) fun _ _ _ _ _ _ us hl => match us, hl with | [_, _], _ => rfl
  have F3 := fun_mk (st := s_turn_once) l3 c3 k3
  have b3 := F3.binds (ps := ["mine", "theirs"]) fun _ _ _ _ _ _ us hl => match us, hl with | [_, _], _ => rfl
  have F4 := fun_mk (st := s_turn) l4 c4 k4
  have FD4 := funD_mk (kws := ([("steps", V.int 1)] : List (Str × V))) l4 c4 k4 (fun q hq => by simp only [List.mem_cons, List.not_mem_nil, or_false] at hq; subst hq; exact ⟨_, kw4_0, ⟨_, rfl⟩⟩)
  have F5 := fun_mk (st := s__law_cell) l5 c5 k5
  have b5 := F5.binds (ps := ["_law_script", "_law_k"]) fun _ _ _ _ _ _ us hl => match us, hl with | [_, _], _ => rfl
  have F6 := fun_mk (st := s__law_draws) l6 c6 k6
  have b6 := F6.binds (ps := ["_law_cell_here", "_law_sizes"]) fun _ _ _ _ _ _ us hl => match us, hl with | [_, _], _ => rfl
  have F7 := fun_mk (st := s__law_hand) l7 c7 k7
  have b7 := F7.binds (ps := ["_law_cell_here", "_law_count", "_law_kind"]) fun _ _ _ _ _ _ us hl => match us, hl with | [_, _, _], _ => rfl
  have F8 := fun_mk (st := s__law_hands) l8 c8 k8
  have b8 := F8.binds (ps := ["_law_script", "_law_at", "_law_count"]) fun _ _ _ _ _ _ us hl => match us, hl with | [_, _, _], _ => rfl
  have F9 := fun_mk (st := s__law_pairing) l9 c9 k9
  have b9 := F9.binds (ps := ["_law_cell_here", "_law_count"]) fun _ _ _ _ _ _ us hl => match us, hl with | [_, _], _ => rfl
  have F10 := fun_mk (st := s__law_unrank) l10 c10 k10
  have b10 := F10.binds (ps := ["_law_number", "_law_count"]) fun _ _ _ _ _ _ us hl => match us, hl with | [_, _], _ => rfl
  have F11 := fun_mk (st := s__law_factorial) l11 c11 k11
  have b11 := F11.binds (ps := ["_law_count"]) fun _ _ _ _ _ _ us hl => match us, hl with | [_], _ => rfl
  have F12 := fun_mk (st := s__law_is_int) l12 c12 k12
  have b12 := F12.binds (ps := ["_law_x"]) fun _ _ _ _ _ _ us hl => match us, hl with | [_], _ => rfl
  have F13 := fun_mk (st := s__law_is_ints) l13 c13 k13
  have b13 := F13.binds (ps := ["_law_xs"]) fun _ _ _ _ _ _ us hl => match us, hl with | [_], _ => rfl
  have F14 := fun_mk (st := s__law_result) l14 c14 k14
  have b14 := F14.binds (ps := ["_law_mine", "_law_theirs", "_law_pairing_here"]) fun _ _ _ _ _ _ us hl => match us, hl with | [_, _, _], _ => rfl
  have F15 := fun_mk (st := s__law_order) l15 c15 k15
  have b15 := F15.binds (ps := ["_law_mine", "_law_theirs"]) fun _ _ _ _ _ _ us hl => match us, hl with | [_, _], _ => rfl
  have F16 := fun_mk (st := s__law_due) l16 c16 k16
  have b16 := F16.binds (ps := ["_law_mine", "_law_theirs", "_law_times"]) fun _ _ _ _ _ _ us hl => match us, hl with | [_, _, _], _ => rfl
  have F17 := fun_mk (st := s__law_asked) l17 c17 k17
  have b17 := F17.binds (ps := ["_law_one", "_law_two", "_law_times"]) fun _ _ _ _ _ _ us hl => match us, hl with | [_, _, _], _ => rfl
  have F18 := fun_mk (st := s__law_names) l18 c18 k18
  have b18 := F18.binds (ps := ["_law_cards"]) fun _ _ _ _ _ _ us hl => match us, hl with | [_], _ => rfl
  have F19 := fun_mk (st := s__law_turn_good) l19 c19 k19
  have b19 := F19.binds (ps := ["_law_one", "_law_two", "_law_times", "_law_pairings"]) fun _ _ _ _ _ _ us hl => match us, hl with | [_, _, _, _], _ => rfl
  have F20 := fun_mk (st := s__law_refused) l20 c20 k20
  have b20 := F20.binds (ps := ["_law_mine", "_law_theirs", "_law_times"]) fun _ _ _ _ _ _ us hl => match us, hl with | [_, _, _], _ => rfl
  have F21 := fun_mk (st := s_law) l21 c21 k21
  refine ⟨PySem.W.fnOf "law" "law" (defArgs s_law) (defBody s_law) (defScope s_law) .none kV21 dc21 pm21 an21 cd21 ct21, fun s v => .of_eq rfl, fun base _ _ => ?_⟩
  let T : CT := ⟨K, fun c => match c with | 0 => C0 | 1 => C1 | 2 => C2 | 3 => C3 | 4 => C4 | 5 => C5 | 6 => C6 | 7 => C7 | 8 => C8 | 9 => C9 | 10 => C10 | 11 => C11 | 12 => C12 | 13 => C13 | _ => 0, fun c => match c with | 0 => [] | 1 => ["theirs_count", "mine_count"] | 2 => ["position"] | 3 => ["index", "side"] | 4 => ["index"] | 5 => ["place"] | 6 => [] | 7 => ["highest", "lowest", "wanted"] | 8 => [] | 9 => ["index"] | 10 => ["position"] | 11 => ["position"] | 12 => ["name"] | 13 => ["name"] | _ => []⟩
  have y_BadHands : KdX l.prog w K mg base T 1 "BadHands" ["mine_count", "theirs_count"] ["self", "mine_count", "theirs_count"] := by
    refine ⟨rfl, oc1, PySem.W.mg_of X G aC1, ⟨_, _, ai1, ti1, bX1, FnOk.mono (j := 1) ?_ (by decide)⟩⟩
    refine fn_exi (fs := ["mine_count", "theirs_count"]) (P := l.prog) sc_BadHands_init lX1 cX1 sf1 oc1 rfl (by decide) (by decide) (fun f hf => by simp only [List.mem_cons, List.not_mem_nil, or_false] at hf; rcases hf with rfl | rfl; exact nf1_mine_count; exact nf1_theirs_count) (fun A outer s H E => pa_cons (pe_joined (.cons pe_str (.cons (pe_fmt (pv 1)) (.cons pe_str (.cons (pe_fmt (pv 2)) (.cons pe_str .nil)))))) pa_nil) (fun A outer s H E => (pss_cons (ps_ost (pv 0) (pv 1)) (pss_cons (ps_ost (pv 0) (pv 2)) pss_nil))) ?_ (fun _ => rfl) (fun _ => rfl) (fun _ => rfl) (fun _ => rfl)
    intro v us H Q hl hp q
    refine sup_text (by show (5 : Nat) ≤ 40; decide) (fun t ht => ?_) q
    simp only [List.mem_cons, List.not_mem_nil, or_false] at ht
    rcases ht with rfl | rfl | rfl | rfl | rfl
    · exact prt_c
    · exact prt_at hp (by rw [hl]; decide)
    · exact prt_c
    · exact prt_at hp (by rw [hl]; decide)
    · exact prt_c
  have w_ClimbrowError : mg "ClimbrowError" = some (.ref (T.addr 0)) := PySem.W.mg_of X G aC0
  have w_BadHands : mg "BadHands" = some (.ref (T.addr 1)) := PySem.W.mg_of X G aC1
  have w_BadWord : mg "BadWord" = some (.ref (T.addr 2)) := PySem.W.mg_of X G aC2
  have w_BadCard : mg "BadCard" = some (.ref (T.addr 3)) := PySem.W.mg_of X G aC3
  have w_BadPairing : mg "BadPairing" = some (.ref (T.addr 4)) := PySem.W.mg_of X G aC4
  have w_BadPlace : mg "BadPlace" = some (.ref (T.addr 5)) := PySem.W.mg_of X G aC5
  have w_OutOfTurn : mg "OutOfTurn" = some (.ref (T.addr 6)) := PySem.W.mg_of X G aC6
  have w_Unreachable : mg "Unreachable" = some (.ref (T.addr 7)) := PySem.W.mg_of X G aC7
  have w_Contradiction : mg "Contradiction" = some (.ref (T.addr 8)) := PySem.W.mg_of X G aC8
  have w_BadBounds : mg "BadBounds" = some (.ref (T.addr 9)) := PySem.W.mg_of X G aC9
  have w_BadSchedule : mg "BadSchedule" = some (.ref (T.addr 10)) := PySem.W.mg_of X G aC10
  have w_BadText : mg "BadText" = some (.ref (T.addr 11)) := PySem.W.mg_of X G aC11
  have w_UnknownName : mg "UnknownName" = some (.ref (T.addr 12)) := PySem.W.mg_of X G aC12
  have w_DuplicateName : mg "DuplicateName" = some (.ref (T.addr 13)) := PySem.W.mg_of X G aC13
  have v_BadHands : ExcC K (T.addr 1) := ⟨ga1, gg1, eC1, hC1, hx1, gc1, gc2, mo1⟩
  have m_BadHands_ClimbrowError__y : PySem.W.exmOne K (.ref (T.addr 1)) (.ref (T.addr 0)) = some true := PySem.W.exm_ref eC0 hC0 tC0 sb_BadHands_ClimbrowError_y
  have xf_BadHands : XfC K (T.addr 1) := ⟨ga1, gg1, eC1, hC1⟩
  have xn_BadHands_mine_count := nf1_mine_count
  have xn_BadHands_theirs_count := nf1_theirs_count
  have k_check_hands : KdR l.prog w K mg base "check_hands" ["mine", "theirs"] 5 (PmX T (.val .fr) (fun b : (List Int) × (List Int) × Unit => m_check_hands b.1 b.2.1)) := ⟨_, _, PySem.W.mg_of X G a1, k1, b1, ok_check_hands F1 rfl y_BadHands y_len⟩
  have k_deck : Kd l.prog w K mg base CX0 "deck" ["mine", "theirs"] 1 (Pm T (.nw .fr) (fun b : (List Int) × (List Int) × Unit => m_deck b.1 b.2.1)) := ⟨_, _, PySem.W.mg_of X G a2, k2, b2, ok_deck F2 rfl y_enumerate y_sorted⟩
  have k_turn_once : Kd l.prog w K mg base CX0 "turn_once" ["mine", "theirs"] 2 (PmK T fun xs ys => (m_turn_once xs ys).nox) := ⟨_, _, PySem.W.mg_of X G a3, k3, b3, ok_turn_once F3 rfl k_deck y_min⟩
  have k_turn__d2 : KdV l.prog w K mg base (L2N.CX l.prog w) "turn" ["mine", "theirs", "steps"] [V.int 1] 6 (PmX T .dp (fun b : (List Int) × (List Int) × Int × Unit => m_turn b.1 b.2.1 b.2.2.1)) := kdv0 (PySem.W.mg_of X G a4) k4 FD4 (ok_turn F4 rfl k_check_hands k_turn_once y_list y_range) 2 (List.cons_ne_nil _ _) rfl (fun D doc pm an cdv ct us ks hu hk => match us, hu, ks, hk with | [_, _], _, [_], _ => ⟨_, _, _, _, _, _, rfl, rfl, rfl⟩)
  have k_turn__k2 : KdN l.prog w K mg base (L2N.CX l.prog w) "turn" ["mine", "theirs", "steps"] 2 ["steps"] 6 (PmX T .dp (fun b : (List Int) × (List Int) × Int × Unit => m_turn b.1 b.2.1 b.2.2.1)) := kdn0 (PySem.W.mg_of X G a4) k4 FD4 (ok_turn F4 rfl k_check_hands k_turn_once y_list y_range) 2 (List.cons_ne_nil _ _) (fun D doc pm an cdv ct us mv ws hu hm hk => match us, hu, mv, hm, ws, hk with | [_, _], _, [], _, [_], _ => rfl)
  have k__law_cell : Kd l.prog w K mg base CX0 "_law_cell" ["_law_script", "_law_k"] 1 (Pm T (.val .fr) (fun b : Scr × Int × Unit => m__law_cell b.1 b.2.1)) := ⟨_, _, PySem.W.mg_of X G a5, k5, b5, ok__law_cell F5 rfl y_int y_len⟩
  have k__law_draws : Kd l.prog w K mg base CX0 "_law_draws" ["_law_cell_here", "_law_sizes"] 1 (Pm T (.nw .fr) (fun b : Int × (List Int) × Unit => m__law_draws b.1 b.2.1)) := ⟨_, _, PySem.W.mg_of X G a6, k6, b6, ok__law_draws F6 rfl y_abs y_int y_len y_range⟩
  have k__law_hand : Kd l.prog w K mg base CX0 "_law_hand" ["_law_cell_here", "_law_count", "_law_kind"] 2 (Pm T (.nw .fr) (fun b : Int × Int × Int × Unit => m__law_hand b.1 b.2.1 b.2.2.1)) := ⟨_, _, PySem.W.mg_of X G a7, k7, b7, ok__law_hand F7 rfl k__law_draws y_range⟩
  have k__law_hands : Kd l.prog w K mg base CX0 "_law_hands" ["_law_script", "_law_at", "_law_count"] 3 (Pm T (.val .fr) (fun b : Scr × Int × Int × Unit => m__law_hands b.1 b.2.1 b.2.2.1)) := ⟨_, _, PySem.W.mg_of X G a8, k8, b8, ok__law_hands F8 rfl k__law_cell k__law_draws k__law_hand y_list⟩
  have k__law_pairing : Kd l.prog w K mg base CX0 "_law_pairing" ["_law_cell_here", "_law_count"] 2 (Pm T (.nw .fr) (fun b : Int × Int × Unit => m__law_pairing b.1 b.2.1)) := ⟨_, _, PySem.W.mg_of X G a9, k9, b9, ok__law_pairing F9 rfl k__law_draws y_range⟩
  have k__law_unrank : Kd l.prog w K mg base CX0 "_law_unrank" ["_law_number", "_law_count"] 1 (Pm T (.nw .fr) (fun b : Int × Int × Unit => m__law_unrank b.1 b.2.1)) := ⟨_, _, PySem.W.mg_of X G a10, k10, b10, ok__law_unrank F10 rfl y_int y_len y_range⟩
  have k__law_factorial : Kd l.prog w K mg base CX0 "_law_factorial" ["_law_count"] 1 (Pm T (.val .fr) (fun b : Int × Unit => m__law_factorial b.1)) := ⟨_, _, PySem.W.mg_of X G a11, k11, b11, ok__law_factorial F11 rfl y_range⟩
  have k__law_is_int : Kd l.prog w K mg base CX0 "_law_is_int" ["_law_x"] 1 (Pm T (.val .fr) (fun b : Int × Unit => m__law_is_int b.1)) := ⟨_, _, PySem.W.mg_of X G a12, k12, b12, ok__law_is_int F12 rfl y_bool y_int y_isinstance⟩
  have q__law_is_int : KdQ l.prog w K mg base "_law_is_int" ["_law_x"] 1 (Pm T (.val .fr) (fun b : Int × Unit => m__law_is_int b.1)) := ⟨_, _, PySem.W.mg_of X G a12, k12, b12, okq__law_is_int F12 rfl y_bool y_int y_isinstance⟩
  have k__law_is_ints : Kd l.prog w K mg base CX0 "_law_is_ints" ["_law_xs"] 2 (Pm T (.val .fr) (fun b : (List Int) × Unit => m__law_is_ints b.1)) := ⟨_, _, PySem.W.mg_of X G a13, k13, b13, ok__law_is_ints F13 rfl k__law_is_int y_all y_isinstance y_list⟩
  have k__law_result : Kd l.prog w K mg base CX0 "_law_result" ["_law_mine", "_law_theirs", "_law_pairing_here"] 1 (Pm T (.val .fr) (fun b : (List Int) × (List Int) × (List Int) × Unit => m__law_result b.1 b.2.1 b.2.2.1)) := ⟨_, _, PySem.W.mg_of X G a14, k14, b14, ok__law_result F14 rfl y_int y_len y_range y_sum⟩
  have k__law_order : Kd l.prog w K mg base CX0 "_law_order" ["_law_mine", "_law_theirs"] 1 (Pm T (.nw .fr) (fun b : (List Int) × (List Int) × Unit => m__law_order b.1 b.2.1)) := ⟨_, _, PySem.W.mg_of X G a15, k15, b15, ok__law_order F15 rfl y_len y_range y_sorted⟩
  have k__law_due : Kd l.prog w K mg base CX0 "_law_due" ["_law_mine", "_law_theirs", "_law_times"] 2 (Pm T (.nw .fr) (fun b : (List Int) × (List Int) × Int × Unit => m__law_due b.1 b.2.1 b.2.2.1)) := ⟨_, _, PySem.W.mg_of X G a16, k16, b16, ok__law_due F16 rfl k__law_order y_len y_list y_range⟩
  have k__law_asked : KdR l.prog w K mg base "_law_asked" ["_law_one", "_law_two", "_law_times"] 7 (PmX T .dp (fun b : (List Int) × (List Int) × Int × Unit => m__law_asked b.1 b.2.1 b.2.2.1)) := ⟨_, _, PySem.W.mg_of X G a17, k17, b17, ok__law_asked F17 rfl k_turn__d2 k_turn__k2⟩
  have k__law_names : Kd l.prog w K mg base CX0 "_law_names" ["_law_cards"] 1 (Pm T (.nw .fr) (fun b : (List (Tp (Int × Int × Int × Unit))) × Unit => m__law_names b.1)) := ⟨_, _, PySem.W.mg_of X G a18, k18, b18, ok__law_names F18 rfl ⟩
  have k__law_turn_good : Kd l.prog w K mg base CX0 "_law_turn_good" ["_law_one", "_law_two", "_law_times", "_law_pairings"] 8 (Pm T (.val .fr) (fun b : (List Int) × (List Int) × Int × (List (List Int)) × Unit => m__law_turn_good b.1 b.2.1 b.2.2.1 b.2.2.2.1)) := ⟨_, _, PySem.W.mg_of X G a19, k19, b19, ok__law_turn_good F19 rfl k__law_asked k__law_due k__law_is_int k__law_is_ints k__law_names k__law_order k__law_result y_abs y_int y_isinstance y_len y_list y_max y_range y_tuple⟩
  have k__law_refused : Kd l.prog w K mg base CX0 "_law_refused" ["_law_mine", "_law_theirs", "_law_times"] 8 (Pm T (.val .fr) (fun b : (List Int) × (List Int) × Int × Unit => m__law_refused b.1 b.2.1 b.2.2.1)) := ⟨_, _, PySem.W.mg_of X G a20, k20, b20, ok__law_refused F20 rfl k__law_asked y_BadHands q__law_is_int w_BadBounds w_BadCard w_BadHands w_BadPairing w_BadPlace w_BadSchedule w_BadText w_BadWord w_ClimbrowError w_Contradiction w_DuplicateName w_OutOfTurn w_UnknownName w_Unreachable v_BadHands t_BadHands_BadBounds t_BadHands_BadCard t_BadHands_BadHands t_BadHands_BadPairing t_BadHands_BadPlace t_BadHands_BadSchedule t_BadHands_BadText t_BadHands_BadWord t_BadHands_Contradiction t_BadHands_DuplicateName t_BadHands_OutOfTurn t_BadHands_UnknownName t_BadHands_Unreachable t_BadHands_ValueError m_BadHands_ClimbrowError__y xf_BadHands xn_BadHands_mine_count xn_BadHands_theirs_count y_ValueError y_isinstance y_len y_list⟩
  exact law_pm (T := T) rfl (ok_law F21 rfl k__law_cell k__law_draws k__law_factorial k__law_hands k__law_pairing k__law_refused k__law_turn_good k__law_unrank y_int y_list y_range) (fun ns hl => law_true ns hl)
end
end K14
open PySem PySem.W PyProof.Rows
set_option maxRecDepth 100000 in
set_option maxHeartbeats 0 in
theorem PySem.Challenge.cw_climbrow_k14_whole_turns_of_the_ring_holds : PySem.Challenge.rw_climbrow_k14_whole_turns_of_the_ring.Holds := by
  w_on; o_law
  refine PySem.W.holds_open (r := PySem.Challenge.rw_climbrow_k14_whole_turns_of_the_ring.row) (q := Hd.pre.view_39) (loose := Hd.LO) (Xt := fun s => PySem.W.xlAt Hd.pre.view_39 [] s && PySem.W.recOk (PySem.Challenge.rw_climbrow_k14_whole_turns_of_the_ring.row).records s) (XP := PySem.W.XL Hd.pre.view_39 []) (Yf := PySem.W.Hook.obs (PySem.W.kHook Hd.pre.heap_39 Hd.asL Hd.ek)) (Ya := PySem.W.Hook.val (PySem.W.kHook Hd.pre.heap_39 Hd.asL Hd.ek)) (YP := PySem.W.Hook.says (PySem.W.kHook Hd.pre.heap_39 Hd.asL Hd.ek)) (N := 9356) Hd.hl (PySem.W.Hook.of (PySem.W.kHook Hd.pre.heap_39 Hd.asL Hd.ek)) (PySem.W.Hook.keeps (PySem.W.kHook Hd.pre.heap_39 Hd.asL Hd.ek)) (fun s e => PySem.W.xl_of s (Bool.and_eq_true_iff.mp e).1) PySem.W.XL.keeps (by rfl) (by rfl) (by rfl) (fun s e => PySem.W.recFacts_of (Bool.and_eq_true_iff.mp e).2) (by rfl) (by first | assumption | decide +kernel) (by decide +kernel) ⟨rfl, rfl, rfl, rfl, rfl, by decide +kernel⟩ ?hw ?hc
  (case hw => w_witness2)
  k_fill
  refine L2.walk_of (l := PySem.Challenge.rw_climbrow_k14_whole_turns_of_the_ring) (n := 63) (k := 9) (x := "_law_script") (CX := fun _ => L2.CX0) (sp := fun w => Pv.spLaw _) rfl (by decide) rfl ⟨rfl, by decide, by decide⟩ (fun w h Y => PySem.W.kIn_of Y) ?F (fun _ _ a ns hl _ hS => ⟨a, ns, rfl, hS, hl, fun _ => rfl⟩) (fun _ _ _ _ _ h => h)
  case F =>
    intro w mg fa h KX G hmg
    refine' K14.all_mk KX G hmg ?z_ValueError ?z_abs ?z_all ?z_bool ?z_enumerate ?z_int ?z_isinstance ?z_len ?z_list ?z_max ?z_min ?z_range ?z_sorted ?z_sum ?z_super ?z_tuple ?aC0 ?aC1 ?aC2 ?aC3 ?aC4 ?aC5 ?aC6 ?aC7 ?aC8 ?aC9 ?aC10 ?aC11 ?aC12 ?aC13 ?eC0 ?tC0 ?hC0 ?eC1 ?tC1 ?hC1 ?xL1 ?sa1 ?kk1 ?ai1 ?ti1 ?lX1 ?cX1 ?lcd1 ?hvs1 ?hfi1 ?lce1 ?hcl1 ?hms1 ?hup1 ?hbs1 ?nf1_mine_count ?nf1_theirs_count ?htop ?hopq ?ga1 ?gg1 ?hx1 ?mo1 ?gc1 ?gc2 ?t_BadHands_BadBounds ?t_BadHands_BadCard ?t_BadHands_BadHands ?t_BadHands_BadPairing ?t_BadHands_BadPlace ?t_BadHands_BadSchedule ?t_BadHands_BadText ?t_BadHands_BadWord ?t_BadHands_Contradiction ?t_BadHands_DuplicateName ?t_BadHands_OutOfTurn ?t_BadHands_UnknownName ?t_BadHands_Unreachable ?t_BadHands_ValueError ?sb_BadHands_ClimbrowError_y ?a1 ?l1 ?c1 ?k1 ?a2 ?l2 ?c2 ?k2 ?a3 ?l3 ?c3 ?k3 ?a4 ?l4 ?c4 ?k4 ?kw4_0 ?a5 ?l5 ?c5 ?k5 ?a6 ?l6 ?c6 ?k6 ?a7 ?l7 ?c7 ?k7 ?a8 ?l8 ?c8 ?k8 ?a9 ?l9 ?c9 ?k9 ?a10 ?l10 ?c10 ?k10 ?a11 ?l11 ?c11 ?k11 ?a12 ?l12 ?c12 ?k12 ?a13 ?l13 ?c13 ?k13 ?a14 ?l14 ?c14 ?k14 ?a15 ?l15 ?c15 ?k15 ?a16 ?l16 ?c16 ?k16 ?a17 ?l17 ?c17 ?k17 ?a18 ?l18 ?c18 ?k18 ?a19 ?l19 ?c19 ?k19 ?a20 ?l20 ?c20 ?k20 ?a21 ?l21 ?c21 ?k21
    (case z_ValueError => k_is)
    (case z_abs => k_is)
    (case z_all => k_is)
    (case z_bool => k_is)
    (case z_enumerate => k_is)
    (case z_int => k_is)
    (case z_isinstance => k_is)
    (case z_len => k_is)
    (case z_list => k_is)
    (case z_max => k_is)
    (case z_min => k_is)
    (case z_range => k_is)
    (case z_sorted => k_is)
    (case z_sum => k_is)
    (case z_super => k_is)
    (case z_tuple => k_is)
    (case aC0 => k_is)
    (case aC1 => k_is)
    (case aC2 => k_is)
    (case aC3 => k_is)
    (case aC4 => k_is)
    (case aC5 => k_is)
    (case aC6 => k_is)
    (case aC7 => k_is)
    (case aC8 => k_is)
    (case aC9 => k_is)
    (case aC10 => k_is)
    (case aC11 => k_is)
    (case aC12 => k_is)
    (case aC13 => k_is)
    (case eC0 => k_is)
    (case tC0 => k_is)
    (case hC0 => k_is)
    (case eC1 => k_is)
    (case tC1 => k_is)
    (case hC1 => k_is)
    (case xL1 => k_is)
    (case sa1 => k_is)
    (case kk1 => k_is)
    (case ai1 => k_is)
    (case ti1 => k_is)
    (case lX1 => k_is)
    (case cX1 => k_is)
    (case lcd1 => k_is)
    (case hvs1 => rfl)
    (case hfi1 => decide +kernel)
    (case lce1 => k_is)
    (case hcl1 => k_is)
    (case hms1 => k_is)
    (case hup1 => ks_is)
    (case hbs1 => k_is)
    (case nf1_mine_count => k_is)
    (case nf1_theirs_count => k_is)
    (case htop => decide +kernel)
    (case hopq => k_is)
    (case ga1 => k_is)
    (case gg1 => k_is)
    (case hx1 => k_is)
    (case mo1 => k_is)
    (case gc1 => k_is)
    (case gc2 => k_is)
    (case t_BadHands_BadBounds => kit_is)
    (case t_BadHands_BadCard => kit_is)
    (case t_BadHands_BadHands => kit_is)
    (case t_BadHands_BadPairing => kit_is)
    (case t_BadHands_BadPlace => kit_is)
    (case t_BadHands_BadSchedule => kit_is)
    (case t_BadHands_BadText => kit_is)
    (case t_BadHands_BadWord => kit_is)
    (case t_BadHands_Contradiction => kit_is)
    (case t_BadHands_DuplicateName => kit_is)
    (case t_BadHands_OutOfTurn => kit_is)
    (case t_BadHands_UnknownName => kit_is)
    (case t_BadHands_Unreachable => kit_is)
    (case t_BadHands_ValueError => kit_is)
    (case sb_BadHands_ClimbrowError_y => k_is)
    (case a1 => k_is)
    (case l1 => k_is)
    (case c1 => k_is)
    (case k1 => k_is)
    (case a2 => k_is)
    (case l2 => k_is)
    (case c2 => k_is)
    (case k2 => k_is)
    (case a3 => k_is)
    (case l3 => k_is)
    (case c3 => k_is)
    (case k3 => k_is)
    (case a4 => k_is)
    (case l4 => k_is)
    (case c4 => k_is)
    (case k4 => k_is)
    (case kw4_0 => k_is)
    (case a5 => k_is)
    (case l5 => k_is)
    (case c5 => k_is)
    (case k5 => k_is)
    (case a6 => k_is)
    (case l6 => k_is)
    (case c6 => k_is)
    (case k6 => k_is)
    (case a7 => k_is)
    (case l7 => k_is)
    (case c7 => k_is)
    (case k7 => k_is)
    (case a8 => k_is)
    (case l8 => k_is)
    (case c8 => k_is)
    (case k8 => k_is)
    (case a9 => k_is)
    (case l9 => k_is)
    (case c9 => k_is)
    (case k9 => k_is)
    (case a10 => k_is)
    (case l10 => k_is)
    (case c10 => k_is)
    (case k10 => k_is)
    (case a11 => k_is)
    (case l11 => k_is)
    (case c11 => k_is)
    (case k11 => k_is)
    (case a12 => k_is)
    (case l12 => k_is)
    (case c12 => k_is)
    (case k12 => k_is)
    (case a13 => k_is)
    (case l13 => k_is)
    (case c13 => k_is)
    (case k13 => k_is)
    (case a14 => k_is)
    (case l14 => k_is)
    (case c14 => k_is)
    (case k14 => k_is)
    (case a15 => k_is)
    (case l15 => k_is)
    (case c15 => k_is)
    (case k15 => k_is)
    (case a16 => k_is)
    (case l16 => k_is)
    (case c16 => k_is)
    (case k16 => k_is)
    (case a17 => k_is)
    (case l17 => k_is)
    (case c17 => k_is)
    (case k17 => k_is)
    (case a18 => k_is)
    (case l18 => k_is)
    (case c18 => k_is)
    (case k18 => k_is)
    (case a19 => k_is)
    (case l19 => k_is)
    (case c19 => k_is)
    (case k19 => k_is)
    (case a20 => k_is)
    (case l20 => k_is)
    (case c20 => k_is)
    (case k20 => k_is)
    (case a21 => k_is)
    (case l21 => k_is)
    (case c21 => k_is)
    (case k21 => k_is)

