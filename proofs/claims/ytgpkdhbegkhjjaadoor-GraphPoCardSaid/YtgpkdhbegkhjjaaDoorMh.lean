/-
  What the functions that the law reaches do, one by one: contracts. Conditions: those that each of them prints.
-/
import Derived.Test.YtgpkdhbegkhjjaaDoorMg
import Derived.Deep.RegionWith
import Derived.Deep.DrawnRows
import Derived.Deep.RegionHeld3
namespace Go.Proofs.YtgpkdhbegkhjjaaDoor
open Go.RowKit RelA
namespace RelA
/-- of one location: a place with those behind it -/
def coIn (L : List Int) (i q : Nat) : List (Int × Int) := (List.range q).map fun j => (L.getD i 0, L.getD (i + 1 + j) 0)
def coOne (L : List Int) (k : Nat) : List (Int × Int) := (List.range k).flatMap fun i => coIn L i (L.length - (i + 1))
def coAll (C : List Ls) (t : Nat) : List (Int × Int) := (List.range t).flatMap fun l => coOne (C.getD l Ls.zero).L (C.getD l Ls.zero).L.length
theorem coIn_len (L : List Int) (i q : Nat) : (coIn L i q).length = q := by simp [coIn]
theorem coIn_succ (L : List Int) (i q : Nat) : coIn L i (q + 1) = coIn L i q ++ [(L.getD i 0, L.getD (i + 1 + q) 0)] := by simp [coIn, List.range_succ]
theorem coOne_succ (L : List Int) (k : Nat) : coOne L (k + 1) = coOne L k ++ coIn L k (L.length - (k + 1)) := by simp [coOne, List.range_succ]
theorem coAll_succ (C : List Ls) (t : Nat) : coAll C (t + 1) = coAll C t ++ coOne (C.getD t Ls.zero).L (C.getD t Ls.zero).L.length := by simp [coAll, List.range_succ]
theorem coOne_len (L : List Int) (k : Nat) (hL : L.length ≤ 40) : (coOne L k).length ≤ 40 * k := by
  induction k with
  | zero => simp [coOne]
  | succ k ih => rw [coOne_succ, List.length_append, coIn_len]; omega
theorem coAll_len (C : List Ls) (t : Nat) (h : ∀ q, q < t → (C.getD q Ls.zero).L.length ≤ 40) : (coAll C t).length ≤ 1600 * t := by
  induction t with
  | zero => simp [coAll]
  | succ t ih =>
    have h1 := coOne_len (C.getD t Ls.zero).L (C.getD t Ls.zero).L.length (h t (by omega))
    have h2 := h t (by omega)
    rw [coAll_succ, List.length_append]
    have := ih fun q hq => h q (by omega)
    have : 40 * (C.getD t Ls.zero).L.length ≤ 40 * 40 := Nat.mul_le_mul (Nat.le_refl _) h2
    omega
end RelA
end Go.Proofs.YtgpkdhbegkhjjaaDoor
namespace Go.Proofs.YtgpkdhbegkhjjaaDoor
open Go.RowKit RelA
attribute [local go_sem ↓] Go.wp_at_zero Go.wp_at_succ
namespace RelA
/-- what a graph that may be has besides -/
structure GOk (g : Gr) : Prop where
  c4 : g.C.length ≤ 4
  l40 : ∀ q, q < g.C.length → (g.C.getD q Ls.zero).L.length ≤ 40
noncomputable def rfM (g : Gr) : Nat → Nat → Bool := ofM g.n (rfL g.R g.R.length)
noncomputable def coM (g : Gr) : Nat → Nat → Bool := ofM g.n (coAll g.C g.C.length)
noncomputable def frM (g : Gr) : Nat → Nat → Bool := seqM (backM (rfM g)) (coM g)
end RelA
end Go.Proofs.YtgpkdhbegkhjjaaDoor
namespace Go.Proofs.YtgpkdhbegkhjjaaDoor
open Go.RowKit RelA
namespace RelA
def noneM : Nat → Nat → Bool := fun _ _ => false
theorem ofM_nil (n : Nat) : ofM n [] = noneM := rfl
theorem or_none (M : Nat → Nat → Bool) : orM noneM M = M := by funext i j; unfold orM noneM; simp
noncomputable def ecoS (g : Gr) : Nat → (Nat → Nat → Bool)
  | 0 => noneM
  | 1 => rfM g
  | 2 => orM (rfM g) (coM g)
  | _ => orM (orM (rfM g) (coM g)) (frM g)
noncomputable def ecoM (g : Gr) : Nat → Nat → Bool := plusM (orM (orM (rfM g) (coM g)) (frM g))
theorem pin_none (w : World) : PIn w none [] 0 := .inl ⟨rfl, rfl, rfl⟩
end RelA
end Go.Proofs.YtgpkdhbegkhjjaaDoor
namespace Go.Proofs.YtgpkdhbegkhjjaaDoor
open Go.RowKit RelA
attribute [local go_sem ↓] Go.wp_at_zero Go.wp_at_succ
namespace RelA
/-- relations in a row -/
structure Pm where
  d : Nat
  M : Nat → Nat → Bool
def Pm.zero : Pm := ⟨0, fun _ _ => false⟩
def PsIn (w : World) (a : Option Addr) (L : List Pm) (n : Nat) : Prop :=
  L = [] ∨ ∃ b, a = some ⟨b, 0, none⟩ ∧ b < w.heap.size ∧ ∀ q, q < L.length → w.cell? ⟨b, q, none⟩ = some (.pointer (some ⟨(L.getD q Pm.zero).d, 0, none⟩)) ∧ Rl w (L.getD q Pm.zero).d n (L.getD q Pm.zero).M
theorem PsIn.next {w w' : World} {a : Option Addr} {L : List Pm} {n : Nat} (h : PsIn w a L n) (hb : Below w.heap.size w w') : PsIn w' a L n := by
  rcases h with h | ⟨b, h1, h2, h3⟩
  · exact .inl h
  · exact .inr ⟨b, h1, Nat.lt_of_lt_of_le h2 hb.size, fun q hq => ⟨cell_next (h3 q hq).1 hb, (h3 q hq).2.next hb⟩⟩
def foldS (f : (Nat → Nat → Bool) → (Nat → Nat → Bool) → Nat → Nat → Bool) (M : Nat → Nat → Bool) (L : List Pm) : Nat → (Nat → Nat → Bool)
  | 0 => M
  | k + 1 => f (foldS f M L k) (L.getD k Pm.zero).M
theorem Rl.alloc {w : World} {d n : Nat} {M : Nat → Nat → Bool} (h : Rl w d n M) (o : Obj) : Rl (w.alloc o) d n M := h.next ((Below.refl _ _).alloc (Nat.le_refl _) o)
theorem ps1 {w : World} {d n : Nat} {M : Nat → Nat → Bool} (t : TypeId) (h : Rl w d n M) : PsIn (w.alloc (.cells #[.pointer (some ⟨d, 0, none⟩)] t (0, 0))) (some ⟨w.heap.size, 0, none⟩) [⟨d, M⟩] n := by
  refine .inr ⟨_, rfl, by simp, fun q hq => ?_⟩
  have hq : q < 1 := hq
  have : q = 0 := by omega
  subst this
  exact ⟨by rw [cell_of_row _ _ _ _ _ _ (heap_alloc_new _ _)]; rfl, h.alloc _⟩
theorem ps2 {w : World} {d e n : Nat} {M S : Nat → Nat → Bool} (t : TypeId) (h : Rl w d n M) (g : Rl w e n S) : PsIn (w.alloc (.cells #[.pointer (some ⟨d, 0, none⟩), .pointer (some ⟨e, 0, none⟩)] t (0, 0))) (some ⟨w.heap.size, 0, none⟩) [⟨d, M⟩, ⟨e, S⟩] n := by
  refine .inr ⟨_, rfl, by simp, fun q hq => ?_⟩
  have hq : q < 2 := hq
  match q, hq with
  | 0, _ => exact ⟨by rw [cell_of_row _ _ _ _ _ _ (heap_alloc_new _ _)]; rfl, h.alloc _⟩
  | 1, _ => exact ⟨by rw [cell_of_row _ _ _ _ _ _ (heap_alloc_new _ _)]; rfl, g.alloc _⟩
theorem ps3 {w : World} {d e f n : Nat} {M S T : Nat → Nat → Bool} (t : TypeId) (h : Rl w d n M) (g : Rl w e n S) (i : Rl w f n T) : PsIn (w.alloc (.cells #[.pointer (some ⟨d, 0, none⟩), .pointer (some ⟨e, 0, none⟩), .pointer (some ⟨f, 0, none⟩)] t (0, 0))) (some ⟨w.heap.size, 0, none⟩) [⟨d, M⟩, ⟨e, S⟩, ⟨f, T⟩] n := by
  refine .inr ⟨_, rfl, by simp, fun q hq => ?_⟩
  have hq : q < 3 := hq
  match q, hq with
  | 0, _ => exact ⟨by rw [cell_of_row _ _ _ _ _ _ (heap_alloc_new _ _)]; rfl, h.alloc _⟩
  | 1, _ => exact ⟨by rw [cell_of_row _ _ _ _ _ _ (heap_alloc_new _ _)]; rfl, g.alloc _⟩
  | 2, _ => exact ⟨by rw [cell_of_row _ _ _ _ _ _ (heap_alloc_new _ _)]; rfl, i.alloc _⟩
theorem ps4 {w : World} {d e f k n : Nat} {M S T V : Nat → Nat → Bool} (t : TypeId) (h : Rl w d n M) (g : Rl w e n S) (i : Rl w f n T) (j : Rl w k n V) : PsIn (w.alloc (.cells #[.pointer (some ⟨d, 0, none⟩), .pointer (some ⟨e, 0, none⟩), .pointer (some ⟨f, 0, none⟩), .pointer (some ⟨k, 0, none⟩)] t (0, 0))) (some ⟨w.heap.size, 0, none⟩) [⟨d, M⟩, ⟨e, S⟩, ⟨f, T⟩, ⟨k, V⟩] n := by
  refine .inr ⟨_, rfl, by simp, fun q hq => ?_⟩
  have hq : q < 4 := hq
  match q, hq with
  | 0, _ => exact ⟨by rw [cell_of_row _ _ _ _ _ _ (heap_alloc_new _ _)]; rfl, h.alloc _⟩
  | 1, _ => exact ⟨by rw [cell_of_row _ _ _ _ _ _ (heap_alloc_new _ _)]; rfl, g.alloc _⟩
  | 2, _ => exact ⟨by rw [cell_of_row _ _ _ _ _ _ (heap_alloc_new _ _)]; rfl, i.alloc _⟩
  | 3, _ => exact ⟨by rw [cell_of_row _ _ _ _ _ _ (heap_alloc_new _ _)]; rfl, j.alloc _⟩
end RelA
namespace RelA
def evM (g : Gr) (kind : Int) (modes : List Int) : Nat → Nat → Bool := diagM g.n fun i => evB kind modes (Ev.at g.E i)
theorem nsin_none (w : World) : NsIn w none [] := .inl rfl
end RelA
end Go.Proofs.YtgpkdhbegkhjjaaDoor
namespace Go.Proofs.YtgpkdhbegkhjjaaDoor
open Go.RowKit RelA
attribute [local go_sem ↓] Go.wp_at_zero Go.wp_at_succ
namespace RelA
structure Bl (w W : World) : Prop where
  out : Below w.heap.size w W
noncomputable def rsM (g : Gr) : Nat → Nat → Bool := orM (seqM (seqM (evM g 2 []) (locM g.E)) (evM g 2 [])) (seqM (evM g 2 []) (starM g.n (seqM (seqM (maybeM g.n (locM g.E)) (rfM g)) (ofM g.n g.Rmw))))
end RelA
end Go.Proofs.YtgpkdhbegkhjjaaDoor
namespace Go.Proofs.YtgpkdhbegkhjjaaDoor
open Go.RowKit RelA
attribute [local go_sem ↓] Go.wp_at_zero Go.wp_at_succ
namespace RelA
theorem nsin1 (w : World) (x : Int) (t : TypeId) : NsIn (w.alloc (.cells #[.int .i64 x] t (0, 0))) (some ⟨w.heap.size, 0, none⟩) [x] := by
  refine .inr ⟨_, _, rfl, by simp, fun q hq => ?_⟩
  have hq : q < 1 := hq
  have : q = 0 := by omega
  subst this
  rw [cell_of_row _ _ _ _ _ _ (heap_alloc_new _ _)]; rfl
theorem nsin3 (w : World) (x y z : Int) (t : TypeId) : NsIn (w.alloc (.cells #[.int .i64 x, .int .i64 y, .int .i64 z] t (0, 0))) (some ⟨w.heap.size, 0, none⟩) [x, y, z] := by
  refine .inr ⟨_, _, rfl, by simp, fun q hq => ?_⟩
  have hq : q < 3 := hq
  match q, hq with
  | 0, _ => rw [cell_of_row _ _ _ _ _ _ (heap_alloc_new _ _)]; rfl
  | 1, _ => rw [cell_of_row _ _ _ _ _ _ (heap_alloc_new _ _)]; rfl
  | 2, _ => rw [cell_of_row _ _ _ _ _ _ (heap_alloc_new _ _)]; rfl
/-- writes that release; fences that do; what is behind a fence -/
noncomputable def releaseM (g : Gr) : Nat → Nat → Bool := seqM (orM (evM g 2 [2]) (seqM (evM g 3 [2, 3, 4]) (poM g.E))) (rsM g)
noncomputable def swM (g : Gr) : Nat → Nat → Bool :=
  seqM (seqM (releaseM g) (orM (innerM g.E (rfM g)) (seqM (maybeM g.n (locM g.E)) (outerM g.E (rfM g))))) (orM (evM g 1 [1]) (seqM (poM g.E) (evM g 3 [1, 3, 4])))
noncomputable def hbM (g : Gr) : Nat → Nat → Bool := plusM (orM (poM g.E) (swM g))
end RelA
end Go.Proofs.YtgpkdhbegkhjjaaDoor
