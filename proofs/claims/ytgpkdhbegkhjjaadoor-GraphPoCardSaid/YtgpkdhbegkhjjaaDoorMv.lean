/-
  What the functions that the law reaches do, one by one: contracts. Conditions: those that each of them prints.
-/
import Derived.Test.YtgpkdhbegkhjjaaDoorMq
import Derived.Deep.SlicePairs
import Derived.OpenShut
import Derived.Deep.DeepHandedRow
namespace Go.Proofs.YtgpkdhbegkhjjaaDoor
open Go.ChangeShapes Go.WideShapes Go.ChangeAt Go.RowKit RelA
theorem cellsG : Tryd.prog.cellsOf 28 = 8 := by kernel_rfl
theorem cellsE : Tryd.prog.cellsOf 30 = 6 := by kernel_rfl
theorem cellsI : Tryd.prog.cellsOf 3 = 1 := by kernel_rfl
theorem cellsB : Tryd.prog.cellsOf 4 = 1 := by kernel_rfl
theorem cellsP : Tryd.prog.cellsOf 40 = 2 := by kernel_rfl
theorem cellsL : Tryd.prog.cellsOf 22 = 1 := by kernel_rfl
theorem cellsX : Tryd.prog.cellsOf 24 = 1 := by kernel_rfl
theorem cellsY : Tryd.prog.cellsOf 25 = 1 := by kernel_rfl
theorem cellsZ : Tryd.prog.cellsOf 26 = 1 := by kernel_rfl
theorem none_cell {W : World} {b o s : Nat} {x : Value} (h : W.cell? ((⟨b, o, some s⟩ : Addr).add 0) = some x) : False := by
  unfold Addr.add at h
  simp [World.cell?] at h
  split at h <;> simp_all
theorem add_plain (b o k : Nat) : (⟨b, o, none⟩ : Addr).add k = ⟨b, o + k, none⟩ := by unfold Addr.add; split <;> simp_all
theorem pick_lt {α : Type} (z : α) {len : Nat} {P : Nat → α → Prop} (h : ∀ i, i < len → ∃ a, P i a) : ∃ q : Nat → α, ∀ i, i < len → P i (q i) :=
  ⟨fun i => if hi : i < len then Classical.choose (h i hi) else z, fun i hi => by simp only [dif_pos hi]; exact Classical.choose_spec (h i hi)⟩
section
variable {H : Type} {enc : TypeId × Value → H} {W : World} {n : Nat} {v : Value} {y : DataW H × List MemPlace}
/-- an incoming slice of numbers -/
theorem ints_of (h : DataW.trod enc Tryd.prog W 0 (fun _ => true) true n 22 [v] = some y) : ∃ (a : Option Addr) (L : List Int) (c : Nat), v = .slice a L.length c ∧ NsIn W a L ∧ L.length ≤ c := by
  rcases Go.Deep.open_slice Tryd.underlying22 h with ⟨hcs, _⟩ | ⟨a, len, cap, m, k, D, Pl, hcs, _, hl, _, hmm, _, hx⟩
  · obtain rfl : v = .slice none 0 0 := by simpa using hcs
    exact ⟨none, [], 0, rfl, .inl rfl, Nat.le_refl _⟩
  · obtain rfl : v = .slice (some a) len cap := by simpa using hcs
    simp only [if_true] at hmm
    subst hmm
    rw [cellsI] at hx
    by_cases h0 : len = 0
    · subst h0
      exact ⟨some a, [], m, rfl, .inl rfl, Nat.zero_le _⟩
    · have each : ∀ i, i < len → ∃ z, W.cell? (a.add i) = some (.int .i64 z) := fun i hi => by
        obtain ⟨cs', h1, h2⟩ := hx i (by omega)
        obtain ⟨_, hlen, hcell⟩ := World.cells?_some h1
        obtain ⟨z, rfl, _, _⟩ := DataW.trod_int Tryd.underlying3 h2
        have e := hcell 0 (by omega)
        rw [Go.Deep.add_add, Nat.mul_one, Nat.add_zero] at e
        exact ⟨z, e⟩
      clear hx
      obtain ⟨b, o, sp⟩ := a
      cases sp with
      | some s =>
        obtain ⟨z, e⟩ := each 0 (by omega)
        exact (none_cell e).elim
      | none =>
        simp only [add_plain] at each
        have hlt : b < W.heap.size := by
          obtain ⟨z, e⟩ := each 0 (by omega)
          exact block_lt_of_cell e
        refine ⟨some ⟨b, o, none⟩, (List.range len).map fun i => intOf ((W.cell? ⟨b, o + i, none⟩).getD undef), m, by simp, .inr ⟨b, o, rfl, hlt, fun i hi => ?_⟩, by simpa using hl⟩
        have hi2 : i < len := by simpa using hi
        obtain ⟨z, e⟩ := each i hi2
        rw [e]
        simp [List.getD_eq_getElem?_getD, List.getElem?_range hi2, e, intOf]
theorem lists_of (h : DataW.trod enc Tryd.prog W 0 (fun _ => true) true n 25 [v] = some y) : ∃ (a : Option Addr) (C : List Ls) (c : Nat), v = .slice a C.length c ∧ LsIn W a C ∧ C.length ≤ c := by
  rcases Go.Deep.open_slice Tryd.underlying25 h with ⟨hcs, _⟩ | ⟨a, len, cap, m, k, D, Pl, hcs, _, hl, _, hmm, _, hx⟩
  · obtain rfl : v = .slice none 0 0 := by simpa using hcs
    exact ⟨none, [], 0, rfl, .inl rfl, Nat.le_refl _⟩
  · obtain rfl : v = .slice (some a) len cap := by simpa using hcs
    simp only [if_true] at hmm
    subst hmm
    rw [cellsL] at hx
    by_cases h0 : len = 0
    · subst h0
      exact ⟨some a, [], m, rfl, .inl rfl, Nat.zero_le _⟩
    · have each : ∀ i, i < len → ∃ l : Ls, W.cell? (a.add i) = some (.slice l.a l.L.length l.c) ∧ NsIn W l.a l.L ∧ l.L.length ≤ l.c := fun i hi => by
        obtain ⟨cs', h1, h2⟩ := hx i (by omega)
        obtain ⟨_, hlen, hcell⟩ := World.cells?_some h1
        match cs', hlen with
        | [u], _ =>
          obtain ⟨a', L', c', rfl, h3, h4⟩ := ints_of h2
          have e := hcell 0 (by omega)
          rw [Go.Deep.add_add, Nat.mul_one, Nat.add_zero] at e
          exact ⟨⟨a', L', c'⟩, e, h3, h4⟩
      clear hx
      obtain ⟨q, hq⟩ := pick_lt Ls.zero each
      clear each
      obtain ⟨b, o, sp⟩ := a
      cases sp with
      | some s => exact (none_cell (hq 0 (by omega)).1).elim
      | none =>
        simp only [add_plain] at hq
        refine ⟨some ⟨b, o, none⟩, (List.range len).map q, m, by simp, .inr ⟨b, o, rfl, block_lt_of_cell (hq 0 (by omega)).1, fun i hi => ?_⟩, by simpa using hl⟩
        have hi2 : i < len := by simpa using hi
        have e : ((List.range len).map q).getD i Ls.zero = q i := by simp [List.getD_eq_getElem?_getD, List.getElem?_range hi2]
        rw [e]
        exact hq i hi2
set_option maxRecDepth 20000 in
theorem events_of (h : DataW.trod enc Tryd.prog W 0 (fun _ => true) true n 24 [v] = some y) : ∃ (a : Option Addr) (E : List Ev) (c : Nat), v = .slice a E.length c ∧ EsIn W a E ∧ E.length ≤ c := by
  rcases Go.Deep.open_slice Tryd.underlying24 h with ⟨hcs, _⟩ | ⟨a, len, cap, m, k, D, Pl, hcs, _, hl, _, hmm, _, hx⟩
  · obtain rfl : v = .slice none 0 0 := by simpa using hcs
    exact ⟨none, [], 0, rfl, .inl rfl, Nat.le_refl _⟩
  · obtain rfl : v = .slice (some a) len cap := by simpa using hcs
    simp only [if_true] at hmm
    subst hmm
    rw [cellsE] at hx
    by_cases h0 : len = 0
    · subst h0
      exact ⟨some a, [], m, rfl, .inl rfl, Nat.zero_le _⟩
    · have each : ∀ i, i < len → ∃ e : Ev, W.cell? (a.add (i * 6)) = some (.int .i64 e.th) ∧ W.cell? (a.add (i * 6 + 1)) = some (.int .i64 e.kd) ∧ W.cell? (a.add (i * 6 + 2)) = some (.int .i64 e.md) ∧ W.cell? (a.add (i * 6 + 3)) = some (.int .i64 e.lc) ∧ W.cell? (a.add (i * 6 + 4)) = some (.int .i64 e.vl) ∧ W.cell? (a.add (i * 6 + 5)) = some (.bool e.ex) := fun i hi => by
        obtain ⟨cs', h1, h2⟩ := hx i (by omega)
        obtain ⟨_, hlen, hcell⟩ := World.cells?_some h1
        obtain ⟨xs, j, _, _, _, hxl, hf⟩ := DataW.trod_struct Tryd.underlying30 h2
        match cs', hlen, xs, hxl with
        | [v0, v1, v2, v3, v4, v5], _, [y0, y1, y2, y3, y4, y5], _ =>
          have g0 := hf 0 _ rfl
          have g1 := hf 1 _ rfl
          have g2 := hf 2 _ rfl
          have g3 := hf 3 _ rfl
          have g4 := hf 4 _ rfl
          have g5 := hf 5 _ rfl
          simp [cellsI, cellsB] at g0 g1 g2 g3 g4 g5
          obtain ⟨z0, q0, _, _⟩ := DataW.trod_int Tryd.underlying3 g0
          obtain ⟨z1, q1, _, _⟩ := DataW.trod_int Tryd.underlying3 g1
          obtain ⟨z2, q2, _, _⟩ := DataW.trod_int Tryd.underlying3 g2
          obtain ⟨z3, q3, _, _⟩ := DataW.trod_int Tryd.underlying3 g3
          obtain ⟨z4, q4, _, _⟩ := DataW.trod_int Tryd.underlying3 g4
          obtain ⟨z5, q5, _⟩ := DataW.trod_bool Tryd.underlying4 g5
          have e0 := hcell 0 (by omega)
          have e1 := hcell 1 (by omega)
          have e2 := hcell 2 (by omega)
          have e3 := hcell 3 (by omega)
          have e4 := hcell 4 (by omega)
          have e5 := hcell 5 (by omega)
          rw [Go.Deep.add_add] at e0 e1 e2 e3 e4 e5
          simp at q0 q1 q2 q3 q4 q5
          subst q0 q1 q2 q3 q4 q5
          exact ⟨⟨z0, z1, z2, z3, z4, z5⟩, by simpa using e0, by simpa using e1, by simpa using e2, by simpa using e3, by simpa using e4, by simpa using e5⟩
      clear hx
      obtain ⟨q, hq⟩ := pick_lt Ev.zero each
      clear each
      obtain ⟨b, o, sp⟩ := a
      cases sp with
      | some s =>
        have h00 := (hq 0 (by omega)).1
        rw [Nat.zero_mul] at h00
        exact (none_cell h00).elim
      | none =>
        simp only [add_plain] at hq
        refine ⟨some ⟨b, o, none⟩, (List.range len).map q, m, by simp, .inr ⟨b, o, rfl, block_lt_of_cell (hq 0 (by omega)).1, fun i hi => ?_⟩, by simpa using hl⟩
        have hi2 : i < len := by simpa using hi
        have e : ((List.range len).map q).getD i Ev.zero = q i := by simp [List.getD_eq_getElem?_getD, List.getElem?_range hi2]
        rw [e]
        obtain ⟨g0, g1, g2, g3, g4, g5⟩ := hq i hi2
        exact ⟨g0, by rw [Nat.add_assoc]; exact g1, by rw [Nat.add_assoc]; exact g2, by rw [Nat.add_assoc]; exact g3, by rw [Nat.add_assoc]; exact g4, by rw [Nat.add_assoc]; exact g5⟩
theorem pairs_of (h : DataW.trod enc Tryd.prog W 0 (fun _ => true) true n 26 [v] = some y) : ∃ (a : Option Addr) (L : List (Int × Int)) (c : Nat), v = .slice a L.length c ∧ PIn W a L c := by
  rcases Go.Deep.open_slice_pairs Tryd.underlying26 Tryd.underlying40 cellsP rfl rfl cellsI cellsI h with ⟨hcs, _⟩ | ⟨a, len, cap, m, k, V0, V1, D0, D1, P0, P1, hcs, _, hl, _, hmm, _, hcell⟩
  · obtain rfl : v = .slice none 0 0 := by simpa using hcs
    exact ⟨none, [], 0, rfl, .inl ⟨rfl, rfl, rfl⟩⟩
  · obtain rfl : v = .slice (some a) len cap := by simpa using hcs
    simp only [if_true] at hmm
    subst hmm
    by_cases h0 : len = 0
    · subst h0
      exact ⟨some a, [], m, rfl, .inr (.inl ⟨a, rfl, rfl⟩)⟩
    · obtain ⟨b, o, sp⟩ := a
      have h00 := (hcell 0 (by omega)).1
      rw [Nat.zero_mul] at h00
      cases sp with
      | some s => exact (none_cell h00).elim
      | none =>
        rw [add_plain] at h00
        refine ⟨some ⟨b, o, none⟩, (List.range len).map fun i => (intOf (V0 i), intOf (V1 i)), m, by simp, .inr (.inr ⟨b, o, rfl, block_lt_of_cell h00, fun i hi => ?_⟩)⟩
        have hi2 : i < len := by simpa using hi
        obtain ⟨e0, e1, g0, g1⟩ := hcell i (by omega)
        obtain ⟨z0, q0, _, _⟩ := DataW.trod_int Tryd.underlying3 g0
        obtain ⟨z1, q1, _, _⟩ := DataW.trod_int Tryd.underlying3 g1
        have r0 : V0 i = .int .i64 z0 := by simpa using q0
        have r1 : V1 i = .int .i64 z1 := by simpa using q1
        rw [add_plain] at e0 e1
        rw [Nat.add_assoc, e0, e1, r0, r1]
        simp [List.getD_eq_getElem?_getD, List.getElem?_range hi2, r0, r1, intOf]
set_option maxRecDepth 20000 in
/-- an incoming graph -/
theorem gr_of {base : Nat} {d : DataW H} {p : List MemPlace} (hv : Value.okWide Tryd.prog W .any base 28 v) (h : DataW.Trod enc Tryd.prog W 0 (fun _ => true) true 28 v d p) :
    ∃ g : Gr, v = g.v ∧ GInA W g ∧ g.E.length ≤ g.ec ∧ g.C.length ≤ g.cc := by
  obtain ⟨cs, rfl, hsz⟩ := okWide_struct Tryd.underlying28 hv
  rw [cellsG] at hsz
  obtain ⟨l⟩ := cs
  obtain ⟨fuel, hf⟩ := h
  obtain ⟨xs, j, _, _, _, hxl, hfd⟩ := DataW.trod_struct Tryd.underlying28 hf
  match l, hsz, xs, hxl with
  | [v0, v1, v2, v3, v4, v5, v6, v7], _, [y0, y1, y2, y3, y4, y5, y6, y7], _ =>
    have g0 := hfd 0 _ rfl
    have g1 := hfd 1 _ rfl
    have g2 := hfd 2 _ rfl
    have g3 := hfd 3 _ rfl
    have g4 := hfd 4 _ rfl
    have g5 := hfd 5 _ rfl
    have g6 := hfd 6 _ rfl
    have g7 := hfd 7 _ rfl
    simp [Value.cells, cellsI, cellsX, cellsY, cellsZ, cellsL] at g0 g1 g2 g3 g4 g5 g6 g7
    obtain ⟨z0, q0, _, _⟩ := DataW.trod_int Tryd.underlying3 g0
    obtain ⟨a1, E, c1, rfl, h1, k1⟩ := events_of g1
    obtain ⟨a2, R, c2, rfl, h2, _⟩ := ints_of g2
    obtain ⟨a3, C, c3, rfl, h3, k3⟩ := lists_of g3
    obtain ⟨a4, L4, c4, rfl, h4⟩ := pairs_of g4
    obtain ⟨a5, L5, c5, rfl, h5⟩ := pairs_of g5
    obtain ⟨a6, L6, c6, rfl, h6⟩ := pairs_of g6
    obtain ⟨a7, L7, c7, rfl, h7⟩ := pairs_of g7
    obtain rfl : v0 = .int .i64 z0 := by simpa using q0
    exact ⟨⟨z0, a1, E, c1, a2, R, c2, a3, C, c3, a4, L4, c4, a5, L5, c5, a6, L6, c6, a7, L7, c7⟩, rfl, ⟨h1, h2, h3, h4, h5, h6, h7⟩, k1, k3⟩
end
end Go.Proofs.YtgpkdhbegkhjjaaDoor
