/-
  What the functions that the law reaches do, one by one: contracts. Conditions: those that each of them prints.
-/
import Derived.Test.YtgpkdhbegkhjjaaDoorMz
namespace Go.Proofs.YtgpkdhbegkhjjaaDoor
open Go.RowKit RelA
namespace RelA
section
variable {L : Nat} {E : List Ev} {t q pc : Nat}
theorem GoodT.ev (h : GoodT L E t q pc) {i : Nat} (hi : i < E.length) : (i < L ∧ Ev.at E i = firE i) ∨ (L ≤ i ∧ ∃ s : Nat, s ≤ t ∧ Ev.at E i = barE s) := by
  by_cases c : i < L
  · exact .inl ⟨c, h.fir i c⟩
  · exact .inr ⟨by omega, h.th (by omega) hi⟩
theorem GoodT.evs (h : GoodT L E t q pc) {i : Nat} (hi : i < E.length) (h0 : q = 0) : (i < L ∧ Ev.at E i = firE i) ∨ (L ≤ i ∧ ∃ s : Nat, s < t ∧ Ev.at E i = barE s) := by
  by_cases c : i < L
  · exact .inl ⟨c, h.fir i c⟩
  · exact .inr ⟨by omega, h.low i (by omega) (by omega)⟩
theorem GoodT.cnt (h : GoodT L E t q pc) (j : Nat) (hj : j < L) : ∀ k, k ≤ E.length → cntW E (j : Int) k = if j < k then 1 else 0 := by
  intro k
  induction k with
  | zero => intro _; rfl
  | succ k ih =>
    intro hk
    unfold cntW
    rw [ih (by omega)]
    rcases h.ev (i := k) (by omega) with ⟨a, b⟩ | ⟨a, s, _, b⟩
    · rw [b]
      by_cases c : k = j
      · subst c; simp [firE]
      · have n1 : ¬ ((k : Int) = (j : Int)) := by omega
        have n2 : (j < k + 1) = (j < k) := by apply propext; omega
        simp [firE, n1, n2]
    · rw [b]
      have n2 : (j < k + 1) = (j < k) := by apply propext; omega
      simp [barE, n2]
theorem good_check (h : GoodT L E t 0 pc) (h1 : 1 ≤ L) (h4 : L ≤ 4) (ht : t ≤ 4) (h40 : E.length ≤ 40) {R : List Int} (hR : R.length = E.length) (hR1 : ∀ x ∈ R, x = -1) (g : Gr) (e1 : g.locs = L) (e2 : g.E = E) (e3 : g.R = R) (e4 : g.C.length = L)
    (e5 : ∀ j, j < L → (g.C.getD j Ls.zero).L = [(j : Int)]) (e6 : g.Rmw = []) (e7 : g.Data = []) (e8 : g.Ctrl = []) (e9 : g.CtrlI = []) : CheckOk g := by
  have hlen := h.len
  have dn : DepsOk E [] := ⟨fun k hk => absurd hk (Nat.not_lt_zero _), fun k _ hk => absurd hk (Nat.not_lt_zero _)⟩
  have hRd : ∀ i, i < E.length → R.getD i 0 = -1 := fun i hi => by
    rw [List.getD_eq_getElem?_getD, List.getElem?_eq_getElem (by omega)]
    exact hR1 _ (List.getElem_mem _)
  refine ⟨by rw [e1]; omega, by rw [e1]; omega, by rw [e1, e2]; omega, by rw [e2]; omega, by rw [e2, e3, hR], by rw [e4, e1], fun i hi => ?_, fun j hj => ?_, ?_, by rw [e2, e7]; exact dn, by rw [e2, e8]; exact dn, by rw [e2, e9]; exact dn⟩
  · rw [e2] at hi
    rw [e2, e3, hRd i hi]
    have hev := h.evs hi rfl
    constructor
    · unfold evAt evOk
      rw [e1, e2]
      rcases hev with ⟨a, b⟩ | ⟨a, s, hs, b⟩
      · have : (i : Int) < (L : Int) := by omega
        rw [b, if_pos this]; simp [firE]
      · have n1 : ¬ (i : Int) < (L : Int) := by omega
        have hp : (Ev.at E (i - 1)).th ≤ (Ev.at E i).th := by
          by_cases c : i - 1 < L
          · rw [h.fir _ c, b]; simp [firE, barE]; omega
          · exact h.mono (i - 1) i (by omega) (by omega) hi
        have n2 : ¬ ((Ev.at E i).th < (Ev.at E (i - 1)).th) := by omega
        rw [if_neg n1]
        have n3 : ¬ ((barE (s : Int)).th < 1) := by simp [barE]; omega
        have n4 : ¬ (4 < (barE (s : Int)).th) := by simp [barE]; omega
        rw [b] at n2 ⊢
        simp only [n2, n3, n4, decide_false, Bool.or_false, Bool.and_false, Bool.false_eq_true, if_false]
        simp [barE]
    · unfold RfOk
      rcases hev with ⟨_, b⟩ | ⟨_, s, _, b⟩
      · rw [b]; exact ⟨fun q => by simp [firE] at q, fun _ => rfl⟩
      · rw [b]; exact ⟨fun q => by simp [barE] at q, fun _ => rfl⟩
  · rw [e4] at hj
    rw [e2, e5 j hj]
    refine ⟨fun k hk => ?_, fun k hk m hm => ?_, ?_, by simp, rfl⟩
    · obtain rfl : k = 0 := by simpa using hk
      exact ⟨j, rfl, by omega, by rw [h.fir j hj]; rfl, by rw [h.fir j hj]; rfl⟩
    · have : k = 0 := by simpa using hk
      omega
    · rw [h.cnt j hj _ (Nat.le_refl _), if_pos (by omega)]; rfl
  · rw [e2, e6]
    refine ⟨fun k hk => absurd hk (Nat.not_lt_zero _), fun i hi => ⟨by simp [cntR], ?_⟩, fun k _ hk => absurd hk (Nat.not_lt_zero _)⟩
    rcases h.ev hi with ⟨_, b⟩ | ⟨_, s, _, b⟩
    · rw [b]; rfl
    · rw [b]; rfl
end
section
variable {w0 W : World} {p : Nat} {locs : Int} {v1 v2 v3 u1 u2 u3 : Value} {E : List Ev} {R : List Int} {C : List Nat} {S : List (Nat × Obj)}
theorem own_get {e s n : Nat} {v : Value} {xs : List Value} {b : Nat} (h : W.ownsRow b e s v n xs) (hn : 0 < n) : ∃ g c, v = .slice (some ⟨g, 0, none⟩) n c ∧ n ≤ c ∧ g < W.heap.size ∧ ∀ j u, xs[j]? = some u → W.cell? ⟨g, j, none⟩ = some u := by
  have hc := fun g hg => h.cells (g := g) hg
  have hl := h.lt
  rcases h.2 with ⟨_, h0⟩ | ⟨g, cap, cur, rfl, _, _, hle, _⟩
  · omega
  · refine ⟨g, cap, rfl, hle, (hl g rfl).2, fun j u hj => ?_⟩
    have := hc g rfl j u hj
    have e : (⟨g, 0, none⟩ : Addr).add j = ⟨g, j, none⟩ := by unfold Addr.add; simp; intro h; exact h.symm
    rw [e] at this; exact this
theorem ecs_at (E : List Ev) : ∀ q, q < E.length → (ecs E)[q * 6]? = some (.int .i64 (Ev.at E q).th) ∧ (ecs E)[q * 6 + 1]? = some (.int .i64 (Ev.at E q).kd) ∧ (ecs E)[q * 6 + 2]? = some (.int .i64 (Ev.at E q).md) ∧ (ecs E)[q * 6 + 3]? = some (.int .i64 (Ev.at E q).lc) ∧ (ecs E)[q * 6 + 4]? = some (.int .i64 (Ev.at E q).vl) ∧ (ecs E)[q * 6 + 5]? = some (.bool (Ev.at E q).ex) := by
  induction E with
  | nil => intro q h; cases h
  | cons e E ih =>
    intro q h
    cases q with
    | zero => exact ⟨rfl, rfl, rfl, rfl, rfl, rfl⟩
    | succ q =>
      have := ih q (by simpa using h)
      have e1 : ecs (e :: E) = e.cs ++ ecs E := rfl
      have key : ∀ k, (ecs (e :: E))[(q + 1) * 6 + k]? = (ecs E)[q * 6 + k]? := fun k => by
        have hl : e.cs.length = 6 := rfl
        rw [e1, List.getElem?_append_right (by omega), hl]
        congr 1; omega
      have k0 := key 0
      rw [Nat.add_zero, Nat.add_zero] at k0
      rw [k0, key 1, key 2, key 3, key 4, key 5]
      exact this
theorem mb_es (h : MB w0 W p locs v1 v2 v3 u1 u2 u3 E R C S) (h0 : 0 < E.length) : ∃ a c, v1 = .slice a E.length c ∧ E.length ≤ c ∧ EsIn W a E := by
  obtain ⟨g, c, rfl, hle, hg, hc⟩ := own_get h.o1 h0
  refine ⟨_, c, rfl, hle, .inr ⟨g, 0, rfl, hg, fun q hq => ?_⟩⟩
  obtain ⟨a0, a1, a2, a3, a4, a5⟩ := ecs_at E q hq
  rw [Nat.zero_add]
  exact ⟨hc _ _ a0, hc _ _ a1, hc _ _ a2, hc _ _ a3, hc _ _ a4, hc _ _ a5⟩
theorem mb_ns (h : MB w0 W p locs v1 v2 v3 u1 u2 u3 E R C S) (h0 : 0 < R.length) : ∃ a c, v2 = .slice a R.length c ∧ R.length ≤ c ∧ NsIn W a R := by
  obtain ⟨g, c, rfl, hle, hg, hc⟩ := own_get h.o2 h0
  refine ⟨_, c, rfl, hle, .inr ⟨g, 0, rfl, hg, fun q hq => ?_⟩⟩
  rw [Nat.zero_add]
  refine hc _ _ ?_
  simp [ncs, List.getD_eq_getElem?_getD, List.getElem?_eq_getElem hq]
def clL (C : List Nat) : List Ls := (List.range C.length).map fun j => ⟨some ⟨C.getD j 0, 0, none⟩, [(j : Int)], 1⟩
theorem clL_at (C : List Nat) {j : Nat} (h : j < C.length) : (clL C).getD j Ls.zero = ⟨some ⟨C.getD j 0, 0, none⟩, [(j : Int)], 1⟩ := by
  simp [clL, List.getD_eq_getElem?_getD, h]
theorem clL_len (C : List Nat) : (clL C).length = C.length := by simp [clL]
theorem mb_ls (h : MB w0 W p locs v1 v2 v3 u1 u2 u3 E R C S) (h0 : 0 < C.length) (hs : ∀ j, j < C.length → (C.getD j 0, into j) ∈ S) : ∃ a c, v3 = .slice a C.length c ∧ C.length ≤ c ∧ LsIn W a (clL C) := by
  obtain ⟨g, c, rfl, hle, hg, hc⟩ := own_get h.o3 h0
  refine ⟨_, c, rfl, hle, .inr ⟨g, 0, rfl, hg, fun q hq => ?_⟩⟩
  rw [clL_len] at hq
  rw [Nat.zero_add, clL_at C hq]
  have hb := (h.src _ (hs q hq)).1
  refine ⟨hc _ _ (by simp [lcs, List.getD_eq_getElem?_getD, List.getElem?_eq_getElem hq]), .inr ⟨C.getD q 0, 0, rfl, blk_lt hb, fun k hk => ?_⟩, Nat.le_refl _⟩
  obtain rfl : k = 0 := by simpa using hk
  show W.cell? ⟨C.getD q 0, 0, none⟩ = some (.int .i64 (q : Int))
  generalize C.getD q 0 = b at hb ⊢
  have hb2 : W.heap[b]? = some (into q) := hb
  unfold World.cell?
  simp only [hb2, into]
  rfl
/-- the graph that was built -/
theorem mb_graph {L t pc : Nat} (h : MB w0 W p (L : Int) v1 v2 v3 v1 v2 v3 E R C S) (g : GoodT L E t 0 pc) (h1 : 1 ≤ L) (h4 : L ≤ 4) (ht : t ≤ 4) (h40 : E.length ≤ 40) (hR : R.length = E.length) (hR1 : ∀ x ∈ R, x = -1) (hC : C.length = L) (hs : ∀ j, j < L → (C.getD j 0, into j) ∈ S) :
    ∃ G : Gr, G.E = E ∧ CheckOk G ∧ GIn0 W G ∧ G.E.length ≤ G.ec ∧ G.v = .agg #[.int .i64 (L : Int), v1, v2, v3, nsl, nsl, nsl, nsl] := by
  have hlen := g.len
  obtain ⟨a1, c1, rfl, hc1, hes⟩ := mb_es h (by omega)
  obtain ⟨a2, c2, rfl, hc2, hns⟩ := mb_ns h (by omega)
  obtain ⟨a3, c3, rfl, hc3, hls⟩ := mb_ls h (by omega) (by rw [hC]; exact hs)
  have pn : ∀ w : World, PIn w none [] 0 := fun w => .inl ⟨rfl, rfl, rfl⟩
  refine ⟨⟨L, a1, E, c1, a2, R, c2, a3, clL C, c3, none, [], 0, none, [], 0, none, [], 0, none, [], 0⟩, rfl, ?_, ?_, hc1, ?_⟩
  · exact good_check g h1 h4 ht h40 hR hR1 _ rfl rfl rfl (by show (clL C).length = L; rw [clL_len, hC]) (fun j hj => by show ((clL C).getD j Ls.zero).L = _; rw [clL_at C (by omega)]) rfl rfl rfl rfl
  · refine ⟨hes, hns, hls, pn W, pn W, pn W, pn W, ?_, ?_, ?_, fun q hq => ?_, Nat.zero_le _, Nat.zero_le _, Nat.zero_le _, Nat.zero_le _⟩
    · show E.length ≤ 50; omega
    · show R.length ≤ 60; omega
    · show (clL C).length ≤ 6; rw [clL_len]; omega
    · show ((clL C).getD q Ls.zero).L.length ≤ 50
      have hq2 : q < C.length := by rw [← clL_len]; exact hq
      rw [clL_at C hq2]; exact (by decide : (1 : Nat) ≤ 50)
  · show Value.agg _ = _
    rw [clL_len]; rfl
end
end RelA
end Go.Proofs.YtgpkdhbegkhjjaaDoor
