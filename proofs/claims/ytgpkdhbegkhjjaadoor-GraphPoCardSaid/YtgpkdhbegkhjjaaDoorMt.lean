/-
  What the functions that the law reaches do, one by one: contracts. Conditions: those that each of them prints.
-/
import Derived.Test.YtgpkdhbegkhjjaaDoorMs
import Derived.Test.YtgpkdhbegkhjjaaDoorMl
import Derived.Test.YtgpkdhbegkhjjaaDoorMo
import Derived.Deep.RegionHeld
import Derived.Test.YtgpkdhbegkhjjaaDoorMq
namespace Go.Proofs.YtgpkdhbegkhjjaaDoor
open Go.RowKit RelA
attribute [local go_sem ↓] Go.wp_at_zero Go.wp_at_succ
namespace RelA
def evTail (locs : Int) (e : Ev) : Bool :=
  if e.kd == 1 then (decide (0 ≤ e.lc) && decide (e.lc < locs)) && ((e.md == 0) || (e.md == 1))
  else if e.kd == 2 then (decide (0 ≤ e.lc) && decide (e.lc < locs)) && ((e.md == 0) || (e.md == 2))
  else if e.kd == 3 then ((((decide (1 ≤ e.md) && decide (e.md ≤ 4)) && (e.lc == 0)) && (e.vl == 0)) && !e.ex)
  else false
end RelA
set_option maxRecDepth 20000 in
set_option maxHeartbeats 8000000 in
theorem event_p (e : Ev) (locs : Int) (w : World) : Calls Tryd.prog 23 #[e.v, .int .i64 locs] w fun en w' => en = .returned (.bool (evTail locs e)) ∧ Below w.heap.size w w' := by
  obtain ⟨x0, x1, x2, x3, x4, x5⟩ := e
  unfold Ev.v
  dsimp only
  have HB : Hid (∀ o, Below w.heap.size w (w.alloc o)) := Lib.hid (fun o => (Below.refl _ _).alloc (Nat.le_refl _) o)
  obtain ⟨B, hB⟩ : ∃ B, B = evTail locs ⟨x0, x1, x2, x3, x4, x5⟩ := ⟨_, rfl⟩
  have HV := Lib.hid hB
  unfold evTail at HV
  dsimp only at HV
  rw [← hB]
  clear hB
  by_cases qa : 0 ≤ x3
  · have la : (decide (0 ≤ x3)) = true := by simp [qa]
    by_cases qb : x3 < locs
    · have lb : (decide (x3 < locs)) = true := by simp [qb]
      by_cases qi : x1 = 1
      · have li : (x1 == 1) = true := by simp [qi]
        by_cases qc : x2 = 0
        · have lc : (x2 == 0) = true := by simp [qc]
          go_enter Tryd.func23, Tryd.ntmps23
          go_wp2_with fail
          go_ret
          exact ⟨by rw [HV.out]; first | rfl | simp [*], HB.out _⟩
        · have lc : (x2 == 0) = false := by simp [qc]
          by_cases qd : x2 = 1
          · have ld : (x2 == 1) = true := by simp [qd]
            go_enter Tryd.func23, Tryd.ntmps23
            go_wp2_with fail
            go_ret
            exact ⟨by rw [HV.out]; first | rfl | simp [*], HB.out _⟩
          · have ld : (x2 == 1) = false := by simp [qd]
            go_enter Tryd.func23, Tryd.ntmps23
            go_wp2_with fail
            go_ret
            exact ⟨by rw [HV.out]; first | rfl | simp [*], HB.out _⟩
      · have li : (x1 == 1) = false := by simp [qi]
        by_cases qj : x1 = 2
        · have lj : (x1 == 2) = true := by simp [qj]
          by_cases qc : x2 = 0
          · have lc : (x2 == 0) = true := by simp [qc]
            go_enter Tryd.func23, Tryd.ntmps23
            go_wp2_with fail
            go_ret
            exact ⟨by rw [HV.out]; first | rfl | simp [*], HB.out _⟩
          · have lc : (x2 == 0) = false := by simp [qc]
            by_cases qd : x2 = 2
            · have ld : (x2 == 2) = true := by simp [qd]
              go_enter Tryd.func23, Tryd.ntmps23
              go_wp2_with fail
              go_ret
              exact ⟨by rw [HV.out]; first | rfl | simp [*], HB.out _⟩
            · have ld : (x2 == 2) = false := by simp [qd]
              go_enter Tryd.func23, Tryd.ntmps23
              go_wp2_with fail
              go_ret
              exact ⟨by rw [HV.out]; first | rfl | simp [*], HB.out _⟩
        · have lj : (x1 == 2) = false := by simp [qj]
          by_cases qk : x1 = 3
          · have lk : (x1 == 3) = true := by simp [qk]
            by_cases qe : 1 ≤ x2
            · have le : (decide (1 ≤ x2)) = true := by simp [qe]
              by_cases qf : x2 ≤ 4
              · have lf : (decide (x2 ≤ 4)) = true := by simp [qf]
                by_cases qg : x3 = 0
                · have lg : (x3 == 0) = true := by simp [qg]
                  by_cases qh : x4 = 0
                  · have lh : (x4 == 0) = true := by simp [qh]
                    cases x5
                    · go_enter Tryd.func23, Tryd.ntmps23
                      go_wp2_with fail
                      go_ret
                      exact ⟨by rw [HV.out]; first | rfl | simp [*], HB.out _⟩
                    · go_enter Tryd.func23, Tryd.ntmps23
                      go_wp2_with fail
                      go_ret
                      exact ⟨by rw [HV.out]; first | rfl | simp [*], HB.out _⟩
                  · have lh : (x4 == 0) = false := by simp [qh]
                    go_enter Tryd.func23, Tryd.ntmps23
                    go_wp2_with fail
                    go_ret
                    exact ⟨by rw [HV.out]; first | rfl | simp [*], HB.out _⟩
                · have lg : (x3 == 0) = false := by simp [qg]
                  go_enter Tryd.func23, Tryd.ntmps23
                  go_wp2_with fail
                  go_ret
                  exact ⟨by rw [HV.out]; first | rfl | simp [*], HB.out _⟩
              · have lf : (decide (x2 ≤ 4)) = false := by simp [qf]
                go_enter Tryd.func23, Tryd.ntmps23
                go_wp2_with fail
                go_ret
                exact ⟨by rw [HV.out]; first | rfl | simp [*], HB.out _⟩
            · have le : (decide (1 ≤ x2)) = false := by simp [qe]
              go_enter Tryd.func23, Tryd.ntmps23
              go_wp2_with fail
              go_ret
              exact ⟨by rw [HV.out]; first | rfl | simp [*], HB.out _⟩
          · have lk : (x1 == 3) = false := by simp [qk]
            go_enter Tryd.func23, Tryd.ntmps23
            go_wp2_with fail
            go_ret
            exact ⟨by rw [HV.out]; first | rfl | simp [*], HB.out _⟩
    · have lb : (decide (x3 < locs)) = false := by simp [qb]
      by_cases qi : x1 = 1
      · have li : (x1 == 1) = true := by simp [qi]
        by_cases qc : x2 = 0
        · have lc : (x2 == 0) = true := by simp [qc]
          go_enter Tryd.func23, Tryd.ntmps23
          go_wp2_with fail
          go_ret
          exact ⟨by rw [HV.out]; first | rfl | simp [*], HB.out _⟩
        · have lc : (x2 == 0) = false := by simp [qc]
          by_cases qd : x2 = 1
          · have ld : (x2 == 1) = true := by simp [qd]
            go_enter Tryd.func23, Tryd.ntmps23
            go_wp2_with fail
            go_ret
            exact ⟨by rw [HV.out]; first | rfl | simp [*], HB.out _⟩
          · have ld : (x2 == 1) = false := by simp [qd]
            go_enter Tryd.func23, Tryd.ntmps23
            go_wp2_with fail
            go_ret
            exact ⟨by rw [HV.out]; first | rfl | simp [*], HB.out _⟩
      · have li : (x1 == 1) = false := by simp [qi]
        by_cases qj : x1 = 2
        · have lj : (x1 == 2) = true := by simp [qj]
          by_cases qc : x2 = 0
          · have lc : (x2 == 0) = true := by simp [qc]
            go_enter Tryd.func23, Tryd.ntmps23
            go_wp2_with fail
            go_ret
            exact ⟨by rw [HV.out]; first | rfl | simp [*], HB.out _⟩
          · have lc : (x2 == 0) = false := by simp [qc]
            by_cases qd : x2 = 2
            · have ld : (x2 == 2) = true := by simp [qd]
              go_enter Tryd.func23, Tryd.ntmps23
              go_wp2_with fail
              go_ret
              exact ⟨by rw [HV.out]; first | rfl | simp [*], HB.out _⟩
            · have ld : (x2 == 2) = false := by simp [qd]
              go_enter Tryd.func23, Tryd.ntmps23
              go_wp2_with fail
              go_ret
              exact ⟨by rw [HV.out]; first | rfl | simp [*], HB.out _⟩
        · have lj : (x1 == 2) = false := by simp [qj]
          by_cases qk : x1 = 3
          · have lk : (x1 == 3) = true := by simp [qk]
            by_cases qe : 1 ≤ x2
            · have le : (decide (1 ≤ x2)) = true := by simp [qe]
              by_cases qf : x2 ≤ 4
              · have lf : (decide (x2 ≤ 4)) = true := by simp [qf]
                by_cases qg : x3 = 0
                · have lg : (x3 == 0) = true := by simp [qg]
                  by_cases qh : x4 = 0
                  · have lh : (x4 == 0) = true := by simp [qh]
                    cases x5
                    · go_enter Tryd.func23, Tryd.ntmps23
                      go_wp2_with fail
                      go_ret
                      exact ⟨by rw [HV.out]; first | rfl | simp [*], HB.out _⟩
                    · go_enter Tryd.func23, Tryd.ntmps23
                      go_wp2_with fail
                      go_ret
                      exact ⟨by rw [HV.out]; first | rfl | simp [*], HB.out _⟩
                  · have lh : (x4 == 0) = false := by simp [qh]
                    go_enter Tryd.func23, Tryd.ntmps23
                    go_wp2_with fail
                    go_ret
                    exact ⟨by rw [HV.out]; first | rfl | simp [*], HB.out _⟩
                · have lg : (x3 == 0) = false := by simp [qg]
                  go_enter Tryd.func23, Tryd.ntmps23
                  go_wp2_with fail
                  go_ret
                  exact ⟨by rw [HV.out]; first | rfl | simp [*], HB.out _⟩
              · have lf : (decide (x2 ≤ 4)) = false := by simp [qf]
                go_enter Tryd.func23, Tryd.ntmps23
                go_wp2_with fail
                go_ret
                exact ⟨by rw [HV.out]; first | rfl | simp [*], HB.out _⟩
            · have le : (decide (1 ≤ x2)) = false := by simp [qe]
              go_enter Tryd.func23, Tryd.ntmps23
              go_wp2_with fail
              go_ret
              exact ⟨by rw [HV.out]; first | rfl | simp [*], HB.out _⟩
          · have lk : (x1 == 3) = false := by simp [qk]
            go_enter Tryd.func23, Tryd.ntmps23
            go_wp2_with fail
            go_ret
            exact ⟨by rw [HV.out]; first | rfl | simp [*], HB.out _⟩
  · have la : (decide (0 ≤ x3)) = false := by simp [qa]
    by_cases qi : x1 = 1
    · have li : (x1 == 1) = true := by simp [qi]
      by_cases qc : x2 = 0
      · have lc : (x2 == 0) = true := by simp [qc]
        go_enter Tryd.func23, Tryd.ntmps23
        go_wp2_with fail
        go_ret
        exact ⟨by rw [HV.out]; first | rfl | simp [*], HB.out _⟩
      · have lc : (x2 == 0) = false := by simp [qc]
        by_cases qd : x2 = 1
        · have ld : (x2 == 1) = true := by simp [qd]
          go_enter Tryd.func23, Tryd.ntmps23
          go_wp2_with fail
          go_ret
          exact ⟨by rw [HV.out]; first | rfl | simp [*], HB.out _⟩
        · have ld : (x2 == 1) = false := by simp [qd]
          go_enter Tryd.func23, Tryd.ntmps23
          go_wp2_with fail
          go_ret
          exact ⟨by rw [HV.out]; first | rfl | simp [*], HB.out _⟩
    · have li : (x1 == 1) = false := by simp [qi]
      by_cases qj : x1 = 2
      · have lj : (x1 == 2) = true := by simp [qj]
        by_cases qc : x2 = 0
        · have lc : (x2 == 0) = true := by simp [qc]
          go_enter Tryd.func23, Tryd.ntmps23
          go_wp2_with fail
          go_ret
          exact ⟨by rw [HV.out]; first | rfl | simp [*], HB.out _⟩
        · have lc : (x2 == 0) = false := by simp [qc]
          by_cases qd : x2 = 2
          · have ld : (x2 == 2) = true := by simp [qd]
            go_enter Tryd.func23, Tryd.ntmps23
            go_wp2_with fail
            go_ret
            exact ⟨by rw [HV.out]; first | rfl | simp [*], HB.out _⟩
          · have ld : (x2 == 2) = false := by simp [qd]
            go_enter Tryd.func23, Tryd.ntmps23
            go_wp2_with fail
            go_ret
            exact ⟨by rw [HV.out]; first | rfl | simp [*], HB.out _⟩
      · have lj : (x1 == 2) = false := by simp [qj]
        by_cases qk : x1 = 3
        · have lk : (x1 == 3) = true := by simp [qk]
          by_cases qe : 1 ≤ x2
          · have le : (decide (1 ≤ x2)) = true := by simp [qe]
            by_cases qf : x2 ≤ 4
            · have lf : (decide (x2 ≤ 4)) = true := by simp [qf]
              by_cases qg : x3 = 0
              · have lg : (x3 == 0) = true := by simp [qg]
                exfalso; omega
              · have lg : (x3 == 0) = false := by simp [qg]
                go_enter Tryd.func23, Tryd.ntmps23
                go_wp2_with fail
                go_ret
                exact ⟨by rw [HV.out]; first | rfl | simp [*], HB.out _⟩
            · have lf : (decide (x2 ≤ 4)) = false := by simp [qf]
              go_enter Tryd.func23, Tryd.ntmps23
              go_wp2_with fail
              go_ret
              exact ⟨by rw [HV.out]; first | rfl | simp [*], HB.out _⟩
          · have le : (decide (1 ≤ x2)) = false := by simp [qe]
            go_enter Tryd.func23, Tryd.ntmps23
            go_wp2_with fail
            go_ret
            exact ⟨by rw [HV.out]; first | rfl | simp [*], HB.out _⟩
        · have lk : (x1 == 3) = false := by simp [qk]
          go_enter Tryd.func23, Tryd.ntmps23
          go_wp2_with fail
          go_ret
          exact ⟨by rw [HV.out]; first | rfl | simp [*], HB.out _⟩
end Go.Proofs.YtgpkdhbegkhjjaaDoor
namespace Go.Proofs.YtgpkdhbegkhjjaaDoor
open Go.RowKit RelA
attribute [local go_sem ↓] Go.wp_at_zero Go.wp_at_succ
section
variable {P : Program} {ops : Array Oper} {Q : Exit → Act → World → Prop} {md : Region.Mode} {S : World → Prop}
/-- the rest of a drawn region, to be done in the order of a list -/
def wpO (P : Program) (md : Region.Mode) (ops : Array Oper) (Q : Exit → Act → World → Prop) (S : World → Prop) (_ : List Nat) (fuel : Nat) (listed : Array Bool) (a : Act) (w : World) : Prop := wpAnyH P md ops Q S fuel listed a w
theorem wo_start {id : Nat} {a : Act} {w : World} (l : List Nat) (n : Nat) (L : List Bool) (hm : P.follows .mixedOrders = true) (hn : ops.size = n) (hL : Array.replicate n false = L.toArray) (hS : S w.drew) (h : S w.drew → wpO P .any ops Q S l n L.toArray a w.drew) : (Code.region id ops true).wp P Q a w := by
  subst hn
  rw [← hL] at h
  exact wp_region_held_drew hm hS h
theorem wo_skip {i : Nat} {l : List Nat} {o : Oper} {fuel : Nat} {listed : Array Bool} {a : Act} {w : World} (hi : ops[i]? = some o)
    (hc : (Region.noSelect ops && (Region.free md ops listed i && (Region.ready md ops listed).contains i)) = true) (hw : Region.wanted o (yielded ops a.tmps) = false)
    (hQ : ∀ c a w, Q (.panic c) (a.put o.dst undef) w → Q (.panic c) a w) (hS : S w) (h : wpO P md ops Q S l fuel (listed.setIfInBounds i true) (a.put o.dst undef) w) : wpO P md ops Q S (i :: l) (fuel + 1) listed a w := by
  simp only [Bool.and_eq_true] at hc
  exact wpAnyH_take hi hc.1 hc.2.1 hc.2.2 hQ (.inr ⟨hw, rfl⟩) hS h
theorem wo_do {i : Nat} {l : List Nat} {o : Oper} {fuel : Nat} {listed : Array Bool} {a : Act} {w : World} (hi : ops[i]? = some o)
    (hc : (Region.noSelect ops && (Region.free md ops listed i && (Region.ready md ops listed).contains i)) = true) (hw : Region.wanted o (yielded ops a.tmps) = true)
    (hQ : ∀ v c a w, Q (.panic c) (a.put o.dst v) w → Q (.panic c) a w) (hS : S w) (h : ∃ v, (∀ w, S w → (execOp a.eval o).run P w = .ok (.value v) w) ∧ wpO P md ops Q S l fuel (listed.setIfInBounds i true) (a.put o.dst v) w) : wpO P md ops Q S (i :: l) (fuel + 1) listed a w := by
  simp only [Bool.and_eq_true] at hc
  obtain ⟨v, hv, h⟩ := h
  exact wpAnyH_take hi hc.1 hc.2.1 hc.2.2 (hQ v) (.inl ⟨hw, hv⟩) hS h
theorem wo_call {i : Nat} {l : List Nat} {o : Oper} {fuel : Nat} {listed : Array Bool} {a : Act} {w : World} (hi : ops[i]? = some o) (hr : Region.ready md ops listed = [i]) (hw : Region.wanted o (yielded ops a.tmps) = true)
    (h : ∀ K' : Act → World → Prop, Shut (∀ a w, S w → (S w → wpO P md ops Q S l fuel (listed.setIfInBounds i true) a w) → K' a w) → Oper.wp P o a w K' Q) : wpO P md ops Q S (i :: l) (fuel + 1) listed a w :=
  wpAnyH_ready hr (by simp) (AllReadyH.cons hi (fun K' hK => by rw [hw, if_pos rfl]; exact h K' hK) AllReadyH.nil)
theorem wo_done {fuel : Nat} {listed : Array Bool} {a : Act} {w : World} (hr : Region.ready md ops listed = []) (h : Q .normal a w) : wpO P md ops Q S [] fuel listed a w :=
  wpAnyH_done hr h fuel
end
end Go.Proofs.YtgpkdhbegkhjjaaDoor
namespace Go.Proofs.YtgpkdhbegkhjjaaDoor
open Go.RowKit RelA
attribute [local go_sem ↓] Go.wp_at_zero Go.wp_at_succ
attribute [local irreducible] wpO Go.wpAnyH
namespace RelA
def RfsOk (E : List Ev) (R : List Int) : Prop := R.length = E.length ∧ ∀ i, i < E.length → RfOk E i (R.getD i 0)
end RelA
set_option maxRecDepth 20000 in
set_option maxHeartbeats 8000000 in
theorem rf_p (g : Gr) (w : World) (hes : EsIn w g.ea g.E) (hr : NsIn w g.ra g.R) (he : g.E.length ≤ 100) (hr9 : g.R.length ≤ 100) :
    Calls Tryd.prog 14 #[g.v] w (Exact (RfsOk g.E g.R) w) := by
  have HWR := Lib.hid (fun loc w' => writes_p g loc w')
  have HH := Lib.hid (fun i lb loc w' (hb : Below w.heap.size w w') => has_wr g.ea g.E g.ec i lb loc w' (hes.next hb) he)
  have HG0 := Lib.hid (GBox.of_alloc w g 28)
  obtain ⟨G, hG⟩ : ∃ G, G = g := ⟨_, rfl⟩
  obtain ⟨locs, ea, E, ec, ra, R, rc, ca, C, cc, ma, Rmw, mc, da, Data, dc, ta, Ctrl, tc, ia, CtrlI, ic⟩ := g
  simp only [Gr.v, gcells] at hes hr he hr9 HWR HH HG0 ⊢
  rw [← hG] at HG0
  have HES := Lib.hid hes
  have HR := Lib.hid hr
  clear hes hr
  have c1 := HG0.out.c1
  have c2 := HG0.out.c2
  rw [hG] at c1 c2
  dsimp only at c1 c2
  by_cases e0 : ¬ R.length = E.length
  · have l1 : ((R.length : Int) != (E.length : Int)) = true := by simp; omega
    have HNO : Hid (¬ RfsOk E R) := Lib.hid (fun h => e0 h.1)
    have HB : Hid (∀ o, Below w.heap.size w (w.alloc o)) := Lib.hid (fun o => (Below.refl _ _).alloc (Nat.le_refl _) o)
    go_enter Tryd.func14, Tryd.ntmps14
    go_wp2_with fail
    go_ret
    exact Exact.no (HB.out _) HNO.out
  have e0 := Classical.not_not.1 e0
  have l1 : ((R.length : Int) != (E.length : Int)) = false := by simp; omega
  have HLEN := Lib.hid e0
  clear e0
  go_enter Tryd.func14, Tryd.ntmps14
  go_wp2_with fail
  obtain ⟨w1, hw1⟩ : ∃ x, x = w.alloc (Obj.cells #[.int .i64 locs, .slice ea E.length ec, .slice ra R.length rc, .slice ca C.length cc, .slice ma Rmw.length mc, .slice da Data.length dc, .slice ta Ctrl.length tc, .slice ia CtrlI.length ic] 28 (0, 0)) := ⟨_, rfl⟩
  rw [← hw1] at HG0 ⊢
  have HB1 : Hid (Below w.heap.size w w1) := Lib.hid (by rw [hw1]; exact (Below.refl _ _).alloc (Nat.le_refl _) _)
  clear hw1
  clear c1 c2 l1
  have HE1 := Lib.hid (HES.out.next HB1.out)
  have HR1 := Lib.hid (HR.out.next HB1.out)
  have HH1 := Lib.hid (fun i lb loc w' (hb : Below w1.heap.size w1 w') => HH.out i lb loc w' (below_next HB1.out hb))
  clear HES HR HH
  go_loopw [16] (fun v wr => Below w1.heap.size w1 wr ∧ ∃ k : Nat, k ≤ E.length ∧ v = .int .i64 k ∧ Hid (∀ j, j < k → RfOk E j (R.getD j 0))) (fun v _ => E.length - (intOf v).toNat)
  case atStart => exact ⟨Below.refl _ _, 0, by omega, rfl, Lib.hid (fun j _ => by omega)⟩
  case round =>
    obtain ⟨hbe, k, hk, rfl, HD⟩ := hrel
    by_cases hlt : k < E.length
    · have hdk : decide ((k : Int) < (E.length : Int)) = true := by simp; omega
      have hki : (k : Int) < (E.length : Int) := by omega
      have hk9 : (k : Int) < 1000 := by omega
      have hkr : k < R.length := by rw [HLEN.out]; exact hlt
      have hkri : (k : Int) < (R.length : Int) := by omega
      have HS : Hid (RfOk E k (R.getD k 0) → ∀ j, j < k + 1 → RfOk E j (R.getD j 0)) := Lib.hid (fun hx j b => by
        rcases Nat.lt_succ_iff_lt_or_eq.1 b with e | rfl
        · exact HD.out j e
        · exact hx)
      have HN : Hid (¬ RfOk E k (R.getD k 0) → ¬ RfsOk E R) := Lib.hid (fun hx hP => hx (hP.2 k hlt))
      have HP1 : Hid (∀ m : Nat, (Ev.at E k).kd = 1 → R.getD k 0 = m → m < E.length → (Ev.at E m).kd = 2 → (Ev.at E m).lc = (Ev.at E k).lc → (Ev.at E m).vl = (Ev.at E k).vl → RfOk E k (R.getD k 0)) := Lib.hid (fun m u v x y z t => ⟨fun _ => ⟨m, v, x, y, z, t⟩, fun a => absurd u a⟩)
      have HP0 : Hid ((Ev.at E k).kd ≠ 1 → R.getD k 0 = -1 → RfOk E k (R.getD k 0)) := Lib.hid (fun u v => ⟨fun t => absurd t u, fun _ => v⟩)
      have HQ1 : Hid (RfOk E k (R.getD k 0) → (Ev.at E k).kd = 1 → ∃ m : Nat, R.getD k 0 = m ∧ m < E.length ∧ (Ev.at E m).kd = 2 ∧ (Ev.at E m).lc = (Ev.at E k).lc ∧ (Ev.at E m).vl = (Ev.at E k).vl) := Lib.hid (fun h => h.1)
      have HQ0 : Hid (RfOk E k (R.getD k 0) → (Ev.at E k).kd ≠ 1 → R.getD k 0 = -1) := Lib.hid (fun h => h.2)
      obtain ⟨T, hT⟩ : ∃ T, T = RfOk E k (R.getD k 0) := ⟨_, rfl⟩
      rw [← hT] at HS HN HP1 HP0 HQ1 HQ0
      clear hT HD
      rcases HR1.out.next hbe with h0 | ⟨rb, ro, rfl, hrbl, hrcc⟩
      · rw [h0] at hkr; simp at hkr
      rcases HE1.out.next hbe with h0 | ⟨eb, eo, rfl, hebl, hecc⟩
      · rw [h0] at hlt; simp at hlt
      have r0 := hrcc k hkr
      obtain ⟨d0, d1, d2, d3, d4, d5⟩ := hecc k hlt
      have HEC := Lib.hid hecc
      have HBE := Lib.hid hbe
      clear hrcc hecc hrbl hebl hbe
      change _ = some (Value.int _ (Ev.at E k).th) at d0
      change _ = some (Value.int _ (Ev.at E k).kd) at d1
      change _ = some (Value.int _ (Ev.at E k).md) at d2
      change _ = some (Value.int _ (Ev.at E k).lc) at d3
      change _ = some (Value.int _ (Ev.at E k).vl) at d4
      change _ = some (Value.bool (Ev.at E k).ex) at d5
      generalize R.getD k 0 = r at *
      obtain ⟨ev, hev⟩ : ∃ ev, ev = Ev.at E k := ⟨_, rfl⟩
      rw [← hev] at d0 d1 d2 d3 d4 d5 HP1 HP0 HQ1 HQ0
      clear hev
      obtain ⟨x0, x1, x2, x3, x4, x5⟩ := ev
      dsimp only at d0 d1 d2 d3 d4 d5 HP1 HP0 HQ1 HQ0
      have HW : Hid (∀ o, Below w1.heap.size w1 (wr.alloc o)) := Lib.hid (fun o => below_next HBE.out ((Below.refl _ _).alloc (Nat.le_refl _) o))
      have r0z := fun o => cell_next r0 ((Below.refl _ _).alloc (Nat.le_refl _) o)
      obtain ⟨c0, c1, c2, c3, c4, c5, c6, c7⟩ := HG0.out.next HBE.out
      rw [hG] at c0 c1 c2 c3 c4 c5 c6 c7
      dsimp only at c0 c1 c2 c3 c4 c5 c6 c7
      have c2z := fun o => cell_next c2 ((Below.refl _ _).alloc (Nat.le_refl _) o)
      by_cases e1 : x1 = 1
      · subst e1
        have HHX := Lib.hid (fun lb w' => HH1.out r lb x3 w')
        cases hh : inSet E (pWr1 x3) r
        · have HNO := Lib.hid (HN.out (by
            intro ht
            obtain ⟨m, rfl, hm, k2, l2, _⟩ := HQ1.out ht rfl
            rw [inSet_at hm] at hh
            unfold pWr1 at hh
            rw [k2, l2] at hh
            simp at hh))
          rw [hh] at HHX
          clear hh HS HN HP1 HP0 HQ1 HQ0 HEC
          go_wp2_with fail
          clear c0 c1 c2 c3 c4 c5 c6 c7 c2z r0z r0
          obtain ⟨c0, c1, c2, c3, c4, c5, c6, c7⟩ := HG0.out.next (HW.out (Obj.cells #[.int .i64 x0, .int .i64 1, .int .i64 x2, .int .i64 x3, .int .i64 x4, .bool x5] 30 (0, 0)))
          rw [hG] at c0 c1 c2 c3 c4 c5 c6 c7
          dsimp only at c0 c1 c2 c3 c4 c5 c6 c7
          have pb0 : (wr.alloc (Obj.cells #[.int .i64 x0, .int .i64 1, .int .i64 x2, .int .i64 x3, .int .i64 x4, .bool x5] 30 (0, 0))).cell? ⟨wr.heap.size, 3, none⟩ = some (.int .i64 x3) := by rw [cell_of_row _ _ _ _ _ _ (heap_alloc_new _ _)]; rfl
          have pb1 : (wr.alloc (Obj.cells #[.int .i64 x0, .int .i64 1, .int .i64 x2, .int .i64 x3, .int .i64 x4, .bool x5] 30 (0, 0))).cell? ⟨wr.heap.size, 4, none⟩ = some (.int .i64 x4) := by rw [cell_of_row _ _ _ _ _ _ (heap_alloc_new _ _)]; rfl
          have HBW := Lib.hid (HW.out (Obj.cells #[.int .i64 x0, .int .i64 1, .int .i64 x2, .int .i64 x3, .int .i64 x4, .bool x5] 30 (0, 0)))
          clear d0 d1 d2 d3 d4 d5 HBE HW
          generalize wr.alloc (Obj.cells #[.int .i64 x0, .int .i64 1, .int .i64 x2, .int .i64 x3, .int .i64 x4, .bool x5] 30 (0, 0)) = W0 at *
          refine wo_start (S := (fun W => W.cell? ⟨w.heap.size, 0, none⟩ = some (.int .i64 locs) ∧ W.cell? ⟨w.heap.size, 1, none⟩ = some (.slice (some ⟨eb, eo, none⟩) E.length ec) ∧ W.cell? ⟨w.heap.size, 2, none⟩ = some (.slice (some ⟨rb, ro, none⟩) R.length rc) ∧ W.cell? ⟨w.heap.size, 3, none⟩ = some (.slice ca C.length cc) ∧ W.cell? ⟨w.heap.size, 4, none⟩ = some (.slice ma Rmw.length mc) ∧ W.cell? ⟨w.heap.size, 5, none⟩ = some (.slice da Data.length dc) ∧ W.cell? ⟨w.heap.size, 6, none⟩ = some (.slice ta Ctrl.length tc) ∧ W.cell? ⟨w.heap.size, 7, none⟩ = some (.slice ia CtrlI.length ic) ∧ W.cell? ⟨wr.heap.size, 3, none⟩ = some (.int .i64 x3) ∧ W.cell? ⟨wr.heap.size, 4, none⟩ = some (.int .i64 x4) ∧ Bl w1 W)) [0, 1, 2, 4, 3, 5, 6, 7, 8, 9, 10, 11, 12, 13, 14, 15, 16, 17] 18 [false, false, false, false, false, false, false, false, false, false, false, false, false, false, false, false, false, false] (by kernel_rfl) (by rfl) (by rfl) ⟨c0, c1, c2, c3, c4, c5, c6, c7, pb0, pb1, ⟨HBW.out.drew⟩⟩ (fun hHeld => ?_)
          repeat (first | (refine wo_skip rfl (by kernel_rfl) (by rfl) (fun _ _ _ h => h) (by assumption) ?_; simp only [Act.put, List.getElem_toArray, List.getElem_cons_succ, List.getElem_cons_zero, List.setIfInBounds_toArray, List.set_cons_zero, List.set_cons_succ]) | (refine wo_do rfl (by kernel_rfl) (by rfl) (fun _ _ _ _ h => h) (by assumption) ?_; apply Exists.intro; refine ⟨fun W hW => ?_, ?_⟩; ((try dsimp only at hW); (try simp only [List.getElem_toArray, List.getElem_cons_succ, List.getElem_cons_zero]); go_simp; first | done | with_reducible rfl); simp only [Act.put, List.getElem_toArray, List.getElem_cons_succ, List.getElem_cons_zero, List.setIfInBounds_toArray, List.set_cons_zero, List.set_cons_succ]))
          refine wo_call rfl (by kernel_rfl) (by rfl) (fun K hK => ?_)
          try simp only [List.getElem_toArray, List.getElem_cons_succ, List.getElem_cons_zero]
          go_simp
          obtain ⟨c0, c1, c2, c3, c4, c5, c6, c7, pb0, pb1, hBl⟩ := hHeld
          go_at_call 24
          refine (HWR.out _ _).mono ?_
          rintro en wn ⟨lb, rfl, hlb, hbe⟩
          dsimp only
          refine hK.out _ _ ⟨cell_next c0 hbe, cell_next c1 hbe, cell_next c2 hbe, cell_next c3 hbe, cell_next c4 hbe, cell_next c5 hbe, cell_next c6 hbe, cell_next c7 hbe, cell_next pb0 hbe, cell_next pb1 hbe, ⟨below_next hBl.out hbe⟩⟩ (fun hHeld => ?_)
          clear hK K hbe c0 c1 c2 c3 c4 c5 c6 c7 pb0 pb1 hBl
          simp only [List.setIfInBounds_toArray, List.set_cons_zero, List.set_cons_succ]
          repeat (first | (refine wo_skip rfl (by kernel_rfl) (by rfl) (fun _ _ _ h => h) (by assumption) ?_; simp only [Act.put, List.getElem_toArray, List.getElem_cons_succ, List.getElem_cons_zero, List.setIfInBounds_toArray, List.set_cons_zero, List.set_cons_succ]) | (refine wo_do rfl (by kernel_rfl) (by rfl) (fun _ _ _ _ h => h) (by assumption) ?_; apply Exists.intro; refine ⟨fun W hW => ?_, ?_⟩; ((try dsimp only at hW); (try simp only [List.getElem_toArray, List.getElem_cons_succ, List.getElem_cons_zero]); go_simp; first | done | with_reducible rfl); simp only [Act.put, List.getElem_toArray, List.getElem_cons_succ, List.getElem_cons_zero, List.setIfInBounds_toArray, List.set_cons_zero, List.set_cons_succ]))
          refine wo_call rfl (by kernel_rfl) (by rfl) (fun K hK => ?_)
          try simp only [List.getElem_toArray, List.getElem_cons_succ, List.getElem_cons_zero]
          go_simp
          obtain ⟨c0, c1, c2, c3, c4, c5, c6, c7, pb0, pb1, hBl⟩ := hHeld
          go_at_call 25
          refine (HHX.out _ _ hBl.out hlb).mono ?_
          clear hlb
          rintro en wn ⟨rfl, hbe⟩
          dsimp only
          refine hK.out _ _ ⟨cell_next c0 hbe, cell_next c1 hbe, cell_next c2 hbe, cell_next c3 hbe, cell_next c4 hbe, cell_next c5 hbe, cell_next c6 hbe, cell_next c7 hbe, cell_next pb0 hbe, cell_next pb1 hbe, ⟨below_next hBl.out hbe⟩⟩ (fun hHeld => ?_)
          clear hK K hbe c0 c1 c2 c3 c4 c5 c6 c7 pb0 pb1 hBl
          simp only [List.setIfInBounds_toArray, List.set_cons_zero, List.set_cons_succ]
          repeat (first | (refine wo_skip rfl (by kernel_rfl) (by rfl) (fun _ _ _ h => h) (by assumption) ?_; simp only [Act.put, List.getElem_toArray, List.getElem_cons_succ, List.getElem_cons_zero, List.setIfInBounds_toArray, List.set_cons_zero, List.set_cons_succ]) | (refine wo_do rfl (by kernel_rfl) (by rfl) (fun _ _ _ _ h => h) (by assumption) ?_; apply Exists.intro; refine ⟨fun W hW => ?_, ?_⟩; ((try dsimp only at hW); (try simp only [List.getElem_toArray, List.getElem_cons_succ, List.getElem_cons_zero]); go_simp; first | done | with_reducible rfl); simp only [Act.put, List.getElem_toArray, List.getElem_cons_succ, List.getElem_cons_zero, List.setIfInBounds_toArray, List.set_cons_zero, List.set_cons_succ]))
          refine wo_done (by kernel_rfl) ?_
          obtain ⟨c0, c1, c2, c3, c4, c5, c6, c7, pb0, pb1, hBl⟩ := hHeld
          have HB := Lib.hid hBl.out
          go_wp2_with fail
          go_ret
          exact Exact.no (below_next HB1.out HB.out) HNO.out
        · rw [hh] at HHX
          have hx0 : 0 ≤ r := Classical.byContradiction fun hx => by rw [inSet_neg hx] at hh; cases hh
          obtain ⟨m, rfl⟩ := Int.eq_ofNat_of_zero_le hx0
          have hm : m < E.length := Classical.byContradiction fun hx => by rw [inSet_out hx] at hh; cases hh
          rw [inSet_at hm] at hh
          unfold pWr1 at hh
          rw [Bool.and_eq_true, beq_iff_eq, beq_iff_eq] at hh
          obtain ⟨hk2, hl2⟩ := hh
          have f4 := (HEC.out m hm).c4
          change _ = some (Value.int _ (Ev.at E m).vl) at f4
          have hmi : (m : Int) < (E.length : Int) := by omega
          have hw1 : IntKind.i64.wrap (m : Int) = (m : Int) := IntWalk.i64_in _ (by omega)
          have HT : Hid ((Ev.at E m).vl = x4 → T) := Lib.hid (fun e => HP1.out m rfl rfl hm hk2 hl2 e)
          have HF : Hid (¬ (Ev.at E m).vl = x4 → ¬ T) := Lib.hid (by
            intro e ht
            obtain ⟨m2, q, _, _, _, e3⟩ := HQ1.out ht rfl
            obtain rfl : m = m2 := by omega
            exact e e3)
          clear HP1 HP0 HQ1 HQ0 HEC hk2 hl2 hx0
          generalize (Ev.at E m).vl = y4 at *
          by_cases e5 : y4 = x4
          · have HL := Lib.hid (HS.out (HT.out e5))
            subst e5
            have l5 : (y4 != y4) = false := by simp
            clear HS HN HT HF
            go_wp2_with fail
            clear c0 c1 c2 c3 c4 c5 c6 c7 c2z r0z r0
            obtain ⟨c0, c1, c2, c3, c4, c5, c6, c7⟩ := HG0.out.next (HW.out (Obj.cells #[.int .i64 x0, .int .i64 1, .int .i64 x2, .int .i64 x3, .int .i64 y4, .bool x5] 30 (0, 0)))
            rw [hG] at c0 c1 c2 c3 c4 c5 c6 c7
            dsimp only at c0 c1 c2 c3 c4 c5 c6 c7
            have pb0 : (wr.alloc (Obj.cells #[.int .i64 x0, .int .i64 1, .int .i64 x2, .int .i64 x3, .int .i64 y4, .bool x5] 30 (0, 0))).cell? ⟨wr.heap.size, 3, none⟩ = some (.int .i64 x3) := by rw [cell_of_row _ _ _ _ _ _ (heap_alloc_new _ _)]; rfl
            have pb1 : (wr.alloc (Obj.cells #[.int .i64 x0, .int .i64 1, .int .i64 x2, .int .i64 x3, .int .i64 y4, .bool x5] 30 (0, 0))).cell? ⟨wr.heap.size, 4, none⟩ = some (.int .i64 y4) := by rw [cell_of_row _ _ _ _ _ _ (heap_alloc_new _ _)]; rfl
            have HBW := Lib.hid (HW.out (Obj.cells #[.int .i64 x0, .int .i64 1, .int .i64 x2, .int .i64 x3, .int .i64 y4, .bool x5] 30 (0, 0)))
            have g4 := cell_next f4 ((Below.refl _ _).alloc (Nat.le_refl _) (Obj.cells #[.int .i64 x0, .int .i64 1, .int .i64 x2, .int .i64 x3, .int .i64 y4, .bool x5] 30 (0, 0)))
            clear f4
            clear d0 d1 d2 d3 d4 d5 HBE HW
            generalize wr.alloc (Obj.cells #[.int .i64 x0, .int .i64 1, .int .i64 x2, .int .i64 x3, .int .i64 y4, .bool x5] 30 (0, 0)) = W0 at *
            refine wo_start (S := (fun W => W.cell? ⟨w.heap.size, 0, none⟩ = some (.int .i64 locs) ∧ W.cell? ⟨w.heap.size, 1, none⟩ = some (.slice (some ⟨eb, eo, none⟩) E.length ec) ∧ W.cell? ⟨w.heap.size, 2, none⟩ = some (.slice (some ⟨rb, ro, none⟩) R.length rc) ∧ W.cell? ⟨w.heap.size, 3, none⟩ = some (.slice ca C.length cc) ∧ W.cell? ⟨w.heap.size, 4, none⟩ = some (.slice ma Rmw.length mc) ∧ W.cell? ⟨w.heap.size, 5, none⟩ = some (.slice da Data.length dc) ∧ W.cell? ⟨w.heap.size, 6, none⟩ = some (.slice ta Ctrl.length tc) ∧ W.cell? ⟨w.heap.size, 7, none⟩ = some (.slice ia CtrlI.length ic) ∧ W.cell? ⟨wr.heap.size, 3, none⟩ = some (.int .i64 x3) ∧ W.cell? ⟨wr.heap.size, 4, none⟩ = some (.int .i64 y4) ∧ W.cell? ⟨eb, eo + m * 6 + 4, none⟩ = some (.int .i64 y4) ∧ Bl w1 W)) [0, 1, 2, 4, 3, 5, 6, 7, 8, 9, 10, 11, 12, 13, 14, 15, 16, 17] 18 [false, false, false, false, false, false, false, false, false, false, false, false, false, false, false, false, false, false] (by kernel_rfl) (by rfl) (by rfl) ⟨c0, c1, c2, c3, c4, c5, c6, c7, pb0, pb1, g4, ⟨HBW.out.drew⟩⟩ (fun hHeld => ?_)
            repeat (first | (refine wo_skip rfl (by kernel_rfl) (by rfl) (fun _ _ _ h => h) (by assumption) ?_; simp only [Act.put, List.getElem_toArray, List.getElem_cons_succ, List.getElem_cons_zero, List.setIfInBounds_toArray, List.set_cons_zero, List.set_cons_succ]) | (refine wo_do rfl (by kernel_rfl) (by rfl) (fun _ _ _ _ h => h) (by assumption) ?_; apply Exists.intro; refine ⟨fun W hW => ?_, ?_⟩; ((try dsimp only at hW); (try simp only [List.getElem_toArray, List.getElem_cons_succ, List.getElem_cons_zero]); go_simp; first | done | with_reducible rfl); simp only [Act.put, List.getElem_toArray, List.getElem_cons_succ, List.getElem_cons_zero, List.setIfInBounds_toArray, List.set_cons_zero, List.set_cons_succ]))
            refine wo_call rfl (by kernel_rfl) (by rfl) (fun K hK => ?_)
            try simp only [List.getElem_toArray, List.getElem_cons_succ, List.getElem_cons_zero]
            go_simp
            obtain ⟨c0, c1, c2, c3, c4, c5, c6, c7, pb0, pb1, g4, hBl⟩ := hHeld
            go_at_call 24
            refine (HWR.out _ _).mono ?_
            rintro en wn ⟨lb, rfl, hlb, hbe⟩
            dsimp only
            refine hK.out _ _ ⟨cell_next c0 hbe, cell_next c1 hbe, cell_next c2 hbe, cell_next c3 hbe, cell_next c4 hbe, cell_next c5 hbe, cell_next c6 hbe, cell_next c7 hbe, cell_next pb0 hbe, cell_next pb1 hbe, cell_next g4 hbe, ⟨below_next hBl.out hbe⟩⟩ (fun hHeld => ?_)
            clear hK K hbe c0 c1 c2 c3 c4 c5 c6 c7 pb0 pb1 g4 hBl
            simp only [List.setIfInBounds_toArray, List.set_cons_zero, List.set_cons_succ]
            repeat (first | (refine wo_skip rfl (by kernel_rfl) (by rfl) (fun _ _ _ h => h) (by assumption) ?_; simp only [Act.put, List.getElem_toArray, List.getElem_cons_succ, List.getElem_cons_zero, List.setIfInBounds_toArray, List.set_cons_zero, List.set_cons_succ]) | (refine wo_do rfl (by kernel_rfl) (by rfl) (fun _ _ _ _ h => h) (by assumption) ?_; apply Exists.intro; refine ⟨fun W hW => ?_, ?_⟩; ((try dsimp only at hW); (try simp only [List.getElem_toArray, List.getElem_cons_succ, List.getElem_cons_zero]); go_simp; first | done | with_reducible rfl); simp only [Act.put, List.getElem_toArray, List.getElem_cons_succ, List.getElem_cons_zero, List.setIfInBounds_toArray, List.set_cons_zero, List.set_cons_succ]))
            refine wo_call rfl (by kernel_rfl) (by rfl) (fun K hK => ?_)
            try simp only [List.getElem_toArray, List.getElem_cons_succ, List.getElem_cons_zero]
            go_simp
            obtain ⟨c0, c1, c2, c3, c4, c5, c6, c7, pb0, pb1, g4, hBl⟩ := hHeld
            go_at_call 25
            refine (HHX.out _ _ hBl.out hlb).mono ?_
            clear hlb
            rintro en wn ⟨rfl, hbe⟩
            dsimp only
            refine hK.out _ _ ⟨cell_next c0 hbe, cell_next c1 hbe, cell_next c2 hbe, cell_next c3 hbe, cell_next c4 hbe, cell_next c5 hbe, cell_next c6 hbe, cell_next c7 hbe, cell_next pb0 hbe, cell_next pb1 hbe, cell_next g4 hbe, ⟨below_next hBl.out hbe⟩⟩ (fun hHeld => ?_)
            clear hK K hbe c0 c1 c2 c3 c4 c5 c6 c7 pb0 pb1 g4 hBl
            simp only [List.setIfInBounds_toArray, List.set_cons_zero, List.set_cons_succ]
            repeat (first | (refine wo_skip rfl (by kernel_rfl) (by rfl) (fun _ _ _ h => h) (by assumption) ?_; simp only [Act.put, List.getElem_toArray, List.getElem_cons_succ, List.getElem_cons_zero, List.setIfInBounds_toArray, List.set_cons_zero, List.set_cons_succ]) | (refine wo_do rfl (by kernel_rfl) (by rfl) (fun _ _ _ _ h => h) (by assumption) ?_; apply Exists.intro; refine ⟨fun W hW => ?_, ?_⟩; ((try dsimp only at hW); (try simp only [List.getElem_toArray, List.getElem_cons_succ, List.getElem_cons_zero]); go_simp; first | done | with_reducible rfl); simp only [Act.put, List.getElem_toArray, List.getElem_cons_succ, List.getElem_cons_zero, List.setIfInBounds_toArray, List.set_cons_zero, List.set_cons_succ]))
            refine wo_done (by kernel_rfl) ?_
            obtain ⟨c0, c1, c2, c3, c4, c5, c6, c7, pb0, pb1, g4, hBl⟩ := hHeld
            have HB := Lib.hid hBl.out
            go_wp2_with fail
            go_roundw
            case rel => exact ⟨HB.out, k + 1, by omega, by go_num, HL⟩
            case measure => simp [intOf]; omega
          · have HNO := Lib.hid (HN.out (HF.out e5))
            have l5 : (y4 != x4) = true := by simp [e5]
            clear HS HN HT HF
            go_wp2_with fail
            clear c0 c1 c2 c3 c4 c5 c6 c7 c2z r0z r0
            obtain ⟨c0, c1, c2, c3, c4, c5, c6, c7⟩ := HG0.out.next (HW.out (Obj.cells #[.int .i64 x0, .int .i64 1, .int .i64 x2, .int .i64 x3, .int .i64 x4, .bool x5] 30 (0, 0)))
            rw [hG] at c0 c1 c2 c3 c4 c5 c6 c7
            dsimp only at c0 c1 c2 c3 c4 c5 c6 c7
            have pb0 : (wr.alloc (Obj.cells #[.int .i64 x0, .int .i64 1, .int .i64 x2, .int .i64 x3, .int .i64 x4, .bool x5] 30 (0, 0))).cell? ⟨wr.heap.size, 3, none⟩ = some (.int .i64 x3) := by rw [cell_of_row _ _ _ _ _ _ (heap_alloc_new _ _)]; rfl
            have pb1 : (wr.alloc (Obj.cells #[.int .i64 x0, .int .i64 1, .int .i64 x2, .int .i64 x3, .int .i64 x4, .bool x5] 30 (0, 0))).cell? ⟨wr.heap.size, 4, none⟩ = some (.int .i64 x4) := by rw [cell_of_row _ _ _ _ _ _ (heap_alloc_new _ _)]; rfl
            have HBW := Lib.hid (HW.out (Obj.cells #[.int .i64 x0, .int .i64 1, .int .i64 x2, .int .i64 x3, .int .i64 x4, .bool x5] 30 (0, 0)))
            have g4 := cell_next f4 ((Below.refl _ _).alloc (Nat.le_refl _) (Obj.cells #[.int .i64 x0, .int .i64 1, .int .i64 x2, .int .i64 x3, .int .i64 x4, .bool x5] 30 (0, 0)))
            clear f4
            clear d0 d1 d2 d3 d4 d5 HBE HW
            generalize wr.alloc (Obj.cells #[.int .i64 x0, .int .i64 1, .int .i64 x2, .int .i64 x3, .int .i64 x4, .bool x5] 30 (0, 0)) = W0 at *
            refine wo_start (S := (fun W => W.cell? ⟨w.heap.size, 0, none⟩ = some (.int .i64 locs) ∧ W.cell? ⟨w.heap.size, 1, none⟩ = some (.slice (some ⟨eb, eo, none⟩) E.length ec) ∧ W.cell? ⟨w.heap.size, 2, none⟩ = some (.slice (some ⟨rb, ro, none⟩) R.length rc) ∧ W.cell? ⟨w.heap.size, 3, none⟩ = some (.slice ca C.length cc) ∧ W.cell? ⟨w.heap.size, 4, none⟩ = some (.slice ma Rmw.length mc) ∧ W.cell? ⟨w.heap.size, 5, none⟩ = some (.slice da Data.length dc) ∧ W.cell? ⟨w.heap.size, 6, none⟩ = some (.slice ta Ctrl.length tc) ∧ W.cell? ⟨w.heap.size, 7, none⟩ = some (.slice ia CtrlI.length ic) ∧ W.cell? ⟨wr.heap.size, 3, none⟩ = some (.int .i64 x3) ∧ W.cell? ⟨wr.heap.size, 4, none⟩ = some (.int .i64 x4) ∧ W.cell? ⟨eb, eo + m * 6 + 4, none⟩ = some (.int .i64 y4) ∧ Bl w1 W)) [0, 1, 2, 4, 3, 5, 6, 7, 8, 9, 10, 11, 12, 13, 14, 15, 16, 17] 18 [false, false, false, false, false, false, false, false, false, false, false, false, false, false, false, false, false, false] (by kernel_rfl) (by rfl) (by rfl) ⟨c0, c1, c2, c3, c4, c5, c6, c7, pb0, pb1, g4, ⟨HBW.out.drew⟩⟩ (fun hHeld => ?_)
            repeat (first | (refine wo_skip rfl (by kernel_rfl) (by rfl) (fun _ _ _ h => h) (by assumption) ?_; simp only [Act.put, List.getElem_toArray, List.getElem_cons_succ, List.getElem_cons_zero, List.setIfInBounds_toArray, List.set_cons_zero, List.set_cons_succ]) | (refine wo_do rfl (by kernel_rfl) (by rfl) (fun _ _ _ _ h => h) (by assumption) ?_; apply Exists.intro; refine ⟨fun W hW => ?_, ?_⟩; ((try dsimp only at hW); (try simp only [List.getElem_toArray, List.getElem_cons_succ, List.getElem_cons_zero]); go_simp; first | done | with_reducible rfl); simp only [Act.put, List.getElem_toArray, List.getElem_cons_succ, List.getElem_cons_zero, List.setIfInBounds_toArray, List.set_cons_zero, List.set_cons_succ]))
            refine wo_call rfl (by kernel_rfl) (by rfl) (fun K hK => ?_)
            try simp only [List.getElem_toArray, List.getElem_cons_succ, List.getElem_cons_zero]
            go_simp
            obtain ⟨c0, c1, c2, c3, c4, c5, c6, c7, pb0, pb1, g4, hBl⟩ := hHeld
            go_at_call 24
            refine (HWR.out _ _).mono ?_
            rintro en wn ⟨lb, rfl, hlb, hbe⟩
            dsimp only
            refine hK.out _ _ ⟨cell_next c0 hbe, cell_next c1 hbe, cell_next c2 hbe, cell_next c3 hbe, cell_next c4 hbe, cell_next c5 hbe, cell_next c6 hbe, cell_next c7 hbe, cell_next pb0 hbe, cell_next pb1 hbe, cell_next g4 hbe, ⟨below_next hBl.out hbe⟩⟩ (fun hHeld => ?_)
            clear hK K hbe c0 c1 c2 c3 c4 c5 c6 c7 pb0 pb1 g4 hBl
            simp only [List.setIfInBounds_toArray, List.set_cons_zero, List.set_cons_succ]
            repeat (first | (refine wo_skip rfl (by kernel_rfl) (by rfl) (fun _ _ _ h => h) (by assumption) ?_; simp only [Act.put, List.getElem_toArray, List.getElem_cons_succ, List.getElem_cons_zero, List.setIfInBounds_toArray, List.set_cons_zero, List.set_cons_succ]) | (refine wo_do rfl (by kernel_rfl) (by rfl) (fun _ _ _ _ h => h) (by assumption) ?_; apply Exists.intro; refine ⟨fun W hW => ?_, ?_⟩; ((try dsimp only at hW); (try simp only [List.getElem_toArray, List.getElem_cons_succ, List.getElem_cons_zero]); go_simp; first | done | with_reducible rfl); simp only [Act.put, List.getElem_toArray, List.getElem_cons_succ, List.getElem_cons_zero, List.setIfInBounds_toArray, List.set_cons_zero, List.set_cons_succ]))
            refine wo_call rfl (by kernel_rfl) (by rfl) (fun K hK => ?_)
            try simp only [List.getElem_toArray, List.getElem_cons_succ, List.getElem_cons_zero]
            go_simp
            obtain ⟨c0, c1, c2, c3, c4, c5, c6, c7, pb0, pb1, g4, hBl⟩ := hHeld
            go_at_call 25
            refine (HHX.out _ _ hBl.out hlb).mono ?_
            clear hlb
            rintro en wn ⟨rfl, hbe⟩
            dsimp only
            refine hK.out _ _ ⟨cell_next c0 hbe, cell_next c1 hbe, cell_next c2 hbe, cell_next c3 hbe, cell_next c4 hbe, cell_next c5 hbe, cell_next c6 hbe, cell_next c7 hbe, cell_next pb0 hbe, cell_next pb1 hbe, cell_next g4 hbe, ⟨below_next hBl.out hbe⟩⟩ (fun hHeld => ?_)
            clear hK K hbe c0 c1 c2 c3 c4 c5 c6 c7 pb0 pb1 g4 hBl
            simp only [List.setIfInBounds_toArray, List.set_cons_zero, List.set_cons_succ]
            repeat (first | (refine wo_skip rfl (by kernel_rfl) (by rfl) (fun _ _ _ h => h) (by assumption) ?_; simp only [Act.put, List.getElem_toArray, List.getElem_cons_succ, List.getElem_cons_zero, List.setIfInBounds_toArray, List.set_cons_zero, List.set_cons_succ]) | (refine wo_do rfl (by kernel_rfl) (by rfl) (fun _ _ _ _ h => h) (by assumption) ?_; apply Exists.intro; refine ⟨fun W hW => ?_, ?_⟩; ((try dsimp only at hW); (try simp only [List.getElem_toArray, List.getElem_cons_succ, List.getElem_cons_zero]); go_simp; first | done | with_reducible rfl); simp only [Act.put, List.getElem_toArray, List.getElem_cons_succ, List.getElem_cons_zero, List.setIfInBounds_toArray, List.set_cons_zero, List.set_cons_succ]))
            refine wo_done (by kernel_rfl) ?_
            obtain ⟨c0, c1, c2, c3, c4, c5, c6, c7, pb0, pb1, g4, hBl⟩ := hHeld
            have HB := Lib.hid hBl.out
            go_wp2_with fail
            go_ret
            exact Exact.no (below_next HB1.out HB.out) HNO.out
      · have l2 : (x1 != 1) = true := by simp [e1]
        clear HP1 HQ1 HEC
        by_cases e2 : r = -1
        · have HL := Lib.hid (HS.out (HP0.out e1 e2))
          subst e2
          clear HS HN HP0 HQ0
          go_wp2_with fail
          go_roundw
          case rel => exact ⟨HW.out _, k + 1, by omega, by go_num, HL⟩
          case measure => simp [intOf]; omega
        · have HNO := Lib.hid (HN.out (fun ht => e2 (HQ0.out ht e1)))
          have l3 : (r != -1) = true := by simp [e2]
          clear HS HN HP0 HQ0
          go_wp2_with fail
          go_ret
          exact Exact.no (below_next HB1.out (HW.out _)) HNO.out
    · have hdk : decide ((k : Int) < (E.length : Int)) = false := by simp; omega
      have HL : Hid (RfsOk E R) := Lib.hid ⟨HLEN.out, fun j a => HD.out j (by omega)⟩
      have HB := Lib.hid (below_next HB1.out hbe)
      clear hbe
      go_wp2_with fail
      go_ret
      exact Exact.yes HB.out HL.out
end Go.Proofs.YtgpkdhbegkhjjaaDoor
namespace Go.Proofs.YtgpkdhbegkhjjaaDoor
open Go.RowKit RelA
attribute [local go_sem ↓] Go.wp_at_zero Go.wp_at_succ
namespace RelA
def thV (g : Gr) (k : Nat) : Int := if (k : Int) ≤ g.locs then 1 else (Ev.at g.E (k - 1)).th
theorem thV_in {g : Gr} {k : Nat} (h : (k : Int) < g.locs) : thV g (k + 1) = 1 := by unfold thV; rw [if_pos (by omega)]
theorem thV_out {g : Gr} {k : Nat} (h : ¬ (k : Int) < g.locs) : thV g (k + 1) = (Ev.at g.E k).th := by unfold thV; rw [if_neg (by omega)]; rfl
theorem ev_low {g : Gr} {k : Nat} (h : (k : Int) < g.locs) : evAt g k = ((((((((Ev.at g.E k).th == 0) && ((Ev.at g.E k).kd == 2)) && ((Ev.at g.E k).md == 0)) && ((Ev.at g.E k).lc == (k : Int))) && ((Ev.at g.E k).vl == 0)) && !(Ev.at g.E k).ex)) := by
  unfold evAt evOk
  rw [if_pos h]
theorem ev_step {g : Gr} {k : Nat} (hl : 1 ≤ g.locs) (h : ¬ (k : Int) < g.locs) (hD : ∀ j, j < k → evAt g j = true) :
    evAt g k = (!(decide ((Ev.at g.E k).th < thV g k) || decide (4 < (Ev.at g.E k).th)) && evTail g.locs (Ev.at g.E k)) := by
  have hk1 : 1 ≤ k := by omega
  have hp := hD (k - 1) (by omega)
  have hc : (((decide ((Ev.at g.E k).th < 1)) || (decide (4 < (Ev.at g.E k).th))) || (decide (0 < (k : Int)) && decide ((Ev.at g.E k).th < (Ev.at g.E (k - 1)).th))) = (decide ((Ev.at g.E k).th < thV g k) || decide (4 < (Ev.at g.E k).th)) := by
    rw [Bool.eq_iff_iff]
    simp only [Bool.or_eq_true, Bool.and_eq_true, decide_eq_true_eq]
    unfold thV
    by_cases e : (k : Int) ≤ g.locs
    · rw [if_pos e]
      rw [ev_low (by omega)] at hp
      simp only [Bool.and_eq_true, beq_iff_eq] at hp
      have := hp.1.1.1.1.1
      omega
    · rw [if_neg e]
      unfold evAt evOk at hp
      rw [if_neg (by omega)] at hp
      by_cases q : (((decide ((Ev.at g.E (k - 1)).th < 1)) || (decide (4 < (Ev.at g.E (k - 1)).th))) || (decide (0 < ((k - 1 : Nat) : Int)) && decide ((Ev.at g.E (k - 1)).th < (Ev.at g.E (k - 1 - 1)).th))) = true
      · rw [if_pos q] at hp
        cases hp
      · simp only [Bool.or_eq_true, Bool.and_eq_true, decide_eq_true_eq] at q
        omega
  unfold evAt evOk
  rw [if_neg h, hc]
  cases (decide ((Ev.at g.E k).th < thV g k) || decide (4 < (Ev.at g.E k).th))
  · rfl
  · rfl
end RelA
set_option maxRecDepth 20000 in
set_option maxHeartbeats 8000000 in
theorem events_p (g : Gr) (w : World) (hes : EsIn w g.ea g.E) (he : g.E.length ≤ 100) (hl : 1 ≤ g.locs) (hl4 : g.locs ≤ 4) :
    Calls Tryd.prog 13 #[g.v] w (Exact (∀ i, i < g.E.length → evAt g i = true) w) := by
  have HEV := Lib.hid (fun e w' => event_p e g.locs w')
  have HLO := Lib.hid (fun (k : Nat) (h : (k : Int) < g.locs) => ev_low (g := g) h)
  have HST := Lib.hid (fun (k : Nat) (h : ¬ (k : Int) < g.locs) (hD : ∀ j, j < k → evAt g j = true) => ev_step hl h hD)
  have HT1 := Lib.hid (fun (k : Nat) (h : (k : Int) < g.locs) => thV_in (g := g) h)
  have HT2 := Lib.hid (fun (k : Nat) (h : ¬ (k : Int) < g.locs) => thV_out (g := g) h)
  have HT3 : Hid (∀ k : Nat, (k : Int) ≤ g.locs → thV g k = 1) := Lib.hid (fun k h => by unfold thV; rw [if_pos h])
  have HT0 : Hid (thV g 0 = 1) := Lib.hid (by unfold thV; rw [if_pos (by show (0 : Int) ≤ g.locs; omega)])
  obtain ⟨P, hP⟩ : ∃ P, P = evAt g := ⟨_, rfl⟩
  obtain ⟨T, hT⟩ : ∃ T, T = thV g := ⟨_, rfl⟩
  rw [← hP] at HLO HST ⊢
  rw [← hT] at HST HT1 HT2 HT3 HT0
  clear hP hT
  have HG0 := Lib.hid (GBox.of_alloc w g 28)
  obtain ⟨G, hG⟩ : ∃ G, G = g := ⟨_, rfl⟩
  obtain ⟨locs, ea, E, ec, ra, R, rc, ca, C, cc, ma, Rmw, mc, da, Data, dc, ta, Ctrl, tc, ia, CtrlI, ic⟩ := g
  simp only [Gr.v, gcells] at hes he hl hl4 HEV HLO HST HT1 HT2 HT3 HG0 ⊢
  rw [← hG] at HG0
  have HES := Lib.hid hes
  clear hes
  go_enter Tryd.func13, Tryd.ntmps13
  go_wp2_with fail
  obtain ⟨w1, hw1⟩ : ∃ x, x = w.alloc (Obj.cells #[.int .i64 locs, .slice ea E.length ec, .slice ra R.length rc, .slice ca C.length cc, .slice ma Rmw.length mc, .slice da Data.length dc, .slice ta Ctrl.length tc, .slice ia CtrlI.length ic] 28 (0, 0)) := ⟨_, rfl⟩
  rw [← hw1] at HG0 ⊢
  have HB1 : Hid (Below w.heap.size w w1) := Lib.hid (by rw [hw1]; exact (Below.refl _ _).alloc (Nat.le_refl _) _)
  clear hw1
  have HE1 := Lib.hid (HES.out.next HB1.out)
  clear HES
  go_loopw [3, 9] (fun t v wr => Below w1.heap.size w1 wr ∧ ∃ k : Nat, k ≤ E.length ∧ v = .int .i64 k ∧ t = .int .i64 (T k) ∧ Hid (∀ j, j < k → P j = true)) (fun _ v _ => E.length - (intOf v).toNat)
  case atStart => exact ⟨Below.refl _ _, 0, by omega, rfl, by rw [HT0.out], Lib.hid (fun j _ => by omega)⟩
  case round =>
    obtain ⟨hbe, k, hk, rfl, rfl, HD⟩ := hrel
    by_cases hlt : k < E.length
    · have hdk : decide ((k : Int) < (E.length : Int)) = true := by simp; omega
      have hki : (k : Int) < (E.length : Int) := by omega
      have hk9 : (k : Int) < 1000 := by omega
      have HS : Hid (P k = true → ∀ j, j < k + 1 → P j = true) := Lib.hid (fun hx j b => by
        rcases Nat.lt_succ_iff_lt_or_eq.1 b with e | rfl
        · exact HD.out j e
        · exact hx)
      have HN : Hid (P k = false → ¬ ∀ i, i < E.length → P i = true) := Lib.hid (fun hx hP => by rw [hP k hlt] at hx; cases hx)
      rcases HE1.out.next hbe with h0 | ⟨eb, eo, rfl, hebl, hecc⟩
      · rw [h0] at hlt; simp at hlt
      obtain ⟨d0, d1, d2, d3, d4, d5⟩ := hecc k hlt
      have HBE := Lib.hid hbe
      obtain ⟨c0, c1, c2, c3, c4, c5, c6, c7⟩ := HG0.out.next hbe
      rw [hG] at c0 c1 c2 c3 c4 c5 c6 c7
      dsimp only at c0 c1 c2 c3 c4 c5 c6 c7
      clear hecc hebl c1 c2 c3 c4 c5 c6 c7 hbe
      change _ = some (Value.int _ (Ev.at E k).th) at d0
      change _ = some (Value.int _ (Ev.at E k).kd) at d1
      change _ = some (Value.int _ (Ev.at E k).md) at d2
      change _ = some (Value.int _ (Ev.at E k).lc) at d3
      change _ = some (Value.int _ (Ev.at E k).vl) at d4
      change _ = some (Value.bool (Ev.at E k).ex) at d5
      have c0z := fun o => cell_next c0 ((Below.refl _ _).alloc (Nat.le_refl _) o)
      have HW : Hid (∀ o, Below w1.heap.size w1 (wr.alloc o)) := Lib.hid (fun o => below_next HBE.out ((Below.refl _ _).alloc (Nat.le_refl _) o))
      have HLK := Lib.hid (HLO.out k)
      have HSK := Lib.hid (fun h => HST.out k h HD.out)
      have HU1 := Lib.hid (HT1.out k)
      have HU2 := Lib.hid (HT2.out k)
      clear HD
      generalize Ev.at E k = ev at *
      obtain ⟨x0, x1, x2, x3, x4, x5⟩ := ev
      dsimp only at d0 d1 d2 d3 d4 d5 HLK HSK HU2
      by_cases e1 : (k : Int) < locs
      · have l1 : decide ((k : Int) < locs) = true := by simp [e1]
        have HPK := Lib.hid (HLK.out e1)
        have HTK := Lib.hid (HU1.out e1)
        clear HLK HSK HU1 HU2
        by_cases q0 : x0 = 0
        rotate_left
        · have HNO := Lib.hid (HN.out (by rw [HPK.out]; simp [q0]))
          clear HS HN HPK HTK
          go_wp2_with fail
          go_ret
          exact Exact.no (below_next HB1.out (HW.out _)) HNO.out
        by_cases q1 : x1 = 2
        rotate_left
        · have HNO := Lib.hid (HN.out (by rw [HPK.out]; simp [q1]))
          clear HS HN HPK HTK
          go_wp2_with fail
          go_ret
          exact Exact.no (below_next HB1.out (HW.out _)) HNO.out
        by_cases q2 : x2 = 0
        rotate_left
        · have HNO := Lib.hid (HN.out (by rw [HPK.out]; simp [q2]))
          clear HS HN HPK HTK
          go_wp2_with fail
          go_ret
          exact Exact.no (below_next HB1.out (HW.out _)) HNO.out
        by_cases q3 : x3 = (k : Int)
        rotate_left
        · have HNO := Lib.hid (HN.out (by rw [HPK.out]; simp [q3]))
          clear HS HN HPK HTK
          go_wp2_with fail
          go_ret
          exact Exact.no (below_next HB1.out (HW.out _)) HNO.out
        by_cases q4 : x4 = 0
        rotate_left
        · have HNO := Lib.hid (HN.out (by rw [HPK.out]; simp [q4]))
          clear HS HN HPK HTK
          go_wp2_with fail
          go_ret
          exact Exact.no (below_next HB1.out (HW.out _)) HNO.out
        subst q0 q1 q2 q4
        cases x5
        rotate_left
        · have HNO := Lib.hid (HN.out (by rw [HPK.out]; simp))
          clear HS HN HPK HTK
          go_wp2_with fail
          go_ret
          exact Exact.no (below_next HB1.out (HW.out _)) HNO.out
        have HL := Lib.hid (HS.out (by rw [HPK.out]; simp [q3]))
        clear HS HN HPK
        subst q3
        go_wp2_with fail
        go_roundw
        case rel => exact ⟨HW.out _, k + 1, by omega, by go_num, by rw [HTK.out, HT3.out k (by omega)], HL⟩
        case measure => simp [intOf]; omega
      · have l1 : decide ((k : Int) < locs) = false := by simp [e1]
        have HPK := Lib.hid (HSK.out (by omega))
        have HTK := Lib.hid (HU2.out (by omega))
        clear HLK HSK HU1 HU2
        generalize T k = v at *
        by_cases q1 : x0 < v
        · have m1 : decide (x0 < v) = true := by simp [q1]
          have HNO := Lib.hid (HN.out (by rw [HPK.out]; simp [q1]))
          clear HS HN HPK HTK
          go_wp2_with fail
          go_ret
          exact Exact.no (below_next HB1.out (HW.out _)) HNO.out
        have m1 : decide (x0 < v) = false := by simp [q1]
        by_cases q2 : 4 < x0
        · have m2 : decide (4 < x0) = true := by simp [q2]
          have HNO := Lib.hid (HN.out (by rw [HPK.out]; simp [q2]))
          clear HS HN HPK HTK
          go_wp2_with fail
          go_ret
          exact Exact.no (below_next HB1.out (HW.out _)) HNO.out
        have m2 : decide (4 < x0) = false := by simp [q2]
        have HC := Lib.hid (HEV.out ⟨x0, x1, x2, x3, x4, x5⟩)
        unfold Ev.v at HC
        dsimp only at HC
        have HP2 : Hid (P k = evTail locs ⟨x0, x1, x2, x3, x4, x5⟩) := Lib.hid (by rw [HPK.out, m1, m2]; rfl)
        clear HPK
        generalize evTail locs ⟨x0, x1, x2, x3, x4, x5⟩ = b at *
        go_wp2_with fail
        refine (HC.out _).mono ?_
        rintro e wn ⟨rfl, hbn⟩
        have HWN := Lib.hid (below_next (HW.out _) hbn)
        have HZ : Hid (wn.cell? ⟨wr.heap.size, 0, none⟩ = some (.int .i64 x0)) := Lib.hid (cell_next (by rw [cell_of_row _ _ _ _ _ _ (heap_alloc_new _ _)]; rfl) hbn)
        clear hbn c0z c0 d0 d1 d2 d3 d4 d5
        have z0 := HZ.out
        cases b
        · have HNO := Lib.hid (HN.out HP2.out)
          clear HS HN HP2 HTK
          go_wp2_with fail
          go_ret
          exact Exact.no (below_next HB1.out HWN.out) HNO.out
        · have HL := Lib.hid (HS.out HP2.out)
          clear HS HN HP2
          go_wp2_with fail
          go_roundw
          case rel => exact ⟨HWN.out, k + 1, by omega, by go_num, by rw [HTK.out], HL⟩
          case measure => simp [intOf]; omega
    · have hdk : decide ((k : Int) < (E.length : Int)) = false := by simp; omega
      have HL : Hid (∀ i, i < E.length → P i = true) := Lib.hid (fun j a => HD.out j (by omega))
      have HB := Lib.hid (below_next HB1.out hbe)
      clear hbe
      go_wp2_with fail
      go_ret
      exact Exact.yes HB.out HL.out
end Go.Proofs.YtgpkdhbegkhjjaaDoor
