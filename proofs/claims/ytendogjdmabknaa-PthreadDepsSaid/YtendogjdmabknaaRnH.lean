/-
  One text of a symbolic evaluator over the model, shown sound once for every program: no statement is claimed here.
-/
import Derived.Test.YtendogjdmabknaaRnG
namespace Go.Rn
variable {ρ : Nat → Int} {m m' : Mp} {P : Program}
theorem szOf_run {t : TypeId} {k : Nat} (h : szOf P t = some k) (w : World) : (sizeOf t).run P w = .ok k w := by
  unfold szOf at h
  cases hi : P.info? t with
  | none => rw [hi] at h; cases h
  | some i => rw [hi] at h; cases h; simp [sizeOf, typeInfo, hi]
theorem aggOf_run {t : TypeId} {b : Bool} (h : aggOf P t = some b) (w : World) : (isAgg t).run P w = .ok b w := by
  unfold aggOf at h
  cases hu : P.underlying t with
  | none => rw [hu] at h; cases h
  | some d => rw [hu] at h; cases h; cases d <;> simp [isAgg, run_underlying hu]
theorem zeroOf_run {t : TypeId} {z : Value} (h : zeroOf P t = some z) (w : World) : (zeroValue t).run P w = .ok z w := by
  unfold zeroOf at h
  cases hi : P.info? t with
  | none => rw [hi] at h; cases h
  | some i => rw [hi] at h; simp at h; simp [zeroValue, typeInfo, hi, h]
theorem cells_of_cell {v : Value} (h : Cell v) : v.cells = #[v] := by cases v <;> first | rfl | cases h
section
variable {g fl n n' nt : Nat} {h h' : HT} {t : FT} {a : Act} {o : Oper} {w : World} {v : RV}
theorem newCh_ok (s : Sim P ρ m g h w) (hf : fl ≤ n) {c v0 : RV} {cs : List Value} (hd : denC ρ m c cs) (hC : ∀ k u, cs[k]? = some u → chGet c k ≠ .un → Cell u) (e : newCh h n c v0 = .ok v h' n') (el : TypeId) :
    v = v0 ∧ n' = n + 1 ∧ Ab fl h n h' n' ∧ (m n = none → Tr P ρ g fl h n m w h' n' (upd m n (w.heap.size, 0, cs.length)) (w.alloc (.cells cs.toArray el (0, 0)))) := by
  unfold newCh at e
  obtain ⟨z, hz, e2⟩ := gO_ok e (by simp)
  obtain ⟨hmz, rfl, rfl, rfl⟩ := newBlk_ok4 e2
  refine ⟨rfl, rfl, Ab.new _ hf, fun hn => ?_⟩
  have hlen := chLen_ok z cs hz hd
  have key : ∀ k, cg (lay c ce 0) k ≠ .un → k < z ∧ cg (lay c ce 0) k = chGet c k ∧ ∃ u, cs[k]? = some u ∧ den ρ m (cg (lay c ce 0) k) u := by
    intro k hk
    rcases lay_ok z cs ce 0 hz hd k hk with ⟨_, h1, u, h2, h3⟩ | ⟨_, h1⟩
    · rw [Nat.sub_zero] at h1 h2
      refine ⟨?_, h1, u, h2, h3⟩
      rcases Nat.lt_or_ge k cs.length with q | q
      · omega
      · rw [List.getElem?_eq_none q] at h2; cases h2
    · exact absurd h1 hk
  have := Tr.new (fl := fl) s hn (lay c ce 0) cs.toArray el (z := z) hmz (fun k hk => by
    rcases Classical.em (cg (lay c ce 0) k = .un) with q | q
    · exact q
    · have := (key k q).1; omega) (fun k hk => by
    obtain ⟨_, h1, u, h2, h3⟩ := key k hk
    refine ⟨u, by simpa using h2, den_le (upd_le hn) h3, hC k u h2 (by rw [← h1]; exact hk)⟩)
  simpa using this
theorem den_ptr_new {cs : List Value} {w : World} : den ρ (upd m n (w.heap.size, 0, cs.length)) (.p n 0) (.pointer (some ⟨w.heap.size, 0, none⟩)) := ⟨w.heap.size, 0, cs.length, upd_self _ _, rfl⟩
theorem gC_den {r : RV} {u : Value} (hd : den ρ m r u) {y : SR} {k : RV → SR} {l : List Nat} (e : gC (.bad l) r k = y) (hy : SR.bad l ≠ y) : ∃ c, k c = y ∧ denC ρ m c u.cells.toList ∧ ∀ x ∈ u.cells.toList, Cell x := by
  rcases gC_ok e hy with ⟨c, rfl, e2⟩ | ⟨_, e2, hc⟩
  · obtain ⟨cs, h1, h2, rfl⟩ := hd
    exact ⟨c, e2, h1, h2⟩
  · have hcell := hc ρ m u hd
    refine ⟨_, e2, ?_, ?_⟩
    · rw [cells_of_cell hcell]
      exact denC_cons.2 ⟨u, [], rfl, hd, denC_nil.2 rfl⟩
    · rw [cells_of_cell hcell]; simpa using hcell
theorem cellAt (s : Sim P ρ m g h w) {b z : Nat} {c : CT} (hb : hg h b = .bk c z) (hmz : z ≠ MAPZ) : ∃ B O Z C el fr, m b = some (B, O, Z) ∧ w.heap[B]? = some (.cells C el fr) ∧ Knows ρ m c C O ∧ ∀ j, w.cell? ⟨B, j, none⟩ = C[j]? := by
  obtain ⟨B, O, Z, C, el, fr, h1, h2, _, _, _, h6⟩ := s.cells b c z hb hmz
  exact ⟨B, O, Z, C, el, fr, h1, h2, h6, fun j => by simp [World.cell?, h2]⟩
theorem add_at (B O j : Nat) : (⟨B, O, none⟩ : Addr).add j = ⟨B, O + j, none⟩ := by unfold Addr.add; split <;> simp_all
/-- a store into a known row, by its cells -/
theorem stBlk_ok (s : Sim P ρ m g h w) {b k : Nat} {c : RV} {ys : List Value} (hgf : g ≤ fl) (hd : denC ρ m c ys) (h0 : ys ≠ []) (hc : ∀ x ∈ ys, Cell x) (e : stBlk fl h b k c n = .ok v h' n') :
    v = .ud ∧ n' = n ∧ Ab fl h n h' n' ∧ ∃ B O Z C el, m b = some (B, O, Z) ∧ w.heap[B]? = some (.cells C el (0, 0)) ∧ O + k + ys.length ≤ C.size ∧ Tr P ρ g fl h n m w h' n m (w.setRow B (laid C (O + k) ys)) := by
  unfold stBlk at e
  obtain ⟨h1, e2⟩ := bf_ok e (by simp)
  obtain ⟨cs, z, hb, e3⟩ := gK_ok e2 (by simp)
  obtain ⟨c', hov, e4⟩ := gO_ok e3 (by simp)
  rw [fT_eq] at e4
  cases e4
  have hfb := ble_ok h1
  obtain ⟨B, O, Z, C, el, q1, q2, q3, q4⟩ := Tr.store (fl := fl) (n := n) s hb (gK_mz e2 (by simp) hb) (Nat.le_trans hgf hfb) hfb hov hd h0 hc
  exact ⟨rfl, rfl, Ab.set _ hfb (fun _ _ _ => ⟨_, _, hb⟩), B, O, Z, C, el, q1, q2, q3, q4⟩
variable (F : Fr P ρ m nt t a.tmps) (s : Sim P ρ m g h w) (hf : fl ≤ n)
include s hf
theorem ok_al {e : TypeId} (ho : o.op = .alloc e) {z : Value} (hz : zeroOf P e = some z) (e1 : newCh h n (chain z.cells.toList) (.p n 0) = .ok v h' n') : Ok1 P ρ g fl o a m w h n v h' n' := by
  obtain ⟨rfl, rfl, hab, htr⟩ := newCh_ok s hf (chain_ok z.cells.toList).1 (fun k u hk hu => by
    rw [chain_get _ k u hk] at hu
    exact (atom_ok (ρ := ρ) (m := m) hu).2) e1 e
  refine ⟨hab, fun hfr K Q hK => ?_⟩
  have hn := hfr n (Nat.le_refl _) (Nat.lt_succ_self _)
  refine op_value (w' := w.alloc (.cells z.cells e (0, 0))) (u := .pointer (some ⟨w.heap.size, 0, none⟩)) ?_ (hK _ _ _ (htr hn) den_ptr_new)
  simp [execOp, ho, Instr.alloc, zeroOf_run hz, newVar, newRow]
include F
theorem ok_bx {e : TypeId} {x : Operand} (ho : o.op = .box e x) (e1 : gC (.bad [4]) (ev t (opd P nt x)) (fun c => newCh h n c (.p n 0)) = .ok v h' n') : Ok1 P ρ g fl o a m w h n v h' n' := by
  have hu : ev t (opd P nt x) ≠ .un := fun q => by rw [q] at e1; cases e1
  obtain ⟨c, e2, hd, hc⟩ := gC_den (opd_ok F x hu) e1 (by simp)
  obtain ⟨rfl, rfl, hab, htr⟩ := newCh_ok s hf hd (fun k u hk _ => hc u (List.mem_of_getElem? hk)) e2 e
  refine ⟨hab, fun hfr K Q hK => ?_⟩
  have hn := hfr n (Nat.le_refl _) (Nat.lt_succ_self _)
  refine op_value (w' := w.alloc (.cells (a.eval x).cells e (0, 0))) (u := .pointer (some ⟨w.heap.size, 0, none⟩)) ?_ (hK _ _ _ (htr hn) den_ptr_new)
  simp [execOp, ho, Instr.box, newVar, newRow]
theorem ok_ld {ty : TypeId} {x : Operand} {sz lim : Nat} {gg : Bool} (ho : o.op = .load ty x) (hs : szOf P ty = some sz) (hg' : aggOf P ty = some gg) {ys : Ys} {cl : Cl'} (e : step (.ld gg sz (opd P nt x)) ys cl fl lim t h n = .ok v h' n') :
    Ok1 P ρ g fl o a m w h n v h' n' := by
  have e1 : gP (.bad [10]) (ev t (opd P nt x)) (fun b o => bf (Nat.ble (Nat.succ b) lim) (gK (.bad [7]) (hg h b) fun cs _ => ldC gg sz cs o h n) (.bad [11])) = .ok v h' n' := e
  obtain ⟨b, k, hb, e2⟩ := gP_ok e1 (by simp)
  obtain ⟨_, e3⟩ := bf_ok e2 (by simp)
  obtain ⟨c, z, hbk, e4⟩ := gK_ok e3 (by simp)
  have hx := opd_ok F x (by rw [hb]; simp)
  rw [hb] at hx
  obtain ⟨B, O, Z, hm, hx⟩ := hx
  obtain ⟨B', O', Z', C, el, fr, h1, h2, h3, hcl⟩ := cellAt s hbk (gK_mz e3 (by simp) hbk)
  rw [hm] at h1
  cases h1
  have hcell : ∀ j, w.cell? ⟨B, j, none⟩ = C[j]? := fun j => by simp [World.cell?, h2]
  cases gg with
  | true =>
    have e5 : nU (SR.bad [8]) (rd c sz k) (fun c => SR.ok (.agg c) h n) = .ok v h' n' := e4
    obtain ⟨hu, e6⟩ := nU_ok e5 (by simp)
    cases e6
    obtain ⟨_, cs, hl, hd, hc, hj⟩ := rd_ok h3 sz k hu
    refine Ok1.quiet (u := .agg cs.toArray) s ?_ ⟨cs, hd, hc, rfl⟩
    have hr := run_loadCells_list (P := P) w ⟨B, O + k, none⟩ cs (fun j u hu => by
      rw [add_at, hcell]; exact hj j u hu)
    rw [hl] at hr
    simp [execOp, ho, Instr.loadAt, hx, Instr.sureAddr, loadVar, aggOf_run hg', szOf_run hs, hr]
  | false =>
    have e5 : okV (cg c k) h n 9 = .ok v h' n' := e4
    obtain ⟨hu, rfl, rfl, rfl⟩ := okV_ok e5
    obtain ⟨u, hcu, hdu, _⟩ := h3 k hu
    refine Ok1.quiet (u := u) s ?_ hdu
    simp [execOp, ho, Instr.loadAt, hx, Instr.sureAddr, loadVar, aggOf_run hg', hcell, hcu]
theorem ok_st {ty : TypeId} {x y : Operand} {sz : Nat} {lim : Nat} (hgf : g ≤ fl) (hsz : 0 < sz) (ho : o.op = .store ty x y) (hs : szOf P ty = some sz) {ys : Ys} {cl : Cl'} (e : step (.st sz (opd P nt x) (opd P nt y)) ys cl fl lim t h n = .ok v h' n') :
    Ok1 P ρ g fl o a m w h n v h' n' := by
  have e1 : gP (.bad [13]) (ev t (opd P nt x)) (fun b o => gC (.bad [12]) (ev t (opd P nt y)) fun c => gO (.bad [14]) (chLen c) fun q => bf (Nat.beq q sz) (stBlk fl h b o c n) (.bad [15])) = .ok v h' n' := e
  obtain ⟨b, k, hb, e2⟩ := gP_ok e1 (by simp)
  have hx := opd_ok F x (by rw [hb]; simp)
  rw [hb] at hx
  obtain ⟨B, O, Z, hm, hx⟩ := hx
  have hu : ev t (opd P nt y) ≠ .un := fun q => by rw [q] at e2; cases e2
  obtain ⟨c, e3, hd, hc⟩ := gC_den (opd_ok F y hu) e2 (by simp)
  obtain ⟨q, hq, e4⟩ := gO_ok e3 (by simp)
  obtain ⟨h1, e5⟩ := bf_ok e4 (by simp)
  obtain rfl := beq_ok h1
  have hlen := chLen_ok q _ hq hd
  obtain ⟨rfl, rfl, hab, B', O', Z', C, el, g1, g2, g3, g4⟩ := stBlk_ok (n := n) s hgf hd (by intro q; rw [q] at hlen; simp at hlen; omega) hc e5
  rw [hm] at g1
  cases g1
  refine ⟨hab, fun _ K Q hK => op_skip (w' := w.setRow B (laid C (O + k) (a.eval y).cells.toList)) ?_ (hK undef _ _ g4 rfl)⟩
  have hr := run_lay (P := P) g2 g3 hc
  have hl2 : (a.eval y).cells.size = q := by simpa using hlen
  simp [execOp, ho, Instr.storeAt, hx, Instr.sureAddr, storeVar, szOf_run hs, hl2, hr]
end
end Go.Rn
