/-
  One text of a symbolic evaluator over the model, shown sound once for every program: no statement is claimed here.
-/
import Derived.Test.YtjhknkpkihpknaaDoorRnO
namespace Go.Rn
variable {ρ : Nat → Int} {m m' : Mp} {P : Program}
def Glob (P : Program) (m : Mp) : Prop := ∀ k, k < P.globals.size → ∃ Z, m k = some (k, 0, Z)
/-- the runner's calls are the model's -/
def ClOk (P : Program) (ρ : Nat → Int) (g : Nat) (cl : Cl') : Prop := ∀ f c fl h n v h' n', cl f c fl h n = .ok v h' n' → g ≤ fl → fl ≤ n → Ab fl h n h' n' ∧ known P f = true ∧
  ∀ (m : Mp) (w : World) (vs : List Value), Sim ρ m g h w → Glob P m → denC ρ m c vs → Fresh n n' m → Calls P f vs.toArray w (fun e w' => ∃ u m', e = .returned u ∧ Tr ρ g fl h n m w h' n' m' w' ∧ den ρ m' v u)
section
variable {g fl n n' nt lim : Nat} {h h' : HT} {t : FT} {a : Act} {o : Oper} {w : World} {v : RV} {ys : Ys} {cl : Cl'}
theorem known_run {f : FuncId} (hk : known P f = true) (args : Array Value) (w : World) : (callFunc f args).run P w = .ok (.enter f args) w := by
  unfold known at hk
  cases hf : P.funcs[f]? with
  | none => rw [hf] at hk; cases hk
  | some fn =>
    rw [hf] at hk
    simp only [Bool.and_eq_true, bne_iff_ne, ne_eq] at hk
    obtain ⟨h1, h2⟩ := hk
    have h3 : ¬ fn.body = none := fun q => by rw [q] at h1; cases h1
    simp [callFunc, hf, h2, h3]
theorem op_call {f : FuncId} {args : Array Value} {K : Act → World → Prop} {Q : Exit → Act → World → Prop} {R : Value → World → Prop} (hr : (execOp a.eval o).run P w = .ok (.enter f args) w) (hC : Calls P f args w (fun e w' => ∃ u, e = .returned u ∧ R u w')) (hK : ∀ u w', R u w' → K (a.put o.dst u) w') : o.wp P a w K Q := by
  unfold Oper.wp
  rw [hr]
  refine hC.mono ?_
  rintro e w' ⟨u, rfl, hR⟩
  exact hK u w' hR
/-- the first cells of a slice, fewer than it has -/
theorem slCells_ok' (s : Sim ρ m g h w) {es q : Nat} {x r : RV} {u : Value} (hd : den ρ m x u) (e : slCells h es x q = r) (hr : r ≠ .un) (h0 : 0 < q) :
    ∃ A len cap cs, u = .slice (some A) len cap ∧ chLen r = some (q * es) ∧ cs.length = q * es ∧ denC ρ m r cs ∧ (∀ x ∈ cs, Cell x) ∧ ∀ (j : Nat) (u : Value), cs[j]? = some u → w.cell? (A.add j) = some u := by
  unfold slCells at e
  rcases gL_ok e hr.symm with ⟨rfl, e2⟩ | ⟨b, k, l, c, rfl, e2⟩ | ⟨b, k, l, f, rfl, e2⟩ | ⟨b, f, rfl, e2⟩
  · obtain ⟨h1, _⟩ := bf_ok e2 hr.symm
    have := beq_ok h1; omega
  · obtain ⟨_, e3⟩ := bf_ok e2 hr.symm
    obtain ⟨c', z, B, O, Z, C, el, fr, cs, _, g2, g3, _, g5, g6, g7, g8, g9⟩ := rowCells_ok s e3 hr h0
    obtain ⟨B', O', Z', hm, _, hx⟩ := hd
    rw [g2] at hm
    cases hm
    exact ⟨_, l, c, cs, hx, g5, g6, g7, g8, fun j u hj => by rw [add_at, cell_at g3]; exact g9 j u hj⟩
  · obtain ⟨_, e3⟩ := bf_ok e2 hr.symm
    obtain ⟨c', z, B, O, Z, C, el, fr, cs, _, g2, g3, _, g5, g6, g7, g8, g9⟩ := rowCells_ok s e3 hr h0
    obtain ⟨B', O', Z', cc, hm, _, _, hx⟩ := hd
    rw [g2] at hm
    cases hm
    exact ⟨_, l, cc, cs, hx, g5, g6, g7, g8, fun j u hj => by rw [add_at, cell_at g3]; exact g9 j u hj⟩
  · obtain ⟨h1, _⟩ := bf_ok e2 hr.symm
    have := beq_ok h1; omega
theorem zeros_list {cells : Array Value} (h0 : 0 < cells.size) (l : Nat) : (Builtin.zeroCells cells l).toList = (List.replicate l cells.toList).flatten := by
  apply List.ext_getElem?
  intro j
  have hlen : (List.replicate l cells.toList).flatten.length = l * cells.size := by simp [List.length_flatten]
  unfold Builtin.zeroCells
  by_cases hj : j < l * cells.size
  · have hmod : j % cells.size < cells.size := Nat.mod_lt _ h0
    have := flat_get cells.toList (by simpa using h0) l j (by simpa using hj)
    simp only [Array.length_toList] at this
    rw [this]
    simp [hj, getElem!_pos cells (j % cells.size) hmod]
  · rw [List.getElem?_eq_none (by simp; omega), List.getElem?_eq_none (by rw [hlen]; omega)]
variable (F : Fr P ρ m nt t a.tmps) (s : Sim ρ m g h w)
include F s
theorem ok_ap (hgf : g ≤ fl) (hf : fl ≤ n) {c : Call} {x y : Operand} {ty el : TypeId} {i : TypeInfo} {z0 : Value} (ho : o.op = .call c) (hc : c.callee = .builtin .append) (hx : c.args.toList = [x, y]) (hty : c.argTypes.toList = [ty, ty])
    (ht : P.underlying ty = some (.slice el)) (hi : P.info? el = some i) (hz0 : i.zero = some z0) (hsz : 0 < i.size) (hzc : z0.cells.size = i.size) (hb1 : i.bytes ≤ 65536)
    (e : step (.ap i.size (opd P nt x) (opd P nt y)) ys cl fl lim t h n = .ok v h' n') : Ok1 P ρ g fl o a m w h n v h' n' := by
  have e1 : app fl i.size (ev t (opd P nt x)) (ev t (opd P nt y)) h n = .ok v h' n' := e
  have hux : ev t (opd P nt x) ≠ .un := fun q => by
    rw [q] at e1
    unfold app at e1
    obtain ⟨q1, _, e2⟩ := gO_ok e1 (by simp)
    rcases bf_or e2 with ⟨_, e3⟩ | ⟨_, e3⟩
    · obtain ⟨_, hl, _⟩ := gO_ok e3 (by simp); cases hl
    · obtain ⟨_, e4⟩ := bf_ok e3 (by simp)
      obtain ⟨_, e5⟩ := nU_ok e4 (by simp)
      obtain ⟨_, hl, _⟩ := gO_ok e5 (by simp); cases hl
  have huy : ev t (opd P nt y) ≠ .un := fun q => by
    rw [q] at e1
    unfold app at e1
    obtain ⟨q1, hl, e2⟩ := gO_ok e1 (by simp); cases hl
  obtain ⟨hab, hrun⟩ := app_ok (rt := o.type) s hgf hf ht hi hz0 hsz hzc hb1 (opd_ok F x hux) (opd_ok F y huy) e1
  refine ⟨hab, fun hfr K Q hK => ?_⟩
  obtain ⟨r, w', m', h1, h2, h3⟩ := hrun hfr
  refine op_value (w' := w') (u := r) ?_ (hK r w' m' h2 h3)
  simp [execOp, ho, resolve, hc, two_arr hx, two_arr hty, invoke, builtin, h1]
theorem ok_cy (hgf : g ≤ fl) (hf : fl ≤ n) {c : Call} {x y : Operand} {ty ty2 el : TypeId} {sz : Nat} (ho : o.op = .call c) (hc : c.callee = .builtin .copy) (hx : c.args.toList = [x, y]) (hty : c.argTypes.toList = [ty, ty2])
    (ht : P.underlying ty = some (.slice el)) (hs : szOf P el = some sz) (hsz : 0 < sz)
    (e : step (.cy sz (opd P nt x) (opd P nt y)) ys cl fl lim t h n = .ok v h' n') : Ok1 P ρ g fl o a m w h n v h' n' := by
  have e1 : gO (SR.bad [77]) (slLen (ev t (opd P nt x))) (fun a => gO (SR.bad [78]) (slLen (ev t (opd P nt y))) fun b => bf (Nat.beq (bf (Nat.ble b a) b a) 0) (SR.ok (.i .i64 (Int.ofNat 0)) h n)
    (nU (SR.bad [79]) (slCells h sz (ev t (opd P nt y)) (bf (Nat.ble b a) b a)) fun c => stSl fl (ev t (opd P nt x)) c h n (mkI .i64 (Int.ofNat (bf (Nat.ble b a) b a))))) = .ok v h' n' := e
  obtain ⟨la, hla, e2⟩ := gO_ok e1 (by simp)
  obtain ⟨lb, hlb, e3⟩ := gO_ok e2 (by simp)
  have dx := opd_ok F x (fun q => by rw [q] at hla; cases hla)
  have dy := opd_ok F y (fun q => by rw [q] at hlb; cases hlb)
  obtain ⟨p, cp, hxv, _⟩ := slLen_ok hla dx
  obtain ⟨p', cp', hyv, _⟩ := slLen_ok hlb dy
  have hmin : bf (Nat.ble lb la) lb la = Nat.min lb la := by
    rw [bf_eq]
    show _ = (if lb ≤ la then lb else la)
    by_cases hle : lb ≤ la
    · rw [if_pos (ble_yes hle), if_pos hle]
    · rw [if_neg (by rw [ble_no (by omega)]; simp), if_neg hle]
  rw [hmin] at e3
  rcases bf_or e3 with ⟨h1, e4⟩ | ⟨h1, e4⟩
  · have hm0 := beq_ok h1
    cases e4
    have hfc : (Builtin.firstCells sz 0 (a.eval y)).run P w = .ok #[] w := by
      rw [hyv]
      cases p' with
      | none => simp [Builtin.firstCells]
      | some A => simp [Builtin.firstCells, loadCells, loadCellsFrom]
    refine Ok1.quiet (u := .int .i64 0) s ?_ rfl
    have hlen : (Builtin.lenOf (a.eval y)).run P w = .ok lb w := by rw [hyv]; rfl
    cases p with
    | none => simp [execOp, ho, resolve, hc, two_arr hx, two_arr hty, invoke, builtin, Builtin.copy_, run_underlying ht, hxv, hlen, szOf_run hs, hm0, hfc, goInt]
    | some A => simp [execOp, ho, resolve, hc, two_arr hx, two_arr hty, invoke, builtin, Builtin.copy_, run_underlying ht, hxv, hlen, szOf_run hs, hm0, hfc, goInt, storeCells]
  · obtain ⟨hcu, e5⟩ := nU_ok e4 (by simp)
    have hq0 : 0 < Nat.min lb la := by
      rcases Nat.eq_zero_or_pos (Nat.min lb la) with p | p
      · rw [p] at h1; simp at h1
      · exact p
    obtain ⟨A, len, cap, cs, hyv', n1, n2, n3, n4, n5⟩ := slCells_ok' s dy rfl hcu hq0
    rw [hyv] at hyv'
    cases hyv'
    have hlen : (Builtin.lenOf (a.eval y)).run P w = .ok lb w := by rw [hyv]; rfl
    have hfc : (Builtin.firstCells sz (Nat.min lb la) (a.eval y)).run P w = .ok cs.toArray w := by
      rw [hyv]; exact run_firstCells_some w sz _ A lb cp' cs n2 n5
    have hne : cs ≠ [] := List.ne_nil_of_length_pos (by rw [n2]; exact Nat.mul_pos hq0 hsz)
    unfold stSl at e5
    have fin : ∀ {b k : Nat} {hh : SR}, stBlk fl h b k (slCells h sz (ev t (opd P nt y)) (Nat.min lb la)) n = hh → gR hh (fun _ h n => okV (mkI .i64 (Int.ofNat (Nat.min lb la))) h n 75) = .ok v h' n' → (∃ B O Z, m b = some (B, O, Z) ∧ p = some ⟨B, O + k, none⟩) → Ok1 P ρ g fl o a m w h n v h' n' := by
      rintro b k hh e6 e7 ⟨B, O, Z, hm, hp⟩
      obtain ⟨v1, h1', n1', e8, e9⟩ := gR_ok e7
      rw [e8] at e6
      obtain ⟨_, rfl, hab, B', O', Z', C, el', g1, g2, g3, g4⟩ := stBlk_ok (n := n) s hgf n3 hne n4 e6
      obtain ⟨_, rfl, rfl, rfl⟩ := okV_ok e9
      rw [hm] at g1
      cases g1
      refine ⟨hab, fun _ K Q hK => op_value (w' := w.setRow B (laid C (O + k) cs)) (u := .int .i64 (Nat.min lb la : Nat)) ?_ (hK _ _ _ g4 (by rw [mkI_eq]; rfl))⟩
      have hst := run_lay (P := P) g2 g3 n4
      simp [execOp, ho, resolve, hc, two_arr hx, two_arr hty, invoke, builtin, Builtin.copy_, run_underlying ht, hxv, hp, hlen, szOf_run hs, hfc, goInt, hst]
    rcases gL_ok e5 (by simp) with ⟨_, e6⟩ | ⟨b, k, l, c', hx2, e6⟩ | ⟨b, k, l, f, hx2, e6⟩ | ⟨_, _, _, e6⟩
    · cases e6
    · rw [hx2] at dx
      obtain ⟨B, O, Z, hm, _, hxx⟩ := dx
      rw [hxv] at hxx
      cases hxx
      exact fin rfl e6 ⟨B, O, Z, hm, rfl⟩
    · rw [hx2] at dx
      obtain ⟨B, O, Z, cc, hm, _, _, hxx⟩ := dx
      rw [hxv] at hxx
      cases hxx
      exact fin rfl e6 ⟨B, O, Z, hm, rfl⟩
    · cases e6
theorem ok_cr (hgf : g ≤ fl) (hf : fl ≤ n) {c : Call} {x : Operand} {ty el : TypeId} {i : TypeInfo} {z : Value} (ho : o.op = .call c) (hc : c.callee = .builtin .clear) (hx : c.args.toList = [x]) (hty : c.argTypes.toList = [ty])
    (ht : P.underlying ty = some (.slice el)) (hi : P.info? el = some i) (hz : i.zero = some z) (h0 : 0 < i.size) (hzs : z.cells.size = i.size) (hk : z.cells.toList.all knownAtom = true)
    (e : step (.cr (chain z.cells.toList) (opd P nt x)) ys cl fl lim t h n = .ok v h' n') : Ok1 P ρ g fl o a m w h n v h' n' := by
  have e1 : gO (SR.bad [84]) (slLen (ev t (opd P nt x))) (fun l => bf (Nat.beq l 0) (SR.ok (.tup .nil) h n) (nU (SR.bad [85]) (rep (chain z.cells.toList) l) fun c => stSl fl (ev t (opd P nt x)) c h n (.tup .nil))) = .ok v h' n' := e
  obtain ⟨l, hl, e2⟩ := gO_ok e1 (by simp)
  have dx := opd_ok F x (fun q => by rw [q] at hl; cases hl)
  obtain ⟨p, cp, hxv, hp0⟩ := slLen_ok hl dx
  have hz0 : zeroOf P el = some z := by unfold zeroOf; rw [hi]; exact hz
  rcases bf_or e2 with ⟨h1, e4⟩ | ⟨h1, e4⟩
  · have hm0 := beq_ok h1
    subst hm0
    cases e4
    refine Ok1.quiet (u := .tuple #[]) s ?_ ⟨[], denC_nil.2 rfl, rfl⟩
    cases p with
    | none => simp [execOp, ho, resolve, hc, one_arr hx, one_arr hty, invoke, builtin, Builtin.clear_, run_underlying ht, hxv]
    | some A => simp [execOp, ho, resolve, hc, one_arr hx, one_arr hty, invoke, builtin, Builtin.clear_, run_underlying ht, hxv]
  · obtain ⟨hcu, e5⟩ := nU_ok e4 (by simp)
    have hl0 : 0 < l := by
      rcases Nat.eq_zero_or_pos l with q | q
      · rw [q] at h1; simp at h1
      · exact q
    have hzc := allKnown hk
    have hd := rep_ok (ρ := ρ) (m := m) (chain_ok z.cells.toList).1 l hcu
    have hcell : ∀ x ∈ (List.replicate l z.cells.toList).flatten, Cell x := by
      intro x hx
      obtain ⟨r, hr, hxr⟩ := List.mem_flatten.1 hx
      rw [List.eq_of_mem_replicate hr] at hxr
      exact hzc x hxr
    have hne : (List.replicate l z.cells.toList).flatten ≠ [] := List.ne_nil_of_length_pos (by rw [show (List.replicate l z.cells.toList).flatten.length = l * z.cells.size by simp [List.length_flatten]]; exact Nat.mul_pos hl0 (by omega))
    have hzl := zeros_list (cells := z.cells) (by omega) l
    unfold stSl at e5
    have fin : ∀ {b k : Nat} {hh : SR}, stBlk fl h b k (rep (chain z.cells.toList) l) n = hh → gR hh (fun _ h n => okV (.tup .nil) h n 75) = .ok v h' n' → (∃ B O Z, m b = some (B, O, Z) ∧ p = some ⟨B, O + k, none⟩) → Ok1 P ρ g fl o a m w h n v h' n' := by
      rintro b k hh e6 e7 ⟨B, O, Z, hm, hp⟩
      obtain ⟨v1, h1', n1', e8, e9⟩ := gR_ok e7
      rw [e8] at e6
      obtain ⟨_, rfl, hab, B', O', Z', C, el', g1, g2, g3, g4⟩ := stBlk_ok (n := n) s hgf hd hne hcell e6
      obtain ⟨_, rfl, rfl, rfl⟩ := okV_ok e9
      rw [hm] at g1
      cases g1
      refine ⟨hab, fun _ K Q hK => op_value (w' := w.setRow B (laid C (O + k) (List.replicate l z.cells.toList).flatten)) (u := .tuple #[]) ?_ (hK _ _ _ g4 ⟨[], denC_nil.2 rfl, rfl⟩)⟩
      have hst := run_lay (P := P) g2 g3 hcell
      rw [← hzl] at hst
      have hl' : l ≠ 0 := by omega
      rw [← hzl]
      match l, hl', hxv, hst with
      | l + 1, _, hxv, hst => simp [execOp, ho, resolve, hc, one_arr hx, one_arr hty, invoke, builtin, Builtin.clear_, run_underlying ht, hxv, hp, zeroOf_run hz0, hst]
    rcases gL_ok e5 (by simp) with ⟨_, e6⟩ | ⟨b, k, l', c', hx2, e6⟩ | ⟨b, k, l', f, hx2, e6⟩ | ⟨_, _, _, e6⟩
    · cases e6
    · rw [hx2] at dx
      obtain ⟨B, O, Z, hm, _, hxx⟩ := dx
      rw [hxv] at hxx
      cases hxx
      exact fin rfl e6 ⟨B, O, Z, hm, rfl⟩
    · rw [hx2] at dx
      obtain ⟨B, O, Z, cc, hm, _, _, hxx⟩ := dx
      rw [hxv] at hxx
      cases hxx
      exact fin rfl e6 ⟨B, O, Z, hm, rfl⟩
    · cases e6
theorem ok_cl (hcl : ClOk P ρ g cl) (hgf : g ≤ fl) (hf : fl ≤ n) {c : Call} {f : FuncId} (ho : o.op = .call c) (hc : c.callee = .value (.func f)) (hk : known P f = true)
    (e : step (.cl f (c.args.toList.map (opd P nt))) ys cl fl lim t h n = .ok v h' n') : Ok1 P ρ g fl o a m w h n v h' n' := by
  have e1 : nU (SR.bad [65]) (evL t (c.args.toList.map (opd P nt))) (fun c => cl f c fl h n) = .ok v h' n' := e
  obtain ⟨hu, e2⟩ := nU_ok e1 (by simp)
  obtain ⟨hab, _, hcall⟩ := hcl f _ fl h n v h' n' e2 hgf hf
  refine ⟨hab, fun hfr K Q hK => ?_⟩
  have hC := hcall m w (c.args.toList.map a.eval) s F.glob (evL_ok F _ hu) hfr
  refine op_call (f := f) (args := (c.args.toList.map a.eval).toArray) (R := fun u w' => ∃ m', Tr ρ g fl h n m w h' n' m' w' ∧ den ρ m' v u) ?_ (hC.mono fun e w' ⟨u, m', h1, h2, h3⟩ => ⟨u, h1, m', h2, h3⟩) (fun u w' ⟨m', h2, h3⟩ => hK u w' m' h2 h3)
  have hargs : c.args.map a.eval = (c.args.toList.map a.eval).toArray := by apply Array.ext'; simp
  simp [execOp, ho, resolve, hc, Act.eval, Deferred.ofValue, invoke, known_run hk]
  exact hargs
theorem ok_cf (hcl : ClOk P ρ g cl) (hgf : g ≤ fl) (hf : fl ≤ n) {c : Call} {x : Operand} (ho : o.op = .call c) (hc : c.callee = .value x)
    (e : step (.cf (opd P nt x) (c.args.toList.map (opd P nt))) ys cl fl lim t h n = .ok v h' n') : Ok1 P ρ g fl o a m w h n v h' n' := by
  have e1 : gF (SR.bad [66]) (ev t (opd P nt x)) (fun f c' => nU (SR.bad [67]) (evL t (c.args.toList.map (opd P nt))) fun a => bf (Nat.ble BND f) (gN (.bad [150]) c' (.bad [151]) fun y r => nU (.bad [152]) (chApp a r) fun q => cl (Nat.sub f BND) (.cons y q) fl h n) (nU (SR.bad [68]) (chApp a c') fun r => cl f r fl h n)) = .ok v h' n' := e
  obtain ⟨f, cc, hfx, e2⟩ := gF_ok e1 (by simp)
  obtain ⟨hu, e3⟩ := nU_ok e2 (by simp)
  have dx := opd_ok F x (by rw [hfx]; simp)
  rw [hfx] at dx
  obtain ⟨caps, hcaps, hxv⟩ := dx
  rcases bf_or e3 with ⟨hb, e3⟩ | ⟨hb, e3⟩
  · have hb := ble_ok hb
    obtain ⟨k, rfl⟩ : ∃ k, f = BND + k := ⟨f - BND, by omega⟩
    rcases gN_ok e3 (by simp) with ⟨_, e4⟩ | ⟨y, r, hyr, e4⟩
    · cases e4
    subst hyr
    obtain ⟨u0, us, rfl, hd0, hd1⟩ := denC_cons.1 hcaps
    rw [fnV_bound] at hxv
    obtain ⟨hu2, e5⟩ := nU_ok e4 (by simp)
    have e6 : cl k (.cons y (chApp (evL t (c.args.toList.map (opd P nt))) r)) fl h n = .ok v h' n' := by
      have : Nat.sub (BND + k) BND = k := Nat.add_sub_cancel_left BND k
      rw [this] at e5; exact e5
    obtain ⟨hab, hk, hcall⟩ := hcl k _ fl h n v h' n' e6 hgf hf
    refine ⟨hab, fun hfr K Q hK => ?_⟩
    have hC := hcall m w (u0 :: (c.args.toList.map a.eval ++ us)) s F.glob (denC_cons.2 ⟨_, _, rfl, hd0, chApp_ok hd1 _ hu2 (evL_ok F _ hu)⟩) hfr
    refine op_call (f := k) (args := (u0 :: (c.args.toList.map a.eval ++ us)).toArray) (R := fun u w' => ∃ m', Tr ρ g fl h n m w h' n' m' w' ∧ den ρ m' v u) ?_ (hC.mono fun e w' ⟨u, m', h1, h2, h3⟩ => ⟨u, h1, m', h2, h3⟩) (fun u w' ⟨m', h2, h3⟩ => hK u w' m' h2 h3)
    have hargs : #[u0] ++ c.args.map a.eval ++ us.toArray = (u0 :: (c.args.toList.map a.eval ++ us)).toArray := by apply Array.ext'; simp
    simp [execOp, ho, resolve, hc, hxv, Deferred.ofValue, invoke, known_run hk]
  · have hlt : f < BND := by
      rcases Nat.lt_or_ge f BND with q | q
      · exact q
      · rw [Nat.ble_eq_true_of_le q] at hb; cases hb
    rw [fnV_lt hlt] at hxv
    obtain ⟨hu2, e4⟩ := nU_ok e3 (by simp)
    obtain ⟨hab, hk, hcall⟩ := hcl f _ fl h n v h' n' e4 hgf hf
    refine ⟨hab, fun hfr K Q hK => ?_⟩
    have hC := hcall m w (c.args.toList.map a.eval ++ caps) s F.glob (chApp_ok hcaps _ hu2 (evL_ok F _ hu)) hfr
    refine op_call (f := f) (args := (c.args.toList.map a.eval ++ caps).toArray) (R := fun u w' => ∃ m', Tr ρ g fl h n m w h' n' m' w' ∧ den ρ m' v u) ?_ (hC.mono fun e w' ⟨u, m', h1, h2, h3⟩ => ⟨u, h1, m', h2, h3⟩) (fun u w' ⟨m', h2, h3⟩ => hK u w' m' h2 h3)
    have hargs : c.args.map a.eval ++ caps.toArray = (c.args.toList.map a.eval ++ caps).toArray := by apply Array.ext'; simp
    simp [execOp, ho, resolve, hc, hxv, Deferred.ofValue, invoke, known_run hk]
end
end Go.Rn
