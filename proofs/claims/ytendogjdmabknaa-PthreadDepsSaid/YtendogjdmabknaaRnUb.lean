/-
  One text of a symbolic evaluator over the model, shown sound once for every program: no statement is claimed here.
-/
import Derived.Test.YtendogjdmabknaaRnUa
namespace Go.Rn
variable {ρ : Nat → Int} {m m' : Mp} {P : Program}
variable {g fl n n' nt : Nat} {h h' : HT} {t : FT} {a : Act} {w : World} {v : RV} {ys : Ys} {cl : Cl'}
theorem compR_ok {key k2 nv : Nat} {sv psl : List Pa} {A B : RC} (hc : compR P key = some (.r k2 nv sv psl A B)) : ∃ (f0 nt : Nat) (ps : Array Tmp) (x y : Code) (is : List Nat), loopAt P key = some (f0, nt, ps, x, y) ∧ k2 = key ∧ nv = sv.length ∧ psl = slotsOf ps ∧ nt < 1000000 ∧ (∀ i ∈ ps, i < nt) ∧
    A = comp P nt f0 x (key % 256 + 1) ∧ B = comp P nt f0 y (key % 256 + 1 + (rngs x).length) ∧ sv = is.map (fun i => pa 20 (i + 1)) ∧ ∀ i ∈ is, i < nt := by
  unfold compR at hc
  simp only [Option.bind_eq_bind, Option.bind_eq_some_iff] at hc
  obtain ⟨⟨f0, nt, ps, x, y⟩, h1, h2⟩ := hc
  simp only at h2
  split at h2
  case isFalse => cases h2
  rename_i hk
  simp only [Bool.and_eq_true, decide_eq_true_eq, List.all_eq_true] at hk
  obtain ⟨is, his, hin⟩ := svOf_is nt (slotsOf ps) (comp P nt f0 x (key % 256 + 1)) (comp P nt f0 y (key % 256 + 1 + (rngs x).length))
  have h3 := Option.some.inj h2
  injection h3 with e1 e2 e3 e4 e5 e6
  exact ⟨f0, nt, ps, x, y, is, h1, e1.symm, by rw [← e2, ← e3], e4.symm, hk.1, fun i hi => hk.2 i (by simpa using hi), e5.symm, e6.symm, by rw [← e3]; exact his, hin⟩
/-- a record set, at the end of a round or at its beginning -/
theorem rndSet_ok {key b : Nat} {st : RV} {ans : Bool} (e : rndSet key b st ans h n = .ok v h' n') : ∃ cs, hg h b = .bk cs MAPZ ∧ cg cs 0 = .fn key (.b true) ∧ v = .b ans ∧ h' = hst h (.bk (cst cs (.fn key st) 0) MAPZ) b ∧ n' = n := by
  unfold rndSet at e
  obtain ⟨cs, h1, e1⟩ := gMK_ok e (by simp)
  obtain ⟨k, s, h2, e2⟩ := gF_ok e1 (by simp)
  obtain ⟨h3, e3⟩ := bf_ok e2 (by simp)
  obtain ⟨busy, h4, e4⟩ := gB_ok e3 (by simp)
  obtain ⟨h5, e5⟩ := bf_ok e4 (by simp)
  rw [fT_eq, fT_eq] at e5
  cases e5
  have hk := Nat.eq_of_beq_eq_true h3
  subst hk; subst h4; subst h5
  exact ⟨cs, h1, h2, rfl, rfl, rfl⟩
/-- a round's own record, as it stands later: the same range -/
theorem Sim.recOf {b key : Nat} {B O Z : Nat} {cs : CT} {st : RV} (s : Sim P ρ m g h w) (hb : hg h b = .bk cs MAPZ) (hc : cg cs 0 = .fn key st) (hm : m b = some (B, O, Z)) {f0 nt : Nat} {ps : Array Tmp} {x y : Code} (hl : loopAt P key = some (f0, nt, ps, x, y)) :
    ∃ rec : Loop, w.heap[B]? = some (.loop rec) ∧ LSt st rec.state rec.pending ∧ rec.params = ps ∧ rec.assign = x ∧ rec.body = y ∧ nt ≤ rec.tmps.size ∧ ∀ s' rec', cg (cst cs (.fn key s') 0) 0 = .fn key s' → LSt s' rec'.state rec'.pending → rec'.params = rec.params → rec'.assign = rec.assign → rec'.body = rec.body → rec'.tmps = rec.tmps → Spec P ρ m (cst cs (.fn key s') 0) (.loop rec') := by
  obtain ⟨B1, O1, Z1, rec, q1, q2, q3⟩ := s.loop hb hc
  rw [hm] at q1
  cases q1
  obtain ⟨key2, s2, nv, sv, psl, A, Bd, f2, nt2, p1, p2, p3, p4, p5, p6⟩ := q3
  rw [hc] at p1
  cases p1
  rw [hl] at p3
  have p3' := Option.some.inj p3
  simp only [Prod.mk.injEq] at p3'
  obtain ⟨rfl, rfl, e3, e4, e5⟩ := p3'
  refine ⟨rec, q2, p2, e3.symm, e4.symm, e5.symm, p5, fun s' rec' h1 h2 h3 h4 h5 h6 => ?_⟩
  refine ⟨key, s', nv, sv, psl, A, Bd, f0, nt, h1, h2, by rw [h3, h4, h5, ← e3, ← e4, ← e5]; exact hl, p4, by rw [h6]; exact p5, fun j p hj hu => ?_⟩
  rw [cg_cst_ne _ _ (by omega)] at hu ⊢
  rw [h6]
  exact p6 j p hj hu
/-- how the slots of a round's record are laid -/
theorem laySl_fr0 {nt : Nat} (hnt : nt < 1000000) {is : List Nat} (_hi : ∀ i ∈ is, i < nt) {cs : CT} {tmps : Array Value} {t0 : FT} (hsz : nt ≤ tmps.size) (gl : Glob P m)
    (hv : ∀ (j : Nat) (p : Pa), (is.map fun i => pa 20 (i + 1))[j]? = some p → cg cs (1 + j) ≠ .un → den ρ m (cg cs (1 + j)) (tmps.getD (p.val - 1) undef))
    (hu : rd cs (is.map fun i => pa 20 (i + 1)).length 1 ≠ .un) (e : laySl (is.map fun i => pa 20 (i + 1)) (rd cs (is.map fun i => pa 20 (i + 1)).length 1) te = some t0) : Fr P ρ m nt t0 tmps := by
  refine ⟨hsz, hnt, fun i hne => ?_, gl⟩
  rcases laySl_get _ _ te t0 e (i + 1) with h1 | ⟨j, p, h1, h2, h3⟩
  · rw [h1] at hne; exact absurd (cg_ce i) hne
  · have hj : j < (is.map fun i => pa 20 (i + 1)).length := (List.getElem?_eq_some_iff.1 h1).1
    rw [h3, rd_get _ _ hu j hj]
    have := hv j p h1 (rd_un _ _ hu j hj)
    rw [h2] at this
    exact this
/-- a round's parameters, laid upon its record's slots -/
theorem zip_fold (ps : Array Tmp) (args : List Value) (tmps : Array Value) : (ps.zip args.toArray).foldl (fun (t : Array Value) (x : Tmp × Value) => t.setIfInBounds x.1 x.2) tmps = (ps.toList.zip args).foldl (fun (t : Array Value) (x : Tmp × Value) => t.setIfInBounds x.1 x.2) tmps := by
  rw [← Array.foldl_toList]
  simp
/-- a round -/
theorem round_ok (hy : YsOk ρ ys) (hdr : ∀ (r : Option Nat) (cl : Cl') (fl nt : Nat), ClOk P ρ g cl → g ≤ fl → DrOk r P ρ g fl nt ys cl) {cl : Cl'} (ih : ClOk P ρ g cl) {key k2 nv : Nat} {sv psl : List Pa} {A Bd : RC} (hcR : compR P key = some (.r k2 nv sv psl A Bd)) {c : RV} {fl : Nat} {h : HT} {n : Nat} {v : RV} {h' : HT} {n' : Nat} (hgf : g ≤ fl) (hf : fl ≤ n)
    (e : rndC k2 nv sv psl (code ys cl fl A) (code ys cl fl Bd) c fl h n = .ok v h' n') : Ab fl h n h' n' ∧
    ∀ (m : Mp) (w : World) (vs : List Value), Sim P ρ m g h w → Glob P m → denC ρ m c vs → Fresh n n' m → ∃ B args, vs = .map (some B) :: args ∧ RdIn P B args w (fun e w' => ∃ u m', e = .returned u ∧ Tr P ρ g fl h n m w h' n' m' w' ∧ den ρ m' v u) := by
  obtain ⟨f0, nt, ps, x, y, is, hl, rfl, rfl, rfl, hnt, hps, rfl, rfl, rfl, his⟩ := compR_ok hcR
  obtain ⟨hf0, hsub⟩ := loopAt_sub hl
  unfold rndC at e
  rcases gN_ok e (by simp) with ⟨_, e1⟩ | ⟨yv, xs, rfl, e1⟩
  · cases e1
  obtain ⟨b, rfl, e2⟩ := gM_ok e1 (by simp)
  obtain ⟨hb1, e3⟩ := bf_ok e2 (by simp)
  have hflb := ble_ok hb1
  obtain ⟨cs, hb, e4⟩ := gMK_ok e3 (by simp)
  obtain ⟨k, st, hk, e5⟩ := gF_ok e4 (by simp)
  obtain ⟨hk2, e6⟩ := bf_ok e5 (by simp)
  have hk2 := Nat.eq_of_beq_eq_true hk2
  subst hk2
  obtain ⟨hu, e7⟩ := nU_ok e6 (by simp)
  obtain ⟨t0, ht0, e8⟩ := gO_ok e7 (by simp)
  obtain ⟨t1, ht1, e9⟩ := gO_ok e8 (by simp)
  -- the left sides
  cases hX : code ys cl fl (comp P nt f0 x (k % 256 + 1)) t1 h n with
  | ex _ _ _ _ => rw [hX] at e9; cases e9
  | rt _ _ _ => rw [hX] at e9; cases e9
  | bad _ => rw [hX] at e9; cases e9
  | nx t2 h2 n2 =>
  rw [hX] at e9
  have f1 : gMK (SR.bad [195]) (hg h2 b) (fun cs => gF (.bad [196]) (cg cs 0) fun k' s => bf (Nat.beq k' k) (gB (.bad [197]) s fun busy => bf busy (.bad [198]) (fT (cst cs (.fn k (.b true)) 0) fun cs => fT (hst h2 (.bk cs MAPZ) b) fun h => rndEnd k b (code ys cl fl (comp P nt f0 y (k % 256 + 1 + (rngs x).length)) t2 h n2))) (.bad [199])) = .ok v h' n' := e9
  obtain ⟨cs2, hb2, f2⟩ := gMK_ok f1 (by simp)
  obtain ⟨k', s2, hk', f3⟩ := gF_ok f2 (by simp)
  obtain ⟨hkk, f4⟩ := bf_ok f3 (by simp)
  have hkk := Nat.eq_of_beq_eq_true hkk
  subst hkk
  obtain ⟨busy, rfl, f5⟩ := gB_ok f4 (by simp)
  rcases bf_or f5 with ⟨_, f6⟩ | ⟨hbz, f6⟩
  · cases f6
  subst hbz
  rw [fT_eq, fT_eq] at f6
  obtain ⟨abA, kA⟩ := code_ok (r := none) hnt hy ih hgf (hdr _ _ fl nt ih hgf) x (k' % 256 + 1) (fun j z hj => hsub j z (by rw [List.getElem?_append_left (List.getElem?_eq_some_iff.1 hj).1]; exact hj)) t1 h n .normal t2 h2 n2 (by rw [hX]; exact brIs_nx.2 ⟨rfl, rfl, rfl, rfl⟩) hf
  have hn2 : fl ≤ n2 := Nat.le_trans hf abA.le
  have abS : Ab fl h2 n2 (hst h2 (.bk (cst cs2 (.fn k' (.b true)) 0) MAPZ) b) n2 := Ab.set _ hflb (fun _ _ _ => ⟨_, _, hb2⟩)
  -- the body
  have fin : ∃ (ex : Exit) (t3 : FT) (h3 : HT) (n3 : Nat) (st : RV) (ans : Bool) (jump : Option Code), brIs (code ys cl fl (comp P nt f0 y (k' % 256 + 1 + (rngs x).length)) t2 (hst h2 (.bk (cst cs2 (.fn k' (.b true)) 0) MAPZ) b) n2) ex t3 h3 n3 ∧ rndSet k' b st ans h3 n3 = .ok v h' n' ∧
      LSt st (if jump.isNone then .ready else .done) jump ∧ ans = jump.isNone ∧ ((ex = .normal ∧ jump = none) ∨ (ex = .ret ∧ jump = some .ret) ∨ ∃ id, ex = .exit id ∧ jump = some (.exit id)) := by
    cases hB : code ys cl fl (comp P nt f0 y (k' % 256 + 1 + (rngs x).length)) t2 (hst h2 (.bk (cst cs2 (.fn k' (.b true)) 0) MAPZ) b) n2 with
    | nx t3 h3 n3 => rw [hB] at f6; exact ⟨.normal, t3, h3, n3, _, _, none, brIs_nx.2 ⟨rfl, rfl, rfl, rfl⟩, f6, .ready, rfl, .inl ⟨rfl, rfl⟩⟩
    | ex id t3 h3 n3 => rw [hB] at f6; exact ⟨.exit id, t3, h3, n3, _, _, some (.exit id), brIs_ex.2 ⟨rfl, rfl, rfl, rfl⟩, f6, .ex id, rfl, .inr (.inr ⟨id, rfl, rfl⟩)⟩
    | rt t3 h3 n3 => rw [hB] at f6; exact ⟨.ret, t3, h3, n3, _, _, some .ret, brIs_rt.2 ⟨rfl, rfl, rfl, rfl⟩, f6, .ret, rfl, .inr (.inl ⟨rfl, rfl⟩)⟩
    | bad l => rw [hB] at f6; cases f6
  obtain ⟨ex, t3, h3, n3, stE, ans, jump, hbr, hset, hLSt, hans, hjump⟩ := fin
  have hsB : ∀ (j : Nat) (z : Array Tmp × Code × Code), (rngs y)[j]? = some z → (k' % 256 + 1 + (rngs x).length) + j < 256 ∧ loopAt P (keyAt f0 ((k' % 256 + 1 + (rngs x).length) + j)) = some (f0, nt, z.1, z.2.1, z.2.2) := fun j z hj => by
    have := hsub ((rngs x).length + j) z (by rw [List.getElem?_append_right (by omega), Nat.add_sub_cancel_left]; exact hj)
    rw [← Nat.add_assoc] at this
    exact this
  have abB := (code_ok (r := none) hnt hy ih hgf (hdr _ _ fl nt ih hgf) y _ hsB t2 _ n2 ex t3 h3 n3 hbr hn2).1
  obtain ⟨cs3, hb3, hk3, rfl, rfl, rfl⟩ := rndSet_ok hset
  have abE : Ab fl h3 n' (hst h3 (.bk (cst cs3 (.fn k' stE) 0) MAPZ) b) n' := Ab.set _ hflb (fun _ _ _ => ⟨_, _, hb3⟩)
  refine ⟨((abA.trans abS).trans abB).trans abE, fun m w vs s gl hd fr => ?_⟩
  obtain ⟨v0, args, rfl, hv0, hargs⟩ := denC_cons.1 hd
  obtain ⟨B, O, Z, hmb, rfl⟩ := hv0
  obtain ⟨rec, hrec, hst1, rfl, rfl, rfl, hsz, hspec⟩ := s.recOf hb hk hmb hl
  obtain ⟨_, _, _, rec0, q1, q2, q3⟩ := s.loop hb hk
  rw [hmb] at q1
  cases q1
  rw [hrec] at q2
  cases q2
  obtain ⟨key2, s0, nv0, sv0, psl0, A0, B0, f2, nt2, p1, p2, p3, p4, p5, p6⟩ := q3
  rw [hk] at p1
  cases p1
  rw [hcR] at p4
  cases p4
  have F0 := laySl_fr0 (P := P) hnt his hsz gl p6 hu ht0
  obtain ⟨hlen, F1⟩ := laySl_fr rec.params.toList xs args t0 t1 rec.tmps (fun i hi => hps i (by simpa using hi)) F0 hargs ht1
  refine ⟨B, args, rfl, rec, hrec, by rw [hlen]; simp, ?_⟩
  refine roundIn_of_wpIn (F := WF none) trivial ?_
  rw [zip_fold]
  obtain ⟨_, kA⟩ := code_ok (r := some B) hnt hy ih hgf (hdr _ _ fl nt ih hgf) rec.assign (k' % 256 + 1) (fun j z hj => hsub j z (by rw [List.getElem?_append_left (List.getElem?_eq_some_iff.1 hj).1]; exact hj)) t1 h n .normal t2 h2 n2 (by rw [hX]; exact brIs_nx.2 ⟨rfl, rfl, rfl, rfl⟩) hf
  obtain ⟨_, kB⟩ := code_ok (r := some B) hnt hy ih hgf (hdr _ _ fl nt ih hgf) rec.body _ hsB t2 _ n2 ex t3 h3 n' hbr hn2
  have frA : Fresh n n2 m := fr.left (Nat.le_trans abS.le abB.le)
  refine kA { tmps := _, defers := [] } m w F1 s frA w.heap.size ⟨Nat.le_refl _, fun _ h => (by cases h), fun l hl => (by cases hl; exact ⟨rec, hrec⟩), .nil⟩ _ fun a1 w1 m1 mk1 F2 T1 => ?_
  have hle1 : Le m m1 := T1.le frA
  have hmb1 : m1 b = some (B, O, Z) := hle1 _ _ hmb
  obtain ⟨rec1, hrec1, hst2, g1, g2, g3, hsz1, hspec1⟩ := T1.sim.recOf hb2 hk' hmb1 hl
  have hready : rec1.state = .ready := by
    generalize rec1.state = a at hst2 ⊢; generalize rec1.pending = pe at hst2; cases hst2; rfl
  refine ⟨_, run_beginRound hrec1 hready, ?_⟩
  have T2 : Tr P ρ g fl h2 n2 m1 w1 (hst h2 (.bk (cst cs2 (.fn k' (.b true)) 0) MAPZ) b) n2 m1 (w1.putObj B (.loop { rec1 with state := .busy })) :=
    Tr.setMap T1.sim hb2 hflb hmb1 hrec1 (hspec1 (.b true) { rec1 with state := .busy } (cg_cst_in _ _ 0 (by decide)) (.busy _) rfl rfl rfl rfl) (fun _ _ => ⟨_, rfl⟩)
  have frB : Fresh n2 n' m1 := fr.right T1.ext abA.le
  have mk2 := mk1.next T2
  refine kB a1 m1 _ F2 T2.sim frB w.heap.size mk2 _ fun a3 w3 m3 mk3 F3 T3 => ?_
  have hle3 : Le m1 m3 := T3.le frB
  have hmb3 : m3 b = some (B, O, Z) := hle3 _ _ hmb1
  obtain ⟨rec3, hrec3, hst3, r1, r2, r3, hsz3, hspec3⟩ := T3.sim.recOf hb3 hk3 hmb3 hl
  have T4 : Tr P ρ g fl h3 n' m3 w3 (hst h3 (.bk (cst cs3 (.fn k' stE) 0) MAPZ) b) n' m3 (w3.putObj B (.loop { rec3 with state := if jump.isNone then .ready else .done, pending := jump })) :=
    Tr.setMap T3.sim hb3 hflb hmb3 hrec3 (hspec3 stE { rec3 with state := if jump.isNone then .ready else .done, pending := jump } (cg_cst_in _ _ 0 (by decide)) hLSt rfl rfl rfl rfl) (fun _ _ => ⟨_, rfl⟩)
  have TT := ((T1.trans T2 abA.le (Nat.le_refl _)).trans T3 (Nat.le_trans abA.le abS.le) abB.le).trans T4 (Nat.le_trans (Nat.le_trans abA.le abS.le) abB.le) (Nat.le_refl _)
  have hend := run_endRound (P := P) jump hrec3
  have hR : ∃ u m', Ending.returned (.bool jump.isNone) = .returned u ∧ Tr P ρ g fl h n m w (hst h3 (.bk (cst cs3 (.fn k' stE) 0) MAPZ) b) n' m' (w3.putObj B (.loop { rec3 with state := if jump.isNone then .ready else .done, pending := jump })) ∧ den ρ m' (.b ans) u :=
    ⟨_, m3, rfl, TT, by rw [hans]; rfl⟩
  rcases hjump with ⟨rfl, rfl⟩ | ⟨rfl, rfl⟩ | ⟨id, rfl, rfl⟩
  · exact ⟨_, _, hend, hR⟩
  · exact ⟨_, _, hend, hR⟩
  · exact ⟨_, _, hend, hR⟩
theorem compR_f {key np : Nat} {b : RC} {rs : List RS} (hc : compR P key = some (.f np b rs)) : False := by
  unfold compR at hc
  simp only [Option.bind_eq_bind, Option.bind_eq_some_iff] at hc
  obtain ⟨⟨f0, nt, ps, x, y⟩, _, h2⟩ := hc
  simp only at h2
  split at h2
  · cases h2
  · cases h2
/-- a call or a round, those within being the model's -/
theorem any_ok (hy : YsOk ρ ys) (hdr : ∀ (r : Option Nat) (cl : Cl') (fl nt : Nat), ClOk P ρ g cl → g ≤ fl → DrOk r P ρ g fl nt ys cl) {cl : Cl'} (ih : ClOk P ρ g cl) {f : FuncId} {r : RF} (hcf : compF P f = some r) {c : RV} {fl : Nat} {h : HT} {n : Nat} {v : RV} {h' : HT} {n' : Nat} (hgf : g ≤ fl) (hf : fl ≤ n)
    (e2 : callF ys cl f r c fl h n = .ok v h' n') : Ab fl h n h' n' ∧
    (f < BND → known P f = true ∧ ∀ (m : Mp) (w : World) (vs : List Value), Sim P ρ m g h w → Glob P m → denC ρ m c vs → Fresh n n' m → Calls P f vs.toArray w (fun e w' => ∃ u m', e = .returned u ∧ Tr P ρ g fl h n m w h' n' m' w' ∧ den ρ m' v u)) ∧
    (BND ≤ f → ∀ (m : Mp) (w : World) (vs : List Value), Sim P ρ m g h w → Glob P m → denC ρ m c vs → Fresh n n' m → ∃ B args, vs = .map (some B) :: args ∧ RdIn P B args w (fun e w' => ∃ u m', e = .returned u ∧ Tr P ρ g fl h n m w h' n' m' w' ∧ den ρ m' v u)) := by
  rcases Nat.lt_or_ge f BND with q | q
  · obtain ⟨h1, h2, h3⟩ := one_ok hy hdr ih q hcf hgf hf e2
    exact ⟨h1, fun _ => ⟨h2, h3⟩, fun q' => absurd q (Nat.not_lt_of_le q')⟩
  · have hR : compR P (f - BND) = some r := by rw [← hcf]; exact (if_neg (Nat.not_lt_of_le q)).symm
    cases r with
    | f np b rs => exact (compR_f hR).elim
    | r k2 nv sv psl A Bd =>
      obtain ⟨h1, h2⟩ := round_ok hy hdr ih hR hgf hf e2
      exact ⟨h1, fun q' => absurd q' (Nat.not_lt_of_le q), fun _ => h2⟩
/-- a call, of what depth soever -/
theorem call_ok (hy : YsOk ρ ys) (fs : Nat → Option RF) (hfs : ∀ f r, fs f = some r → compF P f = some r) (hdr : ∀ (r : Option Nat) (cl : Cl') (fl nt : Nat), ClOk P ρ g cl → g ≤ fl → DrOk r P ρ g fl nt ys cl) : ∀ deep, ClOk P ρ g (call ys fs deep)
  | 0 => fun f c fl h n v h' n' e _ _ => by cases e
  | deep + 1 => fun f c fl h n v h' n' e hgf hf => by
    have ih := call_ok hy fs hfs hdr deep
    have e1 : gO (SR.bad [92, f]) (fs f) (fun r => callF ys (call ys fs deep) f r c fl h n) = .ok v h' n' := e
    obtain ⟨r, hr, e2⟩ := gO_ok e1 (by simp)
    exact any_ok hy hdr ih (hfs f r hr) hgf hf e2
end Go.Rn
