/-
  One text of a symbolic evaluator over the model, shown sound once for every program: no statement is claimed here.
-/
import Derived.Test.YtendogjdmabknaaRnT
import Derived.Laws.Sem
namespace Go.Rn
variable {ρ : Nat → Int} {m m' : Mp} {P : Program}
variable {g fl n n' nt : Nat} {h h' : HT} {t : FT} {a : Act} {w : World} {v : RV} {ys : Ys} {cl : Cl'}
/-- how one result is read -/
def resSem (tmps : Array Value) : ResultVar → Sem Value
  | .tmp t => pure (tmps.getD t undef)
  | .cell a t => do loadVar t (← asAddr (tmps.getD a undef))
theorem results_run {fn : Func} {tmps : Array Value} {w : World} {vs : List Value} (h : ((fn.results.toList).mapM (resSem tmps)).run P w = .ok vs w) :
    (results fn tmps).run P w = .ok (if h : vs.length = 1 then vs[0] else .tuple vs.toArray) w := by
  have e : fn.results.mapM (resSem tmps) = (List.toArray <$> fn.results.toList.mapM (resSem tmps)) := Array.mapM_eq_mapM_toList
  have e2 : (fn.results.mapM (resSem tmps)).run P w = .ok vs.toArray w := by
    rw [e, map_eq_pure_bind]
    simp [h]
  have e3 : results fn tmps = (fn.results.mapM (resSem tmps) >>= fun vs => pure (if h : vs.size = 1 then vs[0] else .tuple vs)) := by
    unfold results resSem
    congr 1
  rw [e3]
  simp [e2]
noncomputable def resR (t : FT) (h : HT) : RS → RV
  | .t p => tg t p
  | .c p g q => resC h (tg t p) g q
theorem res_cons (t : FT) (h : HT) (x : RS) (l : List RS) : res t h (x :: l) = kons (resR t h x) (res t h l) := by cases x <;> rfl
theorem resOne_ok (F : Fr P ρ m nt t a.tmps) (s : Sim P ρ m g h w) {x : ResultVar} {y : RS} (hc : compRes P nt x = some y) (hu : resR t h y ≠ .un) :
    ∃ u, (resSem a.tmps x).run P w = .ok u w ∧ den ρ m (resR t h y) u := by
  cases x with
  | tmp i =>
    simp only [compRes] at hc
    split at hc
    · rename_i hi
      cases hc
      have e : resR t h (.t (pa 20 (i + 1))) = T.get .un t (i + 1) := tg_pa (Nat.lt_trans hi F.small)
      rw [e] at hu ⊢
      exact ⟨_, rfl, F.slot i hu⟩
    · cases hc
  | cell i ty =>
    simp only [compRes, Option.bind_eq_bind, Option.bind_eq_some_iff] at hc
    obtain ⟨sz, hs, gg, hg', h1⟩ := hc
    split at h1
    · rename_i hi
      cases h1
      have e : resR t h (.c (pa 20 (i + 1)) gg sz) = gP .un (T.get .un t (i + 1)) fun b o => gK .un (hg h b) fun cs _ => bf gg (nU .un (rd cs sz o) fun c => .agg c) (cg cs o) := by
        show resC h (tg t (pa 20 (i + 1))) gg sz = _
        rw [tg_pa (Nat.lt_trans hi F.small)]
        rfl
      rw [e] at hu ⊢
      obtain ⟨b, k, hb, e2⟩ := gP_ok (x := gP .un (T.get .un t (i + 1)) fun b o => gK .un (hg h b) fun cs _ => bf gg (nU .un (rd cs sz o) fun c => .agg c) (cg cs o)) rfl (fun q => hu q.symm)
      rw [← e2] at hu ⊢
      obtain ⟨c, z, hbk, e3⟩ := gK_ok (x := gK .un (hg h b) fun cs _ => bf gg (nU .un (rd cs sz k) fun c => .agg c) (cg cs k)) rfl (fun q => hu q.symm)
      have hmz := gK_mz (d := RV.un) (x := gK .un (hg h b) fun cs _ => bf gg (nU .un (rd cs sz k) fun c => .agg c) (cg cs k)) rfl (fun q => hu q.symm) hbk
      rw [← e3] at hu ⊢
      have hx := F.slot i (by rw [hb]; simp)
      rw [hb] at hx
      obtain ⟨B, O, Z, hm, hx⟩ := hx
      obtain ⟨B', O', Z', C, el, fr, q1, q2, q3, hcl⟩ := cellAt s hbk hmz
      rw [hm] at q1
      cases q1
      have hcell : ∀ j, w.cell? ⟨B, j, none⟩ = C[j]? := fun j => by simp [World.cell?, q2]
      cases gg with
      | true =>
        have hu2 : nU .un (rd c sz k) (fun c => .agg c) ≠ RV.un := hu
        obtain ⟨hu3, e5⟩ := nU_ok (x := nU .un (rd c sz k) (fun c => RV.agg c)) rfl (fun q => hu2 q.symm)
        obtain ⟨_, cs, hl, hd, hc, hj⟩ := rd_ok q3 sz k hu3
        refine ⟨.agg cs.toArray, ?_, ?_⟩
        · have hr := run_loadCells_list (P := P) w ⟨B, O + k, none⟩ cs (fun j u hu => by
            rw [add_at, hcell]; exact hj j u hu)
          rw [hl] at hr
          simp [resSem, hx, asAddr, loadVar, aggOf_run hg', szOf_run hs, hr]
        · show den ρ m (nU .un (rd c sz k) fun c => .agg c) _
          rw [← e5]
          exact ⟨cs, hd, hc, rfl⟩
      | false =>
        have hu2 : cg c k ≠ .un := hu
        obtain ⟨u, hcu, hdu, _⟩ := q3 k hu2
        exact ⟨u, by simp [resSem, hx, asAddr, loadVar, aggOf_run hg', hcell, hcu], hdu⟩
    · cases h1
theorem res_ok (F : Fr P ρ m nt t a.tmps) (s : Sim P ρ m g h w) : ∀ {l : List ResultVar} {rs : List RS}, l.mapM (compRes P nt) = some rs → res t h rs ≠ .un →
    ∃ vs, (l.mapM (resSem a.tmps)).run P w = .ok vs w ∧ denC ρ m (res t h rs) vs
  | [], rs, hc, _ => by
    have : rs = [] := by simpa using hc.symm
    subst this
    exact ⟨[], rfl, denC_nil.2 rfl⟩
  | x :: l, rs, hc, hu => by
    rw [List.mapM_cons] at hc
    simp only [Option.bind_eq_bind, Option.bind_eq_some_iff] at hc
    obtain ⟨y, hy, r, hr, h1⟩ := hc
    cases h1
    rw [res_cons] at hu ⊢
    obtain ⟨h2, h3, h4⟩ := kons_ok (y := kons (resR t h y) (res t h r)) rfl hu
    rw [h4]
    obtain ⟨u, q1, q2⟩ := resOne_ok F s hy h2
    obtain ⟨vs, q3, q4⟩ := res_ok F s hr h3
    exact ⟨u :: vs, by simp [List.mapM_cons, q1, q3], denC_cons.2 ⟨u, vs, rfl, q2, q4⟩⟩
theorem ret_ok (F : Fr P ρ m nt t a.tmps) (s : Sim P ρ m g h w) {fn : Func} {rs : List RS} (hc : fn.results.toList.mapM (compRes P nt) = some rs) (e : ret t h n rs = .ok v h' n') :
    h' = h ∧ n' = n ∧ ∃ u, (results fn a.tmps).run P w = .ok u w ∧ den ρ m v u := by
  unfold ret at e
  rcases gN_ok e (by simp) with ⟨h1, h2⟩ | ⟨x, r, h1, h2⟩
  · cases h2
    obtain ⟨vs, q1, q2⟩ := res_ok F s hc (by rw [h1]; simp)
    rw [h1] at q2
    have := denC_nil.1 q2
    subst this
    exact ⟨rfl, rfl, _, results_run q1, ⟨[], denC_nil.2 rfl, rfl⟩⟩
  · obtain ⟨vs, q1, q2⟩ := res_ok F s hc (by rw [h1]; simp)
    rw [h1] at q2
    obtain ⟨u, us, rfl, q3, q4⟩ := denC_cons.1 q2
    rcases gN_ok h2 (by simp) with ⟨h3, h4⟩ | ⟨y, r2, h3, h4⟩
    · obtain ⟨_, rfl, rfl, rfl⟩ := okV_ok h4
      rw [h3] at q4
      have := denC_nil.1 q4
      subst this
      exact ⟨rfl, rfl, _, results_run q1, q3⟩
    · cases h4
      rw [h3] at q4
      obtain ⟨u2, us2, rfl, q5, q6⟩ := denC_cons.1 q4
      exact ⟨rfl, rfl, _, results_run q1, ⟨u :: u2 :: us2, denC_cons.2 ⟨u, _, rfl, q3, denC_cons.2 ⟨u2, us2, rfl, q5, q6⟩⟩, rfl⟩⟩
/-- blocks for deferred calls shut, new ones alone -/
structure ShutD (base : Nat) (w w' : World) : Prop where
  os : w'.os = w.os
  tape : w'.tape = w.tape
  output : w'.output = w.output
  size : w'.heap.size = w.heap.size
  old : ∀ k, k < base → w'.heap[k]? = w.heap[k]?
  same : ∀ (k : Nat) (o : Obj), w.heap[k]? = some o → (∀ x, o ≠ .deferred x) → w'.heap[k]? = some o
theorem ShutD.refl (base : Nat) (w : World) : ShutD base w w := ⟨rfl, rfl, rfl, rfl, fun _ _ => rfl, fun _ _ h _ => h⟩
theorem ShutD.trans {base : Nat} {w w1 w2 : World} (a : ShutD base w w1) (b : ShutD base w1 w2) : ShutD base w w2 :=
  ⟨b.os.trans a.os, b.tape.trans a.tape, b.output.trans a.output, b.size.trans a.size, fun k hk => (b.old k hk).trans (a.old k hk), fun k o h1 h2 => b.same k o (a.same k o h1 h2) h2⟩
theorem ShutD.put {base D : Nat} {w : World} (hD : base ≤ D) {x : Option (List Deferred)} (h : w.heap[D]? = some (.deferred x)) : ShutD base w (w.putObj D (.deferred none)) :=
  ⟨rfl, rfl, rfl, World.putObj_size, fun k hk => World.putObj_heap_other (by omega), fun k o h1 h2 => by
    by_cases e : k = D
    · subst e; rw [h] at h1; exact absurd (Option.some.inj h1).symm (h2 x)
    · rw [World.putObj_heap_other e]; exact h1⟩
theorem Tr.shut {h1 : HT} {n1 : Nat} {m1 : Mp} {w0 w1 w2 : World} (T : Tr P ρ g fl h n m w0 h1 n1 m1 w1) (k : ShutD w0.heap.size w1 w2) : Tr P ρ g fl h n m w0 h1 n1 m1 w2 := by
  refine ⟨⟨fun b c z hb => ?_, T.sim.inj⟩, T.ext, ⟨k.os.trans T.keep.os, k.tape.trans T.keep.tape, k.output.trans T.keep.output, by rw [k.size]; exact T.keep.size, fun j hj hn => (k.old j hj).trans (T.keep.block j hj hn), fun j r hr => ?_⟩, T.orig⟩
  · obtain ⟨B, O, Z, q1, q2⟩ := T.sim.cell b c z hb
    refine ⟨B, O, Z, q1, q2.move ?_ (Le.refl _)⟩
    rcases q2 with ⟨_, C, el, fr, q3, _⟩ | ⟨_, o, q3, q4⟩
    · rw [q3]; exact k.same _ _ q3 (fun x hx => by cases hx)
    · rw [q3]; exact k.same _ _ q3 (fun x hx => by rw [hx] at q4; exact q4.elim)
  · obtain ⟨r', hr'⟩ := T.keep.loops j r hr
    exact ⟨r', k.same _ _ hr' (fun x hx => by cases hx)⟩
/-- a function leaves, what it has deferred being nothing -/
theorem leaves_ok {fn : Func} {tmps : Array Value} {R : Ending → World → Prop} {base : Nat} : ∀ (ds : List Deferred) (w : World), ds.Nodup → (∀ d ∈ ds, ∃ D, base ≤ D ∧ d = { target := .collected D, args := #[] } ∧ w.heap[D]? = some (.deferred (some []))) →
    (∀ w', ShutD base w w' → ∃ v, (results fn tmps).run P w' = .ok v w' ∧ R (.returned v) w') → LeavesInM (WF none) 0 P fn tmps R ds .returning w
  | [], w, _, _, hR => hR w (ShutD.refl _ _)
  | d :: ds, w, hn, hd, hR => by
    obtain ⟨D, h1, rfl, h3⟩ := hd d List.mem_cons_self
    refine ⟨by simp, .inl ⟨D, w.putObj D (.deferred none), rfl, run_takeDeferred h3, leaves_ok ds _ (List.nodup_cons.1 hn).2 (fun d' hd' => ?_) fun w' hw' => hR w' ((ShutD.put h1 h3).trans hw')⟩⟩
    obtain ⟨D', q1, rfl, q3⟩ := hd d' (List.mem_cons_of_mem _ hd')
    refine ⟨D', q1, rfl, ?_⟩
    have hne : D' ≠ D := fun e => by subst e; exact (List.nodup_cons.1 hn).1 hd'
    rw [World.putObj_heap_other hne]; exact q3
/-- one call, those within being the model's -/
theorem one_ok (hy : YsOk ρ ys) (hdr : ∀ (r : Option Nat) (cl : Cl') (fl nt : Nat), ClOk P ρ g cl → g ≤ fl → DrOk r P ρ g fl nt ys cl) {cl : Cl'} (ih : ClOk P ρ g cl) {f : FuncId} (hlt : f < BND) {r : RF} (hcf : compF P f = some r) {c : RV} {fl : Nat} {h : HT} {n : Nat} {v : RV} {h' : HT} {n' : Nat} (hgf : g ≤ fl) (hf : fl ≤ n)
    (e2 : callF ys cl f r c fl h n = .ok v h' n') : Ab fl h n h' n' ∧ known P f = true ∧
    ∀ (m : Mp) (w : World) (vs : List Value), Sim P ρ m g h w → Glob P m → denC ρ m c vs → Fresh n n' m → Calls P f vs.toArray w (fun e w' => ∃ u m', e = .returned u ∧ Tr P ρ g fl h n m w h' n' m' w' ∧ den ρ m' v u) := by
  have hcf2 : (do
      let fn ← P.funcs[f]?
      let c ← fn.body
      let rs ← fn.results.toList.mapM (compRes P fn.ntmps)
      if known P f && decide (fn.ntmps < 1000000) && decide ((rngs c).length ≤ 256) then some (.f (fn.params.size + fn.nfree) (comp P fn.ntmps f c 0) rs) else none) = some r := by
    rw [← hcf]; exact (if_pos hlt).symm
  simp only [Option.bind_eq_bind, Option.bind_eq_some_iff] at hcf2
  obtain ⟨fn, hfn, bd, hbd, rs, hrs, h1⟩ := hcf2
  split at h1
  case isFalse => cases h1
  rename_i hk
  cases h1
  simp only [Bool.and_eq_true, decide_eq_true_eq] at hk
  have e3 : gO (SR.bad [93]) (chLen c) (fun q => bf (Nat.beq q (fn.params.size + fn.nfree)) (retR (code ys cl fl (comp P fn.ntmps f bd 0) (lay c te 0) h n) f rs) (.bad [94, f])) = .ok v h' n' := e2
  obtain ⟨q, hq, e4⟩ := gO_ok e3 (by simp)
  obtain ⟨hq2, e5⟩ := bf_ok e4 (by simp)
  have hrg : ∀ (j : Nat) (x : Array Tmp × Code × Code), (rngs bd)[j]? = some x → 0 + j < 256 ∧ loopAt P (keyAt f (0 + j)) = some (f, fn.ntmps, x.1, x.2.1, x.2.2) := fun j x hj => by
    have hj2 : j < 256 := Nat.lt_of_lt_of_le (List.getElem?_eq_some_iff.1 hj).1 hk.2
    refine ⟨by omega, ?_⟩
    have k1 : keyAt f (0 + j) / 256 = f := by unfold keyAt; omega
    have k2 : keyAt f (0 + j) % 256 = j := by unfold keyAt; omega
    unfold loopAt
    rw [k1, k2]
    simp [hfn, hbd, hj, hk.2]
  have hco := code_ok (r := none) hk.1.2 hy ih hgf (hdr _ _ fl fn.ntmps ih hgf) bd 0 hrg (lay c te 0) h n
  have fin : ∀ (e : Exit) (t1 : FT) (h1 : HT) (n1 : Nat), (e = .normal ∨ e = .ret) → brIs (code ys cl fl (comp P fn.ntmps f bd 0) (lay c te 0) h n) e t1 h1 n1 → ret t1 h1 n1 rs = .ok v h' n' →
      Ab fl h n h' n' ∧ known P f = true ∧ ∀ (m : Mp) (w : World) (vs : List Value), Sim P ρ m g h w → Glob P m → denC ρ m c vs → Fresh n n' m → Calls P f vs.toArray w (fun e w' => ∃ u m', e = .returned u ∧ Tr P ρ g fl h n m w h' n' m' w' ∧ den ρ m' v u) := by
    intro e t1 h1 n1 he hbr hret
    obtain ⟨ab, k⟩ := hco e t1 h1 n1 hbr hf
    have hhn : h' = h1 ∧ n' = n1 := by
      unfold ret at hret
      rcases gN_ok hret (by simp) with ⟨_, h2⟩ | ⟨x, r, _, h2⟩
      · cases h2; exact ⟨rfl, rfl⟩
      · rcases gN_ok h2 (by simp) with ⟨_, h4⟩ | ⟨y, r2, _, h4⟩
        · obtain ⟨_, _, q1, q2⟩ := okV_ok h4; exact ⟨q1, q2⟩
        · cases h4; exact ⟨rfl, rfl⟩
    obtain ⟨rfl, rfl⟩ := hhn
    refine ⟨ab, hk.1.1, fun m w vs s gl hd fr => ?_⟩
    refine (callsIn_wide (n := 0)).1 (callsIn_of_wp_marks (F := WF none) hfn hbd trivial ?_)
    have F0 : Fr P ρ m fn.ntmps (lay c te 0) (vs.toArray ++ Array.replicate (fn.ntmps - vs.toArray.size) undef) := by
      refine ⟨by simp; omega, hk.1.2, fun i hi => ?_, gl⟩
      rcases lay_ok q vs te 0 hq hd i hi with ⟨_, _, u, h3, h4⟩ | ⟨_, h3⟩
      · have hlt : i < vs.length := by
          rcases Nat.lt_or_ge i vs.length with p | p
          · exact p
          · rw [Nat.sub_zero, List.getElem?_eq_none p] at h3; cases h3
        rw [Nat.sub_zero] at h3
        have : (vs.toArray ++ Array.replicate (fn.ntmps - vs.toArray.size) undef).getD i undef = u := by
          rw [Array.getD_eq_getD_getElem?, Array.getElem?_append_left (by simpa using hlt)]
          simp [h3]
        rw [this]; exact h4
      · exact absurd h3 hi
    refine k _ m w F0 s fr w.heap.size Marks.nil _ fun a1 w1 m1 d1 F1 T1 => ?_
    have hl : LeavesInM (WF none) 0 P fn a1.tmps (fun e w' => ∃ u m', e = .returned u ∧ Tr P ρ g fl h n m w h' n' m' w' ∧ den ρ m' v u) a1.defers .returning w1 :=
      leaves_ok a1.defers w1 d1.2.2.2 (fun d hd => by obtain ⟨D, q1, q2, q3, _⟩ := d1.2.1 d hd; exact ⟨D, q1, q2, q3⟩) fun w2 hw2 => by
        have T2 := T1.shut hw2
        obtain ⟨_, _, u, hu1, hu2⟩ := ret_ok F1 T2.sim hrs hret
        exact ⟨u, hu1, u, m1, rfl, T2, hu2⟩
    rcases he with rfl | rfl
    · exact hl
    · exact hl
  cases hb : code ys cl fl (comp P fn.ntmps f bd 0) (lay c te 0) h n with
  | nx t1 h1 n1 => rw [hb] at e5; exact fin .normal t1 h1 n1 (.inl rfl) (by rw [hb]; exact brIs_nx.2 ⟨rfl, rfl, rfl, rfl⟩) e5
  | rt t1 h1 n1 => rw [hb] at e5; exact fin .ret t1 h1 n1 (.inr rfl) (by rw [hb]; exact brIs_rt.2 ⟨rfl, rfl, rfl, rfl⟩) e5
  | ex id t1 h1 n1 => rw [hb] at e5; cases e5
  | bad l => rw [hb] at e5; cases e5
end Go.Rn
