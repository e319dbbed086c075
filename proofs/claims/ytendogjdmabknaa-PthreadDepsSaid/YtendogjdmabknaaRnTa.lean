/-
  One text of a symbolic evaluator over the model, shown sound once for every program: no statement is claimed here.
-/
import Derived.Test.YtendogjdmabknaaRnS
namespace Go.Rn
variable {ρ : Nat → Int} {m m' : Mp} {P : Program}
variable {g fl n n' nt : Nat} {h h' : HT} {t : FT} {a : Act} {w : World} {v : RV} {ys : Ys} {cl : Cl'} {r : Option Nat}
/-- an object of the world's that no block stands for -/
theorem Tr.alloc (s : Sim P ρ m g h w) (o : Obj) : Tr P ρ g fl h n m w h n m (w.alloc o) :=
  ⟨⟨fun b c z hb => let ⟨B, O, Z, h1, h2⟩ := s.cell b c z hb; ⟨B, O, Z, h1, h2.move (RowKit.Below.heap_alloc _ _ _ h2.lt) (Le.refl _)⟩, s.inj⟩, Ext.refl _ _ _,
    ⟨rfl, rfl, rfl, by simp, fun k hk _ => RowKit.Below.heap_alloc _ _ _ hk, fun k r hr => ⟨r, (RowKit.Below.heap_alloc _ _ _ (Array.getElem?_eq_some_iff.1 hr).1).trans hr⟩⟩,
    fun b c z _B O Z h1 h2 h3 => .inr ⟨b, c, z, O, Z, h1, h2, h3⟩⟩
/-- a loop is entered -/
theorem enter_ok (s : Sim P ρ m g h w) {base : Nat} {ds : List Deferred} (mk : Marks r fl base ds h m w) (fn : FuncId) (tmps : Array Value) (ps : Array Tmp) (x y : Code) : ∃ (mark : List Deferred) (w0 : World) (rec : Loop),
    (Instr.enterLoop fn tmps ps x y r).run P w = .ok (w0.heap.size, mark) (w0.alloc (.loop rec)) ∧ rec.state = .ready ∧ rec.pending = none ∧ rec.params = ps ∧ rec.tmps = tmps ∧ rec.assign = x ∧ rec.body = y ∧
    Tr P ρ g fl h n m w h n m w0 ∧ Marks r fl base (mark ++ ds) h m w0 := by
  cases r with
  | none =>
    refine ⟨[{ target := .collected w.heap.size, args := #[] }], w.alloc (.deferred (some [])), { state := .ready, pending := none, fn, tmps, params := ps, assign := x, body := y, defers := w.heap.size }, ?_, rfl, rfl, rfl, rfl, rfl, rfl, Tr.alloc s _, ?_⟩
    · have := run_enterLoop_outer (P := P) (w := w) fn tmps ps x y
      rw [← World.size_alloc w (.deferred (some []))] at this
      exact this
    · have T := Tr.alloc (fl := fl) (n := n) s (.deferred (some []))
      have k := mk.next T
      refine ⟨k.1, fun d hd => ?_, k.2.2.1, List.nodup_cons.2 ⟨fun hd => ?_, k.2.2.2⟩⟩
      · rcases List.mem_cons.1 hd with rfl | hd
        · exact ⟨_, mk.1, rfl, World.alloc_heap_new w _, fun b c z O Z _ h2 h3 => by have := s.lt h2 h3; omega⟩
        · exact k.2.1 d hd
      · obtain ⟨D, _, h1, h3, _⟩ := mk.2.1 _ hd
        have := (Array.getElem?_eq_some_iff.1 h3).1
        simp only [Deferred.mk.injEq, Target.collected.injEq] at h1
        omega
  | some l0 =>
    obtain ⟨r0, h0⟩ := mk.2.2.1 l0 rfl
    exact ⟨[], w, { state := .ready, pending := none, fn, tmps, params := ps, assign := x, body := y, defers := r0.defers }, run_enterLoop_inner (P := P) h0 fn tmps ps x y, rfl, rfl, rfl, rfl, rfl, rfl, Tr.refl s, mk⟩
theorem evL_len : ∀ l : List RO, evL t l ≠ .un → chLen (evL t l) = some l.length
  | [], _ => rfl
  | x :: l, hu => by
    have e : evL t (x :: l) = kons (ev t x) (evL t l) := rfl
    obtain ⟨_, h2, h3⟩ := kons_ok e.symm hu
    rw [h3]
    show gO none (chLen (evL t l)) (fun n => some (Nat.succ n)) = _
    rw [evL_len l h2]
    rfl
theorem evS_ok (F : Fr P ρ m nt t a.tmps) {is : List Nat} (hi : ∀ i ∈ is, i < nt) (hu : evL t ((is.map fun i => pa 20 (i + 1)).map RO.t) ≠ .un) : denC ρ m (evL t ((is.map fun i => pa 20 (i + 1)).map RO.t)) (is.map fun i => a.tmps.getD i undef) := by
  have e : (is.map fun i => pa 20 (i + 1)).map RO.t = (is.map Operand.tmp).map (opd P nt) := by
    rw [List.map_map, List.map_map]
    apply List.map_congr_left
    intro i hi'
    show RO.t (pa 20 (i + 1)) = if i < nt then .t (pa 20 (i + 1)) else .c .un
    rw [if_pos (hi i hi')]
  rw [e] at hu ⊢
  have := evL_ok F _ hu
  have e2 : (is.map Operand.tmp).map a.eval = is.map fun i => a.tmps.getD i undef := by rw [List.map_map]; rfl
  rw [e2] at this
  exact this
/-- the slots that a round has, as numbers -/
theorem svOf_is (nt : Nat) (ps : List Pa) (A B : RC) : ∃ is : List Nat, svOf nt ps A B = is.map (fun i => pa 20 (i + 1)) ∧ ∀ i ∈ is, i < nt :=
  ⟨_, rfl, fun i hi => by simpa using (List.mem_filter.1 hi).1⟩
/-- a new record's cells -/
theorem loop_cells (F : Fr P ρ m nt t a.tmps) (hle : Le m m') {key : Nat} {is : List Nat} (hi : ∀ i ∈ is, i < nt) (hu : evL t ((is.map fun i => pa 20 (i + 1)).map RO.t) ≠ .un) :
    ∀ (j : Nat) (p : Pa), (is.map fun i => pa 20 (i + 1))[j]? = some p → cg (cst (lay (.cons .np (evL t ((is.map fun i => pa 20 (i + 1)).map RO.t))) ce 0) (.fn key (.b false)) 0) (1 + j) ≠ .un →
      den ρ m' (cg (cst (lay (.cons .np (evL t ((is.map fun i => pa 20 (i + 1)).map RO.t))) ce 0) (.fn key (.b false)) 0) (1 + j)) (a.tmps.getD (p.val - 1) undef) := by
  intro j p hp hne
  have hs := evS_ok F hi hu
  have hlen := evL_len _ hu
  rw [cg_cst_ne _ _ (show 1 + j ≠ 0 by omega)] at hne ⊢
  have hd : denC ρ m (.cons .np (evL t ((is.map fun i => pa 20 (i + 1)).map RO.t))) (.pointer none :: is.map fun i => a.tmps.getD i undef) := denC_cons.2 ⟨_, _, rfl, rfl, hs⟩
  have hl : chLen (.cons .np (evL t ((is.map fun i => pa 20 (i + 1)).map RO.t))) = some (((is.map fun i => pa 20 (i + 1)).map RO.t).length + 1) := by
    show gO none (chLen (evL t _)) (fun n => some (Nat.succ n)) = _
    rw [hlen]; rfl
  rcases lay_ok _ _ ce 0 hl hd (1 + j) hne with ⟨_, _, v, h2, h3⟩ | ⟨_, h2⟩
  · rw [Nat.sub_zero, Nat.add_comm 1 j, List.getElem?_cons_succ, List.getElem?_map] at h2
    rw [List.getElem?_map] at hp
    cases hj : is[j]? with
    | none => rw [hj] at hp; cases hp
    | some i =>
      rw [hj] at hp h2
      have hii := hi i (List.mem_of_getElem? hj)
      have hp' : pa 20 (i + 1) = p := Option.some.inj hp
      have hv' : a.tmps.getD i undef = v := Option.some.inj h2
      have hsm := F.small
      have hval : p.val = i + 1 := by rw [← hp', pa_val 20 (i + 1) (by omega) (by show i + 1 < 1048576; omega)]
      rw [hval, Nat.add_sub_cancel, hv']
      exact den_le hle h3
  · rw [h2] at hne; exact absurd rfl hne
/-- what is plain of a range's way through -/
theorem rfC_parts {F0 : BR} {g0 : RO} {key : Nat} {sv : List Pa} (hX : rfC cl fl g0 key sv t h n = F0) (hne : ∀ l, BR.bad l ≠ F0) : ∃ f c v h2 n2 cs k s, ev t g0 = .fn f c ∧ f < BND ∧ evL t (sv.map RO.t) ≠ .un ∧ fl ≤ n ∧
    cl f (.cons (.fn (33554432 + key) (.cons (.mp n) .nil)) c) fl (hst h (.bk (cst (lay (.cons .np (evL t (sv.map RO.t))) ce 0) (.fn key (.b false)) 0) MAPZ) n) (n + 1) = .ok v h2 n2 ∧
    hg h2 n = .bk cs MAPZ ∧ cg cs 0 = .fn k s ∧ ((s = .b false ∧ F0 = .nx t (hst h2 .no n) n2) ∨ (s = .nil ∧ F0 = .rt t (hst h2 .no n) n2) ∨ ∃ id o, s = .p id o ∧ F0 = .ex id t (hst h2 .no n) n2) := by
  unfold rfC at hX
  obtain ⟨f, c, h1, e1⟩ := gF_ok hX (hne _)
  rcases bf_or e1 with ⟨_, e2⟩ | ⟨hlt, e2⟩
  · exact absurd e2 (hne _)
  obtain ⟨h3, e3⟩ := nU_ok e2 (hne _)
  obtain ⟨h4, e4⟩ := bf_ok e3 (hne _)
  rw [fT_eq, fT_eq, fT_eq] at e4
  cases hcl : cl f (.cons (.fn (Nat.add 33554432 key) (.cons (.mp n) .nil)) c) fl (hst h (.bk (cst (lay (.cons .np (evL t (sv.map RO.t))) ce 0) (.fn key (.b false)) 0) MAPZ) n) (Nat.succ n) with
  | bad l => rw [hcl] at e4; exact absurd e4 (hne _)
  | ok v h2 n2 =>
    rw [hcl] at e4
    have e5 : gMK (BR.bad [183]) (hg h2 n) (fun cs => fT (hst h2 .no n) fun h' => rfState (cg cs 0) t h' n2) = F0 := e4
    obtain ⟨cs, h5, e6⟩ := gMK_ok e5 (hne _)
    rw [fT_eq] at e6
    unfold rfState at e6
    obtain ⟨k, s, h6, e7⟩ := gF_ok e6 (hne _)
    refine ⟨f, c, v, h2, n2, cs, k, s, h1, ?_, h3, ble_ok h4, hcl, h5, h6, ?_⟩
    · rcases Nat.lt_or_ge f BND with q | q
      · exact q
      · rw [Nat.ble_eq_true_of_le q] at hlt; cases hlt
    · cases s <;> first | exact absurd e7 (hne _) | skip
      · rename_i busy
        have e8 : bf busy (BR.bad [187]) (.nx t (hst h2 .no n) n2) = F0 := e7
        cases busy with
        | true => exact absurd e8 (hne _)
        | false => exact .inl ⟨rfl, e8.symm⟩
      · rename_i id o
        exact .inr (.inr ⟨id, o, rfl, e7.symm⟩)
      · exact .inr (.inl ⟨rfl, e7.symm⟩)
theorem brIs_ne {R : BR} {e : Exit} {t' : FT} (hr : brIs R e t' h' n') : ∀ l, BR.bad l ≠ R := fun l q => brIs_bad (by rw [q]; exact hr)
/-- a range over a function -/
theorem rf_ok (hnt : nt < 1000000) (hcl : ClOk P ρ g cl) (hgf : g ≤ fl) {g0 : Operand} {ps : Array Tmp} {x y : Code} {fi i : Nat} (hi : i < 256) (hl : loopAt P (keyAt fi i) = some (fi, nt, ps, x, y)) (hps : ps.toList.all (fun t => decide (t < nt)) = true) :
    BdOk r P ρ g fl nt (rfC cl fl (opd P nt g0) (keyAt fi i) (svOf nt (slotsOf ps) (comp P nt fi x (i + 1)) (comp P nt fi y (i + 1 + (rngs x).length)))) (fun Q a w => (Code.rangeFunc g0 ps x y).wpIn (WF r) 0 P Q a w) := by
  intro t h n e t' h' n' hr hf
  have hne := brIs_ne hr
  generalize hX : rfC cl fl (opd P nt g0) (keyAt fi i) (svOf nt (slotsOf ps) (comp P nt fi x (i + 1)) (comp P nt fi y (i + 1 + (rngs x).length))) t h n = X at *
  obtain ⟨f, c, v, h2, n2, cs, k, s, q1, q2, q3, q4, q5, q6, q7, q8⟩ := rfC_parts hX hne
  have hR : compR P (keyAt fi i) = some (.r (keyAt fi i) (svOf nt (slotsOf ps) (comp P nt fi x (i + 1)) (comp P nt fi y (i + 1 + (rngs x).length))).length (svOf nt (slotsOf ps) (comp P nt fi x (i + 1)) (comp P nt fi y (i + 1 + (rngs x).length))) (slotsOf ps) (comp P nt fi x (i + 1)) (comp P nt fi y (i + 1 + (rngs x).length))) := by
    unfold compR
    rw [hl]
    have hmod : keyAt fi i % 256 = i := by unfold keyAt; omega
    simp only [Option.bind_eq_bind, Option.bind_some, hmod, hps, Bool.and_true, decide_eq_true_eq]
    rw [if_pos hnt]
  obtain ⟨is, his, hin⟩ := svOf_is nt (slotsOf ps) (comp P nt fi x (i + 1)) (comp P nt fi y (i + 1 + (rngs x).length))
  generalize svOf nt (slotsOf ps) (comp P nt fi x (i + 1)) (comp P nt fi y (i + 1 + (rngs x).length)) = sv at *
  subst his
  generalize hcells : cst (lay (.cons .np (evL t ((is.map fun i => pa 20 (i + 1)).map RO.t))) ce 0) (.fn (keyAt fi i) (.b false)) 0 = cells at *
  obtain ⟨ab, hc1, _⟩ := hcl f _ fl _ _ _ _ _ q5 hgf (Nat.le_trans q4 (Nat.le_succ n))
  obtain ⟨hkn, hcall⟩ := hc1 q2
  have abN : Ab fl h n (hst h (.bk cells MAPZ) n) (n + 1) := Ab.new _ q4
  have abT : Ab fl h n (hst h2 .no n) n2 := (abN.trans ab).trans (Ab.set .no q4 (fun _ _ q => by cases q))
  -- the end, whichever it is
  have fin : t' = t ∧ h' = hst h2 .no n ∧ n' = n2 := by
    rcases q8 with ⟨_, rfl⟩ | ⟨_, rfl⟩ | ⟨id, o, _, rfl⟩
    · obtain ⟨_, h1, h3, h4⟩ := brIs_nx.1 hr; exact ⟨h1, h3, h4⟩
    · obtain ⟨_, h1, h3, h4⟩ := brIs_rt.1 hr; exact ⟨h1, h3, h4⟩
    · obtain ⟨_, h1, h3, h4⟩ := brIs_ex.1 hr; exact ⟨h1, h3, h4⟩
  obtain ⟨rfl, rfl, rfl⟩ := fin
  refine ⟨abT, fun a m w F s0 fr base mk Q hQ => ?_⟩
  have dg := opd_ok F g0 (by rw [q1]; simp)
  rw [q1] at dg
  obtain ⟨caps, hcaps, hgv⟩ := dg
  rw [fnV_lt q2] at hgv
  have hmn : m n = none := fr n (Nat.le_refl _) (Nat.lt_of_lt_of_le (Nat.lt_succ_self _) ab.le)
  refine wpIn_rangeFunc fun fn hfn => ?_
  obtain ⟨mark, w0, rec, g1, g2, g3, g4, g5, g6, g7, T0, mk0⟩ := enter_ok (fl := fl) (n := n) s0 mk fn a.tmps ps x y
  have hle : Le m (upd m n (w0.heap.size, 0, 0)) := upd_le hmn
  have hSpec : Spec P ρ (upd m n (w0.heap.size, 0, 0)) cells (.loop rec) := by
    refine ⟨keyAt fi i, .b false, _, _, _, _, _, fi, nt, ?_, ?_, by rw [g4, g6, g7]; exact hl, hR, by rw [g5]; exact F.size, ?_⟩
    · rw [← hcells]; exact cg_cst_in _ _ 0 (by decide)
    · rw [g2, g3]; exact .ready
    · rw [g5, ← hcells]; exact loop_cells F hle hin q3
  have T1 := Tr.newMap (fl := fl) T0.sim hmn hSpec
  have F1 : Fr P ρ (upd m n (w0.heap.size, 0, 0)) nt t' a.tmps := F.le hle
  have fr1 : Fresh (n + 1) n' (upd m n (w0.heap.size, 0, 0)) := fun b h1 h3 => by unfold upd; rw [if_neg (by omega)]; exact fr b (by omega) h3
  have hC := hcall _ _ (.func (.yield w0.heap.size) #[] #[] :: caps) T1.sim F1.glob (denC_cons.2 ⟨_, _, rfl, ⟨[.map (some w0.heap.size)], denC_cons.2 ⟨_, _, rfl, ⟨w0.heap.size, 0, 0, upd_self _ _, rfl⟩, denC_nil.2 rfl⟩, (fnV_yield _ _).symm⟩, den_le hle hcaps⟩) fr1
  refine ⟨w0.heap.size, mark, w0.alloc (.loop rec), { target := .fn (.func f) caps.toArray, args := #[.func (.yield w0.heap.size) #[] #[]] }, w0.alloc (.loop rec), f, #[.func (.yield w0.heap.size) #[] #[]] ++ caps.toArray, w0.alloc (.loop rec), g1, ?_, fun _ _ => trivial, ?_, fun q => (by cases q), ?_⟩
  · simp only [resolve, hgv]
    simp [Deferred.ofValue, Act.eval]
  · simp [invoke, known_run hkn]
  · have hargs : (.func (.yield w0.heap.size) #[] #[] :: caps : List Value).toArray = #[.func (.yield w0.heap.size) #[] #[]] ++ caps.toArray := by apply Array.ext'; simp
    rw [hargs] at hC
    refine (calls_wf hC).mono ?_
    rintro e3 w3 ⟨u, m3, rfl, T2, _⟩
    obtain ⟨B, O, Z, rec3, r1, r2, r3⟩ := T2.sim.loop q6 q7
    have hB : B = w0.heap.size := by
      have := T2.ext n (.inl (Nat.lt_succ_self n))
      rw [r1, upd_self] at this
      cases this; rfl
    subst hB
    obtain ⟨key3, s3, nv3, sv3, psl3, A3, B3, f3, nt3, p1, p2, p3, p4, p5, p6⟩ := r3
    rw [q7] at p1
    cases p1
    have hnb : rec3.state ≠ .busy := by
      intro hb
      generalize rec3.state = st at p2 hb
      generalize rec3.pending = pe at p2
      subst hb
      rcases q8 with ⟨rfl, _⟩ | ⟨rfl, _⟩ | ⟨id, o, rfl, _⟩ <;> cases p2
    have hEnd := run_endLoop (P := P) r2 hnb
    have T3 : Tr P ρ g fl h2 n' m3 w3 (hst h2 (.bk (cst cs (.fn k .np) 0) MAPZ) n) n' m3 { w3 with heap := w3.heap.setIfInBounds w0.heap.size (.loop { rec3 with state := .exhausted }) } := by
      refine Tr.setMap (ob' := .loop { rec3 with state := .exhausted }) T2.sim q6 q4 r1 r2 ?_ (fun _ _ => ⟨_, rfl⟩)
      refine ⟨k, .np, nv3, sv3, psl3, A3, B3, f3, nt3, cg_cst_in _ _ 0 (by decide), .gone _, p3, p4, p5, fun j p hj hu => ?_⟩
      rw [cg_cst_ne _ _ (by omega)] at hu ⊢
      exact p6 j p hj hu
    have T4 : Tr P ρ g fl h2 n' m3 w3 (hst h2 .no n) n' m3 { w3 with heap := w3.heap.setIfInBounds w0.heap.size (.loop { rec3 with state := .exhausted }) } := by
      refine T3.trans (Tr.sub T3.sim fun b c1 z1 hb => ?_) (Nat.le_refl _) (Nat.le_refl _)
      rcases hg_hst h2 .no n b with ⟨_, h3 | h3⟩ | ⟨h3, h4⟩
      · rw [h3] at hb; cases hb
      · rw [h3] at hb; cases hb
      · rw [h4] at hb
        rcases hg_hst h2 (.bk (cst cs (.fn k .np) 0) MAPZ) n b with ⟨h5, _⟩ | ⟨_, h5⟩
        · exact absurd h5 h3
        · rw [h5]; exact hb
    obtain ⟨w4, hw4⟩ : ∃ w4 : World, w4 = { w3 with heap := w3.heap.setIfInBounds w0.heap.size (.loop { rec3 with state := .exhausted }) } := ⟨_, rfl⟩
    rw [← hw4] at T4
    have hEnd' : (Instr.endLoop w0.heap.size).run P w3 = .ok rec3.pending w4 := by rw [hw4]; exact hEnd
    clear hw4 hEnd T3
    have TT := ((T0.trans T1 (Nat.le_refl _) (Nat.le_succ _)).trans T2 (Nat.le_succ _) ab.le).trans T4 (Nat.le_trans (Nat.le_succ _) ab.le) (Nat.le_refl _)
    have mkE := ((mk0.next T1).next T2).next T4
    have FE : Fr P ρ m3 nt t' a.tmps := F.le (TT.ext.le fr)
    refine ⟨rec3.pending, w4, hEnd', ?_⟩
    rcases q8 with ⟨rfl, rfl⟩ | ⟨rfl, rfl⟩ | ⟨id, o, rfl, rfl⟩
    · obtain ⟨rfl, _⟩ := brIs_nx.1 hr
      have hp : rec3.pending = none := by
        generalize rec3.state = st at p2; generalize rec3.pending = pe at p2 ⊢; cases p2; rfl
      rw [hp]
      exact hQ _ _ _ mkE FE TT
    · obtain ⟨rfl, _⟩ := brIs_rt.1 hr
      have hp : rec3.pending = some .ret := by
        generalize rec3.state = st at p2; generalize rec3.pending = pe at p2 ⊢; cases p2; rfl
      rw [hp]
      exact wpIn_ret (hQ _ _ _ mkE FE TT)
    · obtain ⟨rfl, _⟩ := brIs_ex.1 hr
      have hp : rec3.pending = some (.exit id) := by
        generalize rec3.state = st at p2; generalize rec3.pending = pe at p2 ⊢; cases p2; rfl
      rw [hp]
      exact wpIn_exit (hQ _ _ _ mkE FE TT)
end Go.Rn
