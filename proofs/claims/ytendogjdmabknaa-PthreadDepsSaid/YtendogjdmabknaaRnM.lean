/-
  One text of a symbolic evaluator over the model, shown sound once for every program: no statement is claimed here.
-/
import Derived.Test.YtendogjdmabknaaRnL
namespace Go.Rn
variable {ρ : Nat → Int} {m m' : Mp} {P : Program}
theorem mapM_len {α β : Type} {f : α → Option β} : ∀ {l : List α} {r : List β}, l.mapM f = some r → r.length = l.length ∧ ∀ (k : Nat) (x : α), l[k]? = some x → ∃ y, f x = some y ∧ r[k]? = some y
  | [], r, h => by simp at h; subst h; simp
  | x :: l, r, h => by
    rw [List.mapM_cons] at h
    cases hx : f x with
    | none => rw [hx] at h; cases h
    | some y =>
      cases hl : l.mapM f with
      | none => rw [hx, hl] at h; cases h
      | some q =>
        rw [hx, hl] at h
        cases h
        obtain ⟨h1, h2⟩ := mapM_len hl
        refine ⟨by simp [h1], fun k z hk => ?_⟩
        cases k with
        | zero => simp at hk; subst hk; exact ⟨y, hx, rfl⟩
        | succ k => simpa using h2 k z (by simpa using hk)
section
variable {g fl n n' nt lim : Nat} {h h' : HT} {t : FT} {a : Act} {o : Oper} {w : World} {v : RV} {ys : Ys} {cl : Cl'}
variable (F : Fr P ρ m nt t a.tmps) (s : Sim P ρ m g h w)
include F s
theorem ok_bd {ty : TypeId} {ps : Array (Nat × Operand)} {z : Value} {l : List (Nat × Nat × RO)} (ho : o.op = .build ty ps) (hz : zeroOf P ty = some z) (hp : places P ty ps.toList nt = some l) (hk : z.cells.toList.all knownAtom = true)
    (e : step (.bd (chain z.cells.toList) l) ys cl fl lim t h n = .ok v h' n') : Ok1 P ρ g fl o a m w h n v h' n' := by
  have e1 : nU (SR.bad [5]) (fillP t l (chain z.cells.toList)) (fun c => SR.ok (.agg c) h n) = .ok v h' n' := e
  obtain ⟨hu, e2⟩ := nU_ok e1 (by simp)
  cases e2
  have hzc := allKnown hk
  obtain ⟨it, hit, hiz⟩ : ∃ it, P.info? ty = some it ∧ it.zero = some z := by
    unfold zeroOf at hz
    cases hi : P.info? ty with
    | none => rw [hi] at hz; cases hz
    | some it => rw [hi] at hz; exact ⟨it, rfl, hz⟩
  have fin : ∀ (C' : Array Value), P.built ty (ps.toList.map fun p => (p.1, a.eval p.2)) = some C' → denC ρ m (fillP t l (chain z.cells.toList)) C'.toList → (∀ x ∈ C'.toList, Cell x) → Ok1 P ρ g fl o a m w h n (.agg (fillP t l (chain z.cells.toList))) h n := fun C' hb hd hc => by
    refine Ok1.quiet (u := .agg C') s ?_ ⟨C'.toList, hd, hc, rfl⟩
    have hr := run_build w ty (ps.map fun (i, x) => (i, a.eval x)) C' (by simpa using hb)
    simp only [execOp, ho, Sem.run_bind, hr, Result.andThen_ok]
    rfl
  unfold places at hp
  split at hp
  · rename_i fs hus
    cases hpl : fs.toList.mapM (fun f => (P.info? f.type).map fun i => (f.offset, i.size)) with
    | none => rw [hpl] at hp; cases hp
    | some pl =>
      rw [hpl] at hp
      obtain ⟨h1, h2⟩ := mapM_len hp
      obtain ⟨C', g1, g2, g3, g4⟩ := fillP_ok F (place := (pl.toArray[·]?)) ps.toList l (chain z.cells.toList) z.cells h1 (fun k i x hkx => by
        obtain ⟨y, hy, hly⟩ := h2 k (i, x) hkx
        cases hq : pl[i]? with
        | none => simp [hq] at hy
        | some q =>
          simp [hq] at hy
          obtain ⟨h0, rfl⟩ := hy
          exact ⟨q.1, q.2, by simp [hq], hly, h0⟩) hu (chain_ok _).1 hzc
      refine fin C' ?_ g3 g4
      simp only [Program.built, hit, hus, hiz, hpl]
      exact g1
  · rename_i k el hua
    cases hie : P.info? el with
    | none => rw [hie] at hp; cases hp
    | some ie =>
      rw [hie] at hp
      obtain ⟨h1, h2⟩ := mapM_len hp
      obtain ⟨C', g1, g2, g3, g4⟩ := fillP_ok F (place := fun i => some (i * ie.size, ie.size)) ps.toList l (chain z.cells.toList) z.cells h1 (fun k i x hkx => by
        obtain ⟨y, hy, hly⟩ := h2 k (i, x) hkx
        by_cases h0 : 0 < ie.size
        · simp [h0] at hy
          subst hy
          exact ⟨i * ie.size, ie.size, rfl, hly, h0⟩
        · simp [h0] at hy) hu (chain_ok _).1 hzc
      refine fin C' ?_ g3 g4
      simp only [Program.built, hit, hua, hiz, hie]
      exact g1
  · cases hp
theorem ok_bs (hf : fl ≤ n) {ty el : TypeId} {len sz : Nat} {ps : Array (Nat × Operand)} {z : Value} (ho : o.op = .buildSlice ty len ps) (hu : P.underlying ty = some (.slice el)) (hs : szOf P el = some sz) (hz : zeroOf P el = some z) (h0 : 0 < sz) (hlen : len * sz ≤ 65536) (hzs : z.cells.size = sz) (hk : z.cells.toList.all knownAtom = true)
    (e : step (.bs (chain ((List.range (len * sz)).map fun i => z.cells[i % sz]!)) len (ps.toList.map fun p => (p.1 * sz, sz, opd P nt p.2))) ys cl fl lim t h n = .ok v h' n') : Ok1 P ρ g fl o a m w h n v h' n' := by
  have e1 : nU (SR.bad [6]) (fillP t (ps.toList.map fun p => (p.1 * sz, sz, opd P nt p.2)) (chain ((List.range (len * sz)).map fun i => z.cells[i % sz]!))) (fun c => newCh h n c (.sl n 0 len len)) = .ok v h' n' := e
  obtain ⟨hne, e2⟩ := nU_ok e1 (by simp)
  have hzc := allKnown hk
  have hrow : ∀ x ∈ ((List.range (len * sz)).map fun i => z.cells[i % sz]!), Cell x := by
    intro x hx
    obtain ⟨i, _, rfl⟩ := List.mem_map.1 hx
    have hi : i % sz < z.cells.size := by rw [hzs]; exact Nat.mod_lt _ h0
    rw [getElem!_pos z.cells (i % sz) hi]
    exact hzc _ (by simp)
  obtain ⟨C', g1, g2, g3, g4⟩ := fillP_ok F (place := fun i => some (i * sz, sz)) ps.toList (ps.toList.map fun p => (p.1 * sz, sz, opd P nt p.2)) (chain ((List.range (len * sz)).map fun i => z.cells[i % sz]!)) ((List.range (len * sz)).map fun i => z.cells[i % sz]!).toArray (by simp) (fun k i x hkx => ⟨i * sz, sz, rfl, by simp [hkx], h0⟩) hne (chain_ok _).1 (by simpa using hrow)
  obtain ⟨rfl, rfl, hab, htr⟩ := newCh_ok s hf g3 (fun k u hk _ => g4 u (List.mem_of_getElem? hk)) e2 el
  refine ⟨hab, fun hfr K Q hK => ?_⟩
  have hn := hfr n (Nat.le_refl _) (Nat.lt_succ_self _)
  refine op_value (w' := w.alloc (.cells C' el (0, 0))) (u := .slice (some ⟨w.heap.size, 0, none⟩) len len) ?_ (hK _ _ _ (htr hn) ⟨w.heap.size, 0, C'.toList.length, upd_self _ _, Nat.le_refl _, rfl⟩)
  have hbig : ¬ (16777216 < len * sz) := by omega
  have g1' : Instr.fill (fun i => some (i * sz, sz)) ((List.range (len * sz)).map fun i => z.cells[i % sz]!).toArray (ps.toList.map fun p => (p.1, a.eval p.2)) = some C' := g1
  have hps : (ps.map fun x => (x.1, a.eval x.2)).toList = ps.toList.map fun p => (p.1, a.eval p.2) := by simp
  by_cases q : len * sz = 0
  · have e0 : (Array.map (fun _ => (default : Value)) (Array.range (len * sz))) = ((List.range (len * sz)).map fun i => z.cells[i % sz]!).toArray := by simp [q]
    simp [execOp, ho, Instr.buildSlice, run_underlying hu, szOf_run hs, hbig, newRow]
    rw [if_pos q, e0, g1']
    simp
  · have e1 : Array.map (fun x => z.cells[x % z.cells.size]!) (Array.range (len * sz)) = ((List.range (len * sz)).map fun i => z.cells[i % sz]!).toArray := by
      rw [hzs]; apply Array.ext'; simp
    simp [execOp, ho, Instr.buildSlice, run_underlying hu, szOf_run hs, hbig, newRow]
    rw [if_neg q, zeroOf_run hz]
    simp only [Result.andThen_ok]
    rw [e1, g1']
    simp
end
end Go.Rn
