/-
  One text of a symbolic evaluator over the model, shown sound once for every program: no statement is claimed here.
-/
import Derived.Test.YtendogjdmabknaaRnN
namespace Go.Rn
variable {ρ : Nat → Int} {m m' : Mp} {P : Program}
section
variable {g fl n n' nt lim : Nat} {h h' : HT} {t : FT} {a : Act} {o : Oper} {w : World} {v : RV} {ys : Ys} {cl : Cl'}
/-- so many cells of a row, as they lie -/
theorem rowCells_ok (s : Sim P ρ m g h w) {es b k q : Nat} {r : RV} (e : rowCells h es b k q = r) (hr : r ≠ .un) (h0 : 0 < q) : ∃ c z B O Z C el fr cs, hg h b = .bk c z ∧ m b = some (B, O, Z) ∧ w.heap[B]? = some (.cells C el fr) ∧ C.size = Z ∧ chLen r = some (q * es) ∧
    cs.length = q * es ∧ denC ρ m r cs ∧ (∀ x ∈ cs, Cell x) ∧ ∀ (j : Nat) (u : Value), cs[j]? = some u → C[O + k + j]? = some u := by
  unfold rowCells at e
  rcases bf_or e with ⟨h1, _⟩ | ⟨_, e2⟩
  · have := beq_ok h1; omega
  · obtain ⟨c, z, hb, e3⟩ := gK_ok e2 hr.symm
    obtain ⟨B, O, Z, C, el, fr, h1, h2, h3, _, _, h6⟩ := s.cells b c z hb (gK_mz e2 hr.symm hb)
    have e4 : rd c (q * es) k = r := e3
    obtain ⟨g1, cs, g2, g3, g4, g5⟩ := rd_ok h6 (q * es) k (by rw [e4]; exact hr)
    rw [e4] at g1 g3
    exact ⟨c, z, B, O, Z, C, el, fr, cs, hb, h1, h2, h3, g1, g2, g3, g4, g5⟩
theorem cell_at {B j : Nat} {C : Array Value} {el : TypeId} {fr : Nat × Nat} {w : World} (hh : w.heap[B]? = some (.cells C el fr)) : w.cell? ⟨B, j, none⟩ = C[j]? := by simp [World.cell?, hh]
/-- the first cells of a slice -/
theorem slCells_ok (s : Sim P ρ m g h w) {es q : Nat} {x r : RV} {u : Value} (hd : den ρ m x u) (e : slCells h es x q = r) (hr : r ≠ .un) (h0 : 0 < q) (hl : slLen x = some q) :
    ∃ A cap cs, u = .slice (some A) q cap ∧ chLen r = some (q * es) ∧ cs.length = q * es ∧ denC ρ m r cs ∧ (∀ x ∈ cs, Cell x) ∧ ∀ (j : Nat) (u : Value), cs[j]? = some u → w.cell? (A.add j) = some u := by
  unfold slCells at e
  rcases gL_ok e hr.symm with ⟨rfl, e2⟩ | ⟨b, k, l, c, rfl, e2⟩ | ⟨b, k, l, f, rfl, e2⟩ | ⟨b, f, rfl, e2⟩
  · obtain ⟨h1, _⟩ := bf_ok e2 hr.symm
    have := beq_ok h1; omega
  · obtain ⟨_, e3⟩ := bf_ok e2 hr.symm
    obtain ⟨c', z, B, O, Z, C, el, fr, cs, _, g2, g3, _, g5, g6, g7, g8, g9⟩ := rowCells_ok s e3 hr h0
    obtain ⟨B', O', Z', hm, _, hx⟩ := hd
    rw [g2] at hm
    cases hm
    cases hl
    exact ⟨_, c, cs, hx, g5, g6, g7, g8, fun j u hj => by rw [add_at, cell_at g3]; exact g9 j u hj⟩
  · obtain ⟨_, e3⟩ := bf_ok e2 hr.symm
    obtain ⟨c', z, B, O, Z, C, el, fr, cs, _, g2, g3, _, g5, g6, g7, g8, g9⟩ := rowCells_ok s e3 hr h0
    obtain ⟨B', O', Z', cc, hm, _, _, hx⟩ := hd
    rw [g2] at hm
    cases hm
    cases hl
    exact ⟨_, cc, cs, hx, g5, g6, g7, g8, fun j u hj => by rw [add_at, cell_at g3]; exact g9 j u hj⟩
  · obtain ⟨h1, _⟩ := bf_ok e2 hr.symm
    have := beq_ok h1; omega
/-- a new row of a chain's cells: known -/
theorem knows_lay {r : RV} {cs : List Value} {z : Nat} (hlen : chLen r = some z) (hd : denC ρ m r cs) (hc : ∀ x ∈ cs, Cell x) {C : Array Value} {O : Nat} (hC : ∀ (k : Nat) (u : Value), cs[k]? = some u → C[O + k]? = some u) :
    (∀ k, z ≤ k → cg (lay r ce 0) k = .un) ∧ Knows ρ m (lay r ce 0) C O := by
  have hl := chLen_ok z cs hlen hd
  have key : ∀ k, cg (lay r ce 0) k ≠ .un → k < z ∧ ∃ u, cs[k]? = some u ∧ den ρ m (cg (lay r ce 0) k) u := by
    intro k hk
    rcases lay_ok z cs ce 0 hlen hd k hk with ⟨_, _, u, h2, h3⟩ | ⟨_, h1⟩
    · rw [Nat.sub_zero] at h2
      refine ⟨?_, u, h2, h3⟩
      rcases Nat.lt_or_ge k cs.length with q | q
      · omega
      · rw [List.getElem?_eq_none q] at h2; cases h2
    · exact absurd h1 hk
  refine ⟨fun k hk => ?_, fun k hk => ?_⟩
  · rcases Classical.em (cg (lay r ce 0) k = .un) with q | q
    · exact q
    · have := (key k q).1; omega
  · obtain ⟨_, u, h2, h3⟩ := key k hk
    exact ⟨u, hC k u h2, h3, hc u (List.mem_of_getElem? h2)⟩
/-- a row that goes on behind z with a chain's cells: known -/
theorem knows_on {y : RV} {cs : List Value} {q z : Nat} {c : CT} (hlen : chLen y = some q) (hd : denC ρ m y cs) (hc : ∀ x ∈ cs, Cell x) (hz : ∀ k, z ≤ k → cg c k = .un) {C C2 : Array Value} {O O2 : Nat} (hK : Knows ρ m c C O)
    (h1 : ∀ k, k < z → C2[O2 + k]? = C[O + k]?) (h2 : ∀ (k : Nat) (u : Value), cs[k]? = some u → C2[O2 + z + k]? = some u) :
    (∀ k, z + q ≤ k → cg (lay y c z) k = .un) ∧ Knows ρ m (lay y c z) C2 O2 := by
  have hl := chLen_ok q cs hlen hd
  refine ⟨fun k hk => ?_, fun k hk => ?_⟩
  · rcases Classical.em (cg (lay y c z) k = .un) with p | p
    · exact p
    · rcases lay_ok q cs c z hlen hd k p with ⟨h3, _, u, h4, _⟩ | ⟨_, h3⟩
      · rw [List.getElem?_eq_none (by omega)] at h4; cases h4
      · rw [h3]; exact hz k (by omega)
  · rcases lay_ok q cs c z hlen hd k hk with ⟨h3, _, u, h4, h5⟩ | ⟨h3, h4⟩
    · refine ⟨u, ?_, h5, hc u (List.mem_of_getElem? h4)⟩
      have := h2 (k - z) u h4
      rwa [show O2 + z + (k - z) = O2 + k by omega] at this
    · rw [h4] at hk ⊢
      have hkz : k < z := by
        rcases Nat.lt_or_ge k z with p | p
        · exact p
        · exact absurd (hz k p) hk
      obtain ⟨u, g1, g2, g3⟩ := hK k hk
      exact ⟨u, by rw [h1 k hkz]; exact g1, g2, g3⟩
theorem run_room {ty rt e : TypeId} {i : TypeInfo} (ht : P.underlying ty = some (.slice e)) (hi : P.info? e = some i) {B off sLen sCap : Nat} {C : Array Value} {el : TypeId} (hh : w.heap[B]? = some (.cells C el (0, 0)))
    {A : Addr} {q c : Nat} {news : List Value} (hl : news.length = q * i.size) (hnews : ∀ (j : Nat) (u : Value), news[j]? = some u → w.cell? (A.add j) = some u) (hc : ∀ u ∈ news, Cell u) (hroom : sLen + q ≤ sCap) (hfit : off + sLen * i.size + news.length ≤ C.size) :
    (Builtin.append_ #[ty, ty] rt #[.slice (some ⟨B, off, none⟩) sLen sCap, .slice (some A) q c]).run P w = .ok (.slice (some ⟨B, off, none⟩) (sLen + q) sCap) (w.setRow B (laid C (off + sLen * i.size) news)) := by
  have hf := run_firstCells_some (P := P) w i.size q A q c news hl hnews
  have hst := run_lay (P := P) hh hfit hc
  simp [Builtin.append_, run_underlying ht, sizeOf, typeInfo, hi, Builtin.lenOf, hroom, hf, add_at, hst]
theorem grown_ge (w : World) (need old : Nat) (e : TypeId) : need ≤ grownCap w need old e := by unfold grownCap Question.cut; simp only; omega
/-- a row made anew -/
theorem newBlk_ok {h0 : HT} {cs : CT} {z : Nat} {v0 : RV} (e : newBlk h0 n cs z v0 = .ok v h' n') : v = v0 ∧ n' = n + 1 ∧ h' = hst h0 (.bk cs z) n ∧ z ≠ MAPZ :=
  let ⟨h0, h1, h2, h3⟩ := newBlk_ok4 e
  ⟨h1, h3, h2, h0⟩
theorem Tr.grow {h0 : HT} (s : Sim P ρ m g h w) (hsub : ∀ b c z, hg h0 b = .bk c z → hg h b = .bk c z) (hn : m n = none) {c : CT} {z : Nat} {C : Array Value} (el : TypeId) (hmz : z ≠ MAPZ) (hz : ∀ k, z ≤ k → cg c k = .un) (hk : Knows ρ m c C 0) :
    Tr P ρ g fl h n m w (hst h0 (.bk c z) n) (n + 1) (upd m n (w.heap.size, 0, C.size)) (w.drew.alloc (.cells C el (0, 0))) := by
  have t1 : Tr P ρ g fl h n m w h n m w.drew := Tr.drew s
  have t2 : Tr P ρ g fl h n m w.drew h0 n m w.drew := Tr.sub t1.sim hsub
  have t3 := Tr.new (fl := fl) t2.sim hn c C el hmz hz (hk.le (upd_le hn))
  exact (t1.trans t2 (Nat.le_refl _) (Nat.le_refl _)).trans t3 (Nat.le_refl _) (Nat.le_succ _)
theorem sub_no {b : Nat} : ∀ b' c z, hg (hst h .no b) b' = .bk c z → hg h b' = .bk c z := by
  intro b' c z e
  rcases hg_hst h .no b b' with ⟨_, h2 | h2⟩ | ⟨_, h2⟩
  · rw [h2] at e; cases e
  · rw [h2] at e; cases e
  · rw [h2] at e; exact e
/-- what append does -/
def App (P : Program) (ρ : Nat → Int) (ty rt : TypeId) (g fl : Nat) (m : Mp) (w : World) (h : HT) (n : Nat) (v : RV) (h' : HT) (n' : Nat) (u u' : Value) : Prop :=
  Ab fl h n h' n' ∧ (Fresh n n' m → ∃ r w' m', (Builtin.append_ #[ty, ty] rt #[u, u']).run P w = .ok r w' ∧ Tr P ρ g fl h n m w h' n' m' w' ∧ den ρ m' v r)
theorem list_app {a b c : List Value} {k : Nat} {u : Value} (h : b[k]? = some u) : (a ++ b ++ c)[a.length + k]? = some u := by
  have hk : k < b.length := by
    rcases Nat.lt_or_ge k b.length with q | q
    · exact q
    · rw [List.getElem?_eq_none q] at h; cases h
  rw [List.append_assoc, List.getElem?_append_right (by omega), List.getElem?_append_left (by omega), show a.length + k - a.length = k by omega]
  exact h
theorem list_fst {a b c : List Value} {k : Nat} {u : Value} (h : a[k]? = some u) : (a ++ b ++ c)[k]? = some u := by
  have hk : k < a.length := by
    rcases Nat.lt_or_ge k a.length with q | q
    · exact q
    · rw [List.getElem?_eq_none q] at h; cases h
  rw [List.append_assoc, List.getElem?_append_left hk]
  exact h
theorem app_ok (s : Sim P ρ m g h w) (hgf : g ≤ fl) (hf : fl ≤ n) {ty rt el : TypeId} {i : TypeInfo} (ht : P.underlying ty = some (.slice el)) (hi : P.info? el = some i) {z0 : Value} (hz0 : i.zero = some z0) (hsz : 0 < i.size) (hzc : z0.cells.size = i.size) (hb1 : i.bytes ≤ 65536) {x y : RV} {u u' : Value}
    (dx : den ρ m x u) (dy : den ρ m y u') (e : app fl i.size x y h n = .ok v h' n') : App P ρ ty rt g fl m w h n v h' n' u u' := by
  unfold app at e
  obtain ⟨q, hq, e2⟩ := gO_ok e (by simp)
  rcases bf_or e2 with ⟨h1, e3⟩ | ⟨h1, e3⟩
  · -- nothing is added
    obtain rfl := beq_ok h1
    obtain ⟨l, hl, e4⟩ := gO_ok e3 (by simp)
    obtain ⟨hu, rfl, rfl, rfl⟩ := okV_ok e4
    obtain ⟨p, c, rfl, hlc⟩ := slLen_ok hl dx
    obtain ⟨p', c', rfl, _⟩ := slLen_ok hq dy
    refine ⟨Ab.refl _ _ _, fun _ => ⟨.slice p l c, w, m, ?_, Tr.refl s, dx⟩⟩
    have hroom : l + 0 ≤ c := hlc
    have hfc : (Builtin.firstCells i.size 0 (.slice p' 0 c')).run P w = .ok #[] w := by
      cases p' with
      | none => simp [Builtin.firstCells]
      | some A => simp [Builtin.firstCells, loadCells, loadCellsFrom]
    cases p with
    | none => simp [Builtin.append_, run_underlying ht, sizeOf, typeInfo, hi, Builtin.lenOf, hlc, hfc]
    | some A => simp [Builtin.append_, run_underlying ht, sizeOf, typeInfo, hi, Builtin.lenOf, hlc, hfc, storeCells]
  · have hq0 : 0 < q := by
      rcases Nat.eq_zero_or_pos q with p | p
      · rw [p] at h1; simp at h1
      · exact p
    obtain ⟨hqm, e4⟩ := bf_ok e3 (by simp)
    have hqm := ble_ok hqm
    obtain ⟨hcu, e5⟩ := nU_ok e4 (by simp)
    obtain ⟨l, hl, e6⟩ := gO_ok e5 (by simp)
    obtain ⟨hlm, e7⟩ := bf_ok e6 (by simp)
    have hlm := ble_ok hlm
    obtain ⟨A, cy, news, rfl, n1, n2, n3, n4, n5⟩ := slCells_ok s dy rfl hcu hq0 hq
    generalize slCells h i.size y q = yc at *
    have hfit48 : ∀ old, old < l + q → Builtin.nextslicecap (l + q) old * i.bytes ≤ 281474976710656 := fun old ho => by
      refine growslice_fits ho ?_
      have : (l + q) * i.bytes ≤ 2097152 * 65536 := Nat.mul_le_mul (by omega) hb1
      omega
    have hes : (l + q) * i.size = l * i.size + q * i.size := Nat.add_mul _ _ _
    unfold appC at e7
    -- a row made anew out of old cells and new ones
    have fresh_row : ∀ {h0 : HT} {c : CT} {olds : List Value} {sCap : Nat}, (∀ b c z, hg h0 b = .bk c z → hg h b = .bk c z) → (l + q) * i.size ≠ MAPZ → olds.length = l * i.size → (∀ k, (l + q) * i.size ≤ k → cg c k = .un) →
        (∀ zs : List Value, Knows ρ m c (olds ++ news ++ zs).toArray 0) → n' = n + 1 → v = .su n 0 (l + q) i.size → h' = hst h0 (.bk c ((l + q) * i.size)) n → Fresh n n' m →
        (Builtin.append_ #[ty, ty] rt #[u, .slice (some A) q cy]).run P w = .ok (.slice (some ⟨w.heap.size, 0, none⟩) (l + q) (grownCap w (l + q) sCap el)) (w.drew.alloc (.cells (olds.toArray ++ news.toArray ++ Builtin.zeroCells z0.cells (grownCap w (l + q) sCap el - (l + q))) el)) →
        ∃ r w' m', (Builtin.append_ #[ty, ty] rt #[u, .slice (some A) q cy]).run P w = .ok r w' ∧ Tr P ρ g fl h n m w h' n' m' w' ∧ den ρ m' v r := by
      intro h0 c olds sCap hsub hmz hol hz hK hn' hv hh' hfr hrun
      subst hn' hv hh'
      have hn := hfr n (Nat.le_refl _) (Nat.lt_succ_self _)
      have hC : olds.toArray ++ news.toArray ++ Builtin.zeroCells z0.cells (grownCap w (l + q) sCap el - (l + q)) = (olds ++ news ++ (Builtin.zeroCells z0.cells (grownCap w (l + q) sCap el - (l + q))).toList).toArray := by
        apply Array.ext'; simp
      rw [hC] at hrun
      refine ⟨_, _, _, hrun, Tr.grow s hsub hn el hmz hz (hK _), ⟨w.heap.size, 0, _, grownCap w (l + q) sCap el, upd_self _ _, grown_ge _ _ _ _, ?_, rfl⟩⟩
      have hge := grown_ge w (l + q) sCap el
      simp [hol, n2, Builtin.zeroCells, hzc]
      have : (grownCap w (l + q) sCap el - (l + q)) * i.size = grownCap w (l + q) sCap el * i.size - (l + q) * i.size := Nat.sub_mul _ _ _
      have h3 : (l + q) * i.size ≤ grownCap w (l + q) sCap el * i.size := Nat.mul_le_mul_right _ hge
      omega
    have hsub0 : ∀ b c z, hg h b = .bk c z → hg h b = .bk c z := fun _ _ _ e => e
    have h63 : ((l + q : Nat) : Int) ≤ 9223372036854775807 := by have : l + q ≤ 2097152 := by omega
                                                                 omega
    -- cells of a new row, known by the new ones alone
    have lay_new : ∀ (C : Array Value) (O : Nat), (∀ (k : Nat) (u : Value), news[k]? = some u → C[O + k]? = some u) → (∀ k, q * i.size ≤ k → cg (lay yc ce 0) k = .un) ∧ Knows ρ m (lay yc ce 0) C O := fun C O hC => knows_lay n1 n3 n4 hC
    have lay_un := (lay_new news.toArray 0 (fun k u hk => by simpa using hk)).1
    rcases gL_ok e7 (by simp) with ⟨rfl, e8⟩ | ⟨b, k, l', c, rfl, e8⟩ | ⟨b, k, l', f, rfl, e8⟩ | ⟨b, f, rfl, e8⟩
    · -- nil
      cases hl
      obtain ⟨hv, hn', hh', hmz⟩ := newBlk_ok e8
      have hx : u = .slice none 0 0 := dx
      subst hx
      refine ⟨by rw [hn', hh']; exact Ab.new _ hf, fun hfr => ?_⟩
      have hrun := run_append_nil (P := P) w ty rt el i z0 ht hi hz0 A q cy news n2 n5 hq0 (by omega) (by have := hfit48 0 (by omega); rw [Nat.zero_add, nextslicecap_zero hq0] at this; exact this)
      refine fresh_row (h0 := h) (c := lay yc ce 0) (olds := []) (sCap := 0) hsub0 (by simpa using hmz) (by simp) (by simpa using lay_un) (fun zs => (lay_new _ 0 (fun k u hk => ?_)).2) hn' (by simpa using hv) (by simpa using hh') hfr ?_
      · simpa using list_fst (a := news) (b := []) (c := zs) hk
      · simpa using hrun
    · -- its room is known
      cases hl
      obtain ⟨B, O, Z, hm, hlc, hx⟩ := dx
      subst hx
      rcases bf_or e8 with ⟨h2, e9⟩ | ⟨h2, e9⟩
      · have hroom := ble_ok h2
        obtain ⟨v1, h1', n1', e10, e11⟩ := gR_ok e9
        cases e11
        obtain ⟨_, rfl, hab, B', O', Z', C, el', g1, g2, g3, g4⟩ := stBlk_ok (n := n) s hgf n3 (List.ne_nil_of_length_pos (by rw [n2]; exact Nat.mul_pos hq0 hsz)) n4 e10
        rw [hm] at g1
        cases g1
        refine ⟨hab, fun _ => ⟨_, _, m, ?_, g4, ⟨B, O, Z, hm, hroom, rfl⟩⟩⟩
        have := run_room (P := P) (rt := rt) ht hi (off := O + k) (sLen := l) (sCap := c) g2 n2 (c := cy) n5 n4 hroom (by show O + k + l * i.size + news.length ≤ C.size; have : O + (k + l * i.size) + news.length ≤ C.size := g3; omega)
        rw [show O + k + l * i.size = O + (k + l * i.size) by omega] at this
        exact this
      · have hgrow : c < l + q := by
          rcases Nat.lt_or_ge c (l + q) with p | p
          · exact p
          · rw [show Nat.ble (Nat.add l q) c = true from ble_yes p] at h2; cases h2
        rcases bf_or e9 with ⟨h3, e10⟩ | ⟨h3, e10⟩
        · obtain rfl := beq_ok h3
          obtain ⟨hv, hn', hh', hmz⟩ := newBlk_ok e10
          refine ⟨by rw [hn', hh']; exact Ab.new _ hf, fun hfr => ?_⟩
          have hrun := run_append_grow (P := P) w ty rt el i z0 ht hi hz0 ⟨B, O + k, none⟩ 0 c [] (by simp) (by simp) A q cy news n2 n5 hgrow h63 (hfit48 c hgrow)
          refine fresh_row (h0 := h) (c := lay yc ce 0) (olds := []) (sCap := c) hsub0 (by simpa using hmz) (by simp) (by simpa using lay_un) (fun zs => (lay_new _ 0 (fun k u hk => ?_)).2) hn' (by simpa using hv) (by simpa using hh') hfr hrun
          simpa using list_fst (a := news) (b := []) (c := zs) hk
        · have hl0 : 0 < l := by
            rcases Nat.eq_zero_or_pos l with p | p
            · rw [p] at h3; simp at h3
            · exact p
          unfold growC at e10
          obtain ⟨hru, e11⟩ := nU_ok e10 (by simp)
          obtain ⟨hv, hn', hh', hmz⟩ := newBlk_ok e11
          have hrc : rowCells h i.size b k l ≠ .un := fun p => hru (by rw [p]; rfl)
          obtain ⟨c0, z, B', O', Z', C, el', fr, olds, p1, p2, p3, p4, p5, p6, p7, p8, p9⟩ := rowCells_ok s rfl hrc hl0
          rw [hm] at p2
          cases p2
          obtain ⟨_, plen⟩ := chApp_len n1 _ p5
          have pd := chApp_ok n3 olds hru p7
          rw [← hes] at plen
          have hall : ∀ x ∈ olds ++ news, Cell x := fun x hx => (List.mem_append.1 hx).elim (p8 x) (n4 x)
          refine ⟨by rw [hn', hh']; exact Ab.new _ hf, fun hfr => ?_⟩
          have hrun := run_append_grow (P := P) w ty rt el i z0 ht hi hz0 ⟨B, O + k, none⟩ l c olds p6 (fun j u hj => by rw [add_at, cell_at p3]; exact p9 j u hj) A q cy news n2 n5 hgrow h63 (hfit48 c hgrow)
          refine fresh_row (h0 := h) (c := lay (chApp (rowCells h i.size b k l) yc) ce 0) (olds := olds) (sCap := c) hsub0 hmz p6 (knows_lay (C := (olds ++ news).toArray) (O := 0) plen pd hall (fun k u hk => by simpa using hk)).1 (fun zs => (knows_lay (C := (olds ++ news ++ zs).toArray) (O := 0) plen pd hall (fun k u hk => ?_)).2) hn' hv hh' hfr hrun
          simpa using list_fst (a := olds ++ news) (b := []) (c := zs) hk
    · -- its room is open
      cases hl
      obtain ⟨hes2, e9⟩ := bf_ok e8 (by simp)
      obtain ⟨hfb, e10⟩ := bf_ok e9 (by simp)
      obtain rfl := beq_ok hes2
      have hfb := ble_ok hfb
      obtain ⟨B, O, Z, c, hm, hlc, hZ, hx⟩ := dx
      subst hx
      have hab0 : Ab fl h n (hst h .no b) n := Ab.set _ hfb (fun _ _ p => by cases p)
      have e10' : gK (SR.bad [105]) (hg h b) (fun c z => bf (bf (Nat.beq k 0) (Nat.beq z (Nat.mul l i.size)) false) (newBlk (hst h .no b) n (lay yc c z) (Nat.mul (Nat.add l q) i.size) (.su n 0 (Nat.add l q) i.size)) (growC h n i.size b k l yc q (hst h .no b))) = .ok v h' n' := e10
      obtain ⟨c0, z, hb, e11⟩ := gK_ok e10' (by simp)
      obtain ⟨B', O', Z', C, el', fr, hm', hh, hCZ, hfr0, hz, hK⟩ := s.cells b c0 z hb (gK_mz e10' (by simp) hb)
      rw [hm] at hm'
      cases hm'
      obtain rfl := hfr0 (Nat.le_trans hgf hfb)
      -- the old cells, as they lie
      have hin : O + k + l * i.size ≤ C.size := by
        have : l * i.size ≤ c * i.size := Nat.mul_le_mul_right _ hlc
        omega
      obtain ⟨olds, ho1, ho2⟩ : ∃ olds : List Value, olds.length = l * i.size ∧ ∀ (j : Nat), j < l * i.size → olds[j]? = C[O + k + j]? :=
        ⟨(C.toList.drop (O + k)).take (l * i.size), by simp; omega, fun j hj => by rw [List.getElem?_take_of_lt hj, List.getElem?_drop, Array.getElem?_toList]⟩
      have ho3 : ∀ (j : Nat) (u : Value), olds[j]? = some u → w.cell? ((⟨B, O + k, none⟩ : Addr).add j) = some u := fun j u hj => by
        have hjl : j < l * i.size := by
          rcases Nat.lt_or_ge j olds.length with p | p
          · omega
          · rw [List.getElem?_eq_none p] at hj; cases hj
        rw [add_at, cell_at hh, ← ho2 j hjl]; exact hj
      -- the new trie knows whatever row begins with the old cells and goes on with the new ones
      obtain ⟨ct, hv, hn', hh', hmz, hun, hkn⟩ : ∃ ct : CT, v = .su n 0 (l + q) i.size ∧ n' = n + 1 ∧ h' = hst (hst h .no b) (.bk ct ((l + q) * i.size)) n ∧ (l + q) * i.size ≠ MAPZ ∧ (∀ j, (l + q) * i.size ≤ j → cg ct j = .un) ∧
          ∀ (C2 : Array Value) (O2 : Nat), (∀ j, j < l * i.size → C2[O2 + j]? = C[O + k + j]?) → (∀ (j : Nat) (u : Value), news[j]? = some u → C2[O2 + l * i.size + j]? = some u) → Knows ρ m ct C2 O2 := by
        rcases bf_or e11 with ⟨h3, e12⟩ | ⟨_, e12⟩
        · obtain ⟨h4, h5⟩ := bf_ok h3 (by simp)
          obtain rfl := beq_ok h4
          obtain rfl := beq_ok h5
          obtain ⟨hv, hn', hh', hmz⟩ := newBlk_ok e12
          refine ⟨_, hv, hn', hh', hmz, ?_, fun C2 O2 hC1 hC2 => ?_⟩
          · have := (knows_on (C := C) (O := O) (C2 := (olds ++ news).toArray) (O2 := 0) n1 n3 n4 hz hK (fun j hj => by
              have := ho2 j hj
              simp only [Nat.add_zero] at this
              rw [← this, Nat.zero_add]
              simp only [List.getElem?_toArray]
              rw [List.getElem?_append_left (by rw [ho1]; exact hj)]) (fun j u hj => by
              have := list_app (a := olds) (b := news) (c := []) hj
              rw [ho1] at this
              simpa using this)).1
            intro j hj
            exact this j (by show l * i.size + q * i.size ≤ j; omega)
          · exact (knows_on (C := C) (O := O) n1 n3 n4 hz hK (fun j hj => by have := hC1 j hj; simpa using this) hC2).2
        · unfold growC at e12
          obtain ⟨hru, e13⟩ := nU_ok e12 (by simp)
          obtain ⟨hv, hn', hh', hmz⟩ := newBlk_ok e13
          rcases Nat.eq_zero_or_pos l with p0 | p0
          · subst p0
            have hrc : rowCells h i.size b k 0 = .nil := rfl
            rw [hrc] at hh' hru
            refine ⟨_, hv, hn', hh', hmz, ?_, fun C2 O2 hC1 hC2 => ?_⟩
            · intro j hj; exact lay_un j (by rw [hes] at hj; omega)
            · exact (lay_new C2 O2 (fun j u hj => by have := hC2 j u hj; simpa using this)).2
          · have hrc : rowCells h i.size b k l ≠ .un := fun p => hru (by rw [p]; rfl)
            obtain ⟨c9, z9, B', O', Z', C', el9, fr, olds', p1, p2, p3, p4, p5, p6, p7, p8, p9⟩ := rowCells_ok s rfl hrc p0
            rw [hm] at p2
            cases p2
            rw [hh] at p3
            cases p3
            obtain ⟨_, plen⟩ := chApp_len n1 _ p5
            have pd := chApp_ok n3 olds' hru p7
            rw [← hes] at plen
            have hall : ∀ x ∈ olds' ++ news, Cell x := fun x hx => (List.mem_append.1 hx).elim (p8 x) (n4 x)
            refine ⟨_, hv, hn', hh', hmz, (knows_lay (C := (olds' ++ news).toArray) (O := 0) plen pd hall (fun k u hk => by simpa using hk)).1, fun C2 O2 hC1 hC2 => (knows_lay (C := C2) (O := O2) plen pd hall (fun j u hj => ?_)).2⟩
            rcases Nat.lt_or_ge j olds'.length with r | r
            · rw [List.getElem?_append_left r] at hj
              rw [hC1 j (by omega)]
              exact p9 j u hj
            · rw [List.getElem?_append_right r] at hj
              have := hC2 (j - olds'.length) u hj
              rwa [show O2 + l * i.size + (j - olds'.length) = O2 + j by omega] at this
      refine ⟨by rw [hn', hh']; exact hab0.trans (Ab.new _ hf), fun hfr => ?_⟩
      by_cases hroom : l + q ≤ c
      · have hn := hfr n (Nat.le_refl _) (by omega)
        have hfit : O + k + l * i.size + news.length ≤ C.size := by
          have : (l + q) * i.size ≤ c * i.size := Nat.mul_le_mul_right _ hroom
          rw [n2]; omega
        have hrun := run_room (P := P) (rt := rt) ht hi (off := O + k) (sLen := l) (sCap := c) hh n2 (c := cy) n5 n4 hroom hfit
        have hkn2 := hkn (laid C (O + k + l * i.size) news) (O + k) (fun j hj => laid_out hfit (.inl (by omega))) (fun j u hj => laid_in hfit hj)
        refine ⟨_, _, upd m n (B, O + k, Z), hrun, ?_, ?_⟩
        · rw [hh', hn']
          exact Tr.room s hb hfb hm hh hCZ hn hfit hf hmz hun (hkn2.le (upd_le hn))
        · rw [hv]
          exact ⟨B, O + k, Z, c, upd_self _ _, hroom, by omega, rfl⟩
      · have hgrow : c < l + q := by omega
        have hrun := run_append_grow (P := P) w ty rt el i z0 ht hi hz0 ⟨B, O + k, none⟩ l c olds ho1 ho3 A q cy news n2 n5 hgrow h63 (hfit48 c hgrow)
        refine fresh_row (h0 := hst h .no b) (c := ct) (olds := olds) (sCap := c) sub_no hmz ho1 hun (fun zs => hkn _ 0 (fun j hj => ?_) (fun j u hj => ?_)) hn' hv hh' hfr hrun
        · rw [← ho2 j hj, Nat.zero_add]
          have : j < olds.length := by omega
          simp only [List.getElem?_toArray]
          rw [List.append_assoc, List.getElem?_append_left this]
        · have := list_app (a := olds) (b := news) (c := zs) hj
          rw [ho1] at this
          simpa using this
    · -- an empty one, somewhere in its row
      cases hl
      obtain ⟨hes2, e9⟩ := bf_ok e8 (by simp)
      obtain ⟨hfb, e10⟩ := bf_ok e9 (by simp)
      obtain ⟨c0, z, hb, e11⟩ := gK_ok e10 (by simp)
      obtain rfl := beq_ok hes2
      have hfb := ble_ok hfb
      obtain ⟨B, O, Z, O1, c, hm, hZ, hx⟩ := dx
      subst hx
      obtain ⟨hv, hn', hh', hmz⟩ := newBlk_ok e11
      obtain ⟨B', O', Z', C, el', fr, hm', hh, hCZ, hfr0, hz, hK⟩ := s.cells b c0 z hb (gK_mz e10 (by simp) hb)
      rw [hm] at hm'
      cases hm'
      obtain rfl := hfr0 (Nat.le_trans hgf hfb)
      have hab0 : Ab fl h n (hst h .no b) n := Ab.set _ hfb (fun _ _ p => by cases p)
      refine ⟨by rw [hn', hh']; exact hab0.trans (Ab.new _ hf), fun hfr => ?_⟩
      by_cases hroom : 0 + q ≤ c
      · have hn := hfr n (Nat.le_refl _) (by omega)
        have hc1 : O1 + c * i.size = Z := by rcases hZ with p | p <;> omega
        have hfit : O1 + 0 * i.size + news.length ≤ C.size := by
          have : q * i.size ≤ c * i.size := Nat.mul_le_mul_right _ (by omega)
          rw [n2]; omega
        have hrun := run_room (P := P) (rt := rt) ht hi (off := O1) (sLen := 0) (sCap := c) hh n2 (c := cy) n5 n4 hroom hfit
        have hkn2 := (lay_new (laid C (O1 + 0 * i.size) news) O1 (fun j u hj => by have := laid_in hfit hj; simpa using this)).2
        refine ⟨_, _, upd m n (B, O1, Z), hrun, ?_, ?_⟩
        · rw [hh', hn']
          exact Tr.room s hb hfb hm hh hCZ hn hfit hf hmz lay_un (hkn2.le (upd_le hn))
        · rw [hv]
          exact ⟨B, O1, Z, c, upd_self _ _, by omega, by omega, by simp⟩
      · have hgrow : c < 0 + q := by omega
        have hrun := run_append_grow (P := P) w ty rt el i z0 ht hi hz0 ⟨B, O1, none⟩ 0 c [] (by simp) (by simp) A q cy news n2 n5 hgrow h63 (hfit48 c hgrow)
        refine fresh_row (h0 := hst h .no b) (c := lay yc ce 0) (olds := []) (sCap := c) sub_no (by simpa using hmz) (by simp) (by simpa using lay_un) (fun zs => (lay_new _ 0 (fun k u hk => ?_)).2) hn' (by simpa using hv) (by simpa using hh') hfr hrun
        simpa using list_fst (a := news) (b := []) (c := zs) hk
end
end Go.Rn
