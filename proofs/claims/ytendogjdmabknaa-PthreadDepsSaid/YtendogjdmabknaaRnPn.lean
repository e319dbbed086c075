/-
  One text of a symbolic evaluator over the model, shown sound once for every program: no statement is claimed here.
-/
import Derived.Test.YtendogjdmabknaaRnPm
namespace Go.Rn
variable {ρ : Nat → Int} {m m' : Mp} {P : Program}
variable {g fl n n' nt lim : Nat} {h h' : HT} {t : FT} {a : Act} {o : Oper} {w : World} {v : RV} {ys : Ys} {cl : Cl'}
/-- a new map -/
theorem Sim.newMap (s : Sim P ρ m g h w) (hn : m n = none) {c : CT} {ob : Obj} (hk : Spec P ρ (upd m n (w.heap.size, 0, 0)) c ob) :
    Sim P ρ (upd m n (w.heap.size, 0, 0)) g (hst h (.bk c MAPZ) n) (w.alloc ob) := by
  have hle : Le m (upd m n (w.heap.size, 0, 0)) := upd_le hn
  have hold : ∀ b c z, b ≠ n → hg (hst h (.bk c z) n) b = hg h b := fun b c z hb => by
    rcases hg_hst h (.bk c z) n b with ⟨h1, _⟩ | ⟨_, h1⟩
    · exact absurd h1 hb
    · exact h1
  refine ⟨fun b c' z' hb => ?_, fun b b' c1 z1 c2 z2 B O Z O' Z' h1 h2 h3 h4 => ?_⟩
  · by_cases e : b = n
    · subst e
      rcases hg_hst h (.bk c MAPZ) b b with ⟨_, h1 | h1⟩ | ⟨h1, _⟩
      · rw [hb] at h1
        cases h1
        exact ⟨_, _, _, upd_self _ _, .inr ⟨rfl, ob, heap_alloc_new _ _, hk⟩⟩
      · rw [hb] at h1; cases h1
      · exact absurd rfl h1
    · rw [hold b c MAPZ e] at hb
      obtain ⟨B, O, Z, h1, h2⟩ := s.cell b c' z' hb
      exact ⟨B, O, Z, hle _ _ h1, h2.move (RowKit.Below.heap_alloc _ _ _ h2.lt) hle⟩
  · have key : ∀ b c1 z1 B O Z, b ≠ n → hg (hst h (.bk c MAPZ) n) b = .bk c1 z1 → upd m n (w.heap.size, 0, 0) b = some (B, O, Z) → hg h b = .bk c1 z1 ∧ m b = some (B, O, Z) ∧ B < w.heap.size := fun b c1 z1 B O Z e h1 h3 => by
      rw [hold b c MAPZ e] at h1
      have h5 : m b = some (B, O, Z) := by
        unfold upd at h3; rwa [if_neg e] at h3
      exact ⟨h1, h5, s.lt h1 h5⟩
    by_cases e : b = n
    · by_cases e' : b' = n
      · omega
      · obtain ⟨_, _, h5⟩ := key b' c2 z2 B O' Z' e' h2 h4
        subst e
        rw [upd_self] at h3
        cases h3
        omega
    · by_cases e' : b' = n
      · obtain ⟨_, _, h5⟩ := key b c1 z1 B O Z e h1 h3
        subst e'
        rw [upd_self] at h4
        cases h4
        omega
      · obtain ⟨g1, g2, _⟩ := key b c1 z1 B O Z e h1 h3
        obtain ⟨g3, g4, _⟩ := key b' c2 z2 B O' Z' e' h2 h4
        exact s.inj b b' c1 z1 c2 z2 B O Z O' Z' g1 g3 g2 g4
theorem Tr.newMap (s : Sim P ρ m g h w) (hn : m n = none) {c : CT} {ob : Obj} (hk : Spec P ρ (upd m n (w.heap.size, 0, 0)) c ob) :
    Tr P ρ g fl h n m w (hst h (.bk c MAPZ) n) (n + 1) (upd m n (w.heap.size, 0, 0)) (w.alloc ob) := by
  refine ⟨s.newMap hn hk, upd_ext _ _, ⟨rfl, rfl, rfl, by simp, fun k hk _ => RowKit.Below.heap_alloc _ _ _ hk, fun k r h => ⟨r, (RowKit.Below.heap_alloc _ _ _ (Array.getElem?_eq_some_iff.1 h).1).trans h⟩⟩, fun b c' z' B O Z h1 h2 h3 => ?_⟩
  by_cases e : b = n
  · subst e
    rw [upd_self] at h3
    cases h3
    exact .inl (Nat.le_refl _)
  · unfold upd at h3
    rw [if_neg e] at h3
    rcases hg_hst h (.bk c MAPZ) n b with ⟨h4, _⟩ | ⟨_, h4⟩
    · exact absurd h4 e
    · rw [h4] at h2
      exact .inr ⟨b, c', z', O, Z, h1, h2, h3⟩
/-- a map turned -/
theorem Tr.setMap {b B O Z : Nat} {c c' : CT} {ob ob' : Obj} (s : Sim P ρ m g h w) (hb : hg h b = .bk c MAPZ) (fb : fl ≤ b) (hm : m b = some (B, O, Z)) (hh : w.heap[B]? = some ob) (hK : Spec P ρ m c' ob') (hl : ∀ r, ob = .loop r → ∃ r', ob' = .loop r') :
    Tr P ρ g fl h n m w (hst h (.bk c' MAPZ) b) n m { w with heap := w.heap.setIfInBounds B ob' } := by
  have hset := MapKept.heap_set (o' := ob') hh
  have hold : ∀ b', b' ≠ b → hg (hst h (.bk c' MAPZ) b) b' = hg h b' := fun b' hb' => by
    rcases hg_hst h (.bk c' MAPZ) b b' with ⟨h1, _⟩ | ⟨_, h1⟩
    · exact absurd h1 hb'
    · exact h1
  refine ⟨⟨fun b' c1 z1 e => ?_, fun b1 b2 c1 z1 c2 z2 B1 O1 Z1 O2 Z2 e1 e2 e3 e4 => ?_⟩, Ext.refl _ _ _, ⟨rfl, rfl, rfl, by simp, fun k _ hn => hset.2 k (fun eB => hn b c MAPZ O Z fb hb (by rw [eB]; exact hm)), fun k r h => (by
    by_cases e : k = B
    · subst e
      obtain ⟨r', hr'⟩ := hl r (Option.some.inj (hh.symm.trans h))
      exact ⟨r', by rw [hset.1, hr']⟩
    · exact ⟨r, (hset.2 k e).trans h⟩)⟩, fun b' c1 z1 B1 O1 Z1 e1 e2 e3 => ?_⟩
  · by_cases eb : b' = b
    · subst eb
      rcases hg_hst h (.bk c' MAPZ) b' b' with ⟨_, h1 | h1⟩ | ⟨h1, _⟩
      · rw [e] at h1; cases h1
        exact ⟨B, O, Z, hm, .inr ⟨rfl, ob', hset.1, hK⟩⟩
      · rw [e] at h1; cases h1
      · exact absurd rfl h1
    · rw [hold b' eb] at e
      obtain ⟨B', O', Z', q1, q2⟩ := s.cell b' c1 z1 e
      exact ⟨B', O', Z', q1, q2.move (hset.2 B' (fun eB => by
        subst eB
        exact eb (s.inj b' b c1 z1 c MAPZ B' O' Z' O Z e hb q1 hm))) (Le.refl _)⟩
  · have key : ∀ b1 c1 z1, hg (hst h (.bk c' MAPZ) b) b1 = .bk c1 z1 → ∃ c2 z2, hg h b1 = .bk c2 z2 := fun b1 c1 z1 e => by
      by_cases eb : b1 = b
      · exact ⟨c, MAPZ, by rw [eb]; exact hb⟩
      · rw [hold b1 eb] at e; exact ⟨_, _, e⟩
    obtain ⟨c3, z3, q1⟩ := key b1 c1 z1 e1
    obtain ⟨c4, z4, q2⟩ := key b2 c2 z2 e2
    exact s.inj b1 b2 c3 z3 c4 z4 B1 O1 Z1 O2 Z2 q1 q2 e3 e4
  · by_cases eb : b' = b
    · subst eb; exact .inr ⟨b', c, MAPZ, O1, Z1, e1, hb, e3⟩
    · rw [hold b' eb] at e2; exact .inr ⟨b', c1, z1, O1, Z1, e1, e2, e3⟩
theorem Sim.spec {b : Nat} {c : CT} (s : Sim P ρ m g h w) (hb : hg h b = .bk c MAPZ) : ∃ B O Z o, m b = some (B, O, Z) ∧ w.heap[B]? = some o ∧ Spec P ρ m c o := by
  obtain ⟨B, O, Z, h1, h2⟩ := s.cell b c MAPZ hb
  rcases h2 with ⟨h2, _⟩ | ⟨_, o, h2, h3⟩
  · exact absurd rfl h2
  · exact ⟨B, O, Z, o, h1, h2, h3⟩
theorem Sim.map {b : Nat} {c : CT} {q : Nat} (s : Sim P ρ m g h w) (hb : hg h b = .bk c MAPZ) (hsz : mSize c = some q) : ∃ B O Z es ck, m b = some (B, O, Z) ∧ w.heap[B]? = some (.map es ck) ∧ MapK ρ m c es := by
  obtain ⟨B, O, Z, o, h1, h2, h3⟩ := s.spec hb
  cases o with
  | map es ck => exact ⟨B, O, Z, es, ck, h1, h2, h3⟩
  | loop rec =>
    obtain ⟨key, st, _, _, _, _, _, _, _, h4, _⟩ := h3
    unfold mSize at hsz
    rw [h4] at hsz
    cases hsz
  | _ => exact h3.elim
theorem Sim.loop {b k : Nat} {c : CT} {st : RV} (s : Sim P ρ m g h w) (hb : hg h b = .bk c MAPZ) (hc : cg c 0 = .fn k st) : ∃ B O Z rec, m b = some (B, O, Z) ∧ w.heap[B]? = some (.loop rec) ∧ LoopK P ρ m c rec := by
  obtain ⟨B, O, Z, o, h1, h2, h3⟩ := s.spec hb
  cases o with
  | map es ck =>
    have h4 : cg c 0 = .i .i64 (.ofNat es.size) := h3.1
    rw [hc] at h4
    cases h4
  | loop rec => exact ⟨B, O, Z, rec, h1, h2, h3⟩
  | _ => exact h3.elim
theorem mSize_ok {c : CT} {es : Array MapEntry} {q : Nat} (hK : MapK ρ m c es) (e : mSize c = some q) : q = es.size := by
  unfold mSize at e
  rw [hK.1] at e
  have e' : some es.size = some q := e
  cases e'; rfl
/-- 'make' of a map -/
theorem ok_mk (s : Sim P ρ m g h w) (hf : fl ≤ n) {ty kt el : TypeId} {r : Option Operand} (ho : o.op = .makeMap ty r) (ht : P.underlying ty = some (.map kt el)) (hr : r.all keySize = true)
    (e : step .mk ys cl fl lim t h n = .ok v h' n') : Ok1 P ρ g fl o a m w h n v h' n' := by
  have e1 : fT (cst ce (.i .i64 (.ofNat 0)) 0) (fun cs => fT (hst h (.bk cs MAPZ) n) fun h => SR.ok (.mp n) h (Nat.succ n)) = .ok v h' n' := e
  rw [fT_eq, fT_eq] at e1
  cases e1
  refine ⟨Ab.new _ hf, fun hfr K Q hK => ?_⟩
  have hn : m n = none := hfr n (Nat.le_refl _) (Nat.lt_succ_self _)
  have hMK : MapK ρ (upd m n (w.heap.size, 0, 0)) (cst ce (.i .i64 (.ofNat 0)) 0) #[] := ⟨cg_cst_in _ _ 0 (by decide), fun i e he => by simp at he⟩
  refine op_value (w' := w.alloc (.map #[] 0)) (u := .map (some w.heap.size)) ?_ (hK _ _ _ (Tr.newMap (ob := .map #[] 0) s hn hMK) ⟨w.heap.size, 0, 0, upd_self _ _, rfl⟩)
  cases r with
  | none => simp [execOp, ho, Instr.makeMap, newObj]; rfl
  | some x =>
    cases x with
    | const c => cases c <;> first | cases hr; done | (simp [execOp, ho, Instr.makeMap, run_underlying ht, newObj, asInt]; rfl)
    | _ => cases hr
theorem keyOf_ty {kt : TypeId} {q : Nat} (h : keyType P kt = some q) : ∃ d, P.underlying kt = some d ∧ keyOf d = some q := by
  unfold keyType at h
  exact Option.bind_eq_some_iff.1 h
theorem kOf_un {q : Nat} {r : RV} {d : TypeDesc} (hq : keyOf d = some q) (h : kOf r = q) : r ≠ .un := by
  intro e
  subst e
  have h' : 0 = q := h
  subst h'
  cases d <;> first | (cases hq; done) | (rename_i k; cases k <;> cases hq)
/-- a map's value, asked by its key -/
theorem ok_ml (F : Fr P ρ m nt t a.tmps) (s : Sim P ρ m g h w) {ty kt el : TypeId} {mo ko : Operand} {two : Bool} {z : Value} {q : Nat} (ho : o.op = .lookup ty mo ko two) (ht : P.underlying ty = some (.map kt el)) (hz : zeroOf P el = some z) (hq : keyType P kt = some q)
    (e : step (.ml q (quote z) two (opd P nt mo) (opd P nt ko)) ys cl fl lim t h n = .ok v h' n') : Ok1 P ρ g fl o a m w h n v h' n' := by
  have e1 : gM (SR.bad [140]) (ev t (opd P nt mo)) (fun b => bf (Nat.ble (Nat.succ b) lim) (gMK (.bad [141]) (hg h b) fun cs => gO (.bad [142]) (mSize cs) fun s =>
    bf (Nat.beq (kOf (ev t (opd P nt ko))) q) (gO (.bad [144]) (mFind q cs (ev t (opd P nt ko)) s 0) fun x => mRes two (quote z) cs h n x) (.bad [143])) (.bad [145])) = .ok v h' n' := e
  obtain ⟨d, hd, hdq⟩ := keyOf_ty hq
  obtain ⟨b, hb, e2⟩ := gM_ok e1 (by simp)
  rcases bf_or e2 with ⟨_, e3⟩ | ⟨_, e3⟩
  case inr => cases e3
  obtain ⟨c, hc, e4⟩ := gMK_ok e3 (by simp)
  obtain ⟨sz, hsz, e5⟩ := gO_ok e4 (by simp)
  rcases bf_or e5 with ⟨hkk, e6⟩ | ⟨_, e6⟩
  case inr => cases e6
  have hkk := Nat.eq_of_beq_eq_true hkk
  obtain ⟨x, hx, e7⟩ := gO_ok e6 (by simp)
  have dm := opd_ok F mo (fun q => by rw [q] at hb; cases hb)
  rw [hb] at dm
  obtain ⟨B, O, Z, hm, hmv⟩ := dm
  have dk := opd_ok F ko (kOf_un hdq hkk)
  obtain ⟨B', O', Z', es, ck, hm', hh, hK⟩ := s.map hc hsz
  rw [hm] at hm'
  cases hm'
  have hs := mSize_ok hK hsz
  have hIs := kOf_key hdq hkk dk
  have hfind := mFind_ok (es := es.toList) (c := c) hdq hkk dk (fun i e he => (hK.2 i e (by simpa using he)).1) sz 0 x (by simp [hs]) hx
  unfold mRes at e7
  obtain ⟨hu, e8⟩ := nU_ok e7 (by simp)
  rcases hfind with ⟨rfl, hf⟩ | ⟨j, en, rfl, hj, _, hf⟩
  · have hzd : den ρ m (quote z) z := quote_ok hu
    have hrun : (Instr.lookup ty (a.eval mo) (a.eval ko) two).run P w = .ok (if two then .tuple #[z, .bool false] else z) w := by
      rw [List.drop_zero] at hf
      simp [Instr.lookup, run_underlying ht, hmv, MapKept.run_getObj_map hh, MapKept.run_checkKey hd hIs, MapKept.run_findKey hd hf, zeroOf_run hz]
    have hex : (execOp a.eval o).run P w = .ok (.value (if two then .tuple #[z, .bool false] else z)) w := by
      simp [execOp, ho, hrun]
    cases two with
    | true =>
      cases e8
      exact Ok1.quiet s hex ⟨[z, .bool false], denC_cons.2 ⟨_, _, rfl, hzd, denC_cons.2 ⟨_, _, rfl, rfl, denC_nil.2 rfl⟩⟩, rfl⟩
    | false =>
      cases e8
      exact Ok1.quiet s hex hzd
  · have hj' : es[j]? = some en := by simpa using hj
    obtain ⟨_, hv, _, hvu⟩ := hK.2 j en hj'
    have hrun : (Instr.lookup ty (a.eval mo) (a.eval ko) two).run P w = .ok (if two then .tuple #[en.val, .bool true] else en.val) w := by
      rw [List.drop_zero] at hf
      simp [Instr.lookup, run_underlying ht, hmv, MapKept.run_getObj_map hh, MapKept.run_checkKey hd hIs, MapKept.run_findKey hd hf]
    have hex : (execOp a.eval o).run P w = .ok (.value (if two then .tuple #[en.val, .bool true] else en.val)) w := by
      simp [execOp, ho, hrun]
    cases two with
    | true =>
      cases e8
      exact Ok1.quiet s hex ⟨[en.val, .bool true], denC_cons.2 ⟨_, _, rfl, hv, denC_cons.2 ⟨_, _, rfl, rfl, denC_nil.2 rfl⟩⟩, rfl⟩
    | false =>
      cases e8
      exact Ok1.quiet s hex hv
/-- a map's entry, put -/
theorem ok_mi (F : Fr P ρ m nt t a.tmps) (s : Sim P ρ m g h w) (_hgf : g ≤ fl) {ty kt el : TypeId} {mo ko xo : Operand} {q : Nat} (ho : o.op = .insert ty mo ko xo ∨ o.op = .mapUpdate ty mo ko xo) (ht : P.underlying ty = some (.map kt el)) (hq : keyType P kt = some q)
    (e : step (.mi q (opd P nt mo) (opd P nt ko) (opd P nt xo)) ys cl fl lim t h n = .ok v h' n') : Ok1 P ρ g fl o a m w h n v h' n' := by
  have e1 : gM (SR.bad [130]) (ev t (opd P nt mo)) (fun b => bf (Nat.ble fl b) (gMK (.bad [131]) (hg h b) fun cs => gO (.bad [132]) (mSize cs) fun s => bf (Nat.ble s 65536)
    (bf (Nat.beq (kOf (ev t (opd P nt ko))) q) (gO (.bad [134]) (mFind q cs (ev t (opd P nt ko)) s 0) fun x => nU (.bad [135]) (ev t (opd P nt xo)) fun v => nU (.bad [136]) (ev t (opd P nt ko)) fun key => fT (mSet cs key v s x) fun cs => fT (hst h (.bk cs MAPZ) b) fun h => .ok .ud h n) (.bad [133])) (.bad [137])) (.bad [138])) = .ok v h' n' := e
  obtain ⟨d, hd, hdq⟩ := keyOf_ty hq
  obtain ⟨b, hb, e2⟩ := gM_ok e1 (by simp)
  rcases bf_or e2 with ⟨hfb, e3⟩ | ⟨_, e3⟩
  case inr => cases e3
  have hfb := Nat.le_of_ble_eq_true hfb
  obtain ⟨c, hc, e4⟩ := gMK_ok e3 (by simp)
  obtain ⟨sz, hsz, e5⟩ := gO_ok e4 (by simp)
  rcases bf_or e5 with ⟨hsm, e5⟩ | ⟨_, e5⟩
  case inr => cases e5
  have hsm := Nat.le_of_ble_eq_true hsm
  rcases bf_or e5 with ⟨hkk, e6⟩ | ⟨_, e6⟩
  case inr => cases e6
  have hkk := Nat.eq_of_beq_eq_true hkk
  obtain ⟨x, hx, e7⟩ := gO_ok e6 (by simp)
  obtain ⟨hxu, e7⟩ := nU_ok e7 (by simp)
  obtain ⟨hku, e7⟩ := nU_ok e7 (by simp)
  rw [fT_eq, fT_eq] at e7
  cases e7
  have dm := opd_ok F mo (fun q => by rw [q] at hb; cases hb)
  rw [hb] at dm
  obtain ⟨B, O, Z, hm, hmv⟩ := dm
  have dk := opd_ok F ko (kOf_un hdq hkk)
  have dx := opd_ok F xo hxu
  obtain ⟨B', O', Z', es, ck, hm', hh, hK⟩ := s.map hc hsz
  rw [hm] at hm'
  cases hm'
  have hs := mSize_ok hK hsz
  subst hs
  have hIs := kOf_key hdq hkk dk
  have hfind := mFind_ok (es := es.toList) (c := c) hdq hkk dk (fun i e he => (hK.2 i e (by simpa using he)).1) es.size 0 x (by simp) hx
  refine ⟨Ab.set _ hfb (fun _ _ _ => ⟨_, _, hc⟩), fun _ K Q hKK => ?_⟩
  rcases hfind with ⟨rfl, hf⟩ | ⟨j, en, rfl, hj, hje, hf⟩
  · rw [List.drop_zero] at hf
    have hK' : MapK ρ m (mSet c (ev t (opd P nt ko)) (ev t (opd P nt xo)) es.size none) (es.push { key := a.eval ko, val := a.eval xo, born := ck }) := by
      have e0 : mSet c (ev t (opd P nt ko)) (ev t (opd P nt xo)) es.size none = cst (cst (cst c (ev t (opd P nt ko)) (1 + 2 * es.size)) (ev t (opd P nt xo)) (2 + 2 * es.size)) (.i .i64 (.ofNat (es.size + 1))) 0 := by
        show fT _ _ = _
        rw [fT_eq, fT_eq]; rfl
      rw [e0]
      refine ⟨by rw [cg_cst_in _ _ _ (by decide)]; simp, fun i e he => ?_⟩
      rw [Array.getElem?_push] at he
      rw [cg_cst_ne _ _ (by omega), cg_cst_ne _ _ (show 2 + 2 * i ≠ 0 by omega)]
      split at he
      · rename_i hi
        subst hi
        cases he
        rw [cg_cst_ne _ _ (by omega), cg_cst_in _ _ _ (by omega), cg_cst_in _ _ _ (by omega)]
        exact ⟨dk, dx, hku, hxu⟩
      · rename_i hi
        rw [cg_cst_ne _ _ (by omega), cg_cst_ne _ _ (by omega), cg_cst_ne _ _ (by omega), cg_cst_ne _ _ (by omega)]
        exact hK.2 i e he
    have hT := Tr.setMap (n := n) (ob' := .map _ (ck + 1)) s hc hfb hm hh hK' (fun _ h => by cases h)
    refine op_skip ?_ (hKK _ _ _ hT rfl)
    have hrun : (Instr.mapUpdate ty (a.eval mo) (a.eval ko) (a.eval xo)).run P w = .ok () { w with heap := w.heap.setIfInBounds B (.map (es.push { key := a.eval ko, val := a.eval xo, born := ck }) (ck + 1)) } := by
      simp [Instr.mapUpdate, run_underlying ht, hmv, MapKept.run_getObj_map hh, MapKept.run_checkKey hd hIs, MapKept.run_findKey hd hf, MapKept.run_setObj_map _ hh, Result.andThen]
    rcases ho with ho | ho <;> simp [execOp, ho, hrun]
  · rw [List.drop_zero] at hf
    have hj' : es[j]? = some en := by simpa using hj
    have hjl : j < es.size := (Array.getElem?_eq_some_iff.1 hj').1
    have hK' : MapK ρ m (mSet c (ev t (opd P nt ko)) (ev t (opd P nt xo)) es.size (some j)) (es.modify j fun e => { e with key := a.eval ko, val := a.eval xo }) := by
      have e0 : mSet c (ev t (opd P nt ko)) (ev t (opd P nt xo)) es.size (some j) = cst c (ev t (opd P nt xo)) (2 + 2 * j) := rfl
      rw [e0]
      refine ⟨by rw [cg_cst_ne _ _ (by omega), hK.1]; simp, fun i e he => ?_⟩
      rw [cg_cst_ne _ _ (show 1 + 2 * i ≠ 2 + 2 * j by omega)]
      rw [Array.getElem?_modify] at he
      split at he
      · rename_i hi
        subst hi
        rw [hj'] at he
        cases he
        obtain ⟨k1, k2, k3, k4⟩ := hK.2 j en hj'
        rw [cg_cst_in _ _ _ (by omega)]
        exact ⟨hje ▸ k1, dx, k3, hxu⟩
      · rename_i hi
        rw [cg_cst_ne _ _ (by omega)]
        exact hK.2 i e he
    have hT := Tr.setMap (n := n) (ob' := .map _ ck) s hc hfb hm hh hK' (fun _ h => by cases h)
    refine op_skip ?_ (hKK _ _ _ hT rfl)
    have hrun : (Instr.mapUpdate ty (a.eval mo) (a.eval ko) (a.eval xo)).run P w = .ok () { w with heap := w.heap.setIfInBounds B (.map (es.modify j fun e => { e with key := a.eval ko, val := a.eval xo }) ck) } := by
      simp [Instr.mapUpdate, run_underlying ht, hmv, MapKept.run_getObj_map hh, MapKept.run_checkKey hd hIs, MapKept.run_findKey hd hf, hj', hje, MapKept.run_keyThatStays hIs, MapKept.run_setObj_map _ hh, Result.andThen]
    rcases ho with ho | ho <;> simp [execOp, ho, hrun]
end Go.Rn
