/-
  One text of a symbolic evaluator over the model, shown sound once for every program: no statement is claimed here.
-/
import Derived.Test.YtendogjdmabknaaRqI
namespace Go.Rn
attribute [local irreducible] HT9 CT7 RelC7 RelH9
section
variable {ys : Ys} {fl : Nat}
theorem dstW_ok (d : D) : ∃ s, dstW d = .mk s ∧ SOk s fun t v => put t d v := by
  cases d with
  | no => exact ⟨_, rfl, fun t3 t v c hF h => ⟨t3, hF, h⟩⟩
  | d p => exact setP_ok p
/-- what is done when it is wanted; when not -/
def RunOk (ys : Ys) (fl : Nat) (r : Kt → Kt) (d : D) (o : RP) : Prop := ∀ nx cl3 cl t3 t h3 h n, ClSim fl cl3 cl → FR t3 t → HRel h3 h → Good (r nx cl3 t3 h3 n) →
  ∃ v h' n' t3' h3', step o ys cl fl LIM t h n = .ok v h' n' ∧ FR t3' (put t d v) ∧ HRel h3' h' ∧ Good (nx cl3 t3' h3' n')
theorem qP_ok {f : P3} {s : S3} {d : D} {o : RP} (hf : POk ys f o) (hs : SOk s fun t v => put t d v) : RunOk ys fl (qP f s) d o := fun nx cl3 cl t3 t h3 h n _ hF hH e => by
  obtain ⟨v, e1, h1⟩ := hf _ _ _ hF e
  obtain ⟨t3', hF', h2⟩ := hs _ _ _ _ hF h1
  exact ⟨v, h, n, t3', h3, e1 _ _ _ _ _, hF', hH, h2⟩
theorem qE_ok {f : E3} {s : S3} {d : D} {o : RP} (hf : EOk ys fl f o) (hs : SOk s fun t v => put t d v) : RunOk ys fl (qE f s) d o := fun nx cl3 cl t3 t h3 h n hc hF hH e => by
  obtain ⟨v, h', n', h3', e1, hH', h1⟩ := hf _ _ _ _ _ _ _ _ hc hF hH e
  obtain ⟨t3', hF', h2⟩ := hs _ _ _ _ hF h1
  exact ⟨v, h', n', t3', h3', e1, hF', hH', h2⟩
def L1Ok (ys : Ys) (fl : Nat) (f : Kt → Kt) (q : RQ) : Prop := ∀ nx cl3 cl t3 t h3 h n, ClSim fl cl3 cl → FR t3 t → HRel h3 h → Good (f nx cl3 t3 h3 n) →
  ∃ t' h' n' t3' h3', (∀ ih : Bd, opsQ q ys cl fl ih t h n = ih t' h' n') ∧ FR t3' t' ∧ HRel h3' h' ∧ Good (nx cl3 t3' h3' n')
def LwOk (w : Lw) (p : (Kt → Kt) → Prop) : Prop := match w with | .mk f => p f | .no => True
theorem opsY {d : D} {g : G} {k : K3} {o : RP} {cl : Cl'} {ih : Bd} {t : FT} {h h' : HT} {n n' : Nat} {v : RV} (hw : want t g = .y) (e : step o ys cl fl LIM t h n = .ok v h' n') : opsQ (.q d g k o) ys cl fl ih t h n = ih (put t d v) h' n' := by
  show opsW ys cl fl d o ih t h n (want t g) = _
  rw [hw]
  show opsOk d t (step o ys cl fl LIM t h n) ih = _
  rw [e]
  show fT (put t d v) (fun t => ih t h' n') = _
  rw [fT_id]
theorem opsN {d : D} {g : G} {k : K3} {o : RP} {cl : Cl'} {ih : Bd} {t : FT} {h : HT} {n : Nat} (hw : want t g = .n) : opsQ (.q d g k o) ys cl fl ih t h n = ih (put t d .ud) h n := by
  show opsW ys cl fl d o ih t h n (want t g) = _
  rw [hw]
  show fT (put t d .ud) (fun t => ih t h n) = _
  rw [fT_id]
theorem want_ok {p : Pa} {w : Bool} {t : FT} {y n : A} (h : Good (cG (tg t p) w y n)) : (want t (.g p w) = .y ∧ Good y) ∨ (want t (.g p w) = .n ∧ Good n) := by
  have e : want t (.g p w) = match tg t p with | .b x => bf (eqB x w) .y .n | .ud => .n | _ => .u := rfl
  rcases cG_ok h with ⟨x, e1, e2, h1⟩ | ⟨x, e1, e2, h1⟩ | ⟨e1, h1⟩
  · left; rw [e, e1]; refine ⟨?_, h1⟩; show bf (eqB x w) W3.y .n = .y; rw [e2]; rfl
  · right; rw [e, e1]; refine ⟨?_, h1⟩; show bf (eqB x w) W3.y .n = .n; rw [e2]; rfl
  · right; rw [e, e1]; exact ⟨rfl, h1⟩
theorem gdW_ok {g : G} {d : D} {k : K3} {o : RP} {r : Kt → Kt} {s : S3} (hr : RunOk ys fl r d o) (hs : SOk s fun t v => put t d v) : LwOk (gdW g r (qS s)) fun f => L1Ok ys fl f (.q d g k o) := by
  cases g with
  | no =>
    exact fun nx cl3 cl t3 t h3 h n hc hF hH e => by
      obtain ⟨v, h', n', t3', h3', e1, hF', hH', h1⟩ := hr _ _ _ _ _ _ _ _ hc hF hH e
      exact ⟨_, h', n', t3', h3', fun ih => opsY rfl e1, hF', hH', h1⟩
  | g p w =>
    obtain ⟨g, e0, hg⟩ := getP_ok p
    show LwOk (@Gw.rec (fun _ => Lw) (fun g => .mk (gdK g w r (qS s))) (getK (Nat.sub (Pa.val p) 1))) _
    rw [e0]
    exact fun nx cl3 cl t3 t h3 h n hc hF hH e => by
      rcases want_ok (hg _ _ _ hF e) with ⟨e1, h1⟩ | ⟨e1, h1⟩
      · obtain ⟨v, h', n', t3', h3', e2, hF', hH', h2⟩ := hr _ _ _ _ _ _ _ _ hc hF hH h1
        exact ⟨_, h', n', t3', h3', fun ih => opsY e1 e2, hF', hH', h2⟩
      · obtain ⟨t3', hF', h2⟩ := hs _ _ _ _ hF h1
        exact ⟨_, h, n, t3', h3, fun ih => opsN e1, hF', hH, h2⟩
theorem lw1_ok (q : RQ) : LwOk (lw1 ys fl q) fun f => L1Ok ys fl f q := by
  obtain ⟨d, g, k, o⟩ := q
  obtain ⟨s, e1, hs⟩ := dstW_ok d
  show LwOk (@Sw.rec (fun _ => Lw) (fun s => @Ow'.rec F3 H3 (fun _ => Lw) (fun f => gdW g (qP f s) (qS s)) (fun f => gdW g (qE f s) (qS s)) .no (ow ys fl o)) (dstW d)) _
  rw [e1]
  have ho := ow_ok (ys := ys) (fl := fl) o
  show LwOk (@Ow'.rec F3 H3 (fun _ => Lw) (fun f => gdW g (qP f s) (qS s)) (fun f => gdW g (qE f s) (qS s)) .no (ow ys fl o)) _
  revert ho
  cases ow ys fl o with
  | p f => exact fun ho => gdW_ok (qP_ok ho hs) hs
  | e f => exact fun ho => gdW_ok (qE_ok ho hs) hs
  | no => exact fun _ => trivial
def LOk (ys : Ys) (fl : Nat) (f : Kt → Kt) (l : List RQ) : Prop := ∀ nx cl3 cl t3 t h3 h n, ClSim fl cl3 cl → FR t3 t → HRel h3 h → Good (f nx cl3 t3 h3 n) →
  ∃ t' h' n' t3' h3', ops ys cl fl l t h n = .nx t' h' n' ∧ FR t3' t' ∧ HRel h3' h' ∧ Good (nx cl3 t3' h3' n')
theorem lw_ok : ∀ l, LwOk (lw ys fl l) fun f => LOk ys fl f l
  | [] => fun nx cl3 cl t3 t h3 h n _ hF hH e => ⟨t, h, n, t3, h3, rfl, hF, hH, e⟩
  | q :: l => by
    have h1 := lw1_ok (ys := ys) (fl := fl) q
    have h2 := lw_ok l
    show LwOk (@Lw'.rec F3 H3 (fun _ => Lw) (fun a => @Lw'.rec F3 H3 (fun _ => Lw) (fun b => .mk (fun nx => a (b nx))) .no (lw ys fl l)) .no (lw1 ys fl q)) _
    revert h1
    cases lw1 ys fl q with
    | no => exact fun _ => trivial
    | mk a =>
      intro h1
      show LwOk (@Lw'.rec F3 H3 (fun _ => Lw) (fun b => .mk (fun nx => a (b nx))) .no (lw ys fl l)) _
      revert h2
      cases lw ys fl l with
      | no => exact fun _ => trivial
      | mk b =>
        intro h2 nx cl3 cl t3 t h3 h n hc hF hH e
        obtain ⟨t', h', n', t3', h3', e1, hF', hH', h4⟩ := h1 _ _ _ _ _ _ _ _ hc hF hH e
        obtain ⟨t2, h2', n2, t32, h32, e2, hF2, hH2, h5⟩ := h2 _ _ _ _ _ _ _ _ hc hF' hH' h4
        exact ⟨t2, h2', n2, t32, h32, (e1 _).trans e2, hF2, hH2, h5⟩
/-! regions that draw -/
def HsRel : List H3 → List HT → Prop
  | [], [] => True
  | a :: l, b :: r => HRel a b ∧ HsRel l r
  | _, _ => False
theorem HsRel.length : ∀ {a : List H3} {b : List HT}, HsRel a b → a.length = b.length
  | [], [], _ => rfl
  | _ :: a, _ :: b, h => by simp [HsRel.length h.2]
  | [], _ :: _, h => h.elim
  | _ :: _, [], h => h.elim
theorem ck1_ok {c : CK} {h3 : H3} {h : HT} {j : Nat} {y : A} (hH : HRel h3 h) (e : Good (ck1 c h3 j y)) : ckIn h j c = true ∧ Good y := by
  obtain ⟨p, q, b, o, g, m, v⟩ := c
  show bf (Nat.ble p j) (bf (Nat.ble j q) (gK false (hg h b) fun cs _ => eqV (rdV g m cs o) v) true) true = true ∧ Good y
  rcases ifA_ok e with ⟨e1, h1⟩ | ⟨e1, h1⟩
  · rw [e1]
    rcases ifA_ok h1 with ⟨e2, h2⟩ | ⟨e2, h2⟩
    · rw [e2]
      obtain ⟨cs, z, c3, e3, rc, _, h4, hmz⟩ := hgetB hH h2
      obtain ⟨_, _, h5⟩ := rdA_ok rc h4
      obtain ⟨e4, h6⟩ := ifA_y h5
      rw [e3, bf_t, bf_t, gK_bk hmz]
      exact ⟨e4, h6⟩
    · rw [e2]; exact ⟨rfl, h2⟩
  · rw [e1]; exact ⟨rfl, h1⟩
theorem ckA_ok {h3 : H3} {h : HT} {j : Nat} {y : A} (hH : HRel h3 h) : ∀ {l : List CK}, Good (ckA l h3 j y) → ckAll l h j = true ∧ Good y
  | [], e => ⟨rfl, e⟩
  | c :: l, e => by
    obtain ⟨e1, h1⟩ := ck1_ok (y := ckA l h3 j y) hH e
    obtain ⟨e2, h2⟩ := ckA_ok hH h1
    refine ⟨?_, h2⟩
    show bf (ckIn h j c) (ckAll l h j) false = true
    rw [e1, e2]; rfl
theorem ckO_ok {l : List CK} {y : A} : ∀ {a : List H3} {b : List HT}, HsRel a b → Good (ckO a l y) → ckOver b l = true ∧ Good y
  | [], [], _, e => ⟨rfl, e⟩
  | x :: a, z :: b, r, e => by
    obtain ⟨e1, h1⟩ := ckA_ok (y := ckO a l y) r.1 e
    obtain ⟨e2, h2⟩ := ckO_ok r.2 h1
    refine ⟨?_, h2⟩
    show bf (ckAll l z b.length) (ckOver b l) false = true
    rw [← r.2.length, e1, e2]; rfl
  | [], _ :: _, r, _ => r.elim
  | _ :: _, [], r, _ => r.elim
theorem ckOver_nil : ∀ b : List HT, ckOver b [] = true
  | [] => rfl
  | _ :: b => ckOver_nil b
theorem ckT_ok {l : List CK} {y : A} {a : List H3} {b : List HT} (r : HsRel a b) (e : Good (ckT a l y)) : ckOver b l = true ∧ Good y := by
  cases l with
  | nil => exact ⟨ckOver_nil b, e⟩
  | cons c l => exact ckO_ok r e
def D1Ok (ys : Ys) (fl : Nat) (f : Kd → Kd) (q : RQ) : Prop := ∀ nx n0 cs hs3 hs cl3 cl t3 t h3 h n, ClSim fl cl3 cl → FR t3 t → HRel h3 h → HsRel hs3 hs → Good (f nx n0 cs hs3 cl3 t3 h3 n) →
  ∃ t' h' n' cs' hs' t3' h3' hs3', (∀ ih : Dd, dQ q ys cl fl n0 ih t h n cs hs = ih t' h' n' cs' hs') ∧ FR t3' t' ∧ HRel h3' h' ∧ HsRel hs3' hs' ∧ Good (nx n0 cs' hs3' cl3 t3' h3' n')
def DvOk (w : Dv) (p : (Kd → Kd) → Prop) : Prop := match w with | .mk f => p f | .no => True
theorem dY {d : D} {g : G} {k : K3} {o : RP} {cl : Cl'} {ih : Dd} {t : FT} {h h' : HT} {n n' n0 : Nat} {v : RV} {cs : List CK} {hs : List HT} (hw : want t g = .y) (e : step o ys cl fl (limOf k n0) t h n = .ok v h' n') :
    dQ (.q d g k o) ys cl fl n0 ih t h n cs hs = @K3.rec (fun _ => BR) (ih (put t d v) h' n' cs hs) (ih (put t d v) h' n' cs hs) (fun p q => gO (.bad [96]) (ckOf p q o t n0 v cs) fun cs => ih (put t d v) h' n' cs hs) (ih (put t d v) h' n' cs (h' :: hs)) k := by
  show dW ys cl fl n0 d k o ih t h n cs hs (want t g) = _
  rw [hw]
  show dOk d k o n0 t (step o ys cl fl (limOf k n0) t h n) cs hs ih = _
  rw [e]
  show fT (put t d v) (fun t' => @K3.rec (fun _ => BR) (ih t' h' n' cs hs) (ih t' h' n' cs hs) (fun p q => gO (BR.bad [96]) (ckOf p q o t n0 v cs) fun cs => ih t' h' n' cs hs) (ih t' h' n' cs (h' :: hs)) k) = _
  rw [fT_id]
theorem dN {d : D} {g : G} {k : K3} {o : RP} {cl : Cl'} {ih : Dd} {t : FT} {h : HT} {n n0 : Nat} {cs : List CK} {hs : List HT} (hw : want t g = .n) :
    dQ (.q d g k o) ys cl fl n0 ih t h n cs hs = @K3.rec (fun _ => BR) (ih (put t d .ud) h n cs hs) (ih (put t d .ud) h n cs hs) (fun _ _ => ih (put t d .ud) h n cs hs) (ih (put t d .ud) h n cs (h :: hs)) k := by
  show dW ys cl fl n0 d k o ih t h n cs hs (want t g) = _
  rw [hw]
  show fT (put t d .ud) (fun t => @K3.rec (fun _ => BR) (ih t h n cs hs) (ih t h n cs hs) (fun _ _ => ih t h n cs hs) (ih t h n cs (h :: hs)) k) = _
  rw [fT_id]
/-- what a wanted operation of a drawn region does; one that is skipped -/
def DrunOk (ys : Ys) (fl : Nat) (r : Kd → Kd) (d : D) (k : K3) (o : RP) : Prop := ∀ nx n0 cs hs3 hs cl3 cl t3 t h3 h n, ClSim fl cl3 cl → FR t3 t → HRel h3 h → HsRel hs3 hs → Good (r nx n0 cs hs3 cl3 t3 h3 n) →
  ∃ v h' n' cs' hs' t3' h3' hs3', step o ys cl fl (limOf k n0) t h n = .ok v h' n' ∧ (∀ ih : Dd, @K3.rec (fun _ => BR) (ih (put t d v) h' n' cs hs) (ih (put t d v) h' n' cs hs) (fun p q => gO (.bad [96]) (ckOf p q o t n0 v cs) fun cs => ih (put t d v) h' n' cs hs) (ih (put t d v) h' n' cs (h' :: hs)) k = ih (put t d v) h' n' cs' hs') ∧ FR t3' (put t d v) ∧ HRel h3' h' ∧ HsRel hs3' hs' ∧ Good (nx n0 cs' hs3' cl3 t3' h3' n')
def DskpOk (r : Kd → Kd) (d : D) (k : K3) : Prop := ∀ nx n0 cs hs3 hs cl3 t3 t h3 h n, FR t3 t → HRel h3 h → HsRel hs3 hs → Good (r nx n0 cs hs3 cl3 t3 h3 n) →
  ∃ cs' hs' t3' hs3', (∀ ih : Dd, @K3.rec (fun _ => BR) (ih (put t d .ud) h n cs hs) (ih (put t d .ud) h n cs hs) (fun _ _ => ih (put t d .ud) h n cs hs) (ih (put t d .ud) h n cs (h :: hs)) k = ih (put t d .ud) h n cs' hs') ∧ FR t3' (put t d .ud) ∧ HsRel hs3' hs' ∧ Good (nx n0 cs' hs3' cl3 t3' h3 n)
theorem gdV_ok {g : G} {d : D} {k : K3} {o : RP} {r s : Kd → Kd} (hr : DrunOk ys fl r d k o) (hs : DskpOk s d k) : DvOk (gdV g r s) fun f => D1Ok ys fl f (.q d g k o) := by
  cases g with
  | no =>
    exact fun nx n0 cs hs3 hs' cl3 cl t3 t h3 h n hc hF hH hq e => by
      obtain ⟨v, h', n', cs', hs'', t3', h3', hs3', e1, e2, hF', hH', hq', h1⟩ := hr _ _ _ _ _ _ _ _ _ _ _ _ hc hF hH hq e
      exact ⟨_, h', n', cs', hs'', t3', h3', hs3', fun ih => (dY rfl e1).trans (e2 ih), hF', hH', hq', h1⟩
  | g p w =>
    obtain ⟨g, e0, hg⟩ := getP_ok p
    show DvOk (@Gw.rec (fun _ => Dv) (fun g => .mk (gdD g w r s)) (getK (Nat.sub (Pa.val p) 1))) _
    rw [e0]
    exact fun nx n0 cs hs3 hs' cl3 cl t3 t h3 h n hc hF hH hq e => by
      rcases want_ok (hg _ _ _ hF e) with ⟨e1, h1⟩ | ⟨e1, h1⟩
      · obtain ⟨v, h', n', cs', hs'', t3', h3', hs3', e2, e3, hF', hH', hq', h2⟩ := hr _ _ _ _ _ _ _ _ _ _ _ _ hc hF hH hq h1
        exact ⟨_, h', n', cs', hs'', t3', h3', hs3', fun ih => (dY e1 e2).trans (e3 ih), hF', hH', hq', h2⟩
      · obtain ⟨cs', hs'', t3', hs3', e3, hF', hq', h2⟩ := hs _ _ _ _ _ _ _ _ _ _ _ hF hH hq h1
        exact ⟨_, h, n, cs', hs'', t3', h3, hs3', fun ih => (dN e1).trans (e3 ih), hF', hH, hq', h2⟩
theorem skD_ok {s : S3} {d : D} {k : K3} (hk : k ≠ .ef) (hs : SOk s fun t v => put t d v) : DskpOk (skD s) d k := fun nx n0 cs hs3 hs' cl3 t3 t h3 h n hF hH hq e => by
  obtain ⟨t3', hF', h1⟩ := hs _ _ _ _ hF e
  refine ⟨cs, hs', t3', hs3, fun ih => ?_, hF', hq, h1⟩
  cases k <;> first | rfl | exact absurd rfl hk
theorem skE_ok {s : S3} {d : D} (hs : SOk s fun t v => put t d v) : DskpOk (skE s) d .ef := fun nx n0 cs hs3 hs' cl3 t3 t h3 h n hF hH hq e => by
  obtain ⟨t3', hF', h1⟩ := hs _ _ _ _ hF e
  exact ⟨cs, h :: hs', t3', h3 :: hs3, fun ih => rfl, hF', ⟨hH, hq⟩, h1⟩
theorem liD_ok {r : Kt → Kt} {d : D} {o : RP} (hr : RunOk ys fl r d o) : DrunOk ys fl (liD r) d .nm o := fun nx n0 cs hs3 hs cl3 cl t3 t h3 h n hc hF hH hq e => by
  obtain ⟨v, h', n', t3', h3', e1, hF', hH', h1⟩ := hr _ _ _ _ _ _ _ _ hc hF hH e
  exact ⟨v, h', n', cs, hs, t3', h3', hs3, e1, fun ih => rfl, hF', hH', hq, h1⟩
theorem ld_lim {g : Bool} {m b o n0 : Nat} {a : RO} {cl : Cl'} {t : FT} {h h' : HT} {n n' : Nat} {v : RV} (ea : ev t a = .p b o) (hb : Nat.ble (b + 1) n0 = true) (e : step (.ld g m a) ys cl fl LIM t h n = .ok v h' n') : step (.ld g m a) ys cl fl n0 t h n = .ok v h' n' := by
  have e1 : gP (SR.bad [10]) (ev t a) (fun b o => bf (Nat.ble (Nat.succ b) LIM) (gK (SR.bad [7]) (hg h b) fun cs _ => ldC g m cs o h n) (SR.bad [11])) = .ok v h' n' := e
  show gP (SR.bad [10]) (ev t a) (fun b o => bf (Nat.ble (Nat.succ b) n0) (gK (SR.bad [7]) (hg h b) fun cs _ => ldC g m cs o h n) (SR.bad [11])) = .ok v h' n'
  rw [ea] at e1 ⊢
  have e2 : bf (Nat.ble (b + 1) LIM) (gK (SR.bad [7]) (hg h b) fun cs _ => ldC g m cs o h n) (SR.bad [11]) = .ok v h' n' := e1
  show bf (Nat.ble (b + 1) n0) (gK (SR.bad [7]) (hg h b) fun cs _ => ldC g m cs o h n) (SR.bad [11]) = .ok v h' n'
  rw [hb]
  cases hl : Nat.ble (b + 1) LIM with
  | true => rw [hl] at e2; exact e2
  | false => rw [hl] at e2; cases e2
theorem lm_ok {g : Bool} {m : Nat} {a : RO} {ga : G3} {r : Kt → Kt} {d : D} (hg : GOk ga fun t => ev t a) (hr : RunOk ys fl r d (.ld g m a)) : DrunOk ys fl (limD ga (liD r)) d .lm (.ld g m a) := fun nx n0 cs hs3 hs cl3 cl t3 t h3 h n hc hF hH hq e => by
  obtain ⟨b, o, e1, h1⟩ := cP_ok (hg _ _ _ hF e)
  obtain ⟨e2, h2⟩ := ifA_y h1
  obtain ⟨v, h', n', t3', h3', e3, hF', hH', h4⟩ := hr _ _ _ _ _ _ _ _ hc hF hH h2
  exact ⟨v, h', n', cs, hs, t3', h3', hs3, ld_lim e1 e2 e3, fun ih => rfl, hF', hH', hq, h4⟩
theorem ckD_ok {p q : Nat} {g : Bool} {m : Nat} {a : RO} {ga : G3} {f : E3} {s : S3} {d : D} (hg : GOk ga fun t => ev t a) (hf : EOk ys fl f (.ld g m a)) (hs : SOk s fun t v => put t d v) : DrunOk ys fl (ckD p q g m ga f s) d (.ck p q) (.ld g m a) := fun nx n0 cs hs3 hs' cl3 cl t3 t h3 h n hc hF hH hq e => by
  obtain ⟨b, o, e1, h1⟩ := cP_ok (hg _ _ _ hF e)
  obtain ⟨e2, h2⟩ := ifA_y h1
  obtain ⟨v, h', n', h3', e3, hH', h4⟩ := hf _ _ _ _ _ _ _ _ hc hF hH h2
  obtain ⟨t3', hF', h5⟩ := hs _ _ _ _ hF h4
  have e1 : ev t a = .p b o := e1
  refine ⟨v, h', n', .k p q b o g m v :: cs, hs', t3', h3', hs3, ld_lim e1 e2 e3, fun ih => ?_, hF', hH', hq, h5⟩
  show gO (BR.bad [96]) (gP none (ev t a) fun b o => bf (Nat.ble (Nat.succ b) n0) (some (.k p q b o g m v :: cs)) none) (fun cs => ih (put t d v) h' n' cs hs') = _
  rw [e1]
  show gO (BR.bad [96]) (bf (Nat.ble (b + 1) n0) (some (.k p q b o g m v :: cs)) none) (fun cs => ih (put t d v) h' n' cs hs') = _
  rw [e2]
  rfl
theorem efD_ok {f : E3} {s : S3} {d : D} {o : RP} (hf : EOk ys fl f o) (hs : SOk s fun t v => put t d v) : DrunOk ys fl (efD f s) d .ef o := fun nx n0 cs hs3 hs' cl3 cl t3 t h3 h n hc hF hH hq e => by
  obtain ⟨v, h', n', h3', e3, hH', h4⟩ := hf _ _ _ _ _ _ _ _ hc hF hH e
  obtain ⟨t3', hF', h5⟩ := hs _ _ _ _ hF h4
  exact ⟨v, h', n', cs, h' :: hs', t3', h3', h3' :: hs3, e3, fun ih => rfl, hF', hH', ⟨hH', hq⟩, h5⟩
theorem efP_ok {f : P3} {s : S3} {d : D} {o : RP} (hf : POk ys f o) (hs : SOk s fun t v => put t d v) : DrunOk ys fl (efP f s) d .ef o := fun nx n0 cs hs3 hs' cl3 cl t3 t h3 h n hc hF hH hq e => by
  obtain ⟨v, e3, h4⟩ := hf _ _ _ hF e
  obtain ⟨t3', hF', h5⟩ := hs _ _ _ _ hF h4
  exact ⟨v, h, n, cs, h :: hs', t3', h3, h3 :: hs3, e3 _ _ _ _ _, fun ih => rfl, hF', hH, ⟨hH, hq⟩, h5⟩
theorem adW_ok {o : RP} {f : Bool → Nat → G3 → Dv} {p : (Kd → Kd) → Prop} (h : ∀ g m a ga, o = .ld g m a → GOk ga (fun t => ev t a) → DvOk (f g m ga) p) : DvOk (adW o f) p := by
  unfold adW
  split
  · rename_i g m a
    obtain ⟨ga, e, hg⟩ := ropW_ok a
    rw [e]
    exact h g m a ga rfl hg
  · trivial
theorem dw1_ok (q : RQ) : DvOk (dw1 ys fl q) fun f => D1Ok ys fl f q := by
  obtain ⟨d, g, k, o⟩ := q
  obtain ⟨s, e1, hs⟩ := dstW_ok d
  have e0 : dw1 ys fl (.q d g k o) = @Sw.rec (fun _ => Dv) (fun s => @K3.rec (fun _ => Dv)
    (@Ow'.rec F3 H3 (fun _ => Dv) (fun f => gdV g (liD (qP f s)) (skD s)) (fun f => gdV g (liD (qE f s)) (skD s)) .no (ow ys fl o))
    (@Ow'.rec F3 H3 (fun _ => Dv) (fun _ => .no) (fun f => adW o fun _ _ a => gdV g (limD a (liD (qE f s))) (skD s)) .no (ow ys fl o))
    (fun p q => @Ow'.rec F3 H3 (fun _ => Dv) (fun _ => .no) (fun f => adW o fun ag m a => gdV g (ckD p q ag m a f s) (skD s)) .no (ow ys fl o))
    (@Ow'.rec F3 H3 (fun _ => Dv) (fun f => gdV g (efP f s) (skE s)) (fun f => gdV g (efD f s) (skE s)) .no (ow ys fl o)) k) (dstW d) := rfl
  rw [e0, e1]
  have ho := ow_ok (ys := ys) (fl := fl) o
  revert ho
  cases k with
  | nm =>
    show OwOk ys fl (ow ys fl o) o → DvOk (@Ow'.rec F3 H3 (fun _ => Dv) (fun f => gdV g (liD (qP f s)) (skD s)) (fun f => gdV g (liD (qE f s)) (skD s)) .no (ow ys fl o)) _
    cases ow ys fl o with
    | p f => exact fun ho => gdV_ok (liD_ok (qP_ok ho hs)) (skD_ok (by simp) hs)
    | e f => exact fun ho => gdV_ok (liD_ok (qE_ok ho hs)) (skD_ok (by simp) hs)
    | no => exact fun _ => trivial
  | lm =>
    show OwOk ys fl (ow ys fl o) o → DvOk (@Ow'.rec F3 H3 (fun _ => Dv) (fun _ => .no) (fun f => adW o fun _ _ a => gdV g (limD a (liD (qE f s))) (skD s)) .no (ow ys fl o)) _
    cases ow ys fl o with
    | p f => exact fun ho => trivial
    | e f => exact fun ho => adW_ok fun ag m a ga e hg => by subst e; exact gdV_ok (lm_ok hg (qE_ok ho hs)) (skD_ok (by simp) hs)
    | no => exact fun _ => trivial
  | ck p q =>
    show OwOk ys fl (ow ys fl o) o → DvOk (@Ow'.rec F3 H3 (fun _ => Dv) (fun _ => .no) (fun f => adW o fun ag m a => gdV g (ckD p q ag m a f s) (skD s)) .no (ow ys fl o)) _
    cases ow ys fl o with
    | p f => exact fun ho => trivial
    | e f => exact fun ho => adW_ok fun ag m a ga e hg => by subst e; exact gdV_ok (ckD_ok hg ho hs) (skD_ok (by simp) hs)
    | no => exact fun _ => trivial
  | ef =>
    show OwOk ys fl (ow ys fl o) o → DvOk (@Ow'.rec F3 H3 (fun _ => Dv) (fun f => gdV g (efP f s) (skE s)) (fun f => gdV g (efD f s) (skE s)) .no (ow ys fl o)) _
    cases ow ys fl o with
    | p f => exact fun ho => gdV_ok (efP_ok ho hs) (skE_ok hs)
    | e f => exact fun ho => gdV_ok (efD_ok ho hs) (skE_ok hs)
    | no => exact fun _ => trivial
def DOk (ys : Ys) (fl : Nat) (f : Kd → Kd) (l : List RQ) : Prop := ∀ nx n0 cs hs3 hs cl3 cl t3 t h3 h n, ClSim fl cl3 cl → FR t3 t → HRel h3 h → HsRel hs3 hs → Good (f (endD nx) n0 cs hs3 cl3 t3 h3 n) →
  ∃ t' h' n' t3' h3', dops ys cl fl n0 l t h n cs hs = .nx t' h' n' ∧ FR t3' t' ∧ HRel h3' h' ∧ Good (nx cl3 t3' h3' n')
theorem dw_ok : ∀ l, DvOk (dw ys fl l) fun f => DOk ys fl f l
  | [] => fun nx n0 cs hs3 hs cl3 cl t3 t h3 h n _ hF hH hq e => by
    obtain ⟨e1, h1⟩ := ckT_ok hq e
    obtain ⟨e2, h2⟩ := ifA_y h1
    refine ⟨t, h, n, t3, h3, ?_, hF, hH, h2⟩
    show bf (ckOver hs cs) (bf (Nat.ble n 8388608) (.nx t h n) (BR.bad [93])) (BR.bad [94]) = _
    rw [e1, e2]; rfl
  | q :: l => by
    have h1 := dw1_ok (ys := ys) (fl := fl) q
    have h2 := dw_ok l
    show DvOk (@Dv'.rec F3 H3 (fun _ => Dv) (fun a => @Dv'.rec F3 H3 (fun _ => Dv) (fun b => .mk (fun nx => a (b nx))) .no (dw ys fl l)) .no (dw1 ys fl q)) _
    revert h1
    cases dw1 ys fl q with
    | no => exact fun _ => trivial
    | mk a =>
      intro h1
      show DvOk (@Dv'.rec F3 H3 (fun _ => Dv) (fun b => .mk (fun nx => a (b nx))) .no (dw ys fl l)) _
      revert h2
      cases dw ys fl l with
      | no => exact fun _ => trivial
      | mk b =>
        intro h2 nx n0 cs hs3 hs cl3 cl t3 t h3 h n hc hF hH hq e
        obtain ⟨t', h', n', cs', hs', t3', h3', hs3', e1, hF', hH', hq', h4⟩ := h1 _ _ _ _ _ _ _ _ _ _ _ _ hc hF hH hq e
        obtain ⟨t2, h2', n2, t32, h32, e2, hF2, hH2, h5⟩ := h2 _ _ _ _ _ _ _ _ _ _ _ _ hc hF' hH' hq' h4
        exact ⟨t2, h2', n2, t32, h32, (e1 _).trans e2, hF2, hH2, h5⟩
end
end Go.Rn
