/-
  One text of a symbolic evaluator over the model, shown sound once for every program: no statement is claimed here.
-/
import Derived.Test.YtjhknkpkihpknaaDoorRqJ
namespace Go.Rn
attribute [local irreducible] HT9 CT7 RelC7 RelH9
section
variable {ys : Ys} {fl : Nat}
/-- how the elder run ends, and the quick one goes on -/
def CRes (r : BR) (nx : Kt) (ex : Nat → Kt) (rt : Kt) (cl3 : Cl3) : Prop :=
  (∃ t' h' n' t3' h3', r = .nx t' h' n' ∧ FR t3' t' ∧ HRel h3' h' ∧ Good (nx cl3 t3' h3' n')) ∨
  (∃ id t' h' n' t3' h3', r = .ex id t' h' n' ∧ FR t3' t' ∧ HRel h3' h' ∧ Good (ex id cl3 t3' h3' n')) ∨
  (∃ t' h' n' t3' h3', r = .rt t' h' n' ∧ FR t3' t' ∧ HRel h3' h' ∧ Good (rt cl3 t3' h3' n'))
def COkc (ys : Ys) (fl : Nat) (f : Kt → (Nat → Kt) → Kt → Kt) (c : RC) : Prop := ∀ nx ex rt cl3 cl t3 t h3 h n, ClSim fl cl3 cl → FR t3 t → HRel h3 h → Good (f nx ex rt cl3 t3 h3 n) → CRes (code ys cl fl c t h n) nx ex rt cl3
def CwOk (w : Cw) (p : (Kt → (Nat → Kt) → Kt → Kt) → Prop) : Prop := match w with | .mk f => p f | .no => True
/-! rounds, one after the other -/
noncomputable def iter (body : Bd) : Nat → Bd
  | 0 => .nx
  | m + 1 => fun t h n => andThen (body t h n) (iter body m)
theorem andThen_assoc (r : BR) (a b : Bd) : andThen (andThen r a) b = andThen r (fun t h n => andThen (a t h n) b) := by cases r <;> rfl
theorem iter_add (body : Bd) : ∀ a b t h n, iter body (a + b) t h n = andThen (iter body a t h n) (iter body b)
  | 0, b, t, h, n => by rw [Nat.zero_add]; rfl
  | a + 1, b, t, h, n => by
    rw [show a + 1 + b = (a + b) + 1 by omega]
    show andThen (body t h n) (iter body (a + b)) = andThen (andThen (body t h n) (iter body a)) (iter body b)
    rw [andThen_assoc]
    congr 1
    funext t h n
    exact iter_add body a b t h n
theorem andThen_nx (r : BR) : andThen r .nx = r := by cases r <;> rfl
theorem rounds_iter (body : Bd) : ∀ k t h n, rounds body k t h n = iter body (2 ^ k) t h n
  | 0, t, h, n => (andThen_nx _).symm
  | k + 1, t, h, n => by
    show andThen (rounds body k t h n) (rounds body k) = _
    rw [show 2 ^ (k + 1) = 2 ^ k + 2 ^ k by rw [Nat.pow_succ]; omega, iter_add, rounds_iter body k t h n]
    congr 1
    funext t h n
    exact rounds_iter body k t h n
theorem loop_ok {a : Kt → (Nat → Kt) → Kt → Kt} {c : RC} (ha : COkc ys fl a c) {ex : Nat → Kt} {rt : Kt} {cl3 : Cl3} {cl : Cl'} (hc : ClSim fl cl3 cl) : ∀ m t3 t h3 h n, FR t3 t → HRel h3 h → Good (loopK a ex rt m cl3 t3 h3 n) → CRes (iter (code ys cl fl c) m t h n) noK ex rt cl3
  | 0, _, _, _, _, _, _, _, e => Good.no e
  | m + 1, t3, t, h3, h, n, hF, hH, e => by
    show CRes (andThen (code ys cl fl c t h n) (iter (code ys cl fl c) m)) noK ex rt cl3
    rcases ha (loopK a ex rt m) ex rt _ _ _ _ _ _ _ hc hF hH e with ⟨t', h', n', t3', h3', e1, hF', hH', h1⟩ | ⟨id, t', h', n', t3', h3', e1, hF', hH', h1⟩ | ⟨t', h', n', t3', h3', e1, hF', hH', h1⟩
    · rw [e1]; exact loop_ok ha hc m _ _ _ _ _ hF' hH' h1
    · rw [e1]; exact .inr (.inl ⟨id, t', h', n', t3', h3', rfl, hF', hH', h1⟩)
    · rw [e1]; exact .inr (.inr ⟨t', h', n', t3', h3', rfl, hF', hH', h1⟩)
theorem codew_ok (c : RC) : CwOk (codew ys fl c) fun f => COkc ys fl f c := by
  induction c with
  | sk => exact fun nx ex rt cl3 cl t3 t h3 h n hc hF hH e => .inl ⟨t, h, n, t3, h3, rfl, hF, hH, e⟩
  | rg l =>
    have h1 := lw_ok (ys := ys) (fl := fl) l
    show CwOk (@Lw'.rec F3 H3 (fun _ => Cw) (fun a => .mk (fun nx _ _ => a nx)) .no (lw ys fl l)) _
    revert h1
    cases lw ys fl l with
    | no => exact fun _ => trivial
    | mk a => exact fun h1 nx ex rt cl3 cl t3 t h3 h n hc hF hH e => .inl (h1 _ _ _ _ _ _ _ _ hc hF hH e)
  | dr l =>
    have h1 := dw_ok (ys := ys) (fl := fl) l
    show CwOk (@Dv'.rec F3 H3 (fun _ => Cw) (fun a => .mk (fun nx _ _ => drK a nx)) .no (dw ys fl l)) _
    revert h1
    cases dw ys fl l with
    | no => exact fun _ => trivial
    | mk a => exact fun h1 nx ex rt cl3 cl t3 t h3 h n hc hF hH e => .inl (h1 nx n [] [h3] [h] _ _ _ _ _ _ _ hc hF hH ⟨hH, trivial⟩ e)
  | sq a b iha ihb =>
    show CwOk (@Cw'.rec F3 H3 (fun _ => Cw) (fun a => @Cw'.rec F3 H3 (fun _ => Cw) (fun b => .mk (sqK a b)) .no (codew ys fl b)) .no (codew ys fl a)) _
    revert iha
    cases codew ys fl a with
    | no => exact fun _ => trivial
    | mk fa =>
      intro ha
      show CwOk (@Cw'.rec F3 H3 (fun _ => Cw) (fun b => .mk (sqK fa b)) .no (codew ys fl b)) _
      revert ihb
      cases codew ys fl b with
      | no => exact fun _ => trivial
      | mk fb =>
        intro hb nx ex rt cl3 cl t3 t h3 h n hc hF hH e
        show CRes (andThen (code ys cl fl a t h n) (code ys cl fl b)) nx ex rt cl3
        rcases ha (fb nx ex rt) ex rt _ _ _ _ _ _ _ hc hF hH e with ⟨t', h', n', t3', h3', e1, hF', hH', h1⟩ | ⟨id, t', h', n', t3', h3', e1, hF', hH', h1⟩ | ⟨t', h', n', t3', h3', e1, hF', hH', h1⟩
        · rw [e1]; exact hb nx ex rt _ _ _ _ _ _ _ hc hF' hH' h1
        · rw [e1]; exact .inr (.inl ⟨id, t', h', n', t3', h3', rfl, hF', hH', h1⟩)
        · rw [e1]; exact .inr (.inr ⟨t', h', n', t3', h3', rfl, hF', hH', h1⟩)
  | cd c a b iha ihb =>
    obtain ⟨g, e0, hg⟩ := ropW_ok c
    show CwOk (@Gw.rec (fun _ => Cw) (fun g => @Cw'.rec F3 H3 (fun _ => Cw) (fun a => @Cw'.rec F3 H3 (fun _ => Cw) (fun b => .mk (fun nx ex rt => cdK g (a nx ex rt) (b nx ex rt))) .no (codew ys fl b)) .no (codew ys fl a)) (ropW c)) _
    rw [e0]
    show CwOk (@Cw'.rec F3 H3 (fun _ => Cw) (fun a => @Cw'.rec F3 H3 (fun _ => Cw) (fun b => .mk (fun nx ex rt => cdK g (a nx ex rt) (b nx ex rt))) .no (codew ys fl b)) .no (codew ys fl a)) _
    revert iha
    cases codew ys fl a with
    | no => exact fun _ => trivial
    | mk fa =>
      intro ha
      show CwOk (@Cw'.rec F3 H3 (fun _ => Cw) (fun b => .mk (fun nx ex rt => cdK g (fa nx ex rt) (b nx ex rt))) .no (codew ys fl b)) _
      revert ihb
      cases codew ys fl b with
      | no => exact fun _ => trivial
      | mk fb =>
        intro hb nx ex rt cl3 cl t3 t h3 h n hc hF hH e
        obtain ⟨x, e1, h1⟩ := cB_ok (hg _ _ _ hF e)
        have e1 : ev t c = .b x := e1
        show CRes (gB (fun _ _ _ => .bad [98]) (ev t c) (fun x => bf x (code ys cl fl a) (code ys cl fl b)) t h n) nx ex rt cl3
        rw [e1]
        rcases ifA_ok h1 with ⟨rfl, h2⟩ | ⟨rfl, h2⟩
        · exact ha nx ex rt _ _ _ _ _ _ _ hc hF hH h2
        · exact hb nx ex rt _ _ _ _ _ _ _ hc hF hH h2
  | bl id a iha =>
    show CwOk (@Cw'.rec F3 H3 (fun _ => Cw) (fun a => .mk (fun nx ex rt => a nx (exU ex id nx) rt)) .no (codew ys fl a)) _
    revert iha
    cases codew ys fl a with
    | no => exact fun _ => trivial
    | mk fa =>
      intro ha nx ex rt cl3 cl t3 t h3 h n hc hF hH e
      show CRes (blC (code ys cl fl a t h n) id) nx ex rt cl3
      rcases ha nx (exU ex id nx) rt _ _ _ _ _ _ _ hc hF hH e with ⟨t', h', n', t3', h3', e1, hF', hH', h1⟩ | ⟨j, t', h', n', t3', h3', e1, hF', hH', h1⟩ | ⟨t', h', n', t3', h3', e1, hF', hH', h1⟩
      · rw [e1]; exact .inl ⟨t', h', n', t3', h3', rfl, hF', hH', h1⟩
      · rw [e1]
        have h1 : Good (ifK (Nat.beq j id) nx (ex j) cl3 t3' h3' n') := h1
        show CRes (bf (Nat.beq j id) (.nx t' h' n') (.ex j t' h' n')) nx ex rt cl3
        cases hj : Nat.beq j id with
        | true => rw [hj] at h1; exact .inl ⟨t', h', n', t3', h3', rfl, hF', hH', h1⟩
        | false => rw [hj] at h1; exact .inr (.inl ⟨j, t', h', n', t3', h3', rfl, hF', hH', h1⟩)
      · rw [e1]; exact .inr (.inr ⟨t', h', n', t3', h3', rfl, hF', hH', h1⟩)
  | lp a iha =>
    show CwOk (@Cw'.rec F3 H3 (fun _ => Cw) (fun a => .mk (fun _ ex rt => loopK a ex rt 1048576)) .no (codew ys fl a)) _
    revert iha
    cases codew ys fl a with
    | no => exact fun _ => trivial
    | mk fa =>
      intro ha nx ex rt cl3 cl t3 t h3 h n hc hF hH e
      show CRes (lpC (rounds (code ys cl fl a) 20 t h n)) nx ex rt cl3
      have h0 := loop_ok ha hc 1048576 _ _ _ _ _ hF hH e
      rw [rounds_iter, show (2 : Nat) ^ 20 = 1048576 by decide]
      rcases h0 with ⟨t', h', n', t3', h3', e1, hF', hH', h1⟩ | ⟨j, t', h', n', t3', h3', e1, hF', hH', h1⟩ | ⟨t', h', n', t3', h3', e1, hF', hH', h1⟩
      · exact Good.no h1
      · rw [e1]; exact .inr (.inl ⟨j, t', h', n', t3', h3', rfl, hF', hH', h1⟩)
      · rw [e1]; exact .inr (.inr ⟨t', h', n', t3', h3', rfl, hF', hH', h1⟩)
  | ex id => exact fun nx ex rt cl3 cl t3 t h3 h n hc hF hH e => .inr (.inl ⟨id, t, h, n, t3, h3, rfl, hF, hH, e⟩)
  | rt => exact fun nx ex rt cl3 cl t3 t h3 h n hc hF hH e => .inr (.inr ⟨t, h, n, t3, h3, rfl, hF, hH, e⟩)
/-! calls -/
def ZOk (z : RV → F3 → (F3 → A) → A) (np i : Nat) : Prop := ∀ a t3 t k, FR t3 t → Good (z a t3 k) → chLen a = some np ∧ ∃ t3', FR t3' (lay a t i) ∧ Good (k t3')
theorem argW_ok : ∀ np i, ∃ z, argW np i = .mk z ∧ ZOk z np i
  | 0, i => ⟨argE, rfl, fun a t3 t k hF e => by
      rcases cNn_ok e with ⟨rfl, h1⟩ | ⟨_, _, _, h1⟩
      · exact ⟨rfl, t3, hF, h1⟩
      · exact Good.no h1⟩
  | np + 1, i => by
    obtain ⟨z, e1, hz⟩ := argW_ok np (i + 1)
    obtain ⟨s, e2, hs⟩ := setC_ok i
    refine ⟨argZ s z, ?_, fun a t3 t k hF e => ?_⟩
    · show @Sw.rec (fun _ => Zw) (fun s => @Zw'.rec F3 (fun _ => Zw) (fun z => .mk (argZ s z)) (argW np (i + 1))) (setK i) = _
      rw [e1, e2]
    · obtain ⟨x, r, rfl, h1⟩ := cN_ok e
      obtain ⟨t3', hF', h2⟩ := hs _ _ _ _ hF h1
      obtain ⟨e3, t3'', hF'', h4⟩ := hz _ _ _ _ hF' h2
      refine ⟨?_, t3'', ?_, h4⟩
      · show gO none (chLen r) (fun n => some (Nat.succ n)) = _
        rw [e3]; rfl
      · show FR t3'' (fT (cst t x i) fun t => lay r t (i + 1))
        rw [fT_id]; exact hF''
def ROk (r : F3 → H3 → (RV → A) → A) (l : List RS) : Prop := ∀ t3 t h3 h k, FR t3 t → HRel h3 h → Good (r t3 h3 k) → res t h l ≠ .un ∧ Good (k (res t h l))
theorem resW_ok : ∀ l, ∃ r, resW l = .mk r ∧ ROk r l
  | [] => ⟨_, rfl, fun _ _ _ _ _ _ _ e => ⟨by show RV.nil ≠ .un; simp, e⟩⟩
  | .t p :: l => by
    obtain ⟨r, e1, hr⟩ := resW_ok l
    obtain ⟨g, e2, hg⟩ := getP_ok p
    refine ⟨rsT g r, ?_, fun t3 t h3 h k hF hH e => ?_⟩
    · show @Rw'.rec F3 H3 (fun _ => Rw) (fun r => @Gw.rec (fun _ => Rw) (fun g => .mk (rsT g r)) (getK (Nat.sub (Pa.val p) 1))) (resW l) = _
      rw [e1, e2]
    · obtain ⟨h1, h2⟩ := cU_ok (hg _ _ _ hF e)
      obtain ⟨h4, h5⟩ := hr _ _ _ _ _ hF hH h2
      show kons (tg t p) (res t h l) ≠ .un ∧ Good (k (kons (tg t p) (res t h l)))
      rw [kons_of h1 h4]
      exact ⟨un_c, h5⟩
  | .c p ag m :: l => by
    obtain ⟨r, e1, hr⟩ := resW_ok l
    obtain ⟨g, e2, hga⟩ := getP_ok p
    refine ⟨rsC g ag m r, ?_, fun t3 t h3 h k hF hH e => ?_⟩
    · show @Rw'.rec F3 H3 (fun _ => Rw) (fun r => @Gw.rec (fun _ => Rw) (fun g => .mk (rsC g ag m r)) (getK (Nat.sub (Pa.val p) 1))) (resW l) = _
      rw [e1, e2]
    · obtain ⟨b, o, e3, h1⟩ := cP_ok (hga _ _ _ hF e)
      obtain ⟨cs, z, c3, e4, rc, _, h2, hmz⟩ := hgetB hH h1
      obtain ⟨_, hu, h4⟩ := rdA_ok rc h2
      obtain ⟨h5, h6⟩ := hr _ _ _ _ _ hF hH h4
      have e3 : tg t p = .p b o := e3
      have e5 : resC h (tg t p) ag m = rdV ag m cs o := by
        show gP .un (tg t p) (fun b o => gK .un (hg h b) fun cs _ => bf ag (nU .un (rd cs m o) fun c => .agg c) (cg cs o)) = _
        rw [e3]
        show gK .un (hg h b) (fun cs _ => bf ag (nU .un (rd cs m o) fun c => .agg c) (cg cs o)) = _
        rw [e4, gK_bk hmz]
        rfl
      show kons (resC h (tg t p) ag m) (res t h l) ≠ .un ∧ Good (k (kons (resC h (tg t p) ag m) (res t h l)))
      rw [e5, kons_of hu h5]
      exact ⟨un_c, h6⟩
theorem retK_ok {r : F3 → H3 → (RV → A) → A} {l : List RS} (hr : ROk r l) {k : KV} {cl3 : Cl3} {t3 : F3} {t : FT} {h3 : H3} {h : HT} {n : Nat} (hF : FR t3 t) (hH : HRel h3 h) (e : Good (retK r k cl3 t3 h3 n)) : ∃ v, ret t h n l = .ok v h n ∧ Good (k v h3 n) := by
  obtain ⟨_, h1⟩ := hr _ _ _ _ _ hF hH e
  have e0 : ret t h n l = gN (.bad [90]) (res t h l) (.ok (.tup .nil) h n) fun a r => gN (.bad [89]) r (okV a h n 88) fun b q => .ok (.tup (.cons a (.cons b q))) h n := rfl
  rcases cNn_ok h1 with ⟨e1, h2⟩ | ⟨a, q, e1, h2⟩
  · exact ⟨_, by rw [e0, e1]; rfl, h2⟩
  · rcases cNn_ok h2 with ⟨e2, h4⟩ | ⟨b, q2, e2, h4⟩
    · obtain ⟨h5, h6⟩ := cU_ok h4
      refine ⟨_, ?_, h6⟩
      rw [e0, e1, e2]
      exact okV_of h5
    · refine ⟨_, ?_, h4⟩
      rw [e0, e1, e2]
      rfl
def BwOk (w : Bw) (p : (Cl3 → RV → H3 → Nat → KV → A) → Prop) : Prop := match w with | .mk f => p f | .no => True
def BodyOk (ys : Ys) (fl : Nat) (b : Cl3 → RV → H3 → Nat → KV → A) (r : RF) : Prop := ∀ cl3 cl a h3 h n k f, ClSim fl cl3 cl → HRel h3 h → Good (b cl3 a h3 n k) → ∃ v h' n' h3', callF ys cl f r a fl h n = .ok v h' n' ∧ HRel h3' h' ∧ Good (k v h3' n')
theorem bw_ok (r : RF) : BwOk (bw ys fl r) fun b => BodyOk ys fl b r := by
  obtain ⟨np, b, rs⟩ := r
  obtain ⟨z, e1, hz⟩ := argW_ok np 0
  obtain ⟨r, e2, hr⟩ := resW_ok rs
  show BwOk (@Zw'.rec F3 (fun _ => Bw) (fun z => @Rw'.rec F3 H3 (fun _ => Bw) (fun r => @Cw'.rec F3 H3 (fun _ => Bw) (fun c => .mk (bodyK z c r)) .no (codew ys fl b)) (resW rs)) (argW np 0)) _
  rw [e1, e2]
  have hco := codew_ok (ys := ys) (fl := fl) b
  show BwOk (@Cw'.rec F3 H3 (fun _ => Bw) (fun c => .mk (bodyK z c r)) .no (codew ys fl b)) _
  revert hco
  cases codew ys fl b with
  | no => exact fun _ => trivial
  | mk c =>
    intro hco cl3 cl a h3 h n k f hc hH e
    obtain ⟨e3, t3, hF, h1⟩ := hz _ _ _ _ f0_ok e
    have e4 : callF ys cl f (.f np b rs) a fl h n = retR (code ys cl fl b (lay a te 0) h n) f rs := by
      show gO (SR.bad [93]) (chLen a) (fun m => bf (Nat.beq m np) (retR (code ys cl fl b (lay a te 0) h n) f rs) (.bad [94, f])) = _
      rw [e3]
      show bf (Nat.beq np np) _ _ = _
      rw [Nat.beq_refl]
      rfl
    rw [e4]
    rcases hco _ _ _ _ _ _ _ _ _ _ hc hF hH h1 with ⟨t', h', n', t3', h3', e5, hF', hH', h2⟩ | ⟨j, t', h', n', t3', h3', e5, hF', hH', h2⟩ | ⟨t', h', n', t3', h3', e5, hF', hH', h2⟩
    · obtain ⟨v, e6, h4⟩ := retK_ok hr hF' hH' h2
      rw [e5]
      exact ⟨v, h', n', h3', e6, hH', h4⟩
    · exact Good.no h2
    · obtain ⟨v, e6, h4⟩ := retK_ok hr hF' hH' h2
      rw [e5]
      exact ⟨v, h', n', h3', e6, hH', h4⟩
/-- the elder run's calls, some known beforehand -/
noncomputable def kcY (h : HT) (n z : Nat) (ch : RV) : SR := gK (.bad [160]) (hg h 0) fun cs _ => nU (.bad [161]) (rd cs z 0) fun r => bf (eqV r ch) (.ok (.b true) h n) (.bad [162])
noncomputable def callY (ys : Ys) (fs : Nat → Option RF) (orc : Nat → RV → Option RV) (kc : Nat → RV → Option (Nat × RV)) (deep : Nat) : Cl' :=
  @Nat.rec (fun _ => Cl') (fun _ _ _ _ _ => .bad [91]) (fun _ ih f a fl h n => gO (gO (gO (.bad [92, f]) (fs f) fun r => callF ys ih f r a fl h n) (orc f a) fun v => .ok v h n) (kc f a) fun q => kcY h n q.1 q.2) deep
theorem cOQ_ok {q : Option (Nat × RV)} {n : A} {k : Nat → RV → A} (e : Good (cOQ q n k)) : (q = none ∧ Good n) ∨ ∃ z c, q = some (z, c) ∧ Good (k z c) := by
  cases q with
  | none => exact .inl ⟨rfl, e⟩
  | some x => exact .inr ⟨x.1, x.2, rfl, e⟩
theorem call3_ok (fs : Nat → Option RF) (orc : Nat → RV → Option RV) (kc : Nat → RV → Option (Nat × RV)) : ∀ deep, ClSim fl (call3 ys fl fs orc kc deep) (callY ys fs orc kc deep)
  | 0 => fun _ _ _ _ _ _ _ e => Good.no e
  | deep + 1 => fun f a h3 h n k hH e => by
    have ih := call3_ok fs orc kc deep
    have ek : callY ys fs orc kc (deep + 1) f a fl h n = gO (gO (gO (.bad [92, f]) (fs f) fun r => callF ys (callY ys fs orc kc deep) f r a fl h n) (orc f a) fun v => .ok v h n) (kc f a) fun q => kcY h n q.1 q.2 := rfl
    rcases cOQ_ok (show Good (cOQ (kc f a) (cOV (orc f a) (@Bw'.rec H3 (fun _ => Cl3 → RV → H3 → Nat → KV → A) (fun b => b) (fun _ _ _ _ _ => .no) (bwO ys fl (fs f)) (call3 ys fl fs orc kc deep) a h3 n k) (fun v => k v h3 n)) fun z ch => kc3 h3 n z ch k) from e) with ⟨e0, h0⟩ | ⟨z, ch, e0, h0⟩
    case inr =>
      obtain ⟨c, z1, c3, hb, rc, _, h1, hmz⟩ := hgetB hH (show Good (hget h3 0 fun bk => bk .no noM fun c _ => rd3 z c 0 fun r => ifA (eqV r ch) (k (.b true) h3 n) .no) from h0)
      obtain ⟨hu, h2⟩ := rd3_ok rc h1
      rcases ifA_ok h2 with ⟨h3e, h4⟩ | ⟨_, h4⟩
      case inr => exact Good.no h4
      refine ⟨.b true, h, n, h3, ?_, hH, h4⟩
      rw [ek, e0]
      show gK (SR.bad [160]) (hg h 0) (fun cs _ => nU (.bad [161]) (rd cs z 0) fun r => bf (eqV r ch) (.ok (.b true) h n) (.bad [162])) = _
      rw [hb]
      have hz : Nat.beq z1 MAPZ = false := by
        cases hq : Nat.beq z1 MAPZ with
        | false => rfl
        | true => exact absurd (Nat.eq_of_beq_eq_true hq) hmz
      show bf (Nat.beq z1 MAPZ) (SR.bad [160]) (nU (.bad [161]) (rd c z 0) fun r => bf (eqV r ch) (.ok (.b true) h n) (.bad [162])) = _
      rw [hz]
      show nU (SR.bad [161]) (rd c z 0) (fun r => bf (eqV r ch) (.ok (.b true) h n) (.bad [162])) = _
      rw [nU_of hu, h3e]
      rfl
    have e0 : callY ys fs orc kc (deep + 1) f a fl h n = gO (gO (.bad [92, f]) (fs f) fun r => callF ys (callY ys fs orc kc deep) f r a fl h n) (orc f a) fun v => .ok v h n := by rw [ek, e0]; rfl
    rcases cOV_ok h0 with ⟨e1, h1⟩ | ⟨v, e1, h1⟩
    · rw [e0, e1]
      show ∃ v h' n' h3', gO (SR.bad [92, f]) (fs f) (fun r => callF ys (callY ys fs orc kc deep) f r a fl h n) = .ok v h' n' ∧ HRel h3' h' ∧ Good (k v h3' n')
      revert h1
      cases fs f with
      | none => exact fun h1 => Good.no h1
      | some r =>
        intro h1
        have hb := bw_ok (ys := ys) (fl := fl) r
        have h1 : Good (@Bw'.rec H3 (fun _ => Cl3 → RV → H3 → Nat → KV → A) (fun b => b) (fun _ _ _ _ _ => .no) (bw ys fl r) (call3 ys fl fs orc kc deep) a h3 n k) := h1
        revert h1 hb
        cases bw ys fl r with
        | no => exact fun _ h1 => Good.no h1
        | mk b => exact fun hb h1 => hb _ _ _ _ _ _ _ f ih hH h1
    · rw [e0, e1]
      exact ⟨v, h, n, h3, rfl, hH, h1⟩
theorem isT_ok {v : RV} {h3 : H3} {n : Nat} (e : Good (isT v h3 n)) : v = .b true := by
  obtain ⟨x, rfl, h1⟩ := cB_ok e
  rcases ifA_ok h1 with ⟨rfl, _⟩ | ⟨_, h2⟩
  · rfl
  · exact Good.no h2
/-- a quick run that ends well: the elder one ends in true -/
theorem quick {fs : Nat → Option RF} {orc : Nat → RV → Option RV} {kc : Nat → RV → Option (Nat × RV)} {deep f n : Nat} {a : RV} {h3 : H3} {h : HT} (hH : HRel h3 h) (e : call3 ys fl fs orc kc deep f a h3 n isT = .yes) : ∃ h' n', callY ys fs orc kc deep f a fl h n = .ok (.b true) h' n' := by
  obtain ⟨v, h', n', h3', e1, _, h1⟩ := call3_ok fs orc kc deep f a h3 h n isT hH e
  rw [isT_ok h1] at e1
  exact ⟨h', n', e1⟩
end
end Go.Rn
