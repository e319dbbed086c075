/-
  One text of a symbolic evaluator over the model, shown sound once for every program: no statement is claimed here.
-/
import Derived.Test.YtendogjdmabknaaRnU
namespace Go.Rn
variable {ρ : Nat → Int} {m m' : Mp} {P : Program}
variable {g fl n n' nt lim : Nat} {h h' : HT} {t : FT} {a : Act} {w : World} {v : RV} {ys : Ys} {cl : Cl'}
theorem eqI_ok {a b : Int} (h : eqI a b = true) : a = b := by
  cases a with
  | ofNat x => cases b with
    | ofNat y => exact congrArg Int.ofNat (beq_ok h)
    | negSucc y => cases h
  | negSucc x => cases b with
    | ofNat y => cases h
    | negSucc y => exact congrArg Int.negSucc (beq_ok h)
theorem eqV_ok : ∀ (a b : RV), eqV a b = true → a = b := by
  intro a
  induction a with
  | un => intro b h; cases h
  | ud => intro b h; cases h
  | b x => intro b h; cases b <;> first | (cases h; done) | (rename_i y; rw [eqB_ok.1 (show eqB x y = true from h)])
  | i k x =>
    intro b h
    cases b <;> first | (cases h; done) | skip
    rename_i j y
    obtain ⟨h1, h2⟩ := bf_ok (d := false) (show bf (eqK k j) (eqI x y) false = true from h) (by simp)
    rw [eqK_ok h1, eqI_ok h2]
  | y k x => intro b h; cases h
  | s l =>
    intro b h
    cases b <;> first | (cases h; done) | skip
    rename_i r
    have h1 : eqL l r = true := h
    rw [eqL_ok] at h1
    rw [eq_of_beq h1]
  | np => intro b h; cases b <;> first | (cases h; done) | rfl
  | p x o =>
    intro b h
    cases b <;> first | (cases h; done) | skip
    rename_i y q
    obtain ⟨h1, h2⟩ := bf_ok (d := false) (show bf (Nat.beq x y) (Nat.beq o q) false = true from h) (by simp)
    rw [beq_ok h1, beq_ok h2]
  | ns => intro b h; cases b <;> first | (cases h; done) | rfl
  | sl x o l c =>
    intro b h
    cases b <;> first | (cases h; done) | skip
    rename_i y q k e
    obtain ⟨h1, h2⟩ := bf_ok (d := false) (show bf (Nat.beq x y) (bf (Nat.beq o q) (bf (Nat.beq l k) (Nat.beq c e) false) false) false = true from h) (by simp)
    obtain ⟨h3, h4⟩ := bf_ok h2 (by simp)
    obtain ⟨h5, h6⟩ := bf_ok h4 (by simp)
    rw [beq_ok h1, beq_ok h3, beq_ok h5, beq_ok h6]
  | su x o l c =>
    intro b h
    cases b <;> first | (cases h; done) | skip
    rename_i y q k e
    obtain ⟨h1, h2⟩ := bf_ok (d := false) (show bf (Nat.beq x y) (bf (Nat.beq o q) (bf (Nat.beq l k) (Nat.beq c e) false) false) false = true from h) (by simp)
    obtain ⟨h3, h4⟩ := bf_ok h2 (by simp)
    obtain ⟨h5, h6⟩ := bf_ok h4 (by simp)
    rw [beq_ok h1, beq_ok h3, beq_ok h5, beq_ok h6]
  | sx x e =>
    intro b h
    cases b <;> first | (cases h; done) | skip
    rename_i y f
    obtain ⟨h1, h2⟩ := bf_ok (d := false) (show bf (Nat.beq x y) (Nat.beq e f) false = true from h) (by simp)
    rw [beq_ok h1, beq_ok h2]
  | nf => intro b h; cases b <;> first | (cases h; done) | rfl
  | fn f c ih =>
    intro b h
    cases b <;> first | (cases h; done) | skip
    rename_i k d
    obtain ⟨h1, h2⟩ := bf_ok (d := false) (show bf (Nat.beq f k) (eqV c d) false = true from h) (by simp)
    rw [beq_ok h1, ih _ h2]
  | nil => intro b h; cases b <;> first | (cases h; done) | rfl
  | cons x r ih1 ih2 =>
    intro b h
    cases b <;> first | (cases h; done) | skip
    rename_i y q
    obtain ⟨h1, h2⟩ := bf_ok (d := false) (show bf (eqV x y) (eqV r q) false = true from h) (by simp)
    rw [ih1 _ h1, ih2 _ h2]
  | agg c ih =>
    intro b h
    cases b <;> first | (cases h; done) | skip
    rename_i d
    rw [ih _ (show eqV c d = true from h)]
  | tup c ih =>
    intro b h
    cases b <;> first | (cases h; done) | skip
    rename_i d
    rw [ih _ (show eqV c d = true from h)]
  | mp x =>
    intro b h
    cases b <;> first | (cases h; done) | skip
    rename_i y
    rw [beq_ok (show Nat.beq x y = true from h)]
theorem ckAll_ok {h : HT} {j : Nat} : ∀ {l : List CK}, ckAll l h j = true → ∀ c ∈ l, ckIn h j c = true
  | [], _, c, hc => by cases hc
  | x :: l, e, c, hc => by
    obtain ⟨h1, h2⟩ := bf_ok (d := false) (show bf (ckIn h j x) (ckAll l h j) false = true from e) (by simp)
    rcases List.mem_cons.1 hc with rfl | hc
    · exact h1
    · exact ckAll_ok h2 c hc
theorem ckOver_ok {l : List CK} : ∀ {hs : List HT}, ckOver hs l = true → ∀ pre h suf, hs = pre ++ h :: suf → ckAll l h suf.length = true
  | [], _, pre, h, suf, e => by cases pre <;> cases e
  | x :: hs, e, pre, h, suf, e2 => by
    obtain ⟨h1, h2⟩ := bf_ok (d := false) (show bf (ckAll l x hs.length) (ckOver hs l) false = true from e) (by simp)
    cases pre with
    | nil => cases e2; exact h1
    | cons p pre => cases e2; exact ckOver_ok h2 pre h suf rfl
/-- how many that turn memory stand before this place -/
def effs : List RQ → Nat → Nat
  | _, 0 => 0
  | [], _ + 1 => 0
  | q :: l, i + 1 => (if isEf q then 1 else 0) + effs l i
structure DRun (ys : Ys) (cl : Cl') (fl n0 : Nat) (l : List RQ) (T : Nat → FT) (H : Nat → HT) (N : Nat → Nat) (R : Nat → RV) (csF : List CK) : Prop where
  put : ∀ i d g k o, l[i]? = some (.q d g k o) → T (i + 1) = put (T i) d (R i)
  turn : ∀ i d g k o, l[i]? = some (.q d g k o) →
    (want (T i) g = .n ∧ R i = .ud ∧ H (i + 1) = H i ∧ N (i + 1) = N i) ∨
    (want (T i) g = .y ∧ step o ys cl fl (limOf k n0) (T i) (H i) (N i) = .ok (R i) (H (i + 1)) (N (i + 1)) ∧
      ∀ p q, k = .ck p q → ∃ gg s x b off, o = .ld gg s x ∧ ev (T i) x = .p b off ∧ b < n0 ∧ CK.k p q b off gg s (R i) ∈ csF)
theorem DRun.shift {n0 : Nat} {q : RQ} {l : List RQ} {T : Nat → FT} {H : Nat → HT} {N : Nat → Nat} {R : Nat → RV} {csF : List CK} (t : FT) (h : HT) (n : Nat) (v : RV)
    (D : DRun ys cl fl n0 l T H N R csF)
    (h0 : ∀ d g k o, q = .q d g k o → T 0 = Go.Rn.put t d v ∧
      ((want t g = .n ∧ v = .ud ∧ H 0 = h ∧ N 0 = n) ∨ (want t g = .y ∧ step o ys cl fl (limOf k n0) t h n = .ok v (H 0) (N 0) ∧ ∀ p q, k = .ck p q → ∃ gg s x b off, o = .ld gg s x ∧ ev t x = .p b off ∧ b < n0 ∧ CK.k p q b off gg s v ∈ csF))) :
    DRun ys cl fl n0 (q :: l) (fun i => Nat.casesOn i t T) (fun i => Nat.casesOn i h H) (fun i => Nat.casesOn i n N) (fun i => Nat.casesOn i v R) csF := by
  refine ⟨fun i d g k o e => ?_, fun i d g k o e => ?_⟩
  · cases i with
    | zero => exact (h0 d g k o (by simpa using e)).1
    | succ i => exact D.put i d g k o (by simpa using e)
  · cases i with
    | zero => exact (h0 d g k o (by simpa using e)).2
    | succ i => exact D.turn i d g k o (by simpa using e)
theorem dops_run {n0 : Nat} : ∀ (l : List RQ) (t : FT) (h : HT) (n : Nat) (cs : List CK) (hs : List HT), (∃ k, dops ys cl fl n0 l t h n cs hs = .bad k) ∨
    ∃ t' h' n', dops ys cl fl n0 l t h n cs hs = .nx t' h' n' ∧ n' ≤ 8388608 ∧ ∃ (T : Nat → FT) (H : Nat → HT) (N : Nat → Nat) (R : Nat → RV) (csF : List CK) (hsF : List HT),
      T 0 = t ∧ H 0 = h ∧ N 0 = n ∧ T l.length = t' ∧ H l.length = h' ∧ N l.length = n' ∧ DRun ys cl fl n0 l T H N R csF ∧ ckOver hsF csF = true ∧ (∃ pre, hsF = pre ++ hs) ∧ (∀ c ∈ cs, c ∈ csF) ∧
      ∀ i q, l[i]? = some q → isEf q = true → ∃ pre suf, hsF = pre ++ H (i + 1) :: suf ∧ suf.length = hs.length + effs l i
  | [], t, h, n, cs, hs => by
    have e : dops ys cl fl n0 [] t h n cs hs = bf (ckOver hs cs) (bf (Nat.ble n 8388608) (.nx t h n) (.bad [93])) (.bad [94]) := rfl
    cases hb : ckOver hs cs with
    | false => rw [hb] at e; exact .inl ⟨_, e⟩
    | true =>
      rw [hb] at e
      cases hn : Nat.ble n 8388608 with
      | false => rw [hn] at e; exact .inl ⟨_, e⟩
      | true =>
      rw [hn] at e
      exact .inr ⟨t, h, n, e, ble_ok hn, fun _ => t, fun _ => h, fun _ => n, fun _ => .un, cs, hs, rfl, rfl, rfl, rfl, rfl, rfl, ⟨fun i d g k o e => by simp at e, fun i d g k o e => by simp at e⟩, hb, ⟨[], rfl⟩, fun _ h => h, fun i q e => by simp at e⟩
  | .q d gq k o :: l, t, h, n, cs, hs => by
    have e : dops ys cl fl n0 (.q d gq k o :: l) t h n cs hs = dW ys cl fl n0 d k o (dops ys cl fl n0 l) t h n cs hs (want t gq) := rfl
    rw [e]
    -- what follows, from the state behind
    have next : ∀ (v : RV) (h1 : HT) (n1 : Nat) (cs1 : List CK) (hs1 : List HT), (∀ c ∈ cs, c ∈ cs1) → ((isEf (.q d gq k o) = true ∧ hs1 = h1 :: hs) ∨ (isEf (.q d gq k o) = false ∧ hs1 = hs)) →
        ((want t gq = .n ∧ v = .ud ∧ h1 = h ∧ n1 = n) ∨ (want t gq = .y ∧ step o ys cl fl (limOf k n0) t h n = .ok v h1 n1 ∧ ∀ p q, k = .ck p q → ∃ gg s x b off, o = .ld gg s x ∧ ev t x = .p b off ∧ b < n0 ∧ CK.k p q b off gg s v ∈ cs1)) →
        ∀ r, r = dops ys cl fl n0 l (put t d v) h1 n1 cs1 hs1 → (∃ k, r = .bad k) ∨
        ∃ t' h' n', r = .nx t' h' n' ∧ n' ≤ 8388608 ∧ ∃ (T : Nat → FT) (H : Nat → HT) (N : Nat → Nat) (R : Nat → RV) (csF : List CK) (hsF : List HT),
          T 0 = t ∧ H 0 = h ∧ N 0 = n ∧ T (l.length + 1) = t' ∧ H (l.length + 1) = h' ∧ N (l.length + 1) = n' ∧ DRun ys cl fl n0 (.q d gq k o :: l) T H N R csF ∧ ckOver hsF csF = true ∧ (∃ pre, hsF = pre ++ hs) ∧ (∀ c ∈ cs, c ∈ csF) ∧
          ∀ i q, (RQ.q d gq k o :: l)[i]? = some q → isEf q = true → ∃ pre suf, hsF = pre ++ H (i + 1) :: suf ∧ suf.length = hs.length + effs (.q d gq k o :: l) i := by
      intro v h1 n1 cs1 hs1 hcs hhs hst r hr
      rcases dops_run l (put t d v) h1 n1 cs1 hs1 with ⟨k, hb⟩ | ⟨t', h', n', hx, hle, T, H, N, R, csF, hsF, q1, q2, q3, q4, q5, q6, q7, q8, ⟨pre, q9⟩, q10, q11⟩
      · exact .inl ⟨k, hr.trans hb⟩
      · refine .inr ⟨t', h', n', hr.trans hx, hle, _, _, _, _, csF, hsF, rfl, rfl, rfl, q4, q5, q6, q7.shift (q := .q d gq k o) t h n v (fun d' g' k' o' e => ?_), q8, ?_, fun c hc => q10 c (hcs c hc), fun i q hi he => ?_⟩
        · cases e
          refine ⟨q1, ?_⟩
          rcases hst with ⟨s1, s2, s3, s4⟩ | ⟨s1, s2, s3⟩
          · exact .inl ⟨s1, s2, q2.trans s3, q3.trans s4⟩
          · refine .inr ⟨s1, by rw [q2, q3]; exact s2, fun p q hk => ?_⟩
            obtain ⟨gg, s, x, b, off, a1, a2, a3, a4⟩ := s3 p q hk
            exact ⟨gg, s, x, b, off, a1, a2, a3, q10 _ a4⟩
        · rcases hhs with ⟨_, rfl⟩ | ⟨_, rfl⟩
          · exact ⟨pre ++ [h1], by rw [q9]; simp⟩
          · exact ⟨pre, q9⟩
        · cases i with
          | zero =>
            have hq : RQ.q d gq k o = q := by simpa using hi
            subst hq
            rcases hhs with ⟨_, rfl⟩ | ⟨hh, _⟩
            · exact ⟨pre, hs, by show hsF = pre ++ H 0 :: hs; rw [q9, q2], by simp [effs]⟩
            · rw [hh] at he; cases he
          | succ i =>
            obtain ⟨p2, suf, a1, a2⟩ := q11 i q (by simpa using hi) he
            refine ⟨p2, suf, a1, ?_⟩
            rw [a2]
            rcases hhs with ⟨hh, rfl⟩ | ⟨hh, rfl⟩
            · simp [effs, hh]; omega
            · simp [effs, hh]
    cases hw : want t gq with
    | u => exact .inl ⟨[99], rfl⟩
    | n =>
      have e2 : ∀ r, r = dW ys cl fl n0 d k o (dops ys cl fl n0 l) t h n cs hs .n → r = (@K3.rec (fun _ => BR) (dops ys cl fl n0 l (put t d .ud) h n cs hs) (dops ys cl fl n0 l (put t d .ud) h n cs hs) (fun _ _ => dops ys cl fl n0 l (put t d .ud) h n cs hs) (dops ys cl fl n0 l (put t d .ud) h n cs (h :: hs)) k) := by
        rintro r rfl
        show fT (put t d .ud) (fun t => @K3.rec (fun _ => BR) (dops ys cl fl n0 l t h n cs hs) (dops ys cl fl n0 l t h n cs hs) (fun _ _ => dops ys cl fl n0 l t h n cs hs) (dops ys cl fl n0 l t h n cs (h :: hs)) k) = _
        rw [fT_eq]
      cases k with
      | nm => exact next .ud h n cs hs (fun _ h => h) (.inr ⟨rfl, rfl⟩) (.inl ⟨hw, rfl, rfl, rfl⟩) _ (e2 _ rfl)
      | lm => exact next .ud h n cs hs (fun _ h => h) (.inr ⟨rfl, rfl⟩) (.inl ⟨hw, rfl, rfl, rfl⟩) _ (e2 _ rfl)
      | ck p q => exact next .ud h n cs hs (fun _ h => h) (.inr ⟨rfl, rfl⟩) (.inl ⟨hw, rfl, rfl, rfl⟩) _ (e2 _ rfl)
      | ef => exact next .ud h n cs (h :: hs) (fun _ h => h) (.inl ⟨rfl, rfl⟩) (.inl ⟨hw, rfl, rfl, rfl⟩) _ (e2 _ rfl)
    | y =>
      have e2 : ∀ r, r = dW ys cl fl n0 d k o (dops ys cl fl n0 l) t h n cs hs .y → r = dOk d k o n0 t (step o ys cl fl (limOf k n0) t h n) cs hs (dops ys cl fl n0 l) := fun r hr => hr
      generalize hr : dW ys cl fl n0 d k o (dops ys cl fl n0 l) t h n cs hs .y = r
      have e3 := e2 r hr.symm
      cases hs1 : step o ys cl fl (limOf k n0) t h n with
      | bad w => rw [hs1] at e3; exact .inl ⟨w, e3⟩
      | ok v h1 n1 =>
        rw [hs1] at e3
        have e4 : r = (@K3.rec (fun _ => BR) (dops ys cl fl n0 l (put t d v) h1 n1 cs hs) (dops ys cl fl n0 l (put t d v) h1 n1 cs hs) (fun p q => gO (.bad [96]) (ckOf p q o t n0 v cs) fun cs => dops ys cl fl n0 l (put t d v) h1 n1 cs hs) (dops ys cl fl n0 l (put t d v) h1 n1 cs (h1 :: hs)) k) := by
          rw [e3]
          show fT (put t d v) (fun t' => @K3.rec (fun _ => BR) (dops ys cl fl n0 l t' h1 n1 cs hs) (dops ys cl fl n0 l t' h1 n1 cs hs) (fun p q => gO (.bad [96]) (ckOf p q o t n0 v cs) fun cs => dops ys cl fl n0 l t' h1 n1 cs hs) (dops ys cl fl n0 l t' h1 n1 cs (h1 :: hs)) k) = _
          rw [fT_eq]
        cases k with
        | nm => exact next v h1 n1 cs hs (fun _ h => h) (.inr ⟨rfl, rfl⟩) (.inr ⟨hw, hs1, fun p q hk => by cases hk⟩) _ e4
        | lm => exact next v h1 n1 cs hs (fun _ h => h) (.inr ⟨rfl, rfl⟩) (.inr ⟨hw, hs1, fun p q hk => by cases hk⟩) _ e4
        | ef => exact next v h1 n1 cs (h1 :: hs) (fun _ h => h) (.inl ⟨rfl, rfl⟩) (.inr ⟨hw, hs1, fun p q hk => by cases hk⟩) _ e4
        | ck p q =>
          have e5 : r = gO (.bad [96]) (ckOf p q o t n0 v cs) (fun cs => dops ys cl fl n0 l (put t d v) h1 n1 cs hs) := e4
          cases hc : ckOf p q o t n0 v cs with
          | none => rw [hc] at e5; exact .inl ⟨[96], e5⟩
          | some cs1 =>
            rw [hc] at e5
            have key : ∃ gg s x b off, o = .ld gg s x ∧ ev t x = .p b off ∧ b < n0 ∧ cs1 = CK.k p q b off gg s v :: cs := by
              unfold ckOf at hc
              split at hc
              · rename_i gg s x
                obtain ⟨b, off, hb, e6⟩ := gP_ok hc (by simp)
                obtain ⟨hl, e7⟩ := bf_ok e6 (by simp)
                cases e7
                exact ⟨gg, s, x, b, off, rfl, hb, ble_ok hl, rfl⟩
              · cases hc
            obtain ⟨gg, s, x, b, off, a1, a2, a3, a4⟩ := key
            refine next v h1 n1 cs1 hs (fun c hc => by rw [a4]; exact List.mem_cons_of_mem _ hc) (.inr ⟨rfl, rfl⟩) (.inr ⟨hw, hs1, fun p' q' hk => ?_⟩) _ e5
            cases hk
            exact ⟨gg, s, x, b, off, a1, a2, a3, by rw [a4]; exact List.mem_cons_self⟩
end Go.Rn
