/-
  One text of a symbolic evaluator over the model, shown sound once for every program: no statement is claimed here.
-/
import Derived.Test.YtendogjdmabknaaRqG
namespace Go.Rn
attribute [local irreducible] HT9 CT7 RelC7 RelH9
section
variable {ys : Ys} {fl : Nat}
/-! pure operations -/
theorem pMv_ok {x : RO} {g : G3} (hg : GOk g fun t => ev t x) : POk ys (pMv g) (.mv x) := fun t3 t c hF h => by
  obtain ⟨h1, h2⟩ := cU_ok (hg _ _ _ hF h)
  exact ⟨_, fun cl fl lim h n => okV_of h1, h2⟩
theorem pPick_ok {x y z : RO} {c a b : G3} (hc : GOk c fun t => ev t x) (ha : GOk a fun t => ev t y) (hb : GOk b fun t => ev t z) : POk ys (pPick c a b) (.pick x y z) := fun t3 t k hF h => by
  obtain ⟨q, e, h1⟩ := cB_ok (hc _ _ _ hF h)
  have e : ev t x = .b q := e
  rcases ifA_ok h1 with ⟨rfl, h2⟩ | ⟨rfl, h2⟩
  · obtain ⟨h3, h4⟩ := cU_ok (ha _ _ _ hF h2)
    refine ⟨_, fun cl fl lim h n => ?_, h4⟩
    show gB (SR.bad [3]) (ev t x) (fun q => okV (bf q (ev t y) (ev t z)) h n 2) = _
    rw [e]
    exact okV_of h3
  · obtain ⟨h3, h4⟩ := cU_ok (hb _ _ _ hF h2)
    refine ⟨_, fun cl fl lim h n => ?_, h4⟩
    show gB (SR.bad [3]) (ev t x) (fun q => okV (bf q (ev t y) (ev t z)) h n 2) = _
    rw [e]
    exact okV_of h3
theorem pNc_ok {x : RO} {g : G3} (hg : GOk g fun t => ev t x) : POk ys (pNc g) (.nc x) := fun t3 t c hF h => by
  obtain ⟨h1, h2⟩ := cNc_ok (hg _ _ _ hF h)
  refine ⟨ev t x, fun cl fl lim h n => ?_, h2⟩
  show gP (gF (SR.bad [16]) (ev t x) fun f c => bf (Nat.ble 33554432 f) (gN (.bad [186]) c (.bad [187]) fun _ _ => .ok (.fn f c) h n) (.ok (.fn f c) h n)) (ev t x) (fun b o => SR.ok (.p b o) h n) = _
  rcases h1 with ⟨b, o, e⟩ | ⟨f, c, e, h3⟩
  · have e := e; simp only at e; rw [e]; rfl
  · have e := e
    simp only at e
    rw [e]
    show bf (Nat.ble 33554432 f) (gN (SR.bad [186]) c (.bad [187]) fun _ _ => .ok (.fn f c) h n) (.ok (.fn f c) h n) = _
    cases hb : Nat.ble 33554432 f with
    | false => rfl
    | true => obtain ⟨a, r, rfl⟩ := h3 hb; rfl
theorem taN_ok {z : RV} {two : Bool} {k : RV → A} (h : Good (taN z two k)) : ∃ v, (∀ h n, taNo z two h n = .ok v h n) ∧ Good (k v) := by
  obtain ⟨rfl, h1⟩ := ifA_y h
  obtain ⟨h2, h3⟩ := cUv_ok h1
  exact ⟨_, fun h n => nU_of (d := SR.bad [181]) (k := fun z => SR.ok (.tup (.cons z (.cons (.b false) .nil))) h n) h2, h3⟩
theorem taY_ok {two : Bool} {u : RV} {k : RV → A} (h : Good (taY two u k)) : ∃ v, (∀ h n, taYes two u h n = .ok v h n) ∧ Good (k v) := by
  obtain ⟨h2, h3⟩ := cUv_ok h
  rcases ifA_ok h3 with ⟨rfl, h4⟩ | ⟨rfl, h4⟩
  · exact ⟨_, fun h n => nU_of (d := SR.bad [183]) (k := fun v => SR.ok (.tup (.cons v (.cons (.b true) .nil))) h n) h2, h4⟩
  · exact ⟨_, fun h n => nU_of (d := SR.bad [183]) (k := fun v => SR.ok v h n) h2, h4⟩
theorem pTa_ok {ty : Nat} {z : RV} {two : Bool} {x : RO} {g : G3} (hg : GOk g fun t => ev t x) : POk ys (pTa ty z two g) (.ta ty z two x) := fun t3 t c hF h => by
  have st : ∀ (cl : Cl') (fl lim : Nat) (h : HT) (n : Nat), step (.ta ty z two x) ys cl fl lim t h n = gIf (.bad [180]) (ev t x) (taNo z two h n) (fun f v => bf (Nat.beq f (Nat.add 33554432 ty)) (taYes two v h n) (taNo z two h n)) := fun _ _ _ _ _ => rfl
  obtain ⟨f, hf, h1⟩ := cIf_ok (hg _ _ _ hF h)
  rcases h1 with ⟨e, h2⟩ | ⟨y, e, h2⟩
  · have e : ev t x = .fn f .nil := e
    obtain ⟨v, h3, h4⟩ := taN_ok h2
    exact ⟨v, fun cl fl lim h n => by rw [st, e, gIf_nil hf]; exact h3 h n, h4⟩
  · have e : ev t x = .fn f (.cons .nil (.cons y .nil)) := e
    rcases ifA_ok h2 with ⟨hb, h3⟩ | ⟨hb, h3⟩
    · obtain ⟨v, h4, h5⟩ := taY_ok h3
      exact ⟨v, fun cl fl lim h n => by rw [st, e, gIf_if hf, hb]; exact h4 h n, h5⟩
    · obtain ⟨v, h4, h5⟩ := taN_ok h3
      exact ⟨v, fun cl fl lim h n => by rw [st, e, gIf_if hf, hb]; exact h4 h n, h5⟩
theorem pBin_ok {op : BinOp} {f : RV → RV → (RV → A) → A} (hf : BOk ys op f) {x y : RO} {a b : G3} (ha : GOk a fun t => ev t x) (hb : GOk b fun t => ev t y) : POk ys (pBin f a b) (.bn op x y) := fun t3 t c hF h => by
  obtain ⟨h1, h2⟩ := hf _ _ _ (hb _ _ _ hF (ha _ _ _ hF h))
  exact ⟨_, fun cl fl lim h n => okV_of h1, h2⟩
theorem pBq_ok {neg : Bool} {x y : RO} {a b : G3} (ha : GOk a fun t => ev t x) (hb : GOk b fun t => ev t y) : POk ys (pBq neg a b) (.bq neg x y) := fun t3 t c hF h => by
  obtain ⟨q, e1, h1⟩ := cB_ok (ha _ _ _ hF h)
  obtain ⟨r, e2, h2⟩ := cB_ok (hb _ _ _ hF h1)
  have e1 : ev t x = .b q := e1
  have e2 : ev t y = .b r := e2
  refine ⟨_, fun cl fl lim h n => ?_, mkBk_ok h2⟩
  show gB (SR.bad [18]) (ev t x) (fun a => gB (SR.bad [19]) (ev t y) fun b => SR.ok (mkB (eqB neg (notB (eqB a b)))) h n) = _
  rw [e1, e2]
  rfl
theorem pNq_ok {kd : Nat} {neg : Bool} {x y : RO} {a b : G3} (ha : GOk a fun t => ev t x) (hb : GOk b fun t => ev t y) : POk ys (pNq kd neg a b) (.nq kd neg x y) := fun t3 t c hF h => by
  obtain ⟨q, u, e1, h1⟩ := cNil_ok (ha _ _ _ hF h)
  obtain ⟨r, w, e2, h2⟩ := cNil_ok (hb _ _ _ hF h1)
  obtain ⟨h3, h4⟩ := ifA_y h2
  obtain ⟨h5, h6⟩ := ifA_y h4
  have e1 : isNil (ev t x) = some (q, u) := e1
  have e2 : isNil (ev t y) = some (r, w) := e2
  have key : ∀ h n, stNq kd neg x y ys (fun _ _ _ _ _ => SR.bad []) 0 0 t h n = bf w (SR.ok (mkB (eqB neg (notB u))) h n) (bf u (SR.ok (mkB neg) h n) (SR.bad [22])) := fun h n => by
    show gO (SR.bad [20]) (isNil (ev t x)) (fun a => gO (SR.bad [21]) (isNil (ev t y)) fun b => bf (bf (Nat.beq a.1 kd) (Nat.beq b.1 kd) false) (bf b.2 (SR.ok (mkB (eqB neg (notB a.2))) h n) (bf a.2 (SR.ok (mkB neg) h n) (SR.bad [22]))) (SR.bad [23])) = _
    rw [e1, e2]
    show bf (bf (Nat.beq q kd) (Nat.beq r kd) false) _ _ = _
    rw [h3, h5]
    rfl
  rcases ifA_ok h6 with ⟨rfl, h7⟩ | ⟨rfl, h7⟩
  · exact ⟨_, fun cl fl lim h n => key h n, mkBk_ok h7⟩
  · obtain ⟨rfl, h8⟩ := ifA_y h7
    exact ⟨_, fun cl fl lim h n => key h n, mkBk_ok h8⟩
theorem pSe_ok {ks : List Nat} {neg : Bool} {x y : RO} {a b : G3} (ha : GOk a fun t => ev t x) (hb : GOk b fun t => ev t y) : POk ys (pSe ys ks neg a b) (.se ks neg x y) := fun t3 t c hF h => by
  obtain ⟨q, e1, h1⟩ := cA_ok (ha _ _ _ hF h)
  obtain ⟨r, e2, h2⟩ := cA_ok (hb _ _ _ hF h1)
  obtain ⟨u, e3, h4⟩ := cB_ok h2
  have e1 : ev t x = .agg q := e1
  have e2 : ev t y = .agg r := e2
  refine ⟨_, fun cl fl lim h n => ?_, mkBk_ok h4⟩
  show gA (SR.bad [120]) (ev t x) (fun c => gA (SR.bad [121]) (ev t y) fun d => gB (SR.bad [122]) (eqCh ys ks c d) fun r => SR.ok (mkB (eqB neg (notB r))) h n) = _
  rw [e1, e2]
  show gB (SR.bad [122]) (eqCh ys ks q r) (fun r => SR.ok (mkB (eqB neg (notB r))) h n) = _
  rw [e3]
  rfl
theorem pNg_ok {x : RO} {g : G3} (hg : GOk g fun t => ev t x) : POk ys (pNg g) (.ng x) := fun t3 t c hF h => by
  rcases cY_ok (hg _ _ _ hF h) with ⟨j, z, e, h1⟩ | ⟨j, z, e, h1⟩
  · have e : ev t x = .i j z := e
    obtain ⟨h2, h3⟩ := cUv_ok h1
    refine ⟨_, fun cl fl lim h n => ?_, h3⟩
    show gI _ (ev t x) (fun k a => okV (arI .sub k 0 a) h n 24) = _
    rw [e]
    exact okV_of h2
  · have e : ev t x = .y j z := e
    refine ⟨_, fun cl fl lim h n => ?_, h1⟩
    show gI (gY (SR.bad [24]) (ev t x) fun k e => SR.ok (.y k (.sub k (.c 0) e)) h n) (ev t x) (fun k a => okV (arI .sub k 0 a) h n 24) = _
    rw [e]
    rfl
theorem pNt_ok {x : RO} {g : G3} (hg : GOk g fun t => ev t x) : POk ys (pNt g) (.nt x) := fun t3 t c hF h => by
  obtain ⟨q, e, h1⟩ := cB_ok (hg _ _ _ hF h)
  have e : ev t x = .b q := e
  refine ⟨_, fun cl fl lim h n => ?_, mkBk_ok h1⟩
  show gB (SR.bad [25]) (ev t x) (fun a => SR.ok (mkB (notB a)) h n) = _
  rw [e]
  rfl
def VOk (j : IntKind) (f : RV → (RV → A) → A) : Prop := ∀ x k, Good (f x k) → ∃ i z, x = .i i z ∧ wrapI j z ≠ .un ∧ Good (k (wrapI j z))
theorem slowC_ok (j : IntKind) : VOk j (slowC j) := fun x k h => by
  obtain ⟨i, z, rfl, h1⟩ := cI_ok h
  obtain ⟨h2, h3⟩ := cUv_ok h1
  exact ⟨i, z, rfl, h2, h3⟩
theorem cvI {i : IntKind} {m : Nat} {k : RV → A} (h : Good (chkI m k (slowC .i64 (.i i (.ofNat m)) k))) : ∃ i' z, (RV.i i (.ofNat m)) = .i i' z ∧ wrapI .i64 z ≠ .un ∧ Good (k (wrapI .i64 z)) := by
  rcases chkI_ok h with ⟨h1, h2⟩ | h1
  · refine ⟨i, .ofNat m, rfl, ?_⟩
    rw [wrapI_i64 h1]
    exact ⟨i_un, h2⟩
  · exact slowC_ok _ _ _ h1
theorem cvU {i : IntKind} {m : Nat} {k : RV → A} (h : Good (chkU m k (slowC .u64 (.i i (.ofNat m)) k))) : ∃ i' z, (RV.i i (.ofNat m)) = .i i' z ∧ wrapI .u64 z ≠ .un ∧ Good (k (wrapI .u64 z)) := by
  rcases chkU_ok h with ⟨h1, h2⟩ | h1
  · refine ⟨i, .ofNat m, rfl, ?_⟩
    rw [wrapI_u64, Nat.mod_eq_of_lt (by omega)]
    exact ⟨i_un, h2⟩
  · exact slowC_ok _ _ _ h1
theorem cv64_ok : VOk .i64 (cvF .i64) := fun x k h => by
  rcases cM_ok h with ⟨m, rfl, h1⟩ | ⟨m, rfl, h1⟩ | h1
  · exact cvI h1
  · exact cvI h1
  · exact slowC_ok _ _ _ h1
theorem cvU64_ok : VOk .u64 (cvF .u64) := fun x k h => by
  rcases cM_ok h with ⟨m, rfl, h1⟩ | ⟨m, rfl, h1⟩ | h1
  · exact cvU h1
  · exact cvU h1
  · exact slowC_ok _ _ _ h1
theorem cvF_ok (j : IntKind) : VOk j (cvF j) := by
  cases j with
  | i64 => exact cv64_ok
  | u64 => exact cvU64_ok
  | i8 => exact slowC_ok _
  | i16 => exact slowC_ok _
  | i32 => exact slowC_ok _
  | u8 => exact slowC_ok _
  | u16 => exact slowC_ok _
  | u32 => exact slowC_ok _
theorem pCv_ok {j : IntKind} {x : RO} {g : G3} (hg : GOk g fun t => ev t x) : POk ys (pCv (cvF j) g) (.cv j x) := fun t3 t c hF h => by
  obtain ⟨i, z, e, h2, h3⟩ := cvF_ok j _ _ (hg _ _ _ hF h)
  have e : ev t x = .i i z := e
  refine ⟨_, fun cl fl lim h n => ?_, h3⟩
  show gI (SR.bad [26]) (ev t x) (fun _ a => okV (wrapI j a) h n 26) = _
  rw [e]
  exact okV_of h2
theorem pMf_ok {f : Nat} {cs : List RO} {g : G3} (hg : COk g fun t => evL t cs) : POk ys (pMf f g) (.mf f cs) := fun t3 t c hF h => by
  obtain ⟨h1, h2⟩ := hg _ _ _ hF h
  exact ⟨_, fun cl fl lim h n => nU_of (d := SR.bad [27]) (k := fun c => SR.ok (.fn f c) h n) h1, h2⟩
theorem pSc_ok {es : Nat} {x : RO} {lo hi : Option RO} {g : G3} {a b : F3 → Nat → (Nat → A) → A} (hg : GOk g fun t => ev t x) (ha : NOk a lo) (hb : NOk b hi) : POk ys (pSc es g a b) (.sc es x lo hi none) := fun t3 t c hF h => by
  obtain ⟨l, e1, h1⟩ := cLen_ok (hg _ _ _ hF h)
  obtain ⟨p, e2, h2⟩ := ha _ _ _ _ hF h1
  obtain ⟨q, e3, h3⟩ := hb _ _ _ _ hF h2
  obtain ⟨h4, h5⟩ := cUv_ok h3
  have e1 : slLen (ev t x) = some l := e1
  refine ⟨_, fun cl fl lim h n => ?_, h5⟩
  show gO (SR.bad [35]) (slLen (ev t x)) (fun l => gO (SR.bad [36]) (optN t lo 0) fun a => gO (SR.bad [37]) (optN t hi l) fun b => okV (slV es (ev t x) a b none) h n 38) = _
  rw [e1, e2]
  show gO (SR.bad [37]) (optN t hi l) (fun b => okV (slV es (ev t x) p b none) h n 38) = _
  rw [e3]
  exact okV_of h4
theorem pSc3_ok {es : Nat} {x y : RO} {lo hi : Option RO} {g : G3} {a b d : F3 → Nat → (Nat → A) → A} (hg : GOk g fun t => ev t x) (ha : NOk a lo) (hb : NOk b hi) (hd : NOk d (some y)) : POk ys (pSc3 es g a b d) (.sc es x lo hi (some y)) := fun t3 t c hF h => by
  obtain ⟨l, e1, h1⟩ := cLen_ok (hg _ _ _ hF h)
  obtain ⟨p, e2, h2⟩ := ha _ _ _ _ hF h1
  obtain ⟨q, e3, h3⟩ := hb _ _ _ _ hF h2
  obtain ⟨m, e4, h6⟩ := hd _ _ _ _ hF h3
  obtain ⟨h4, h5⟩ := cUv_ok h6
  have e1 : slLen (ev t x) = some l := e1
  refine ⟨_, fun cl fl lim h n => ?_, h5⟩
  show gO (SR.bad [35]) (slLen (ev t x)) (fun l => gO (SR.bad [36]) (optN t lo 0) fun a => gO (SR.bad [37]) (optN t hi l) fun b => gO (SR.bad [39]) (optN t (some y) 0) fun m => okV (slV es (ev t x) a b (some m)) h n 38) = _
  rw [e1, e2]
  show gO (SR.bad [37]) (optN t hi l) (fun b => gO (SR.bad [39]) (optN t (some y) 0) fun m => okV (slV es (ev t x) p b (some m)) h n 38) = _
  rw [e3]
  show gO (SR.bad [39]) (optN t (some y) 0) (fun m => okV (slV es (ev t x) p q (some m)) h n 38) = _
  rw [e4]
  exact okV_of h4
theorem pSs_ok {x : RO} {lo hi : Option RO} {g : G3} {a b : F3 → Nat → (Nat → A) → A} (hg : GOk g fun t => ev t x) (ha : NOk a lo) (hb : NOk b hi) : POk ys (pSs g a b) (.ss x lo hi) := fun t3 t c hF h => by
  obtain ⟨l, e1, h1⟩ := cS_ok (hg _ _ _ hF h)
  obtain ⟨p, e2, h2⟩ := ha _ _ _ _ hF (frc_ok h1)
  obtain ⟨q, e3, h3⟩ := hb _ _ _ _ hF h2
  obtain ⟨h4, h5⟩ := ifA_y h3
  obtain ⟨h6, h7⟩ := ifA_y h5
  have h8 := frcL_ok h7
  have e1 : ev t x = .s l := e1
  refine ⟨_, fun cl fl lim h n => ?_, h8⟩
  show gS (SR.bad [40]) (ev t x) (fun l => gO (SR.bad [41]) (optN t lo 0) fun a => gO (SR.bad [42]) (optN t hi l.length) fun b => bf (Nat.ble a b) (bf (Nat.ble b l.length) (SR.ok (.s ((l.take b).drop a)) h n) (SR.bad [43])) (SR.bad [44])) = _
  rw [e1, e2]
  show gO (SR.bad [42]) (optN t hi l.length) (fun b => bf (Nat.ble p b) (bf (Nat.ble b l.length) (SR.ok (.s ((l.take b).drop p)) h n) (SR.bad [43])) (SR.bad [44])) = _
  rw [e3]
  show bf (Nat.ble p q) (bf (Nat.ble q l.length) (SR.ok (.s ((l.take q).drop p)) h n) (SR.bad [43])) (SR.bad [44]) = _
  rw [h4, h6]
  rfl
theorem pSa_ok {m es : Nat} {x : RO} {lo hi : Option RO} {g : G3} {a b : F3 → Nat → (Nat → A) → A} (hg : GOk g fun t => ev t x) (ha : NOk a lo) (hb : NOk b hi) : POk ys (pSa m es g a b) (.sa m es x lo hi) := fun t3 t c hF h => by
  obtain ⟨i, o, e1, h1⟩ := cP_ok (hg _ _ _ hF h)
  obtain ⟨p, e2, h2⟩ := ha _ _ _ _ hF h1
  obtain ⟨q, e3, h3⟩ := hb _ _ _ _ hF h2
  obtain ⟨h4, h5⟩ := cUv_ok h3
  have e1 : ev t x = .p i o := e1
  refine ⟨_, fun cl fl lim h n => ?_, h5⟩
  show gP (SR.bad [45]) (ev t x) (fun b o => gO (SR.bad [46]) (optN t lo 0) fun a => gO (SR.bad [47]) (optN t hi m) fun e => okV (slK es b o a e m) h n 48) = _
  rw [e1, e2]
  show gO (SR.bad [47]) (optN t hi m) (fun e => okV (slK es i o p e m) h n 48) = _
  rw [e3]
  exact okV_of h4
theorem pFa_ok {off : Nat} {x : RO} {g : G3} (hg : GOk g fun t => ev t x) : POk ys (pFa off g) (.fa off x) := fun t3 t c hF h => by
  obtain ⟨b, o, e, h1⟩ := cP_ok (hg _ _ _ hF h)
  have e : ev t x = .p b o := e
  refine ⟨_, fun cl fl lim h n => ?_, frc_ok h1⟩
  show gP (SR.bad [49]) (ev t x) (fun b o => SR.ok (.p b (Nat.add o off)) h n) = _
  rw [e]
  rfl
theorem pFd_ok {ag : Bool} {off m : Nat} {x : RO} {g : G3} (hg : GOk g fun t => ev t x) : POk ys (pFd ag off m g) (.fd ag off m x) := fun t3 t c hF h => by
  obtain ⟨q, e, h1⟩ := cA_ok (hg _ _ _ hF h)
  obtain ⟨v, h2, h3⟩ := part3_ok h1
  have e : ev t x = .agg q := e
  refine ⟨_, fun cl fl lim h n => ?_, h3⟩
  show gA (SR.bad [52]) (ev t x) (fun c => partC ag c off m h n) = _
  rw [e]
  exact h2 h n
theorem iaK_ok {es b o l a : Nat} {k : RV → A} (h : Good (iaK es b o l a k)) : Nat.ble (a + 1) l = true ∧ Good (k (.p b (o + a * es))) := by
  obtain ⟨h1, h2⟩ := ifA_y h
  exact ⟨h1, frc_ok (k := fun o => k (.p b o)) h2⟩
theorem ixN_of {v : RV} {j : IntKind} {a l : Nat} {k : Nat → SR} (e : v = .i j (.ofNat a)) (h : Nat.ble (a + 1) l = true) : ixN v l k = k a := by
  subst e
  show bf (Nat.ble (a + 1) l) (k a) _ = _
  rw [h]
  rfl
theorem pIa_ok {es : Nat} {x i : RO} {g f : G3} (hg : GOk g fun t => ev t x) (hf : GOk f fun t => ev t i) : POk ys (pIa es g f) (.ia es x i) := fun t3 t c hF h => by
  obtain ⟨j, a, e2, h1⟩ := cK_ok (hf _ _ _ hF (hg _ _ _ hF h))
  have e2 : ev t i = .i j (.ofNat a) := e2
  rcases cL_ok h1 with ⟨_, h2⟩ | ⟨b, o, l, q, e1, h2⟩ | ⟨b, o, l, q, e1, h2⟩ | ⟨_, _, _, h2⟩
  · exact Good.no h2
  · obtain ⟨h3, h4⟩ := iaK_ok h2
    have e1 : ev t x = .sl b o l q := e1
    refine ⟨_, fun cl fl lim h n => ?_, h4⟩
    show gL (SR.bad [56]) (ev t x) (SR.bad [57]) (fun b o l _ => ixN (ev t i) l fun a => SR.ok (.p b (Nat.add o (Nat.mul a es))) h n) (fun b o l _ => ixN (ev t i) l fun a => SR.ok (.p b (Nat.add o (Nat.mul a es))) h n) (fun _ _ => SR.bad [58]) = _
    rw [e1]
    show ixN (ev t i) l (fun a => SR.ok (.p b (Nat.add o (Nat.mul a es))) h n) = _
    exact ixN_of e2 h3
  · obtain ⟨h3, h4⟩ := iaK_ok h2
    have e1 : ev t x = .su b o l q := e1
    refine ⟨_, fun cl fl lim h n => ?_, h4⟩
    show gL (SR.bad [56]) (ev t x) (SR.bad [57]) (fun b o l _ => ixN (ev t i) l fun a => SR.ok (.p b (Nat.add o (Nat.mul a es))) h n) (fun b o l _ => ixN (ev t i) l fun a => SR.ok (.p b (Nat.add o (Nat.mul a es))) h n) (fun _ _ => SR.bad [58]) = _
    rw [e1]
    show ixN (ev t i) l (fun a => SR.ok (.p b (Nat.add o (Nat.mul a es))) h n) = _
    exact ixN_of e2 h3
  · exact Good.no h2
theorem pIp_ok {m es : Nat} {x i : RO} {g f : G3} (hg : GOk g fun t => ev t x) (hf : GOk f fun t => ev t i) : POk ys (pIp m es g f) (.ip m es x i) := fun t3 t c hF h => by
  obtain ⟨j, a, e2, h1⟩ := cK_ok (hf _ _ _ hF (hg _ _ _ hF h))
  have e2 : ev t i = .i j (.ofNat a) := e2
  obtain ⟨b, o, e1, h2⟩ := cP_ok h1
  obtain ⟨h3, h4⟩ := iaK_ok h2
  have e1 : ev t x = .p b o := e1
  refine ⟨_, fun cl fl lim h n => ?_, h4⟩
  show gP (SR.bad [59]) (ev t x) (fun b o => ixN (ev t i) m fun a => SR.ok (.p b (Nat.add o (Nat.mul a es))) h n) = _
  rw [e1]
  show ixN (ev t i) m (fun a => SR.ok (.p b (Nat.add o (Nat.mul a es))) h n) = _
  exact ixN_of e2 h3
theorem pIx_ok {ag : Bool} {m es : Nat} {x i : RO} {g f : G3} (hg : GOk g fun t => ev t x) (hf : GOk f fun t => ev t i) : POk ys (pIx ag m es g f) (.ix ag m es x i) := fun t3 t c hF h => by
  obtain ⟨j, a, e2, h1⟩ := cK_ok (hf _ _ _ hF (hg _ _ _ hF h))
  have e2 : ev t i = .i j (.ofNat a) := e2
  obtain ⟨q, e1, h2⟩ := cA_ok h1
  obtain ⟨h3, h4⟩ := ifA_y h2
  obtain ⟨v, h5, h6⟩ := part3_ok (frc_ok (r := Nat.mul a es) (k := fun o => part3 ag q o es c) h4)
  have e1 : ev t x = .agg q := e1
  refine ⟨_, fun cl fl lim h n => ?_, h6⟩
  show gA (SR.bad [60]) (ev t x) (fun c => ixN (ev t i) m fun a => partC ag c (Nat.mul a es) es h n) = _
  rw [e1]
  show ixN (ev t i) m (fun a => partC ag q (Nat.mul a es) es h n) = _
  exact (ixN_of e2 h3).trans (h5 h n)
theorem pSx_ok {x i : RO} {g f : G3} (hg : GOk g fun t => ev t x) (hf : GOk f fun t => ev t i) : POk ys (pSx g f) (.sx x i) := fun t3 t c hF h => by
  obtain ⟨j, a, e2, h1⟩ := cK_ok (hf _ _ _ hF (hg _ _ _ hF h))
  have e2 : ev t i = .i j (.ofNat a) := e2
  obtain ⟨l, e1, h2⟩ := cS_ok h1
  obtain ⟨h3, q, h4, h5⟩ := nthN_ok h2
  have e1 : ev t x = .s l := e1
  refine ⟨_, fun cl fl lim h n => ?_, h5⟩
  show gS (SR.bad [61]) (ev t x) (fun l => ixN (ev t i) l.length fun a => gO (SR.bad [62]) l[a]? fun c => SR.ok (.i .u8 (Int.ofNat c)) h n) = _
  rw [e1]
  show ixN (ev t i) l.length (fun a => gO (SR.bad [62]) l[a]? fun c => SR.ok (.i .u8 (Int.ofNat c)) h n) = _
  refine (ixN_of e2 (Nat.ble_eq_true_of_le h3)).trans ?_
  show gO (SR.bad [62]) l[a]? (fun c => SR.ok (.i .u8 (Int.ofNat c)) h n) = _
  rw [h4]
  rfl
theorem pEx_ok {j : Nat} {x : RO} {g : G3} (hg : GOk g fun t => ev t x) : POk ys (pEx j g) (.ex j x) := fun t3 t c hF h => by
  obtain ⟨q, e, h1⟩ := cT_ok (hg _ _ _ hF h)
  obtain ⟨h2, h3⟩ := chG_ok h1
  have e : ev t x = .tup q := e
  refine ⟨_, fun cl fl lim h n => ?_, h3⟩
  show gT (SR.bad [63]) (ev t x) (fun c => okV (chGet c j) h n 64) = _
  rw [e]
  exact okV_of h2
theorem okI (m : Nat) (h : HT) (n w : Nat) : okV (mkI .i64 (Int.ofNat m)) h n w = SR.ok (.i .i64 (.ofNat m)) h n := by rw [mkI_nat]; rfl
theorem pLnS_ok {x : RO} {g : G3} (hg : GOk g fun t => ev t x) : POk ys (pLnS g) (.ln true x) := fun t3 t c hF h => by
  obtain ⟨l, e, h1⟩ := cS_ok (hg _ _ _ hF h)
  have e : ev t x = .s l := e
  refine ⟨_, fun cl fl lim h n => ?_, frc_ok h1⟩
  show gS (SR.bad [68]) (ev t x) (fun l => okV (mkI .i64 (Int.ofNat l.length)) h n 69) = _
  rw [e]
  exact okI _ _ _ _
theorem pLn_ok {x : RO} {g : G3} (hg : GOk g fun t => ev t x) : POk ys (pLn g) (.ln false x) := fun t3 t c hF h => by
  obtain ⟨l, e, h1⟩ := cLen_ok (hg _ _ _ hF h)
  have e : slLen (ev t x) = some l := e
  refine ⟨_, fun cl fl lim h n => ?_, h1⟩
  show gO (SR.bad [69]) (slLen (ev t x)) (fun l => okV (mkI .i64 (Int.ofNat l)) h n 69) = _
  rw [e]
  exact okI _ _ _ _
theorem pCp_ok {x : RO} {g : G3} (hg : GOk g fun t => ev t x) : POk ys (pCp g) (.cp x) := fun t3 t c hF h => by
  rcases cL_ok (hg _ _ _ hF h) with ⟨e, h2⟩ | ⟨b, o, l, q, e, h2⟩ | ⟨b, o, l, q, e1, h2⟩ | ⟨_, _, _, h2⟩
  · have e : ev t x = .ns := e
    refine ⟨_, fun cl fl lim h n => ?_, h2⟩
    show gL (SR.bad [70]) (ev t x) (SR.ok (.i .i64 (Int.ofNat 0)) h n) (fun _ _ _ c => SR.ok (.i .i64 (Int.ofNat c)) h n) (fun _ _ _ _ => SR.bad [71]) (fun _ _ => SR.bad [72]) = _
    rw [e]
    rfl
  · have e : ev t x = .sl b o l q := e
    refine ⟨_, fun cl fl lim h n => ?_, h2⟩
    show gL (SR.bad [70]) (ev t x) (SR.ok (.i .i64 (Int.ofNat 0)) h n) (fun _ _ _ c => SR.ok (.i .i64 (Int.ofNat c)) h n) (fun _ _ _ _ => SR.bad [71]) (fun _ _ => SR.bad [72]) = _
    rw [e]
    rfl
  · exact Good.no h2
  · exact Good.no h2
theorem pMm_ok {mx : Bool} {x y : RO} {a b : G3} (ha : GOk a fun t => ev t x) (hb : GOk b fun t => ev t y) : POk ys (pMm mx a b) (.mm mx x y) := fun t3 t c hF h => by
  obtain ⟨j, u, e1, h1⟩ := cI_ok (hb _ _ _ hF (ha _ _ _ hF h))
  obtain ⟨i, w, e2, h2⟩ := cI_ok h1
  obtain ⟨h3, h4⟩ := ifA_y h2
  obtain ⟨h5, h6⟩ := cUv_ok h4
  have e1 : ev t x = .i j u := e1
  have e2 : ev t y = .i i w := e2
  refine ⟨_, fun cl fl lim h n => ?_, h6⟩
  show gI (SR.bad [80]) (ev t x) (fun k a => gI (SR.bad [81]) (ev t y) fun j b => bf (eqK k j) (okV (mkI k (bf (bf mx (ltI a b) (ltI b a)) b a)) h n 82) (SR.bad [83])) = _
  rw [e1, e2]
  show bf (eqK j i) _ _ = _
  rw [h3]
  exact okV_of h5
end
end Go.Rn
