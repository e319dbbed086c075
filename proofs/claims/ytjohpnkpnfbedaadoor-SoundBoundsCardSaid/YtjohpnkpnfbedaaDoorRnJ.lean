/-
  One text of a symbolic evaluator over the model, shown sound once for every program: no statement is claimed here.
-/
import Derived.Test.YtjohpnkpnfbedaaDoorRnI
namespace Go.Rn
variable {ρ : Nat → Int} {m m' : Mp} {P : Program}
section
variable {g fl n n' nt lim : Nat} {h h' : HT} {t : FT} {a : Act} {o : Oper} {w : World} {v : RV} {ys : Ys} {cl : Cl'}
theorem eqGuard_run {op : BinOp} {ty : TypeId} {x y : Operand} {u v : Value} (h1 : u ≠ .nilIface) (h2 : ∀ c, u ≠ .agg c) (w : World) : (eqGuard op ty x y u v).run P w = .ok () w := by
  unfold eqGuard
  cases op <;> (try rfl) <;> cases u <;> first | (exact absurd rfl h1) | (exact absurd rfl (h2 _)) | rfl
theorem binV_shape {op : BinOp} {x y : RV} {u : Value} (hu : binV ys op x y ≠ .un) (hd : den ρ m x u) : u ≠ .nilIface ∧ ∀ c, u ≠ .agg c := by
  cases x with
  | i k n => obtain rfl : u = .int k n := hd; exact ⟨by simp, by simp⟩
  | y k e => obtain rfl : u = .int k (e.val ρ) := hd; exact ⟨by simp, by simp⟩
  | s l => obtain ⟨rfl, _⟩ := hd; exact ⟨by simp, by simp⟩
  | _ => exact absurd rfl hu
/-- what is nil -/
def NilAs : Nat → Bool → Value → Prop
  | 0, true, v => v = .pointer none
  | 0, false, v => ∃ p, v = .pointer (some p)
  | 1, true, v => v = .slice none 0 0
  | 1, false, v => ∃ p l c, v = .slice (some p) l c
  | 2, true, v => v = .nilFunc
  | 2, false, v => ∃ f x y, v = .func f x y
  | _, _, _ => False
theorem isNil_ok {r : RV} {u : Value} {k : Nat} {b : Bool} (h : isNil r = some (k, b)) (hd : den ρ m r u) : NilAs k b u := by
  cases r with
  | np => cases h; exact hd
  | p x y => cases h; obtain ⟨B, O, Z, _, rfl⟩ := hd; exact ⟨_, rfl⟩
  | ns => cases h; exact hd
  | sl x y z q => cases h; obtain ⟨B, O, Z, _, _, rfl⟩ := hd; exact ⟨_, _, _, rfl⟩
  | su x y z q => cases h; obtain ⟨B, O, Z, c, _, _, _, rfl⟩ := hd; exact ⟨_, _, _, rfl⟩
  | sx x y => cases h; obtain ⟨B, O, Z, O', c, _, _, rfl⟩ := hd; exact ⟨_, _, _, rfl⟩
  | nf => cases h; exact hd
  | fn f c => cases h; obtain ⟨cs, _, rfl⟩ := hd; exact ⟨_, _, _, rfl⟩
  | _ => cases h
/-- the kind's type -/
def KindTy (P : Program) (k : Nat) (ty : TypeId) : Prop := (k = 0 ∧ ∃ e, P.underlying ty = some (.pointer e)) ∨ (k = 1 ∧ ∃ e, P.underlying ty = some (.slice e)) ∨ (k = 2 ∧ ∃ x y z, P.underlying ty = some (.func x y z))
theorem run_equal {ty : TypeId} {x y : Value} {r : Bool} (w : World) (h : ∀ d, (Op.equalIn (d + 1) ty x y).run P w = .ok r w) : (Op.equal ty x y).run P w = .ok r w := h 9999
theorem run_nilEq {k : Nat} {ty : TypeId} (hk : KindTy P k ty) {x y : Value} {a b : Bool} (hx : NilAs k a x) (hy : NilAs k b y) (hab : a = true ∨ b = true) (w : World) :
    (Op.equal ty x y).run P w = .ok (a && b) w := by
  refine run_equal w fun d => ?_
  rcases hk with ⟨rfl, e, hu⟩ | ⟨rfl, e, hu⟩ | ⟨rfl, p, q, r, hu⟩ <;> cases a <;> cases b
  all_goals first
    | (simp at hab; done)
    | skip
  · obtain ⟨p, rfl⟩ := hx; obtain rfl : y = .pointer none := hy
    simp [Op.equalIn, run_underlying hu]
  · obtain ⟨p, rfl⟩ := hy; obtain rfl : x = .pointer none := hx
    simp [Op.equalIn, run_underlying hu]
  · obtain rfl : x = .pointer none := hx; obtain rfl : y = .pointer none := hy
    simp [Op.equalIn, run_underlying hu]
  · obtain ⟨p, l, c, rfl⟩ := hx; obtain rfl : y = .slice none 0 0 := hy
    simp [Op.equalIn, run_underlying hu]
  · obtain ⟨p, l, c, rfl⟩ := hy; obtain rfl : x = .slice none 0 0 := hx
    simp [Op.equalIn, run_underlying hu]
  · obtain rfl : x = .slice none 0 0 := hx; obtain rfl : y = .slice none 0 0 := hy
    simp [Op.equalIn, run_underlying hu]
  · obtain ⟨p, l, c, rfl⟩ := hx; obtain rfl : y = .nilFunc := hy
    simp [Op.equalIn, run_underlying hu]
  · obtain ⟨p, l, c, rfl⟩ := hy; obtain rfl : x = .nilFunc := hx
    simp [Op.equalIn, run_underlying hu]
  · obtain rfl : x = .nilFunc := hx; obtain rfl : y = .nilFunc := hy
    simp [Op.equalIn, run_underlying hu]
/-- a value that '==' hands to 'equal' -/
def Eqs (v : Value) : Prop := (∃ b, v = .bool b) ∨ (∃ p, v = .pointer p) ∨ (∃ p l c, v = .slice p l c) ∨ v = .nilFunc ∨ ∃ f x y, v = .func f x y
theorem NilAs.eqs {k : Nat} {b : Bool} {v : Value} (h : NilAs k b v) : Eqs v := by
  match k, b, h with
  | 0, true, h => exact .inr (.inl ⟨_, h⟩)
  | 0, false, ⟨p, h⟩ => exact .inr (.inl ⟨_, h⟩)
  | 1, true, h => exact .inr (.inr (.inl ⟨_, _, _, h⟩))
  | 1, false, ⟨p, l, c, h⟩ => exact .inr (.inr (.inl ⟨_, _, _, h⟩))
  | 2, true, h => exact .inr (.inr (.inr (.inl h)))
  | 2, false, ⟨p, l, c, h⟩ => exact .inr (.inr (.inr (.inr ⟨_, _, _, h⟩)))
theorem run_eql {ty : TypeId} {x y : Value} {r : Bool} {w : World} (hx : Eqs x) (hy : Eqs y) (h : (Op.equal ty x y).run P w = .ok r w) : (binOp .eql ty x y).run P w = .ok (.bool r) w ∧ (binOp .neq ty x y).run P w = .ok (.bool (!r)) w := by
  have e1 : binOp .eql ty x y = (do pure (.bool (← Op.equal ty x y)) : Sem Value) := by
    rcases hx with ⟨_, rfl⟩ | ⟨_, rfl⟩ | ⟨_, _, _, rfl⟩ | rfl | ⟨_, _, _, rfl⟩ <;> rcases hy with ⟨_, rfl⟩ | ⟨_, rfl⟩ | ⟨_, _, _, rfl⟩ | rfl | ⟨_, _, _, rfl⟩ <;> rfl
  have e2 : binOp .neq ty x y = (do pure (.bool (!(← Op.equal ty x y))) : Sem Value) := by
    rcases hx with ⟨_, rfl⟩ | ⟨_, rfl⟩ | ⟨_, _, _, rfl⟩ | rfl | ⟨_, _, _, rfl⟩ <;> rcases hy with ⟨_, rfl⟩ | ⟨_, rfl⟩ | ⟨_, _, _, rfl⟩ | rfl | ⟨_, _, _, rfl⟩ <;> rfl
  rw [e1, e2]
  simp [h]
theorem run_boolEq {ty : TypeId} (hu : P.underlying ty = some .bool) (p q : Bool) (w : World) : (Op.equal ty (.bool p) (.bool q)).run P w = .ok (p == q) w :=
  run_equal w fun d => by simp [Op.equalIn, run_underlying hu]
variable (F : Fr P ρ m nt t a.tmps) (s : Sim ρ m g h w)
include F s
theorem ok_bn (hy : YsOk ρ ys) {op : BinOp} {ty yt : TypeId} {x y : Operand} (ho : o.op = .binOp op ty x y yt) (e : step (.bn op (opd P nt x) (opd P nt y)) ys cl fl lim t h n = .ok v h' n') : Ok1 P ρ g fl o a m w h n v h' n' := by
  have e1 : okV (binV ys op (ev t (opd P nt x)) (ev t (opd P nt y))) h n 17 = .ok v h' n' := e
  obtain ⟨hu, rfl, rfl, rfl⟩ := okV_ok e1
  have hx : ev t (opd P nt x) ≠ .un := fun q => hu (by rw [q]; rfl)
  have hy2 : ev t (opd P nt y) ≠ .un := fun q => hu (by
    rw [q]
    cases ev t (opd P nt x) <;> rfl)
  have dx := opd_ok F x hx
  have dy := opd_ok F y hy2
  obtain ⟨z, hz, hdz⟩ := binV_ok (P := P) (ty := ty) hy dx dy rfl hu w
  obtain ⟨s1, s2⟩ := binV_shape hu dx
  exact Ok1.quiet (u := z) s (by simp [execOp, ho, eqGuard_run s1 s2, hz]) hdz
theorem ok_bq {op : BinOp} {neg : Bool} (hop : (op = .eql ∧ neg = false) ∨ (op = .neq ∧ neg = true)) {ty yt : TypeId} {x y : Operand} (ho : o.op = .binOp op ty x y yt) (hu : P.underlying ty = some .bool) (e : step (.bq neg (opd P nt x) (opd P nt y)) ys cl fl lim t h n = .ok v h' n') :
    Ok1 P ρ g fl o a m w h n v h' n' := by
  have e1 : gB (SR.bad [18]) (ev t (opd P nt x)) (fun a => gB (SR.bad [19]) (ev t (opd P nt y)) fun b => SR.ok (mkB (eqB neg (notB (eqB a b)))) h n) = .ok v h' n' := e
  obtain ⟨p, hp, e2⟩ := gB_ok e1 (by simp)
  obtain ⟨q, hq, e3⟩ := gB_ok e2 (by simp)
  cases e3
  have dx := opd_ok F x (by rw [hp]; simp)
  have dy := opd_ok F y (by rw [hq]; simp)
  rw [hp] at dx
  rw [hq] at dy
  have dx' : a.eval x = .bool p := dx
  have dy' : a.eval y = .bool q := dy
  rw [mkB_eq, eqB_eq, notB_eq, eqB_eq]
  rcases hop with ⟨rfl, rfl⟩ | ⟨rfl, rfl⟩
  · obtain ⟨r1, r2⟩ := run_eql (.inl ⟨p, rfl⟩) (.inl ⟨q, rfl⟩) (run_boolEq hu p q w)
    exact Ok1.quiet (u := .bool (p == q)) s (by simp [execOp, ho, dx', dy', eqGuard_run, r1]) (by cases p <;> cases q <;> rfl)
  · obtain ⟨r1, r2⟩ := run_eql (.inl ⟨p, rfl⟩) (.inl ⟨q, rfl⟩) (run_boolEq hu p q w)
    exact Ok1.quiet (u := .bool (!(p == q))) s (by simp [execOp, ho, dx', dy', eqGuard_run, r2]) (by cases p <;> cases q <;> rfl)
theorem ok_nq {op : BinOp} {neg : Bool} {kd : Nat} (hop : (op = .eql ∧ neg = false) ∨ (op = .neq ∧ neg = true)) {ty yt : TypeId} {x y : Operand} (ho : o.op = .binOp op ty x y yt) (hk : KindTy P kd ty) (e : step (.nq kd neg (opd P nt x) (opd P nt y)) ys cl fl lim t h n = .ok v h' n') :
    Ok1 P ρ g fl o a m w h n v h' n' := by
  have e1 : gO (SR.bad [20]) (isNil (ev t (opd P nt x))) (fun a => gO (SR.bad [21]) (isNil (ev t (opd P nt y))) fun b =>
    bf (bf (Nat.beq a.1 kd) (Nat.beq b.1 kd) false) (bf b.2 (SR.ok (mkB (eqB neg (notB a.2))) h n) (bf a.2 (SR.ok (mkB neg) h n) (SR.bad [22]))) (SR.bad [23])) = .ok v h' n' := e
  obtain ⟨⟨ka, p⟩, hp, e2⟩ := gO_ok e1 (by simp)
  obtain ⟨⟨kb, q⟩, hq, e3⟩ := gO_ok e2 (by simp)
  obtain ⟨hkk, e4⟩ := bf_ok e3 (by simp)
  obtain ⟨h1, h2⟩ := bf_ok hkk (by simp)
  obtain rfl := beq_ok h1
  obtain rfl := beq_ok h2
  have dx := isNil_ok hp (opd_ok F x (fun q => by rw [q] at hp; cases hp))
  have dy := isNil_ok hq (opd_ok F y (fun q => by rw [q] at hq; cases hq))
  have gx : ∀ (y' : Operand) (u : Value), (eqGuard op ty x y' (a.eval x) u).run P w = .ok () w := fun y' u => by
    refine eqGuard_run ?_ ?_ w
    · intro e; rw [e] at dx
      rcases dx.eqs with ⟨_, q⟩ | ⟨_, q⟩ | ⟨_, _, _, q⟩ | q | ⟨_, _, _, q⟩ <;> cases q
    · intro c e; rw [e] at dx
      rcases dx.eqs with ⟨_, q⟩ | ⟨_, q⟩ | ⟨_, _, _, q⟩ | q | ⟨_, _, _, q⟩ <;> cases q
  have key : (p = true ∨ q = true) ∧ v = .b (if neg then !(p && q) else (p && q)) ∧ h' = h ∧ n' = n := by
    rcases bf_or e4 with ⟨hq2, e5⟩ | ⟨hq2, e5⟩
    · dsimp only at hq2
      subst hq2
      cases e5
      rw [mkB_eq, eqB_eq, notB_eq]
      exact ⟨.inr rfl, by cases neg <;> cases p <;> rfl, rfl, rfl⟩
    · dsimp only at hq2
      subst hq2
      obtain ⟨hp2, e6⟩ := bf_ok e5 (by simp)
      dsimp only at hp2
      subst hp2
      cases e6
      rw [mkB_eq]
      exact ⟨.inl rfl, by cases neg <;> rfl, rfl, rfl⟩
  obtain ⟨hab, rfl, rfl, rfl⟩ := key
  obtain ⟨r1, r2⟩ := run_eql dx.eqs dy.eqs (run_nilEq hk dx dy hab w)
  rcases hop with ⟨rfl, rfl⟩ | ⟨rfl, rfl⟩
  · exact Ok1.quiet (u := .bool (p && q)) s (by simp [execOp, ho, gx, r1]) rfl
  · exact Ok1.quiet (u := .bool (!(p && q))) s (by simp [execOp, ho, gx, r2]) rfl
theorem ok_nc {x : Operand} (ho : o.op = .nilCheck x) (e : step (.nc (opd P nt x)) ys cl fl lim t h n = .ok v h' n') : Ok1 P ρ g fl o a m w h n v h' n' := by
  have e1 : gP (gF (SR.bad [16]) (ev t (opd P nt x)) fun f c => SR.ok (.fn f c) h n) (ev t (opd P nt x)) (fun b o => SR.ok (.p b o) h n) = .ok v h' n' := e
  rcases gP_or e1 with ⟨b, k, hb, e2⟩ | e2
  · cases e2
    have dx := opd_ok F x (by rw [hb]; simp)
    rw [hb] at dx
    obtain ⟨B, O, Z, hm, hx⟩ := dx
    exact Ok1.quiet (u := a.eval x) s (by simp [execOp, ho, hx]) ⟨B, O, Z, hm, hx⟩
  · obtain ⟨f, c, hf, e3⟩ := gF_ok e2 (by simp)
    cases e3
    have dx := opd_ok F x (by rw [hf]; simp)
    rw [hf] at dx
    obtain ⟨cs, hm, hx⟩ := dx
    exact Ok1.quiet (u := a.eval x) s (by simp [execOp, ho, hx]) ⟨cs, hm, hx⟩
theorem ok_ng {ty : TypeId} {x : Operand} (ho : o.op = .unOp .neg ty x) (e : step (.ng (opd P nt x)) ys cl fl lim t h n = .ok v h' n') : Ok1 P ρ g fl o a m w h n v h' n' := by
  have e1 : gI (gY (SR.bad [24]) (ev t (opd P nt x)) fun k e => SR.ok (.y k (.sub k (.c 0) e)) h n) (ev t (opd P nt x)) (fun k a => okV (arI .sub k 0 a) h n 24) = .ok v h' n' := e
  rcases gI_or e1 with ⟨k, z, hz, e2⟩ | e2
  · obtain ⟨hu, rfl, rfl, rfl⟩ := okV_ok e2
    have dx := opd_ok F x (by rw [hz]; simp)
    rw [hz] at dx
    have hx : a.eval x = .int k z := dx
    refine Ok1.quiet (u := .int k (k.wrap (0 - z))) s (by simp [execOp, ho, hx, Op.unary, Op.intArith]) ?_
    show den ρ m (wrapI k (0 - z)) _
    rw [wrapI_eq]; rfl
  · obtain ⟨k, f, hf, e3⟩ := gY_ok e2 (by simp)
    cases e3
    have hu : ev t (opd P nt x) ≠ .un := by rcases hf with q | ⟨z, q, _⟩ <;> rw [q] <;> simp
    have dx := opd_ok F x hu
    have hx : a.eval x = .int k (f.val ρ) := by
      rcases hf with q | ⟨z, q, rfl⟩
      · rw [q] at dx; exact dx
      · rw [q] at dx; exact dx
    exact Ok1.quiet (u := .int k (k.wrap (0 - f.val ρ))) s (by simp [execOp, ho, hx, Op.unary, Op.intArith]) rfl
theorem ok_nt {ty : TypeId} {x : Operand} (ho : o.op = .unOp .not ty x) (e : step (.nt (opd P nt x)) ys cl fl lim t h n = .ok v h' n') : Ok1 P ρ g fl o a m w h n v h' n' := by
  have e1 : gB (SR.bad [25]) (ev t (opd P nt x)) (fun a => SR.ok (mkB (notB a)) h n) = .ok v h' n' := e
  obtain ⟨p, hp, e2⟩ := gB_ok e1 (by simp)
  cases e2
  have dx := opd_ok F x (by rw [hp]; simp)
  rw [hp] at dx
  have hx : a.eval x = .bool p := dx
  rw [mkB_eq, notB_eq]
  exact Ok1.quiet (u := .bool (!p)) s (by simp [execOp, ho, hx, Op.unary]) rfl
theorem ok_cv {sr ds : TypeId} {k : IntKind} {d : TypeDesc} {x : Operand} (ho : o.op = .convert sr ds x) (hs : P.underlying sr = some d) (hd : P.underlying ds = some (.int k)) (e : step (.cv k (opd P nt x)) ys cl fl lim t h n = .ok v h' n') : Ok1 P ρ g fl o a m w h n v h' n' := by
  have e1 : gI (SR.bad [26]) (ev t (opd P nt x)) (fun _ a => okV (wrapI k a) h n 26) = .ok v h' n' := e
  obtain ⟨j, z, hz, e2⟩ := gI_ok e1 (by simp)
  obtain ⟨hu, rfl, rfl, rfl⟩ := okV_ok e2
  have dx := opd_ok F x (by rw [hz]; simp)
  rw [hz] at dx
  have hx : a.eval x = .int j z := dx
  refine Ok1.quiet (u := .int k (k.wrap z)) s (by simp [execOp, ho, hx, convert, run_underlying hs, run_underlying hd, Conv.intToInt]) ?_
  rw [wrapI_eq]; rfl
theorem ok_mf {f : FuncId} {first captured : Array Operand} (ho : o.op = .makeFunc (.func f) first captured) (hf : first.toList = []) (e : step (.mf f (captured.toList.map (opd P nt))) ys cl fl lim t h n = .ok v h' n') : Ok1 P ρ g fl o a m w h n v h' n' := by
  have e1 : nU (SR.bad [27]) (evL t (captured.toList.map (opd P nt))) (fun c => SR.ok (.fn f c) h n) = .ok v h' n' := e
  obtain ⟨hu, e2⟩ := nU_ok e1 (by simp)
  cases e2
  have hfirst : first = #[] := by simpa using hf
  refine Ok1.quiet (u := .func (.func f) #[] (captured.map a.eval)) s (by simp [execOp, ho, hfirst, Instr.makeFunc]) ⟨captured.toList.map a.eval, evL_ok F captured.toList hu, by congr 1; apply Array.ext'; simp⟩
end
end Go.Rn
