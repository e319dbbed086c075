/-
  One text of a symbolic evaluator over the model, shown sound once for every program: no statement is claimed here.
-/
import Derived.Test.YtendogjdmabknaaRnJ
namespace Go.Rn
variable {ρ : Nat → Int} {m m' : Mp} {P : Program}
section
variable {g fl n n' nt lim : Nat} {h h' : HT} {t : FT} {a : Act} {o : Oper} {w : World} {v : RV} {ys : Ys} {cl : Cl'}
variable (F : Fr P ρ m nt t a.tmps) (s : Sim P ρ m g h w)
theorem one_arr {α : Type} {x : α} {l : Array α} (h : l.toList = [x]) : l = #[x] := by rw [← Array.toArray_toList (xs := l), h]
theorem two_arr {α : Type} {x y : α} {l : Array α} (h : l.toList = [x, y]) : l = #[x, y] := by rw [← Array.toArray_toList (xs := l), h]
theorem slLen_ok {r : RV} {u : Value} {l : Nat} (h : slLen r = some l) (hd : den ρ m r u) : ∃ p c, u = .slice p l c ∧ l ≤ c := by
  unfold slLen at h
  rcases gL_ok h (by simp) with ⟨rfl, e⟩ | ⟨b, o, l', c, rfl, e⟩ | ⟨b, o, l', e', rfl, e⟩ | ⟨b, e', rfl, e⟩
  · cases e; exact ⟨none, 0, hd, Nat.le_refl _⟩
  · cases e; obtain ⟨B, O, Z, _, h1, rfl⟩ := hd; exact ⟨_, _, rfl, h1⟩
  · cases e; obtain ⟨B, O, Z, c, _, h1, _, rfl⟩ := hd; exact ⟨_, _, rfl, h1⟩
  · cases e; obtain ⟨B, O, Z, O', c, _, _, rfl⟩ := hd; exact ⟨_, _, rfl, Nat.zero_le _⟩
theorem part_ok {gg : Bool} {c : RV} {cs : List Value} (hd : denC ρ m c cs) (hc : ∀ x ∈ cs, Cell x) {off sz : Nat} {e : TypeId} (hs : szOf P e = some sz) (hg : aggOf P e = some gg) (e1 : partC gg c off sz h n = .ok v h' n') :
    h' = h ∧ n' = n ∧ ∃ u, (part e cs.toArray off).run P w = .ok u w ∧ den ρ m v u := by
  unfold partC at e1
  rcases bf_or e1 with ⟨hgg, e2⟩ | ⟨hgg, e2⟩
  · subst hgg
    obtain ⟨hu, e3⟩ := nU_ok e2 (by simp)
    cases e3
    obtain ⟨h1, h2⟩ := chSub_ok hd sz off hu
    refine ⟨rfl, rfl, .agg (cs.toArray.extract off (off + sz)), by simp [part, aggOf_run hg, szOf_run hs], (cs.drop off).take sz, h1, fun x hx => hc x (List.mem_of_mem_drop (List.mem_of_mem_take hx)), ?_⟩
    congr 1
    apply Array.ext'
    simp [List.extract_eq_take_drop, Nat.add_sub_cancel_left]
  · subst hgg
    obtain ⟨hu, rfl, rfl, rfl⟩ := okV_ok e2
    obtain ⟨u, hu1, hu2⟩ := chGet_ok off cs hu hd
    exact ⟨rfl, rfl, u, by simp [part, aggOf_run hg, hu1], hu2⟩
theorem ixN_ok {i : Operand} (F : Fr P ρ m nt t a.tmps) {l : Nat} {k : Nat → SR} (e : ixN (ev t (opd P nt i)) l k = .ok v h' n') : ∃ (j : IntKind) (z : Nat), a.eval i = .int j z ∧ z < l ∧ k z = .ok v h' n' := by
  unfold ixN at e
  obtain ⟨j, x, hx, e2⟩ := gI_ok e (by simp)
  obtain ⟨h1, e3⟩ := bf_ok e2 (by simp)
  obtain ⟨h2, e4⟩ := bf_ok e3 (by simp)
  have di := opd_ok F i (by rw [hx]; simp)
  rw [hx] at di
  have di' : a.eval i = .int j x := di
  refine ⟨j, natI x, ?_, ble_ok h2, e4⟩
  rw [di', ← nonI_ok h1]
include F s
theorem ok_fa {ty : TypeId} {x : Operand} {k : Nat} {fs : Array Field} {f : Field} {sz : Nat} (ho : o.op = .fieldAddr ty x k) (hu : P.underlying ty = some (.struct fs)) (hf : fs[k]? = some f) (hs : szOf P f.type = some sz) (h0 : 0 < sz)
    (e : step (.fa f.offset (opd P nt x)) ys cl fl lim t h n = .ok v h' n') : Ok1 P ρ g fl o a m w h n v h' n' := by
  have e1 : gP (SR.bad [49]) (ev t (opd P nt x)) (fun b o => SR.ok (.p b (Nat.add o f.offset)) h n) = .ok v h' n' := e
  obtain ⟨b, q, hb, e2⟩ := gP_ok e1 (by simp)
  cases e2
  have dx := opd_ok F x (by rw [hb]; simp)
  rw [hb] at dx
  obtain ⟨B, O, Z, hm, hx⟩ := dx
  have hne : sz ≠ 0 := by omega
  refine Ok1.quiet (u := .pointer (some ⟨B, O + (q + f.offset), none⟩)) s ?_ ⟨B, O, Z, hm, rfl⟩
  simp [execOp, ho, hx, Instr.fieldAt, run_underlying hu, hf, Instr.sureAddr, fieldPlace, szOf_run hs, hne, add_at, Nat.add_assoc]
theorem ok_fd {ty : TypeId} {x : Operand} {k : Nat} {fs : Array Field} {f : Field} {sz : Nat} {gg : Bool} (ho : o.op = .field ty x k) (hu : P.underlying ty = some (.struct fs)) (hf : fs[k]? = some f) (hs : szOf P f.type = some sz) (hg : aggOf P f.type = some gg)
    (e : step (.fd gg f.offset sz (opd P nt x)) ys cl fl lim t h n = .ok v h' n') : Ok1 P ρ g fl o a m w h n v h' n' := by
  have e1 : gA (SR.bad [52]) (ev t (opd P nt x)) (fun c => partC gg c f.offset sz h n) = .ok v h' n' := e
  obtain ⟨c, hc, e2⟩ := gA_ok e1 (by simp)
  have dx := opd_ok F x (by rw [hc]; simp)
  rw [hc] at dx
  obtain ⟨cs, d1, d2, hx⟩ := dx
  obtain ⟨rfl, rfl, u, hr, hd⟩ := part_ok (w := w) d1 d2 hs hg e2
  exact Ok1.quiet (u := u) s (by simp [execOp, ho, hx, Instr.field, run_underlying hu, hf, asAgg, hr]) hd
theorem ok_ia {ty : TypeId} {x i : Operand} {el : TypeId} {sz : Nat} (ho : o.op = .indexAddr ty x i) (hu : P.underlying ty = some (.slice el)) (hs : szOf P el = some sz)
    (e : step (.ia sz (opd P nt x) (opd P nt i)) ys cl fl lim t h n = .ok v h' n') : Ok1 P ρ g fl o a m w h n v h' n' := by
  have e1 : gL (SR.bad [56]) (ev t (opd P nt x)) (SR.bad [57]) (fun b o l _ => ixN (ev t (opd P nt i)) l fun a => SR.ok (.p b (Nat.add o (Nat.mul a sz))) h n) (fun b o l _ => ixN (ev t (opd P nt i)) l fun a => SR.ok (.p b (Nat.add o (Nat.mul a sz))) h n) (fun _ _ => SR.bad [58]) = .ok v h' n' := e
  rcases gL_ok e1 (by simp) with ⟨_, e2⟩ | ⟨b, q, l, c, hx, e2⟩ | ⟨b, q, l, c, hx, e2⟩ | ⟨_, _, _, e2⟩
  · cases e2
  · obtain ⟨j, z, hz, hlt, e3⟩ := ixN_ok F e2
    cases e3
    have dx := opd_ok F x (by rw [hx]; simp)
    rw [hx] at dx
    obtain ⟨B, O, Z, hm, hlc, hxv⟩ := dx
    refine Ok1.quiet (u := .pointer (some ⟨B, O + (q + z * sz), none⟩)) s ?_ ⟨B, O, Z, hm, rfl⟩
    simp [execOp, ho, hxv, hz, Instr.indexAt, asIntOf, run_underlying hu, hlt, szOf_run hs, add_at, Nat.add_assoc]
  · obtain ⟨j, z, hz, hlt, e3⟩ := ixN_ok F e2
    cases e3
    have dx := opd_ok F x (by rw [hx]; simp)
    rw [hx] at dx
    obtain ⟨B, O, Z, cc, hm, hlc, _, hxv⟩ := dx
    refine Ok1.quiet (u := .pointer (some ⟨B, O + (q + z * sz), none⟩)) s ?_ ⟨B, O, Z, hm, rfl⟩
    simp [execOp, ho, hxv, hz, Instr.indexAt, asIntOf, run_underlying hu, hlt, szOf_run hs, add_at, Nat.add_assoc]
  · cases e2
theorem ok_ip {ty : TypeId} {x i : Operand} {el : TypeId} {sz k : Nat} (ho : o.op = .indexAddr ty x i) (hu : P.underlying ty = some (.array k el)) (hs : szOf P el = some sz)
    (e : step (.ip k sz (opd P nt x) (opd P nt i)) ys cl fl lim t h n = .ok v h' n') : Ok1 P ρ g fl o a m w h n v h' n' := by
  have e1 : gP (SR.bad [59]) (ev t (opd P nt x)) (fun b o => ixN (ev t (opd P nt i)) k fun a => SR.ok (.p b (Nat.add o (Nat.mul a sz))) h n) = .ok v h' n' := e
  obtain ⟨b, q, hb, e2⟩ := gP_ok e1 (by simp)
  obtain ⟨j, z, hz, hlt, e3⟩ := ixN_ok F e2
  cases e3
  have dx := opd_ok F x (by rw [hb]; simp)
  rw [hb] at dx
  obtain ⟨B, O, Z, hm, hx⟩ := dx
  refine Ok1.quiet (u := .pointer (some ⟨B, O + (q + z * sz), none⟩)) s ?_ ⟨B, O, Z, hm, rfl⟩
  simp [execOp, ho, hx, hz, Instr.indexAt, asIntOf, run_underlying hu, Instr.sureAddr, hlt, szOf_run hs, add_at, Nat.add_assoc]
theorem ok_ix {ty : TypeId} {x i : Operand} {el : TypeId} {sz k : Nat} {gg : Bool} (ho : o.op = .index ty x i) (hu : P.underlying ty = some (.array k el)) (hs : szOf P el = some sz) (hg : aggOf P el = some gg)
    (e : step (.ix gg k sz (opd P nt x) (opd P nt i)) ys cl fl lim t h n = .ok v h' n') : Ok1 P ρ g fl o a m w h n v h' n' := by
  have e1 : gA (SR.bad [60]) (ev t (opd P nt x)) (fun c => ixN (ev t (opd P nt i)) k fun a => partC gg c (Nat.mul a sz) sz h n) = .ok v h' n' := e
  obtain ⟨c, hc, e2⟩ := gA_ok e1 (by simp)
  obtain ⟨j, z, hz, hlt, e3⟩ := ixN_ok F e2
  have dx := opd_ok F x (by rw [hc]; simp)
  rw [hc] at dx
  obtain ⟨cs, d1, d2, hx⟩ := dx
  obtain ⟨rfl, rfl, u, hr, hd⟩ := part_ok (w := w) d1 d2 hs hg e3
  have hr' : (part el cs.toArray (z * sz)).run P w = .ok u w := hr
  exact Ok1.quiet (u := u) s (by simp [execOp, ho, hx, hz, Instr.index, asIntOf, run_underlying hu, hlt, szOf_run hs, hr']) hd
theorem ok_sx {ty : TypeId} {x i : Operand} (ho : o.op = .index ty x i) (hu : P.underlying ty = some .string)
    (e : step (.sx (opd P nt x) (opd P nt i)) ys cl fl lim t h n = .ok v h' n') : Ok1 P ρ g fl o a m w h n v h' n' := by
  have e1 : gS (SR.bad [61]) (ev t (opd P nt x)) (fun l => ixN (ev t (opd P nt i)) l.length fun a => gO (SR.bad [62]) l[a]? fun c => SR.ok (.i .u8 (Int.ofNat c)) h n) = .ok v h' n' := e
  obtain ⟨l, hl, e2⟩ := gS_ok e1 (by simp)
  obtain ⟨j, z, hz, hlt, e3⟩ := ixN_ok F e2
  obtain ⟨c, hc, e4⟩ := gO_ok e3 (by simp)
  cases e4
  have dx := opd_ok F x (by rw [hl]; simp)
  rw [hl] at dx
  obtain ⟨hx, h256⟩ := dx
  have hcl : c < 256 := h256 c (List.mem_of_getElem? hc)
  have hget : (⟨(l.map UInt8.ofNat).toArray⟩ : ByteArray)[z]? = some (UInt8.ofNat c) := by
    have hsz : z < (⟨(l.map UInt8.ofNat).toArray⟩ : ByteArray).size := by show z < (l.map UInt8.ofNat).toArray.size; simpa using hlt
    rw [ByteArray.getElem?_lt' _ _ hsz]
    have : (l.map UInt8.ofNat)[z]? = some (UInt8.ofNat c) := by simp [hc]
    congr 1
    have h2 : (l.map UInt8.ofNat)[z]'(by simpa using hlt) = UInt8.ofNat c := by
      have := List.getElem?_eq_some_iff.1 this
      exact this.2
    exact h2
  refine Ok1.quiet (u := .int .u8 ((UInt8.ofNat c).toNat : Int)) s (by simp [execOp, ho, hx, hz, Instr.index, asIntOf, run_underlying hu, hget]) ?_
  show Value.int .u8 _ = Value.int .u8 _
  congr 1
  simp [UInt8.toNat_ofNat', Nat.mod_eq_of_lt hcl]
theorem ok_ex {x : Operand} {k : Nat} (ho : o.op = .extract x k) (e : step (.ex k (opd P nt x)) ys cl fl lim t h n = .ok v h' n') : Ok1 P ρ g fl o a m w h n v h' n' := by
  have e1 : gT (SR.bad [63]) (ev t (opd P nt x)) (fun c => okV (chGet c k) h n 64) = .ok v h' n' := e
  obtain ⟨c, hc, e2⟩ := gT_ok e1 (by simp)
  obtain ⟨hu, rfl, rfl, rfl⟩ := okV_ok e2
  have dx := opd_ok F x (by rw [hc]; simp)
  rw [hc] at dx
  obtain ⟨cs, d1, hx⟩ := dx
  obtain ⟨u, hu1, hu2⟩ := chGet_ok k cs hu d1
  exact Ok1.quiet (u := u) s (by simp [execOp, ho, hx, Instr.extract, hu1]) hu2
/-! ### what Go's own functions do -/
theorem ok_ls {c : Call} {x : Operand} {ty : TypeId} (ho : o.op = .call c) (hc : c.callee = .builtin .len) (hx : c.args.toList = [x]) (ht : c.argTypes.toList = [ty]) (hu : P.underlying ty = some .string)
    (e : step (.ln true (opd P nt x)) ys cl fl lim t h n = .ok v h' n') : Ok1 P ρ g fl o a m w h n v h' n' := by
  have e1 : gS (SR.bad [68]) (ev t (opd P nt x)) (fun l => okV (mkI .i64 (Int.ofNat l.length)) h n 69) = .ok v h' n' := e
  obtain ⟨l, hl, e2⟩ := gS_ok e1 (by simp)
  obtain ⟨hq, rfl, rfl, rfl⟩ := okV_ok e2
  have dx := opd_ok F x (by rw [hl]; simp)
  rw [hl] at dx
  obtain ⟨hxv, _⟩ := dx
  refine Ok1.quiet (u := .int .i64 (l.length : Int)) s ?_ (by rw [mkI_eq]; rfl)
  have hsz : (⟨(l.map UInt8.ofNat).toArray⟩ : ByteArray).size = l.length := by show (l.map UInt8.ofNat).toArray.size = _; simp
  simp [execOp, ho, resolve, hc, one_arr hx, one_arr ht, invoke, builtin, hxv, Builtin.len_, run_underlying hu, goInt, hsz]
theorem ok_ln {c : Call} {x : Operand} {ty el : TypeId} (ho : o.op = .call c) (hc : c.callee = .builtin .len) (hx : c.args.toList = [x]) (ht : c.argTypes.toList = [ty]) (hu : P.underlying ty = some (.slice el))
    (e : step (.ln false (opd P nt x)) ys cl fl lim t h n = .ok v h' n') : Ok1 P ρ g fl o a m w h n v h' n' := by
  have e1 : gO (SR.bad [69]) (slLen (ev t (opd P nt x))) (fun l => okV (mkI .i64 (Int.ofNat l)) h n 69) = .ok v h' n' := e
  obtain ⟨l, hl, e3⟩ := gO_ok e1 (by simp)
  obtain ⟨hq, rfl, rfl, rfl⟩ := okV_ok e3
  have dx := opd_ok F x (fun q => by rw [q] at hl; cases hl)
  obtain ⟨p, cc, hxv, _⟩ := slLen_ok hl dx
  refine Ok1.quiet (u := .int .i64 (l : Int)) s ?_ (by rw [mkI_eq]; rfl)
  simp [execOp, ho, resolve, hc, one_arr hx, one_arr ht, invoke, builtin, hxv, Builtin.len_, run_underlying hu, goInt]
theorem ok_la {c : Call} {x : Operand} {ty el : TypeId} {k : Nat} (ho : o.op = .call c) (hc : c.callee = .builtin .len ∨ c.callee = .builtin .cap) (hx : c.args.toList = [x]) (ht : c.argTypes.toList = [ty]) (hu : P.underlying ty = some (.array k el))
    (e : step (.mv (.c (.i .i64 k))) ys cl fl lim t h n = .ok v h' n') : Ok1 P ρ g fl o a m w h n v h' n' := by
  have _ := F.small
  have e1 : okV (.i .i64 k) h n 1 = .ok v h' n' := e
  obtain ⟨_, rfl, rfl, rfl⟩ := okV_ok e1
  refine Ok1.quiet (u := .int .i64 (k : Int)) s ?_ rfl
  rcases hc with hc | hc
  · simp [execOp, ho, resolve, hc, one_arr hx, one_arr ht, invoke, builtin, Builtin.len_, run_underlying hu, goInt]
  · simp [execOp, ho, resolve, hc, one_arr hx, one_arr ht, invoke, builtin, Builtin.cap_, run_underlying hu, goInt]
theorem ok_cp {c : Call} {x : Operand} {ty el : TypeId} (ho : o.op = .call c) (hc : c.callee = .builtin .cap) (hx : c.args.toList = [x]) (ht : c.argTypes.toList = [ty]) (hu : P.underlying ty = some (.slice el))
    (e : step (.cp (opd P nt x)) ys cl fl lim t h n = .ok v h' n') : Ok1 P ρ g fl o a m w h n v h' n' := by
  have e1 : gL (SR.bad [70]) (ev t (opd P nt x)) (SR.ok (.i .i64 (Int.ofNat 0)) h n) (fun _ _ _ c => SR.ok (.i .i64 (Int.ofNat c)) h n) (fun _ _ _ _ => SR.bad [71]) (fun _ _ => SR.bad [72]) = .ok v h' n' := e
  rcases gL_ok e1 (by simp) with ⟨hx2, e2⟩ | ⟨b, q, l, cc, hx2, e2⟩ | ⟨_, _, _, _, _, e2⟩ | ⟨_, _, _, e2⟩
  · cases e2
    have dx := opd_ok F x (by rw [hx2]; simp)
    rw [hx2] at dx
    have hxv : a.eval x = .slice none 0 0 := dx
    exact Ok1.quiet (u := .int .i64 0) s (by simp [execOp, ho, resolve, hc, one_arr hx, one_arr ht, invoke, builtin, hxv, Builtin.cap_, run_underlying hu, goInt]) rfl
  · cases e2
    have dx := opd_ok F x (by rw [hx2]; simp)
    rw [hx2] at dx
    obtain ⟨B, O, Z, _, _, hxv⟩ := dx
    exact Ok1.quiet (u := .int .i64 (cc : Int)) s (by simp [execOp, ho, resolve, hc, one_arr hx, one_arr ht, invoke, builtin, hxv, Builtin.cap_, run_underlying hu, goInt]) rfl
  · cases e2
  · cases e2
theorem ok_mm {c : Call} {x y : Operand} {mx : Bool} (ho : o.op = .call c) (hc : (c.callee = .builtin .min ∧ mx = false) ∨ (c.callee = .builtin .max ∧ mx = true)) (hx : c.args.toList = [x, y])
    (e : step (.mm mx (opd P nt x) (opd P nt y)) ys cl fl lim t h n = .ok v h' n') : Ok1 P ρ g fl o a m w h n v h' n' := by
  have e1 : gI (SR.bad [80]) (ev t (opd P nt x)) (fun k a => gI (SR.bad [81]) (ev t (opd P nt y)) fun j b => bf (eqK k j) (okV (mkI k (bf (bf mx (ltI a b) (ltI b a)) b a)) h n 82) (SR.bad [83])) = .ok v h' n' := e
  obtain ⟨k, p, hp, e2⟩ := gI_ok e1 (by simp)
  obtain ⟨j, q, hq, e3⟩ := gI_ok e2 (by simp)
  obtain ⟨hk, e4⟩ := bf_ok e3 (by simp)
  obtain rfl := eqK_ok hk
  obtain ⟨_, rfl, rfl, rfl⟩ := okV_ok e4
  have dx := opd_ok F x (by rw [hp]; simp)
  have dy := opd_ok F y (by rw [hq]; simp)
  rw [hp] at dx
  rw [hq] at dy
  have hxv : a.eval x = .int k p := dx
  have hyv : a.eval y = .int k q := dy
  rw [mkI_eq]
  rcases hc with ⟨hc, rfl⟩ | ⟨hc, rfl⟩
  · refine Ok1.quiet (u := .int k (if q < p then q else p)) s (by simp [execOp, ho, resolve, hc, two_arr hx, invoke, builtin, hxv, hyv, Builtin.min_, Builtin.min2]) ?_
    show Value.int k _ = Value.int k _
    congr 1
    simp only [bf_eq, ltI_eq, decide_eq_true_eq, Bool.false_eq_true, if_false]
  · refine Ok1.quiet (u := .int k (if q > p then q else p)) s (by simp [execOp, ho, resolve, hc, two_arr hx, invoke, builtin, hxv, hyv, Builtin.max_, Builtin.max2]) ?_
    show Value.int k _ = Value.int k _
    congr 1
    simp only [bf_eq, ltI_eq, decide_eq_true_eq, if_true]
end
end Go.Rn
