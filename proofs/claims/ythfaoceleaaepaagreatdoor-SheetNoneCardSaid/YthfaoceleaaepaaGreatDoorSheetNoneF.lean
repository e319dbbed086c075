/-
  SheetNone holds for every input: the call returns true and the arguments read afterwards as before. Conditions: none but what the row itself prints; the tables that the row names are tied to the program text.
-/
import Derived.Test.YthfaoceleaaepaaGreatDoorCards
import Derived.Test.YthfaoceleaaepaaGreatDoorTix
import Derived.Test.YthfaoceleaaepaaGreatDoorFacA
import Derived.Test.YthfaoceleaaepaaGreatDoorFacN
import Derived.Test.YthfaoceleaaepaaGreatDoorSheetNoneC0
import Derived.Test.YthfaoceleaaepaaGreatDoorSheetNoneC1
import Derived.Test.YthfaoceleaaepaaGreatDoorSheetNoneC2
import Derived.WalkKit
import Derived.Lib.Hide
import Derived.Test.YthfaoceleaaepaaGreatDoorRnZf
import Derived.ProofKit
import Derived.OpenShut
import Derived.Deep.DeepHandedRow
import Derived.Lib.LaidTab
import Derived.LaidSub
import Derived.Stop.LaidTwo
import Derived.LaidHandle
import Derived.LaidLaws
namespace Go.Proofs.YthfaoceleaaepaaGreatDoor.sheetNoneq
open Go.Rn Go.RowKit YthfaoceleaaepaaGreatDoor.txt
theorem rowsOk : rowsVB rows = true := by kernel_rfl
theorem kcOk {ρ : Nat → Int} : KcOk Tryz.prog ρ kc := kcOr_ok sh.rows_ok (kcLst_ok sh.knownL sh.lists_ok)
theorem globs : Tryz.prog.globals.size ≤ 97 := of_decide_eq_true (by kernel_rfl)
theorem knownP : known Tryz.prog 5 = true := by kernel_rfl
set_option maxRecDepth 100000 in
set_option maxHeartbeats 400000 in
theorem place_any (n : Int) (k : Nat) (w : World) (hk : 0 < k) (hk2 : k ≤ 1000000) :
    Calls Tryz.prog 5 #[.int .i64 n, .int .i64 k] w fun e w' => e = .returned (.int .i64 (n % k)) ∧ w = w' := by
  by_cases hz : n.tmod k < 0
  · have HM := Lib.hid (place_neg n k hk hz)
    have hlow : -(k : Int) < n.tmod k := by
      have := HM.out
      have h1 := Int.emod_nonneg n (show (k : Int) ≠ 0 by omega)
      by_cases he : n % (k : Int) = 0
      · have h0 : n.tmod k = 0 := Int.tmod_eq_zero_of_dvd (Int.dvd_of_emod_eq_zero he)
        omega
      · omega
    go_enter Tryz.func5, Tryz.ntmps5
    go_wp2_with fail
    go_ret
    exact ⟨by rw [← HM.out]; rfl, rfl⟩
  · have HM := Lib.hid (place_pos n k hk hz)
    go_enter Tryz.func5, Tryz.ntmps5
    go_wp2_with fail
    go_ret
    exact ⟨by rw [← HM.out]; rfl, rfl⟩
theorem allc : ∀ k0, k0 < 8 → run k0 = .yes
  | 0, _ => c0
  | 1, _ => c1
  | 2, _ => c2
  | 3, _ => c3
  | 4, _ => c4
  | 5, _ => c5
  | 6, _ => c6
  | 7, _ => c7
  | k + 8, h => absurd h (by omega)
theorem walk (a0 : Int) (w : World) (b0 b1 b2 : Addr) (hK : RowsE rows w b0 b1 b2) :
    Calls Tryz.prog 4 #[.int .i64 a0] w fun e w' => e = .returned (.bool true) ∧ Below w.heap.size w w' := by
  have hk0 : (a0 % 8).toNat < 8 := by omega
  have ek0 : ((a0 % 8).toNat : Int) = a0 % 8 := by omega
  generalize (a0 % 8).toNat = k0 at hk0 ek0
  have ho : OrcOk Tryz.prog (fun x => if x = 0 then a0 else 0) (orc k0) := or_ok (place_ok knownP (fun n k w h1 h2 => place_any n k w h1 h2) (fun e he h0 => by
      simp only [tab, List.mem_cons, List.not_mem_nil, or_false] at he
      rcases he with rfl
      exact ⟨by show 8 ≤ 1000000; omega, by simpa using ek0.symm⟩)) (or_ok sh.spelt_ok told.told_ok)
  have hy : YsOk (fun x => if x = 0 then a0 else 0) (ysR []) := ysR_ok (fun e he => by cases he)
  have hex : ∀ k, k < Tryz.prog.globals.size → 0 < (fun x => if x = 0 then a0 else 0) (1000000 + k) → (sizeAt w k : Int) = (fun x => if x = 0 then a0 else 0) (1000000 + k) := fun k _ h => by
    exfalso
    have e : (fun x => if x = 0 then a0 else 0) (1000000 + k) = 0 := by
      show (if 1000000 + k = 0 then a0 else 0) = 0
      rw [if_neg (by omega)]
    omega
  have := law_rowsE hy (inL_ok fsL_ok) ho kcOk globs rowsOk hex hK (allc k0 hk0) (vs := [.int .i64 a0]) (fun _ => denC_cons.2 ⟨_, _, rfl, rfl, denC_nil.2 rfl⟩)
  exact this.mono fun e w' h => ⟨h.1, h.2.below⟩
end Go.Proofs.YthfaoceleaaepaaGreatDoor.sheetNoneq
namespace Go.Proofs.YthfaoceleaaepaaGreatDoor.sheetNone
open Go Go.ChangeShapes Go.WideShapes Go.ChangeAt Go.RowKit

section
variable {H : Type} {enc : TypeId × Value → H} {P : Program}
/-- The last step where all that is known of the world is that nothing old has turned. -/
theorem post_below {f : Func} {s : ChangeSpec} {apart fresh handsOn again : Bool} {W W' : World} {args : Array Value} {v : Value} {ds gs : List (DataW H)} {before pa pv : List MemPlace}
    (hW : DataW.Whole enc P f.params.toList s.vars apart W args.toList ds gs before)
    (hres : ∀ (b : Nat) (sp : Nat → Bool) (hd : Bool), DataW.TrodAll enc P W' b sp hd f.resultTypes.toList (v.resultList f.resultTypes.size) (s.fn H (ds ++ gs)).results [])
    (hargs : ∀ sp : Nat → Bool, (∀ p ∈ before, sp p.block = true) → DataW.TrodAll enc P W' 0 sp true f.params.toList args.toList (s.fn H (ds ++ gs)).args pa)
    (hvars : ∀ sp : Nat → Bool, (∀ p ∈ before, sp p.block = true) → DataW.TrodVars enc P W' sp s.vars (s.fn H (ds ++ gs)).vars pv)
    (hps : before = pa ++ pv) (hb : Below W.heap.size W W')
    (hok : ∀ (j : Nat) (t : TypeId) (r : Value), f.resultTypes[j]? = some t → (v.resultList f.resultTypes.size)[j]? = some r → Value.okWide P W' .any 0 t r) :
    s.post enc P f apart fresh handsOn again W args v W' := by
  have hlt : ∀ p ∈ before, p.block < W.heap.size := fun p hp => hW.lt p hp
  have hold : ∀ p ∈ before, (fun b => decide (b < W.heap.size)) p.block = true := fun p hp => by simpa using hlt p hp
  refine ⟨ds, gs, before, [], pa, pv, hW, hres _ _ _, hargs _ hold, hvars _ hold, World.keptBut_mono (fun p hp => ⟨hp, ?_⟩) (hb.frame (· ∈ before)), fun _ => ?_⟩
  · rw [hps, List.mem_append] at hp
    exact Or.inr hp
  · obtain ⟨_, _, _, _, _, hz, hn⟩ := hW
    refine ⟨hok, _, _, ([] ++ pa) ++ pv, ⟨[] ++ pa, pv, trodAll_append (hargs _ (fun _ _ => rfl)) (hres _ _ _), hvars _ (fun _ _ => rfl), rfl, ?_, ?_⟩, ?_⟩
    · intro b off hp
      have hin : MemPlace.cell b off ∈ before := by rw [hps]; simpa using hp
      rw [hb.frozen (hlt _ hin)]
      exact hz b off hin
    · intro ha
      have := hn ha
      rw [hps] at this
      simpa using this
    · intro p hp _
      rw [hps]
      simpa using hp
end

theorem own : ownKnob Tryz.prog.godebug = none := by kernel_rfl
/-- the variables that hold no type's handle -/
def lst : List (String × DataW Unit) := [("strconv.ErrSyntax", Rows.laid_strconv_ErrSyntax), ("strconv.ErrRange", Rows.laid_strconv_ErrRange), ("internal/strconv.uint64pow10", Rows.laid_internal_strconv_uint64pow10), ("math/bits.deBruijn32tab", Rows.laid_math_bits_deBruijn32tab), ("math/bits.deBruijn64tab", Rows.laid_math_bits_deBruijn64tab), ("unicode/utf8.first", Rows.laid_unicode_utf8_first), ("unicode/utf8.acceptRanges", Rows.laid_unicode_utf8_acceptRanges), ("exegesis/sound.kinds", Rows.laid_exegesis_sound_kinds), ("exegesis/valid.errMatch", Rows.laid_exegesis_valid_errMatch), ("exegesis/valid.errForm", Rows.laid_exegesis_valid_errForm), ("exegesis/valid.errBig", Rows.laid_exegesis_valid_errBig)]
theorem laid_of {W : World} (h : laidMetH Tryz.prog Rows.sheetNoneRow.laid W) : laidMet Tryz.prog lst W :=
  (show laidMet Tryz.prog lst W ∧ handlesMet Tryz.prog [("errors.errorType", Rows.laid_errors_errorType)] W from h).1
theorem gT0 : Tryz.prog.globalNamed "exegesis/sound.kinds" = some 8 := by kernel_rfl
theorem gY0 : (Tryz.prog.globals[8]?).map (·.type) = some 533 := by kernel_rfl
theorem leaves0 : (List.range 56).map (fun j => Rn.leafV (H := Unit) Tryz.prog 4 533 Rows.laid_exegesis_sound_kinds j) = sheetNoneq.kv0.map some := by kernel_rfl
theorem row0 {W : World} (h : laidMetH Tryz.prog Rows.sheetNoneRow.laid W) : ∃ C el fr, W.heap[8]? = some (.cells C el fr) ∧ ∀ (j : Nat) (v : Value), sheetNoneq.kv0[j]? = some v → C[j]? = some v := by
  have h0 : laidMet Tryz.prog lst W := laid_of h
  obtain ⟨ps, ⟨_, _, _, _, _, _, _, _, _, _, ⟨_, _, _, _, _, _, _, _, _, _, ⟨_, _, _, _, _, _, _, _, _, _, ⟨_, _, _, _, _, _, _, _, _, _, ⟨_, _, _, _, _, _, _, _, _, _, ⟨_, _, _, _, _, _, _, _, _, _, ⟨_, _, _, _, _, _, _, _, _, _, ⟨g', t', cs, fuel, p, q, hg', ht', hvar, hd, _, _⟩, _⟩, _⟩, _⟩, _⟩, _⟩, _⟩, _⟩, _⟩ := h0
  obtain rfl := Option.some.inj (gT0.symm.trans hg')
  obtain rfl := Option.some.inj (gY0.symm.trans ht')
  have hc : ∀ (j : Nat) (v : Value), sheetNoneq.kv0[j]? = some v → W.cell? ⟨8, j, none⟩ = some v := by
    intro j v hj
    have hlt : j < 56 := by
      rcases Nat.lt_or_ge j 56 with r | r
      · exact r
      · rw [List.getElem?_eq_none (by rw [show sheetNoneq.kv0.length = 56 by kernel_rfl]; exact r)] at hj; cases hj
    have h1 := congrArg (fun l => l[j]?) leaves0
    simp only [List.getElem?_map, List.getElem?_range hlt, hj, Option.map_some] at h1
    have h2 := Rn.leafV_ok 4 fuel 533 _ j v cs.toList p (Option.some.inj h1) hd
    have h3 := World.var?_cell gT0 hvar j
    rw [h3]; simpa using h2
  have hz := hc 0 (.int .i64 0) (by kernel_rfl)
  unfold World.cell? at hz
  cases hh : W.heap[8]? with
  | none => simp [hh] at hz
  | some o =>
    cases o with
    | cells C el fr =>
      refine ⟨C, el, fr, rfl, fun j v hj => ?_⟩
      have h4 := hc j v hj
      simpa [World.cell?, hh] using h4
    | _ => simp [hh] at hz
theorem gT1 : Tryz.prog.globalNamed "internal/strconv.uint64pow10" = some 5 := by kernel_rfl
theorem gY1 : (Tryz.prog.globals[5]?).map (·.type) = some 404 := by kernel_rfl
theorem leaves1 : (List.range 20).map (fun j => Rn.leafV (H := Unit) Tryz.prog 4 404 Rows.laid_internal_strconv_uint64pow10 j) = sheetNoneq.kv1.map some := by kernel_rfl
theorem row1 {W : World} (h : laidMetH Tryz.prog Rows.sheetNoneRow.laid W) : ∃ C el fr, W.heap[5]? = some (.cells C el fr) ∧ ∀ (j : Nat) (v : Value), sheetNoneq.kv1[j]? = some v → C[j]? = some v := by
  have h0 : laidMet Tryz.prog lst W := laid_of h
  obtain ⟨ps, ⟨_, _, _, _, _, _, _, _, _, _, ⟨_, _, _, _, _, _, _, _, _, _, ⟨g', t', cs, fuel, p, q, hg', ht', hvar, hd, _, _⟩, _⟩, _⟩, _⟩ := h0
  obtain rfl := Option.some.inj (gT1.symm.trans hg')
  obtain rfl := Option.some.inj (gY1.symm.trans ht')
  have hc : ∀ (j : Nat) (v : Value), sheetNoneq.kv1[j]? = some v → W.cell? ⟨5, j, none⟩ = some v := by
    intro j v hj
    have hlt : j < 20 := by
      rcases Nat.lt_or_ge j 20 with r | r
      · exact r
      · rw [List.getElem?_eq_none (by rw [show sheetNoneq.kv1.length = 20 by kernel_rfl]; exact r)] at hj; cases hj
    have h1 := congrArg (fun l => l[j]?) leaves1
    simp only [List.getElem?_map, List.getElem?_range hlt, hj, Option.map_some] at h1
    have h2 := Rn.leafV_ok 4 fuel 404 _ j v cs.toList p (Option.some.inj h1) hd
    have h3 := World.var?_cell gT1 hvar j
    rw [h3]; simpa using h2
  have hz := hc 0 (.int .u64 1) (by kernel_rfl)
  unfold World.cell? at hz
  cases hh : W.heap[5]? with
  | none => simp [hh] at hz
  | some o =>
    cases o with
    | cells C el fr =>
      refine ⟨C, el, fr, rfl, fun j v hj => ?_⟩
      have h4 := hc j v hj
      simpa [World.cell?, hh] using h4
    | _ => simp [hh] at hz
theorem gT2 : Tryz.prog.globalNamed "math/bits.deBruijn64tab" = some 9 := by kernel_rfl
theorem gY2 : (Tryz.prog.globals[9]?).map (·.type) = some 616 := by kernel_rfl
theorem leaves2 : (List.range 64).map (fun j => Rn.leafV (H := Unit) Tryz.prog 4 616 Rows.laid_math_bits_deBruijn64tab j) = sheetNoneq.kv2.map some := by kernel_rfl
theorem row2 {W : World} (h : laidMetH Tryz.prog Rows.sheetNoneRow.laid W) : ∃ C el fr, W.heap[9]? = some (.cells C el fr) ∧ ∀ (j : Nat) (v : Value), sheetNoneq.kv2[j]? = some v → C[j]? = some v := by
  have h0 : laidMet Tryz.prog lst W := laid_of h
  obtain ⟨ps, ⟨_, _, _, _, _, _, _, _, _, _, ⟨_, _, _, _, _, _, _, _, _, _, ⟨_, _, _, _, _, _, _, _, _, _, ⟨_, _, _, _, _, _, _, _, _, _, ⟨g', t', cs, fuel, p, q, hg', ht', hvar, hd, _, _⟩, _⟩, _⟩, _⟩, _⟩, _⟩ := h0
  obtain rfl := Option.some.inj (gT2.symm.trans hg')
  obtain rfl := Option.some.inj (gY2.symm.trans ht')
  have hc : ∀ (j : Nat) (v : Value), sheetNoneq.kv2[j]? = some v → W.cell? ⟨9, j, none⟩ = some v := by
    intro j v hj
    have hlt : j < 64 := by
      rcases Nat.lt_or_ge j 64 with r | r
      · exact r
      · rw [List.getElem?_eq_none (by rw [show sheetNoneq.kv2.length = 64 by kernel_rfl]; exact r)] at hj; cases hj
    have h1 := congrArg (fun l => l[j]?) leaves2
    simp only [List.getElem?_map, List.getElem?_range hlt, hj, Option.map_some] at h1
    have h2 := Rn.leafV_ok 4 fuel 616 _ j v cs.toList p (Option.some.inj h1) hd
    have h3 := World.var?_cell gT2 hvar j
    rw [h3]; simpa using h2
  have hz := hc 0 (.int .u8 0) (by kernel_rfl)
  unfold World.cell? at hz
  cases hh : W.heap[9]? with
  | none => simp [hh] at hz
  | some o =>
    cases o with
    | cells C el fr =>
      refine ⟨C, el, fr, rfl, fun j v hj => ?_⟩
      have h4 := hc j v hj
      simpa [World.cell?, hh] using h4
    | _ => simp [hh] at hz
theorem rowPtr (u : TypeId) (h : Tryz.prog.typeName? 3 u = some "*errors.errorString") : u = 621 := fac.rowPtr u h
theorem cellsE : Tryz.prog.cellsOf 623 = 1 := by kernel_rfl
theorem cellsS : Tryz.prog.cellsOf 9 = 1 := by kernel_rfl
theorem gE0 : Tryz.prog.globalNamed "exegesis/valid.errMatch" = some 3 := by kernel_rfl
theorem gEt0 : (Tryz.prog.globals[3]?).map (·.type) = some 145 := by kernel_rfl
theorem gE1 : Tryz.prog.globalNamed "exegesis/valid.errForm" = some 1 := by kernel_rfl
theorem gEt1 : (Tryz.prog.globals[1]?).map (·.type) = some 145 := by kernel_rfl
theorem gE2 : Tryz.prog.globalNamed "exegesis/valid.errBig" = some 2 := by kernel_rfl
theorem gEt2 : (Tryz.prog.globals[2]?).map (·.type) = some 145 := by kernel_rfl
theorem gE3 : Tryz.prog.globalNamed "strconv.ErrSyntax" = some 6 := by kernel_rfl
theorem gEt3 : (Tryz.prog.globals[6]?).map (·.type) = some 145 := by kernel_rfl
theorem spot_none {W : World} {a : Addr} {v : Value} (h : W.cell? a = some v) : a.spot = none := by
  unfold World.cell? at h
  cases hh : W.heap[a.block]? with
  | none => simp [hh] at h
  | some o =>
    cases o with
    | cells C el fr =>
      simp only [hh] at h
      cases hs : a.spot with
      | none => rfl
      | some x => simp [hs] at h
    | _ => simp [hh] at h
theorem var_row {W : World} {nm : String} {g : Nat} {x : Value} (hg : Tryz.prog.globalNamed nm = some g) (hv : W.var? Tryz.prog nm = some #[x]) : ∃ el fr, W.heap[g]? = some (.cells #[x] el fr) := by
  unfold World.var? at hv
  simp only [hg, Option.bind_some] at hv
  cases hh : W.heap[g]? with
  | none => simp [hh] at hv
  | some o =>
    cases o with
    | cells C el fr => simp only [hh, Option.some.injEq] at hv; subst hv; exact ⟨el, fr, rfl⟩
    | _ => simp [hh] at hv
theorem err_row {W : World} {a0 a1 a2 a : Addr} {nm : String} {g b : Nat} (hg : Tryz.prog.globalNamed nm = some g) (hv : W.var? Tryz.prog nm = some #[.iface 621 (.pointer (some a))]) (h1 : 97 ≤ b) (h2 : b < 100) (ha : Rn.errAt b a0 a1 a2 = a) (hs : a.spot = none) :
    Rn.chLen (.cons (Rn.errV 621 b) .nil) = some 1 ∧ ∃ (C : Array Value) (el : TypeId) (fr : Nat × Nat) (vs : List Value), W.heap[g]? = some (.cells C el fr) ∧ (∀ (ρ : Nat → Int), Rn.denC ρ (Rn.mE W a0 a1 a2) (.cons (Rn.errV 621 b) .nil) vs) ∧ (∀ v ∈ vs, Rn.Cell v) ∧ ∀ (j : Nat) (v : Value), vs[j]? = some v → C[j]? = some v := by
  obtain ⟨el, fr, hh⟩ := var_row hg hv
  refine ⟨rfl, _, el, fr, [.iface 621 (.pointer (some a))], hh, fun ρ => Rn.denC_cons.2 ⟨_, _, rfl, by subst ha; exact Rn.errV_den h1 h2 hs, Rn.denC_nil.2 rfl⟩, fun v hv => by rw [List.mem_singleton.1 hv]; rfl, fun j v hj => ?_⟩
  cases j with
  | zero => cases hj; rfl
  | succ j => simp at hj
theorem err_rowU {W : World} {m : Rn.Mp} {a : Addr} {nm : String} {g : Nat} (hg : Tryz.prog.globalNamed nm = some g) (hv : W.var? Tryz.prog nm = some #[.iface 621 (.pointer (some a))]) :
    Rn.chLen (.cons (Rn.ifU 621) .nil) = some 1 ∧ ∃ (C : Array Value) (el : TypeId) (fr : Nat × Nat) (vs : List Value), W.heap[g]? = some (.cells C el fr) ∧ (∀ (ρ : Nat → Int), Rn.denC ρ m (.cons (Rn.ifU 621) .nil) vs) ∧ (∀ v ∈ vs, Rn.Cell v) ∧ ∀ (j : Nat) (v : Value), vs[j]? = some v → C[j]? = some v := by
  obtain ⟨el, fr, hh⟩ := var_row hg hv
  refine ⟨rfl, _, el, fr, [.iface 621 (.pointer (some a))], hh, fun ρ => Rn.denC_cons.2 ⟨_, _, rfl, (Rn.if_den (x := .un) trivial), Rn.denC_nil.2 rfl⟩, fun v hv => by rw [List.mem_singleton.1 hv]; rfl, fun j v hj => ?_⟩
  cases j with
  | zero => cases hj; rfl
  | succ j => simp at hj
theorem plain_row {W : World} {m : Rn.Mp} {g n : Nat} {kv : List Value} (hn : kv.length = n) (hp : kv.all (fun v => match v with | .int _ _ => true | .bool _ => true | _ => false) = true) (h : ∃ C el fr, W.heap[g]? = some (.cells C el fr) ∧ ∀ (j : Nat) (v : Value), kv[j]? = some v → C[j]? = some v) :
    Rn.chLen (Rn.chain kv) = some n ∧ ∃ (C : Array Value) (el : TypeId) (fr : Nat × Nat) (vs : List Value), W.heap[g]? = some (.cells C el fr) ∧ (∀ (ρ : Nat → Int), Rn.denC ρ m (Rn.chain kv) vs) ∧ (∀ v ∈ vs, Rn.Cell v) ∧ ∀ (j : Nat) (v : Value), vs[j]? = some v → C[j]? = some v := by
  obtain ⟨C, el, fr, hh, hj⟩ := h
  have hpl : ∀ v ∈ kv, Rn.PlainV v := fun v hv => by
    have h1 := List.all_eq_true.1 hp v hv
    cases v <;> first | trivial | cases h1
  exact ⟨by rw [Rn.chain_len, hn], C, el, fr, kv, hh, fun ρ => Rn.chain_is hpl, fun v hv => Rn.plain_cell (hpl v hv), hj⟩
theorem two01 {W : World} (h : laidMet Tryz.prog lst W) : ∃ (a0 a1 : Addr) (C0 C1 : Array Value) (t0 t1 : TypeId), W.var? Tryz.prog "exegesis/valid.errMatch" = some #[.iface 621 (.pointer (some a0))] ∧ W.var? Tryz.prog "exegesis/valid.errForm" = some #[.iface 621 (.pointer (some a1))] ∧ a0 ≠ a1 ∧
    (W.heap[a0.block]? = some (.cells C0 t0 (0, 0)) ∧ a0.spot = none) ∧ W.heap[a1.block]? = some (.cells C1 t1 (0, 0)) ∧ a1.spot = none := by
  have h1 : laidMet Tryz.prog [("exegesis/valid.errMatch", Rows.laid_exegesis_valid_errMatch), ("exegesis/valid.errForm", Rows.laid_exegesis_valid_errForm)] W := (laidMet.filter (fun x => x.1 == "exegesis/valid.errMatch" || x.1 == "exegesis/valid.errForm") h)
  obtain ⟨a0, a1, s0, s1, c0, c1, t0, t1, hv0, hv1, hc0, hs0, hz0, hc1, hs1, hz1, hne, hb0, hb1⟩ := laid_sentinels2 h1 gE0 gEt0 gE1 gEt1 Tryz.underlying145 rowPtr Tryz.underlying621 Tryz.underlying623 rfl rfl Tryz.underlying9 cellsE cellsS
  exact ⟨a0, a1, c0, c1, t0, t1, hv0, hv1, hne, ⟨hb0, spot_none hc0⟩, hb1, spot_none hc1⟩
theorem two02 {W : World} (h : laidMet Tryz.prog lst W) : ∃ (a0 a1 : Addr) (C0 C1 : Array Value) (t0 t1 : TypeId), W.var? Tryz.prog "exegesis/valid.errMatch" = some #[.iface 621 (.pointer (some a0))] ∧ W.var? Tryz.prog "exegesis/valid.errBig" = some #[.iface 621 (.pointer (some a1))] ∧ a0 ≠ a1 ∧
    (W.heap[a0.block]? = some (.cells C0 t0 (0, 0)) ∧ a0.spot = none) ∧ W.heap[a1.block]? = some (.cells C1 t1 (0, 0)) ∧ a1.spot = none := by
  have h1 : laidMet Tryz.prog [("exegesis/valid.errMatch", Rows.laid_exegesis_valid_errMatch), ("exegesis/valid.errBig", Rows.laid_exegesis_valid_errBig)] W := (laidMet.filter (fun x => x.1 == "exegesis/valid.errMatch" || x.1 == "exegesis/valid.errBig") h)
  obtain ⟨a0, a1, s0, s1, c0, c1, t0, t1, hv0, hv1, hc0, hs0, hz0, hc1, hs1, hz1, hne, hb0, hb1⟩ := laid_sentinels2 h1 gE0 gEt0 gE2 gEt2 Tryz.underlying145 rowPtr Tryz.underlying621 Tryz.underlying623 rfl rfl Tryz.underlying9 cellsE cellsS
  exact ⟨a0, a1, c0, c1, t0, t1, hv0, hv1, hne, ⟨hb0, spot_none hc0⟩, hb1, spot_none hc1⟩
theorem two12 {W : World} (h : laidMet Tryz.prog lst W) : ∃ (a0 a1 : Addr) (C0 C1 : Array Value) (t0 t1 : TypeId), W.var? Tryz.prog "exegesis/valid.errForm" = some #[.iface 621 (.pointer (some a0))] ∧ W.var? Tryz.prog "exegesis/valid.errBig" = some #[.iface 621 (.pointer (some a1))] ∧ a0 ≠ a1 ∧
    (W.heap[a0.block]? = some (.cells C0 t0 (0, 0)) ∧ a0.spot = none) ∧ W.heap[a1.block]? = some (.cells C1 t1 (0, 0)) ∧ a1.spot = none := by
  have h1 : laidMet Tryz.prog [("exegesis/valid.errForm", Rows.laid_exegesis_valid_errForm), ("exegesis/valid.errBig", Rows.laid_exegesis_valid_errBig)] W := (laidMet.filter (fun x => x.1 == "exegesis/valid.errForm" || x.1 == "exegesis/valid.errBig") h)
  obtain ⟨a0, a1, s0, s1, c0, c1, t0, t1, hv0, hv1, hc0, hs0, hz0, hc1, hs1, hz1, hne, hb0, hb1⟩ := laid_sentinels2 h1 gE1 gEt1 gE2 gEt2 Tryz.underlying145 rowPtr Tryz.underlying621 Tryz.underlying623 rfl rfl Tryz.underlying9 cellsE cellsS
  exact ⟨a0, a1, c0, c1, t0, t1, hv0, hv1, hne, ⟨hb0, spot_none hc0⟩, hb1, spot_none hc1⟩
theorem two30 {W : World} (h : laidMet Tryz.prog lst W) : ∃ (a0 a1 : Addr) (C0 C1 : Array Value) (t0 t1 : TypeId), W.var? Tryz.prog "strconv.ErrSyntax" = some #[.iface 621 (.pointer (some a0))] ∧ W.var? Tryz.prog "exegesis/valid.errMatch" = some #[.iface 621 (.pointer (some a1))] ∧ a0 ≠ a1 ∧
    (W.heap[a0.block]? = some (.cells C0 t0 (0, 0)) ∧ a0.spot = none) ∧ W.heap[a1.block]? = some (.cells C1 t1 (0, 0)) ∧ a1.spot = none := by
  have h1 : laidMet Tryz.prog [("strconv.ErrSyntax", Rows.laid_strconv_ErrSyntax), ("exegesis/valid.errMatch", Rows.laid_exegesis_valid_errMatch)] W := (laidMet.filter (fun x => x.1 == "strconv.ErrSyntax" || x.1 == "exegesis/valid.errMatch") h)
  obtain ⟨a0, a1, s0, s1, c0, c1, t0, t1, hv0, hv1, hc0, hs0, hz0, hc1, hs1, hz1, hne, hb0, hb1⟩ := laid_sentinels2 h1 gE3 gEt3 gE0 gEt0 Tryz.underlying145 rowPtr Tryz.underlying621 Tryz.underlying623 rfl rfl Tryz.underlying9 cellsE cellsS
  exact ⟨a0, a1, c0, c1, t0, t1, hv0, hv1, hne, ⟨hb0, spot_none hc0⟩, hb1, spot_none hc1⟩
theorem kinds_of {W : World} (h : laidMetH Tryz.prog Rows.sheetNoneRow.laid W) : ∃ b0 b1 b2 : Addr, Rn.RowsE sheetNoneq.rows W b0 b1 b2 := by
  have h0 : laidMet Tryz.prog lst W := laid_of h
  obtain ⟨a0, a1, C0, C1, t0, t1, v0, v1, n01, ⟨r0, s0⟩, r1, s1⟩ := two01 h0
  obtain ⟨a0', a2, C0', C2, t0', t2, v0', v2, n02, ⟨r0', s0'⟩, r2, s2⟩ := two02 h0
  obtain ⟨a1', a2', C1', C2', t1', t2', v1', v2', n12, _, _, _⟩ := two12 h0
  obtain rfl : a0' = a0 := by rw [v0] at v0'; simpa using v0'.symm
  obtain rfl : a1' = a1 := by rw [v1] at v1'; simpa using v1'.symm
  obtain rfl : a2' = a2 := by rw [v2] at v2'; simpa using v2'.symm
  obtain ⟨a3, _, _, _, _, _, v3, _⟩ := two30 h0
  refine ⟨a1', a2', a0', fun r hr => ?_, fun a ha => ?_, n12, Ne.symm n01, Ne.symm n02⟩
  · simp only [sheetNoneq.rows, List.mem_cons, List.not_mem_nil, or_false] at hr
    rcases hr with rfl | rfl | rfl | rfl | rfl | rfl | rfl
    · exact plain_row (by kernel_rfl) (by kernel_rfl) (row1 h)
    · exact plain_row (by kernel_rfl) (by kernel_rfl) (row0 h)
    · exact err_row gE1 v1 (by decide) (by decide) rfl s1
    · exact err_row gE2 v2 (by decide) (by decide) rfl s2
    · exact err_row gE0 v0 (by decide) (by decide) rfl s0
    · exact err_rowU gE3 v3
    · exact plain_row (by kernel_rfl) (by kernel_rfl) (row2 h)
  · rcases ha with rfl | rfl | rfl
    · exact ⟨s1, _, _, r1⟩
    · exact ⟨s2, _, _, r2⟩
    · exact ⟨s0, _, _, r0⟩
set_option maxRecDepth 100000 in
theorem contract (H : Type) (enc : TypeId × Value → H) (W : World) (base : Nat) (args : Array Value) (ds gs : List (DataW H)) (before : List MemPlace)
    (hval : ∀ (j : Nat) t v, Tryz.f4.params[j]? = some t → args[j]? = some v → Value.okWide Tryz.prog W .any base t v)
    (hW : DataW.Whole enc Tryz.prog Tryz.f4.params.toList Rows.sheetNoneSpec.vars false W args.toList ds gs before) (hL : laidMetH Tryz.prog Rows.sheetNoneRow.laid W) :
    Calls Tryz.prog 4 args W fun e W' => ∃ v, e = .returned v ∧ Rows.sheetNoneSpec.post enc Tryz.prog Tryz.f4 false true false false W args v W' := by
  have hW' := hW
  obtain ⟨p, q, hA0, hV, rfl, hfz, hnd⟩ := hW
  have hA : DataW.TrodAll enc Tryz.prog W 0 (fun _ => true) true Tryz.f4.params.toList args.toList ds p := hA0
  rw [Tryz.params4] at hA hval
  obtain ⟨v0, vs0, d0, ds0, p0, q0, hargs0, rfl, rfl, h0, r0⟩ := trodAll_cons hA
  obtain ⟨rfl, rfl, rfl⟩ := trodAll_nil r0
  obtain rfl : args = #[v0] := by cases args; simp_all
  obtain ⟨rfl, rfl⟩ := trodVars_none hV
  obtain ⟨x0, rfl, rfl, rfl, wf0⟩ := open_int Tryz.underlying3 (hval 0 3 v0 rfl rfl) h0
  clear hA0 hargs0
  obtain ⟨b0, b1, b2, hK⟩ := kinds_of hL
  refine (sheetNoneq.walk x0 W b0 b1 b2 hK).mono fun e W' ⟨he, hg⟩ => ?_
  subst he
  exact ⟨_, rfl, post_below (pv := []) hW' (fun _ _ _ => trodAll_cons_mk (shut_bool Tryz.underlying4 _) trodAll_mk0) (fun sp hsp => trodAll_cons_mk (shut_int Tryz.underlying3 wf0) trodAll_mk0) (fun _ _ => rfl) rfl hg (ok_one (by kernel_rfl) rfl (okWide_bool_mk Tryz.underlying4 _))⟩

/-- a world for the witness: the settled one, the table holding what its initialiser lays -/
noncomputable def laidWorld (os : Os) : World :=
  { World.holding Tryz.prog os ⟨#[], #[], []⟩ with heap := (((((((((((((World.holding Tryz.prog os ⟨#[.cells #[.string ⟨#[105, 108, 108, 45, 102, 111, 114, 109, 101, 100]⟩] 623, .cells #[.string ⟨#[97, 32, 98, 111, 117, 110, 100, 32, 101, 120, 99, 101, 101, 100, 101, 100]⟩] 623, .cells #[.string ⟨#[115, 117, 109, 109, 97, 114, 105, 101, 115, 32, 116, 104, 97, 116, 32, 100, 111, 32, 110, 111, 116, 32, 109, 97, 116, 99, 104]⟩] 623, .cells #[.string ⟨#[105, 110, 118, 97, 108, 105, 100, 32, 115, 121, 110, 116, 97, 120]⟩] 623, .cells #[.string ⟨#[118, 97, 108, 117, 101, 32, 111, 117, 116, 32, 111, 102, 32, 114, 97, 110, 103, 101]⟩] 623], #[], []⟩).heap.modify 8 fun
      | .cells _ t frozen => .cells #[.int .i64 0, .int .i64 0, .bool false, .bool false, .bool false, .int .i64 0, .bool false, .int .i64 0, .int .i64 3, .int .i64 1, .bool true, .bool true, .bool false, .int .i64 0, .bool false, .int .i64 1, .int .i64 5, .int .i64 1, .bool false, .bool true, .bool false, .int .i64 9, .bool false, .int .i64 1, .int .i64 30, .int .i64 1, .bool false, .bool false, .bool false, .int .i64 0, .bool false, .int .i64 1, .int .i64 3, .int .i64 5, .bool true, .bool true, .bool false, .int .i64 7, .bool true, .int .i64 2, .int .i64 1, .int .i64 1, .bool true, .bool false, .bool false, .int .i64 9, .bool false, .int .i64 0, .int .i64 1, .int .i64 1, .bool false, .bool false, .bool true, .int .i64 9, .bool false, .int .i64 0] t frozen
      | o => o).modify 5 fun
      | .cells _ t frozen => .cells #[.int .u64 1, .int .u64 10, .int .u64 100, .int .u64 1000, .int .u64 10000, .int .u64 100000, .int .u64 1000000, .int .u64 10000000, .int .u64 100000000, .int .u64 1000000000, .int .u64 10000000000, .int .u64 100000000000, .int .u64 1000000000000, .int .u64 10000000000000, .int .u64 100000000000000, .int .u64 1000000000000000, .int .u64 10000000000000000, .int .u64 100000000000000000, .int .u64 1000000000000000000, .int .u64 10000000000000000000] t frozen
      | o => o).modify 9 fun
      | .cells _ t frozen => .cells #[.int .u8 0, .int .u8 1, .int .u8 56, .int .u8 2, .int .u8 57, .int .u8 49, .int .u8 28, .int .u8 3, .int .u8 61, .int .u8 58, .int .u8 42, .int .u8 50, .int .u8 38, .int .u8 29, .int .u8 17, .int .u8 4, .int .u8 62, .int .u8 47, .int .u8 59, .int .u8 36, .int .u8 45, .int .u8 43, .int .u8 51, .int .u8 22, .int .u8 53, .int .u8 39, .int .u8 33, .int .u8 30, .int .u8 24, .int .u8 18, .int .u8 12, .int .u8 5, .int .u8 63, .int .u8 55, .int .u8 48, .int .u8 27, .int .u8 60, .int .u8 41, .int .u8 37, .int .u8 16, .int .u8 46, .int .u8 35, .int .u8 44, .int .u8 21, .int .u8 52, .int .u8 32, .int .u8 23, .int .u8 11, .int .u8 54, .int .u8 26, .int .u8 40, .int .u8 15, .int .u8 34, .int .u8 20, .int .u8 31, .int .u8 10, .int .u8 25, .int .u8 14, .int .u8 19, .int .u8 9, .int .u8 13, .int .u8 8, .int .u8 7, .int .u8 6] t frozen
      | o => o).modify 10 fun
      | .cells _ t frozen => .cells #[.int .u8 0, .int .u8 1, .int .u8 28, .int .u8 2, .int .u8 29, .int .u8 14, .int .u8 24, .int .u8 3, .int .u8 30, .int .u8 22, .int .u8 20, .int .u8 15, .int .u8 25, .int .u8 17, .int .u8 4, .int .u8 8, .int .u8 31, .int .u8 27, .int .u8 13, .int .u8 23, .int .u8 21, .int .u8 19, .int .u8 16, .int .u8 7, .int .u8 26, .int .u8 12, .int .u8 18, .int .u8 6, .int .u8 11, .int .u8 5, .int .u8 10, .int .u8 9] t frozen
      | o => o).modify 11 fun
      | .cells _ t frozen => .cells #[.int .u8 240, .int .u8 240, .int .u8 240, .int .u8 240, .int .u8 240, .int .u8 240, .int .u8 240, .int .u8 240, .int .u8 240, .int .u8 240, .int .u8 240, .int .u8 240, .int .u8 240, .int .u8 240, .int .u8 240, .int .u8 240, .int .u8 240, .int .u8 240, .int .u8 240, .int .u8 240, .int .u8 240, .int .u8 240, .int .u8 240, .int .u8 240, .int .u8 240, .int .u8 240, .int .u8 240, .int .u8 240, .int .u8 240, .int .u8 240, .int .u8 240, .int .u8 240, .int .u8 240, .int .u8 240, .int .u8 240, .int .u8 240, .int .u8 240, .int .u8 240, .int .u8 240, .int .u8 240, .int .u8 240, .int .u8 240, .int .u8 240, .int .u8 240, .int .u8 240, .int .u8 240, .int .u8 240, .int .u8 240, .int .u8 240, .int .u8 240, .int .u8 240, .int .u8 240, .int .u8 240, .int .u8 240, .int .u8 240, .int .u8 240, .int .u8 240, .int .u8 240, .int .u8 240, .int .u8 240, .int .u8 240, .int .u8 240, .int .u8 240, .int .u8 240, .int .u8 240, .int .u8 240, .int .u8 240, .int .u8 240, .int .u8 240, .int .u8 240, .int .u8 240, .int .u8 240, .int .u8 240, .int .u8 240, .int .u8 240, .int .u8 240, .int .u8 240, .int .u8 240, .int .u8 240, .int .u8 240, .int .u8 240, .int .u8 240, .int .u8 240, .int .u8 240, .int .u8 240, .int .u8 240, .int .u8 240, .int .u8 240, .int .u8 240, .int .u8 240, .int .u8 240, .int .u8 240, .int .u8 240, .int .u8 240, .int .u8 240, .int .u8 240, .int .u8 240, .int .u8 240, .int .u8 240, .int .u8 240, .int .u8 240, .int .u8 240, .int .u8 240, .int .u8 240, .int .u8 240, .int .u8 240, .int .u8 240, .int .u8 240, .int .u8 240, .int .u8 240, .int .u8 240, .int .u8 240, .int .u8 240, .int .u8 240, .int .u8 240, .int .u8 240, .int .u8 240, .int .u8 240, .int .u8 240, .int .u8 240, .int .u8 240, .int .u8 240, .int .u8 240, .int .u8 240, .int .u8 240, .int .u8 240, .int .u8 240, .int .u8 240, .int .u8 241, .int .u8 241, .int .u8 241, .int .u8 241, .int .u8 241, .int .u8 241, .int .u8 241, .int .u8 241, .int .u8 241, .int .u8 241, .int .u8 241, .int .u8 241, .int .u8 241, .int .u8 241, .int .u8 241, .int .u8 241, .int .u8 241, .int .u8 241, .int .u8 241, .int .u8 241, .int .u8 241, .int .u8 241, .int .u8 241, .int .u8 241, .int .u8 241, .int .u8 241, .int .u8 241, .int .u8 241, .int .u8 241, .int .u8 241, .int .u8 241, .int .u8 241, .int .u8 241, .int .u8 241, .int .u8 241, .int .u8 241, .int .u8 241, .int .u8 241, .int .u8 241, .int .u8 241, .int .u8 241, .int .u8 241, .int .u8 241, .int .u8 241, .int .u8 241, .int .u8 241, .int .u8 241, .int .u8 241, .int .u8 241, .int .u8 241, .int .u8 241, .int .u8 241, .int .u8 241, .int .u8 241, .int .u8 241, .int .u8 241, .int .u8 241, .int .u8 241, .int .u8 241, .int .u8 241, .int .u8 241, .int .u8 241, .int .u8 241, .int .u8 241, .int .u8 241, .int .u8 241, .int .u8 2, .int .u8 2, .int .u8 2, .int .u8 2, .int .u8 2, .int .u8 2, .int .u8 2, .int .u8 2, .int .u8 2, .int .u8 2, .int .u8 2, .int .u8 2, .int .u8 2, .int .u8 2, .int .u8 2, .int .u8 2, .int .u8 2, .int .u8 2, .int .u8 2, .int .u8 2, .int .u8 2, .int .u8 2, .int .u8 2, .int .u8 2, .int .u8 2, .int .u8 2, .int .u8 2, .int .u8 2, .int .u8 2, .int .u8 2, .int .u8 19, .int .u8 3, .int .u8 3, .int .u8 3, .int .u8 3, .int .u8 3, .int .u8 3, .int .u8 3, .int .u8 3, .int .u8 3, .int .u8 3, .int .u8 3, .int .u8 3, .int .u8 35, .int .u8 3, .int .u8 3, .int .u8 52, .int .u8 4, .int .u8 4, .int .u8 4, .int .u8 68, .int .u8 241, .int .u8 241, .int .u8 241, .int .u8 241, .int .u8 241, .int .u8 241, .int .u8 241, .int .u8 241, .int .u8 241, .int .u8 241, .int .u8 241] t frozen
      | o => o).modify 12 fun
      | .cells _ t frozen => .cells #[.int .u8 128, .int .u8 191, .int .u8 160, .int .u8 191, .int .u8 128, .int .u8 159, .int .u8 144, .int .u8 191, .int .u8 128, .int .u8 143, .int .u8 0, .int .u8 0, .int .u8 0, .int .u8 0, .int .u8 0, .int .u8 0, .int .u8 0, .int .u8 0, .int .u8 0, .int .u8 0, .int .u8 0, .int .u8 0, .int .u8 0, .int .u8 0, .int .u8 0, .int .u8 0, .int .u8 0, .int .u8 0, .int .u8 0, .int .u8 0, .int .u8 0, .int .u8 0] t frozen
      | o => o).modify 1 fun
      | .cells _ t frozen => .cells #[.iface 621 (.pointer (some ⟨(World.holding Tryz.prog os ⟨#[], #[], []⟩).heap.size + 0, 0, none⟩))] t frozen
      | o => o).modify 2 fun
      | .cells _ t frozen => .cells #[.iface 621 (.pointer (some ⟨(World.holding Tryz.prog os ⟨#[], #[], []⟩).heap.size + 1, 0, none⟩))] t frozen
      | o => o).modify 3 fun
      | .cells _ t frozen => .cells #[.iface 621 (.pointer (some ⟨(World.holding Tryz.prog os ⟨#[], #[], []⟩).heap.size + 2, 0, none⟩))] t frozen
      | o => o).modify 6 fun
      | .cells _ t frozen => .cells #[.iface 621 (.pointer (some ⟨(World.holding Tryz.prog os ⟨#[], #[], []⟩).heap.size + 3, 0, none⟩))] t frozen
      | o => o).modify 7 fun
      | .cells _ t frozen => .cells #[.iface 621 (.pointer (some ⟨(World.holding Tryz.prog os ⟨#[], #[], []⟩).heap.size + 4, 0, none⟩))] t frozen
      | o => o).modify 4 fun
      | .cells _ t frozen => .cells #[.iface 436 (.agg #[.pointer (some ⟨13, 145, none⟩)])] t frozen
      | o => o) }
theorem laid_met (os : Os) : laidMetH Tryz.prog Rows.sheetNoneRow.laid ((laidWorld os).forCall (fun _ _ => 0) ⟨#[], #[.int .i64 0], []⟩).memory :=
  laidMetH_of_parts (laidMet_of_run' 8 (by kernel_rfl) (by kernel_rfl)) (by kernel_rfl)
theorem reads (os : Os) {H : Type} (enc : TypeId × Value → H) : ∃ places, DataW.whole enc Tryz.prog ((laidWorld os).forCall (fun _ _ => 0) ⟨#[], #[.int .i64 0], []⟩).memory Tryz.f4.params.toList Rows.sheetNoneSpec.vars false #[Value.int .i64 0].toList 8 = some ([.lit (.int .i64 0)], [], places) :=
  ⟨[], by kernel_rfl⟩

set_option maxRecDepth 100000 in
theorem lifted (os : Os) (started : os.Started) (H : Type) (enc : TypeId × Value → H) (F : Stop.Interp) :
    ReturnsInHanded {} Tryz.checked os 4 .any ((OpenSpec.ofChange Rows.sheetNoneSpec).preRow enc Tryz.prog Tryz.f4 Rows.sheetNoneRow.domain false Rows.sheetNoneRow.laid) (((OpenSpec.ofChange Rows.sheetNoneSpec).at F).post enc Tryz.prog Tryz.f4 false true false false) := by
  obtain ⟨places, hx⟩ := reads os enc
  refine returnsInHanded_of_row (C := Tryz.checked) (s := OpenSpec.ofChange Rows.sheetNoneSpec) own started (by kernel_rfl) Tryz.func4
    (witness_row_at (enc := enc) (C := Tryz.checked) false (laidWorld os) #[.int .i64 0] rfl (by kernel_rfl) (by kernel_rfl) (by kernel_rfl)
      (OpenSpec.preRow_of_cond 8 hx (by kernel_rfl) (fun k hk => by cases hk) (by kernel_rfl) (laid_met os))) ?_
  intro W base args ds gs before hval hW _ _ _ hL _ _
  exact contract H enc W base args ds gs before hval hW hL

set_option maxHeartbeats 40000000 in
set_option maxRecDepth 100000 in
theorem closed : joinedFacts Tryz.pinned.checked.prog 4 Tryz.f4 (OpenSpec.ofChange Rows.sheetNoneSpec).bare Rows.sheetNoneRow = true := by
  unfold joinedFacts
  repeat' (with_reducible refine Bool.and_eq_true_iff.mpr ⟨?_, ?_⟩)
  all_goals first | with_reducible exact fac.lay | with_reducible exact fac.mapr | with_reducible exact fac.heard | with_reducible exact fac.enter | with_reducible exact fac.qUnf4 | with_reducible exact fac.qRec4 | with_reducible exact fac.qInp4 | with_reducible exact fac.qNam4 | (as_aux_lemma => kernel_rfl)
theorem said : Rows.SheetNoneSaid :=
  OpenClaim.holds_of_cond 4 Tryz.f4 rfl rfl rfl rfl rfl rfl rfl ⟨rfl, rfl, rfl, rfl, rfl⟩ rfl rfl rfl rfl rfl (by kernel_rfl) Tryz.func4 closed
    (of_decide_eq_true (by kernel_rfl)) (by unfold Func.isWrapper; first | (rw [if_pos (by decide +kernel)]; kernel_rfl) | (rw [if_neg (by decide +kernel)]; exact ⟨rfl, rfl⟩))
    (fun os started H enc _ F => by rw [OpenClaim.pre_eq_preRow]; exact lifted os started H enc F)

theorem plain (f : FuncId) (fn : Func) (hf : Tryz.pinned.checked.prog.funcNamed Rows.sheetNoneRow.func = some f) (hfn : Tryz.pinned.checked.prog.funcs[f]? = some fn) :
    true = Tryz.pinned.checked.prog.looks [] ∧ ∀ (j : Nat) t, fn.params[j]? = some t → Tryz.pinned.checked.prog.wantsStandIn t = false := by
  obtain rfl : f = 4 := Option.some.inj ((show Tryz.prog.funcNamed Rows.sheetNoneRow.func = some 4 by kernel_rfl).symm.trans hf) |>.symm
  obtain rfl : fn = Tryz.f4 := (Option.some.inj (Tryz.func4.symm.trans hfn)).symm
  refine ⟨by kernel_rfl, fun j t ht => ?_⟩
  rw [Tryz.params4] at ht
  have hm := Array.mem_of_getElem? ht
  obtain rfl : t = 3 := by simpa using hm
  exact (show Tryz.prog.wantsStandIn 3 = false by kernel_rfl)

theorem fn4 : Tryz.prog.funcNamed "exegesis/exegesislaw28.SheetNone" = some 4 := by kernel_rfl
theorem goesL4 : (fac.cloL4.any fun g => (Tryz.prog.funcs[g]?).any Func.goes) = false := by kernel_rfl
theorem goesF4 : Tryz.prog.funcs.any Func.goes = false := by kernel_rfl
theorem goes4 : Tryz.prog.goes 4 = false := by
  unfold Program.goes
  rw [fac.clo4, goesL4, goesF4]
  simp
theorem gone4 : Tryz.prog.goesFrom "exegesis/exegesislaw28.SheetNone" = false := (congrArg (fun o => Option.any Tryz.prog.goes o) fn4).trans ((Option.any_some ..).trans goes4)
theorem same4 : Rows.sheetNoneRow.goesBy Tryz.pinned.checked.prog = (Tryz.prog.goesFrom "exegesis/exegesislaw28.SheetNone" || false) := by kernel_rfl
theorem qGoes4 : false = Rows.sheetNoneRow.goesBy Tryz.pinned.checked.prog := (same4.trans (congrArg (fun b => b || false) gone4)).symm
theorem card : Rows.SheetNoneCardSaid :=
  Claim7.holds_tied_plain_at .later [] _ _ _ _ said (fun _ h => by cases h) (by as_aux_lemma => kernel_rfl) (fun _ h => by cases h) tix.sheetNone_row_tie rfl ⟨rfl, rfl⟩ (by as_aux_lemma => kernel_rfl) rfl plain qGoes4
end Go.Proofs.YthfaoceleaaepaaGreatDoor.sheetNone
