/-
  The order of two terms, a number and a read: the number is ahead, whatever the numbers are. Conditions: both lie in memory, the table of powers of ten in its variable.
-/
import Derived.Test.YtphcmjojnfpkdaaDoorAh
import Derived.Deep.RegionWith
import Derived.Deep.DeepMust
import Derived.LaidEqlPtr
import Derived.StillTailTactics
namespace Go.Proofs.YtphcmjojnfpkdaaDoor.ah
open Go.RowKit Go.Lib
set_option maxRecDepth 100000 in
set_option maxHeartbeats 16000000 in
theorem alike_no (a b : Addr) (w : World) (heq : (binOp .eql 23 (.pointer (some a)) (.pointer (some b))).run Tryd.prog w = .ok (.bool false) w) :
    Calls Tryd.prog 20 #[.pointer none, .pointer (some a), .pointer (some b)] w fun e w' => e = .returned (.bool false) ∧ w' = w := by
  go_enter Tryd.func20, Tryd.ntmps20
  go_wp2_with fail
  go_ret
  exact ⟨rfl, rfl⟩
theorem ptrSize : (Tryd.prog.info? 34).map (·.size) = some 4 := by kernel_rfl
/-- the two rows of pieces, in the worlds of the walk -/
structure TwoR (w W : World) (bp : Nat) (p q : Array Value) (t : TypeId) : Prop where
  bel : Below w.heap.size w W
  rp : W.heap[bp]? = some (.cells p t (0, 0))
  rq : W.heap[bp + 1]? = some (.cells q t (0, 0))
  at_ : bp = w.heap.size
theorem TwoR.drewN {w W : World} {bp : Nat} {p q : Array Value} {t : TypeId} (h : TwoR w W bp p q t) (n : Nat) : TwoR w (W.drewN n) bp p q t := ⟨⟨h.bel.os, h.bel.tape, h.bel.output, h.bel.size, h.bel.block⟩, h.rp, h.rq, h.at_⟩
theorem TwoR.drew {w W : World} {bp : Nat} {p q : Array Value} {t : TypeId} (h : TwoR w W bp p q t) : TwoR w W.drew bp p q t := ⟨⟨h.bel.os, h.bel.tape, h.bel.output, h.bel.size, h.bel.block⟩, h.rp, h.rq, h.at_⟩
theorem TwoR.cp {w W : World} {bp : Nat} {p q : Array Value} {t : TypeId} (h : TwoR w W bp p q t) (j : Nat) : W.cell? ⟨bp, j, none⟩ = p[j]? := by simp [World.cell?, h.rp]
theorem TwoR.cq {w W : World} {bp : Nat} {p q : Array Value} {t : TypeId} (h : TwoR w W bp p q t) (j : Nat) : W.cell? ⟨bp + 1, j, none⟩ = q[j]? := by simp [World.cell?, h.rq]
theorem TwoR.setP {w W W' : World} {bp : Nat} {p q p' : Array Value} {t : TypeId} (h : TwoR w W bp p q t) (h1 : W'.heap[bp]? = some (.cells p' t (0, 0))) (h2 : W.heap.size ≤ W'.heap.size) (h3 : ∀ k, k < W.heap.size → k ≠ bp → W'.heap[k]? = W.heap[k]?) (h4 : W'.os = W.os) (h5 : W'.tape = W.tape) (h6 : W'.output = W.output) : TwoR w W' bp p' q t := by
  have hl := h.bel.size
  have ha := h.at_
  have hq : bp + 1 < W.heap.size := (Array.getElem?_eq_some_iff.1 h.rq).1
  exact ⟨⟨h4.trans h.bel.os, h5.trans h.bel.tape, h6.trans h.bel.output, Nat.le_trans hl h2, fun k hk => (h3 k (by omega) (by omega)).trans (h.bel.block k hk)⟩, h1, (h3 (bp + 1) hq (by omega)).trans h.rq, ha⟩
theorem TwoR.setQ {w W W' : World} {bp : Nat} {p q q' : Array Value} {t : TypeId} (h : TwoR w W bp p q t) (h1 : W'.heap[bp + 1]? = some (.cells q' t (0, 0))) (h2 : W.heap.size ≤ W'.heap.size) (h3 : ∀ k, k < W.heap.size → k ≠ bp + 1 → W'.heap[k]? = W.heap[k]?) (h4 : W'.os = W.os) (h5 : W'.tape = W.tape) (h6 : W'.output = W.output) : TwoR w W' bp p q' t := by
  have hl := h.bel.size
  have ha := h.at_
  have hq : bp < W.heap.size := (Array.getElem?_eq_some_iff.1 h.rp).1
  exact ⟨⟨h4.trans h.bel.os, h5.trans h.bel.tape, h6.trans h.bel.output, Nat.le_trans hl h2, fun k hk => (h3 k (by omega) (by omega)).trans (h.bel.block k hk)⟩, (h3 bp hq (by omega)).trans h.rp, h1, ha⟩
theorem TwoR.tab {w W : World} {bp : Nat} {p q : Array Value} {t : TypeId} (h : TwoR w W bp p q t) {P : Program} {zs : List Int} {k : IntKind} {nm : String} (ht : Lib.TabIs P w nm k zs) : Lib.TabIs P W nm k zs := by
  unfold Lib.TabIs at ht ⊢
  unfold World.var? at ht ⊢
  cases hg : P.globalNamed nm with
  | none => simp [hg] at ht
  | some g =>
    simp only [hg, Option.bind_some] at ht ⊢
    have hlt : g < w.heap.size := by
      rcases Nat.lt_or_ge g w.heap.size with h' | h'
      · exact h'
      · simp [Array.getElem?_eq_none h'] at ht
    rw [h.bel.block g hlt]
    exact ht
theorem ext0 (s : ByteArray) (k : Nat) : (s.extract 0 k).data.toList = s.data.toList.take k := by
  simp [ByteArray.data_extract]
theorem ext_ne {a : List UInt8} {c : UInt8} {r t : List UInt8} {k : Nat} (ha : a = c :: r) (hk : 1 ≤ k) (hc : c < 105) : (((⟨a.toArray⟩ : ByteArray).extract 0 k).toList == ((⟨(105 :: t).toArray⟩ : ByteArray).extract 0 k).toList) = false := by
  subst ha
  rw [toList_data, toList_data, ext0, ext0]
  obtain ⟨k, rfl⟩ : ∃ j, k = j + 1 := ⟨k - 1, by omega⟩
  have hne : c ≠ 105 := fun e => by subst e; exact absurd hc (by decide)
  simp [hne]
theorem ext_ne' {a : List UInt8} {c : UInt8} {r t : List UInt8} {k : Nat} (ha : a = c :: r) (hk : 1 ≤ k) (hc : c < 105) : (((⟨(105 :: t).toArray⟩ : ByteArray).extract 0 k).toList == ((⟨a.toArray⟩ : ByteArray).extract 0 k).toList) = false := by
  have h := ext_ne (t := t) ha hk hc
  rw [Bool.eq_false_iff] at h ⊢
  exact fun e => h (by rw [beq_iff_eq] at e ⊢; exact e.symm)
theorem less_yes {a : List UInt8} {c : UInt8} {r t : List UInt8} (ha : a = c :: r) (hc : c < 105) : Op.bytesLess a (105 :: t) = true := by
  subst ha
  simp [Op.bytesLess, hc]
theorem less_no {a : List UInt8} {c : UInt8} {r t : List UInt8} (ha : a = c :: r) (hc : c < 105) : Op.bytesLess (105 :: t) a = false := by
  subst ha
  have h1 : ¬ (105 : UInt8) < c := fun e => absurd (UInt8.lt_trans hc e) (UInt8.lt_irrefl _)
  have h2 : ¬ (105 : UInt8) = c := fun e => by subst e; exact absurd hc (by decide)
  simp [Op.bytesLess, h1, h2]
theorem two_alloc {w W : World} {p q : Array Value} {t : TypeId} (h : W = (w.alloc (.cells p t)).alloc (.cells q t)) : Below w.heap.size w W ∧ W.heap[w.heap.size]? = some (.cells p t (0, 0)) ∧ W.heap[w.heap.size + 1]? = some (.cells q t (0, 0)) := by
  subst h
  refine ⟨((Below.refl _ w).alloc (Nat.le_refl _) _).alloc (by simp) _, ?_, ?_⟩
  · have h1 := Below.heap_alloc (w.alloc (.cells p t)) (.cells q t) w.heap.size (by simp)
    rw [h1]
    show (w.heap.push _)[w.heap.size]? = _
    exact Array.getElem?_push_size
  · show ((w.heap.push _).push _)[w.heap.size + 1]? = _
    rw [show w.heap.size + 1 = (w.heap.push (Obj.cells p t)).size by simp]
    exact Array.getElem?_push_size
set_option maxRecDepth 100000 in
set_option maxHeartbeats 16000000 in
theorem ahead_num (A O A' O' : Nat) (C C' : Array Value) (el el' : TypeId) (v v' : Int) (w : World) (hA : w.heap[A]? = some (.cells C el (0, 0))) (hA' : w.heap[A']? = some (.cells C' el' (0, 0))) (hk : C[O]? = some (.int .i64 1)) (hv : C[O + 1]? = some (.int .i64 v)) (hk' : C'[O']? = some (.int .i64 2)) (hv' : C'[O' + 1]? = some (.int .i64 v'))
    (h0 : -9223372036854775808 ≤ v) (h1 : v ≤ 9223372036854775807) (h0' : -9223372036854775808 ≤ v') (h1' : v' ≤ 9223372036854775807) (htab : Lib.TabIs Tryd.prog w "internal/strconv.uint64pow10" .u64 Lib.pow10Tab) :
    Calls Tryd.prog 15 #[.pointer (some ⟨A, O, none⟩), .pointer (some ⟨A', O', none⟩)] w fun e w' => e = .returned (.bool true) ∧ Below w.heap.size w w' := by
  have hne : (⟨A, O, none⟩ : Addr) ≠ ⟨A', O', none⟩ := fun e => by
    simp only [Addr.mk.injEq, and_true] at e
    obtain ⟨rfl, rfl⟩ := e
    rw [hA] at hA'; cases hA'
    rw [hk] at hk'; cases hk'
  have HA := Lib.hid hA
  have HA' := Lib.hid hA'
  have HT := Lib.hid htab
  have hw0 : IntKind.i64.wrap 0 = 0 := by decide
  have hltA := (Array.getElem?_eq_some_iff.1 hA).1
  have hltA' := (Array.getElem?_eq_some_iff.1 hA').1
  clear hA hA' htab
  go_enter Tryd.func15, Tryd.ntmps15
  go_wp2_with fail
  refine wp_loop_rounds 3 ?_
  rw [rounds_succ]
  go_wp2_with fail
  obtain ⟨W0, hW0⟩ : ∃ W0, W0 = ((w.alloc (.cells #[.pointer (some ⟨A, O, none⟩), .string ⟨#[]⟩] 53)).alloc (.cells #[.pointer (some ⟨A', O', none⟩), .string ⟨#[]⟩] 53)) := ⟨_, rfl⟩
  rw [← hW0]
  have R0 : Hid (TwoR w W0 w.heap.size #[.pointer (some ⟨A, O, none⟩), .string ⟨#[]⟩] #[.pointer (some ⟨A', O', none⟩), .string ⟨#[]⟩] 53) := Lib.hid ⟨(two_alloc hW0).1, (two_alloc hW0).2.1, (two_alloc hW0).2.2, rfl⟩
  clear hW0
  have hbp : Hid (w.heap.size = w.heap.size) := Lib.hid rfl
  generalize w.heap.size = bp at R0 ⊢
  have p0 := R0.out.cp 0
  simp only [List.getElem?_toArray, List.getElem?_cons_zero] at p0
  have p1 := R0.out.cp 1
  simp only [List.getElem?_toArray, List.getElem?_cons_zero, List.getElem?_cons_succ] at p1
  have q0 := R0.out.cq 0
  simp only [List.getElem?_toArray, List.getElem?_cons_zero] at q0
  have q1 := R0.out.cq 1
  simp only [List.getElem?_toArray, List.getElem?_cons_zero, List.getElem?_cons_succ] at q1
  go_quiet (fail)
  obtain ⟨n1, rfl⟩ : ∃ n1, n1 = nq := ⟨_, rfl⟩
  obtain ⟨W1, hW1⟩ : ∃ W1, W1 = W0.drewN n1 := ⟨_, rfl⟩
  have R1 : Hid (TwoR w W1 bp #[.pointer (some ⟨A, O, none⟩), .string ⟨#[]⟩] #[.pointer (some ⟨A', O', none⟩), .string ⟨#[]⟩] 53) := by rw [hW1]; exact Lib.hid (R0.out.drewN _)
  rw [← hW1]
  clear hW1
  clear p0 p1 q0 q1
  have p0 := R1.out.cp 0
  simp only [List.getElem?_toArray, List.getElem?_cons_zero] at p0
  have p1 := R1.out.cp 1
  simp only [List.getElem?_toArray, List.getElem?_cons_zero, List.getElem?_cons_succ] at p1
  have q0 := R1.out.cq 0
  simp only [List.getElem?_toArray, List.getElem?_cons_zero] at q0
  have q1 := R1.out.cq 1
  simp only [List.getElem?_toArray, List.getElem?_cons_zero, List.getElem?_cons_succ] at q1
  go_wp2_with fail
  have hqq : ∀ n, (binOp .eql 23 (.pointer (some ⟨A, O, none⟩)) (.pointer (some ⟨A', O', none⟩))).run Tryd.prog (W1.drewN n) = .ok (.bool false) (W1.drewN n) := fun n => by
    obtain ⟨j, hj, hjs⟩ := Option.map_eq_some_iff.1 ptrSize
    exact run_eql_ptr_other _ Tryd.underlying23 hj (by rw [hjs]; decide) hne (ca := C) (cb := C') (ta := el) (tb := el') ((R1.out.bel.block A hltA).trans HA.out) ((R1.out.bel.block A' hltA').trans HA'.out)
  go_quiet ((go_at_call 20; go_must (refine (alike_no _ _ _ (hqq _)).mono ?_); rintro e w2 ⟨rfl, rfl⟩; exact ⟨rfl, _, rfl⟩))
  obtain ⟨n2, rfl⟩ : ∃ n2, n2 = nq := ⟨_, rfl⟩
  obtain ⟨W2, hW2⟩ : ∃ W2, W2 = W1.drewN n2 := ⟨_, rfl⟩
  have R2 : Hid (TwoR w W2 bp #[.pointer (some ⟨A, O, none⟩), .string ⟨#[]⟩] #[.pointer (some ⟨A', O', none⟩), .string ⟨#[]⟩] 53) := by rw [hW2]; exact Lib.hid (R1.out.drewN _)
  rw [← hW2]
  clear hW2
  clear p0 p1 q0 q1
  clear hqq
  have p0 := R2.out.cp 0
  simp only [List.getElem?_toArray, List.getElem?_cons_zero] at p0
  have p1 := R2.out.cp 1
  simp only [List.getElem?_toArray, List.getElem?_cons_zero, List.getElem?_cons_succ] at p1
  have q0 := R2.out.cq 0
  simp only [List.getElem?_toArray, List.getElem?_cons_zero] at q0
  have q1 := R2.out.cq 1
  simp only [List.getElem?_toArray, List.getElem?_cons_zero, List.getElem?_cons_succ] at q1
  go_wp2_with fail
  refine wp_region_still_tail 9 (by kernel_rfl) (by kernel_rfl) ?_
  simp only [List.take_succ_cons, List.take_zero, List.drop_succ_cons, List.drop_zero]
  show wpStill _ _ W2.drew (fun a' => wpList _ _ _ _ a' W2.drew) _ _
  repeat still_step
  refine wpStill_nil ?_
  go_wp2_with (go_at_call 23; go_must (refine (open_num bp A O _ _ C 53 el (0, 0) v W2.drew R2.out.rp ((R2.out.bel.block A hltA).trans HA.out) hk hv h0 h1 (R2.out.drew.tab HT.out)).mono ?_); rintro e W3 ⟨rfl, g1, g2, g3, g4, g5, g6⟩; have R3 : Hid (TwoR w W3 bp #[.pointer none, .string ⟨(Lib.itoa v).toArray⟩] #[.pointer (some ⟨A', O', none⟩), .string ⟨#[]⟩] 53) := Lib.hid (R2.out.drew.setP g1 g2 g3 g4 g5 g6); clear g1 g2 g3 g4 g5 g6 p0 p1 q0 q1)
  rw [rounds_succ]
  have p0 := R3.out.cp 0
  simp only [List.getElem?_toArray, List.getElem?_cons_zero] at p0
  have p1 := R3.out.cp 1
  simp only [List.getElem?_toArray, List.getElem?_cons_zero, List.getElem?_cons_succ] at p1
  have q0 := R3.out.cq 0
  simp only [List.getElem?_toArray, List.getElem?_cons_zero] at q0
  have q1 := R3.out.cq 1
  simp only [List.getElem?_toArray, List.getElem?_cons_zero, List.getElem?_cons_succ] at q1
  go_wp2_with fail
  go_quiet (fail)
  obtain ⟨n4, rfl⟩ : ∃ n4, n4 = nq := ⟨_, rfl⟩
  obtain ⟨W4, hW4⟩ : ∃ W4, W4 = W3.drewN n4 := ⟨_, rfl⟩
  have R4 : Hid (TwoR w W4 bp #[.pointer none, .string ⟨(Lib.itoa v).toArray⟩] #[.pointer (some ⟨A', O', none⟩), .string ⟨#[]⟩] 53) := by rw [hW4]; exact Lib.hid (R3.out.drewN _)
  rw [← hW4]
  clear hW4
  clear p0 p1 q0 q1
  have p0 := R4.out.cp 0
  simp only [List.getElem?_toArray, List.getElem?_cons_zero] at p0
  have p1 := R4.out.cp 1
  simp only [List.getElem?_toArray, List.getElem?_cons_zero, List.getElem?_cons_succ] at p1
  have q0 := R4.out.cq 0
  simp only [List.getElem?_toArray, List.getElem?_cons_zero] at q0
  have q1 := R4.out.cq 1
  simp only [List.getElem?_toArray, List.getElem?_cons_zero, List.getElem?_cons_succ] at q1
  go_wp2_with fail
  go_quiet (fail)
  obtain ⟨n5, rfl⟩ : ∃ n5, n5 = nq := ⟨_, rfl⟩
  obtain ⟨W5, hW5⟩ : ∃ W5, W5 = W4.drewN n5 := ⟨_, rfl⟩
  have R5 : Hid (TwoR w W5 bp #[.pointer none, .string ⟨(Lib.itoa v).toArray⟩] #[.pointer (some ⟨A', O', none⟩), .string ⟨#[]⟩] 53) := by rw [hW5]; exact Lib.hid (R4.out.drewN _)
  rw [← hW5]
  clear hW5
  clear p0 p1 q0 q1
  have p0 := R5.out.cp 0
  simp only [List.getElem?_toArray, List.getElem?_cons_zero] at p0
  have p1 := R5.out.cp 1
  simp only [List.getElem?_toArray, List.getElem?_cons_zero, List.getElem?_cons_succ] at p1
  have q0 := R5.out.cq 0
  simp only [List.getElem?_toArray, List.getElem?_cons_zero] at q0
  have q1 := R5.out.cq 1
  simp only [List.getElem?_toArray, List.getElem?_cons_zero, List.getElem?_cons_succ] at q1
  go_wp2_with fail
  refine wp_region_still_tail 9 (by kernel_rfl) (by kernel_rfl) ?_
  simp only [List.take_succ_cons, List.take_zero, List.drop_succ_cons, List.drop_zero]
  show wpStill _ _ W5.drew (fun a' => wpList _ _ _ _ a' W5.drew) _ _
  repeat still_step
  refine wpStill_nil ?_
  go_wp2_with (go_at_call 23; go_must (refine (open_read (bp + 1) A' O' _ _ C' 53 el' (0, 0) v' W5.drew R5.out.rq ((R5.out.bel.block A' hltA').trans HA'.out) hk' hv' h0' h1' (R5.out.drew.tab HT.out)).mono ?_); rintro e W6 ⟨rfl, g1, g2, g3, g4, g5, g6⟩; have R6 : Hid (TwoR w W6 bp #[.pointer none, .string ⟨(Lib.itoa v).toArray⟩] #[.pointer none, .string ⟨(105 :: Lib.itoa v').toArray⟩] 53) := Lib.hid (R5.out.drew.setQ g1 g2 g3 g4 g5 g6); clear g1 g2 g3 g4 g5 g6 p0 p1 q0 q1)
  rw [rounds_succ]
  have p0 := R6.out.cp 0
  simp only [List.getElem?_toArray, List.getElem?_cons_zero] at p0
  have p1 := R6.out.cp 1
  simp only [List.getElem?_toArray, List.getElem?_cons_zero, List.getElem?_cons_succ] at p1
  have q0 := R6.out.cq 0
  simp only [List.getElem?_toArray, List.getElem?_cons_zero] at q0
  have q1 := R6.out.cq 1
  simp only [List.getElem?_toArray, List.getElem?_cons_zero, List.getElem?_cons_succ] at q1
  go_wp2_with fail
  go_quiet (fail)
  obtain ⟨n7, rfl⟩ : ∃ n7, n7 = nq := ⟨_, rfl⟩
  obtain ⟨W7, hW7⟩ : ∃ W7, W7 = W6.drewN n7 := ⟨_, rfl⟩
  have R7 : Hid (TwoR w W7 bp #[.pointer none, .string ⟨(Lib.itoa v).toArray⟩] #[.pointer none, .string ⟨(105 :: Lib.itoa v').toArray⟩] 53) := by rw [hW7]; exact Lib.hid (R6.out.drewN _)
  rw [← hW7]
  clear hW7
  clear p0 p1 q0 q1
  have p0 := R7.out.cp 0
  simp only [List.getElem?_toArray, List.getElem?_cons_zero] at p0
  have p1 := R7.out.cp 1
  simp only [List.getElem?_toArray, List.getElem?_cons_zero, List.getElem?_cons_succ] at p1
  have q0 := R7.out.cq 0
  simp only [List.getElem?_toArray, List.getElem?_cons_zero] at q0
  have q1 := R7.out.cq 1
  simp only [List.getElem?_toArray, List.getElem?_cons_zero, List.getElem?_cons_succ] at q1
  go_wp2_with fail
  go_quiet (fail)
  obtain ⟨n8, rfl⟩ : ∃ n8, n8 = nq := ⟨_, rfl⟩
  obtain ⟨W8, hW8⟩ : ∃ W8, W8 = W7.drewN n8 := ⟨_, rfl⟩
  have R8 : Hid (TwoR w W8 bp #[.pointer none, .string ⟨(Lib.itoa v).toArray⟩] #[.pointer none, .string ⟨(105 :: Lib.itoa v').toArray⟩] 53) := by rw [hW8]; exact Lib.hid (R7.out.drewN _)
  rw [← hW8]
  clear hW8
  clear p0 p1 q0 q1
  have p0 := R8.out.cp 0
  simp only [List.getElem?_toArray, List.getElem?_cons_zero] at p0
  have p1 := R8.out.cp 1
  simp only [List.getElem?_toArray, List.getElem?_cons_zero, List.getElem?_cons_succ] at p1
  have q0 := R8.out.cq 0
  simp only [List.getElem?_toArray, List.getElem?_cons_zero] at q0
  have q1 := R8.out.cq 1
  simp only [List.getElem?_toArray, List.getElem?_cons_zero, List.getElem?_cons_succ] at q1
  go_wp2_with fail
  go_quiet (fail)
  go_wp2_with fail
  obtain ⟨n9, rfl⟩ : ∃ n9, n9 = nq := ⟨_, rfl⟩
  obtain ⟨W9, hW9⟩ : ∃ W9, W9 = W8.drewN n9 := ⟨_, rfl⟩
  have R9 : Hid (TwoR w W9 bp #[.pointer none, .string ⟨(Lib.itoa v).toArray⟩] #[.pointer none, .string ⟨(105 :: Lib.itoa v').toArray⟩] 53) := by rw [hW9]; exact Lib.hid (R8.out.drewN _)
  rw [← hW9]
  clear hW9
  clear p0 p1 q0 q1
  have p0 := R9.out.cp 0
  simp only [List.getElem?_toArray, List.getElem?_cons_zero] at p0
  have p1 := R9.out.cp 1
  simp only [List.getElem?_toArray, List.getElem?_cons_zero, List.getElem?_cons_succ] at p1
  have q0 := R9.out.cq 0
  simp only [List.getElem?_toArray, List.getElem?_cons_zero] at q0
  have q1 := R9.out.cq 1
  simp only [List.getElem?_toArray, List.getElem?_cons_zero, List.getElem?_cons_succ] at q1
  obtain ⟨c, r, hcr, hc⟩ := itoa_head v
  obtain ⟨k, hk1, hk2, hk3, hmin⟩ : ∃ k : Nat, 1 ≤ k ∧ k ≤ (Lib.itoa v).length ∧ k ≤ (Lib.itoa v').length + 1 ∧ min ((Lib.itoa v).length : Int) (((Lib.itoa v').length : Int) + 1) = (k : Int) := ⟨min (Lib.itoa v).length ((Lib.itoa v').length + 1), by rw [hcr]; simp, by omega, by omega, by omega⟩
  rw [hmin]
  have hx := ext_ne (t := Lib.itoa v') hcr hk1 hc
  have hy := less_yes (t := Lib.itoa v') hcr hc
  clear hmin hcr
  have z1 : (k : Int) ≤ ((Lib.itoa v).length : Int) := by omega
  have z2 : (k : Int) ≤ ((Lib.itoa v').length : Int) + 1 := by omega
  have z3 : (0 : Int) ≤ (k : Int) := by omega
  go_quiet (fail)
  go_wp2_with fail
  go_quiet (fail)
  go_wp2_with fail
  go_ret
  exact ⟨rfl, R9.out.bel.os, R9.out.bel.tape, R9.out.bel.output, R9.out.bel.size, R9.out.bel.block⟩
set_option maxRecDepth 100000 in
set_option maxHeartbeats 16000000 in
theorem ahead_read (A O A' O' : Nat) (C C' : Array Value) (el el' : TypeId) (v v' : Int) (w : World) (hA : w.heap[A]? = some (.cells C el (0, 0))) (hA' : w.heap[A']? = some (.cells C' el' (0, 0))) (hk : C[O]? = some (.int .i64 2)) (hv : C[O + 1]? = some (.int .i64 v)) (hk' : C'[O']? = some (.int .i64 1)) (hv' : C'[O' + 1]? = some (.int .i64 v'))
    (h0 : -9223372036854775808 ≤ v) (h1 : v ≤ 9223372036854775807) (h0' : -9223372036854775808 ≤ v') (h1' : v' ≤ 9223372036854775807) (htab : Lib.TabIs Tryd.prog w "internal/strconv.uint64pow10" .u64 Lib.pow10Tab) :
    Calls Tryd.prog 15 #[.pointer (some ⟨A, O, none⟩), .pointer (some ⟨A', O', none⟩)] w fun e w' => e = .returned (.bool false) ∧ Below w.heap.size w w' := by
  have hne : (⟨A, O, none⟩ : Addr) ≠ ⟨A', O', none⟩ := fun e => by
    simp only [Addr.mk.injEq, and_true] at e
    obtain ⟨rfl, rfl⟩ := e
    rw [hA] at hA'; cases hA'
    rw [hk] at hk'; cases hk'
  have HA := Lib.hid hA
  have HA' := Lib.hid hA'
  have HT := Lib.hid htab
  have hw0 : IntKind.i64.wrap 0 = 0 := by decide
  have hltA := (Array.getElem?_eq_some_iff.1 hA).1
  have hltA' := (Array.getElem?_eq_some_iff.1 hA').1
  clear hA hA' htab
  go_enter Tryd.func15, Tryd.ntmps15
  go_wp2_with fail
  refine wp_loop_rounds 3 ?_
  rw [rounds_succ]
  go_wp2_with fail
  obtain ⟨W0, hW0⟩ : ∃ W0, W0 = ((w.alloc (.cells #[.pointer (some ⟨A, O, none⟩), .string ⟨#[]⟩] 53)).alloc (.cells #[.pointer (some ⟨A', O', none⟩), .string ⟨#[]⟩] 53)) := ⟨_, rfl⟩
  rw [← hW0]
  have R0 : Hid (TwoR w W0 w.heap.size #[.pointer (some ⟨A, O, none⟩), .string ⟨#[]⟩] #[.pointer (some ⟨A', O', none⟩), .string ⟨#[]⟩] 53) := Lib.hid ⟨(two_alloc hW0).1, (two_alloc hW0).2.1, (two_alloc hW0).2.2, rfl⟩
  clear hW0
  have hbp : Hid (w.heap.size = w.heap.size) := Lib.hid rfl
  generalize w.heap.size = bp at R0 ⊢
  have p0 := R0.out.cp 0
  simp only [List.getElem?_toArray, List.getElem?_cons_zero] at p0
  have p1 := R0.out.cp 1
  simp only [List.getElem?_toArray, List.getElem?_cons_zero, List.getElem?_cons_succ] at p1
  have q0 := R0.out.cq 0
  simp only [List.getElem?_toArray, List.getElem?_cons_zero] at q0
  have q1 := R0.out.cq 1
  simp only [List.getElem?_toArray, List.getElem?_cons_zero, List.getElem?_cons_succ] at q1
  go_quiet (fail)
  obtain ⟨n1, rfl⟩ : ∃ n1, n1 = nq := ⟨_, rfl⟩
  obtain ⟨W1, hW1⟩ : ∃ W1, W1 = W0.drewN n1 := ⟨_, rfl⟩
  have R1 : Hid (TwoR w W1 bp #[.pointer (some ⟨A, O, none⟩), .string ⟨#[]⟩] #[.pointer (some ⟨A', O', none⟩), .string ⟨#[]⟩] 53) := by rw [hW1]; exact Lib.hid (R0.out.drewN _)
  rw [← hW1]
  clear hW1
  clear p0 p1 q0 q1
  have p0 := R1.out.cp 0
  simp only [List.getElem?_toArray, List.getElem?_cons_zero] at p0
  have p1 := R1.out.cp 1
  simp only [List.getElem?_toArray, List.getElem?_cons_zero, List.getElem?_cons_succ] at p1
  have q0 := R1.out.cq 0
  simp only [List.getElem?_toArray, List.getElem?_cons_zero] at q0
  have q1 := R1.out.cq 1
  simp only [List.getElem?_toArray, List.getElem?_cons_zero, List.getElem?_cons_succ] at q1
  go_wp2_with fail
  have hqq : ∀ n, (binOp .eql 23 (.pointer (some ⟨A, O, none⟩)) (.pointer (some ⟨A', O', none⟩))).run Tryd.prog (W1.drewN n) = .ok (.bool false) (W1.drewN n) := fun n => by
    obtain ⟨j, hj, hjs⟩ := Option.map_eq_some_iff.1 ptrSize
    exact run_eql_ptr_other _ Tryd.underlying23 hj (by rw [hjs]; decide) hne (ca := C) (cb := C') (ta := el) (tb := el') ((R1.out.bel.block A hltA).trans HA.out) ((R1.out.bel.block A' hltA').trans HA'.out)
  go_quiet ((go_at_call 20; go_must (refine (alike_no _ _ _ (hqq _)).mono ?_); rintro e w2 ⟨rfl, rfl⟩; exact ⟨rfl, _, rfl⟩))
  obtain ⟨n2, rfl⟩ : ∃ n2, n2 = nq := ⟨_, rfl⟩
  obtain ⟨W2, hW2⟩ : ∃ W2, W2 = W1.drewN n2 := ⟨_, rfl⟩
  have R2 : Hid (TwoR w W2 bp #[.pointer (some ⟨A, O, none⟩), .string ⟨#[]⟩] #[.pointer (some ⟨A', O', none⟩), .string ⟨#[]⟩] 53) := by rw [hW2]; exact Lib.hid (R1.out.drewN _)
  rw [← hW2]
  clear hW2
  clear p0 p1 q0 q1
  clear hqq
  have p0 := R2.out.cp 0
  simp only [List.getElem?_toArray, List.getElem?_cons_zero] at p0
  have p1 := R2.out.cp 1
  simp only [List.getElem?_toArray, List.getElem?_cons_zero, List.getElem?_cons_succ] at p1
  have q0 := R2.out.cq 0
  simp only [List.getElem?_toArray, List.getElem?_cons_zero] at q0
  have q1 := R2.out.cq 1
  simp only [List.getElem?_toArray, List.getElem?_cons_zero, List.getElem?_cons_succ] at q1
  go_wp2_with fail
  refine wp_region_still_tail 9 (by kernel_rfl) (by kernel_rfl) ?_
  simp only [List.take_succ_cons, List.take_zero, List.drop_succ_cons, List.drop_zero]
  show wpStill _ _ W2.drew (fun a' => wpList _ _ _ _ a' W2.drew) _ _
  repeat still_step
  refine wpStill_nil ?_
  go_wp2_with (go_at_call 23; go_must (refine (open_read bp A O _ _ C 53 el (0, 0) v W2.drew R2.out.rp ((R2.out.bel.block A hltA).trans HA.out) hk hv h0 h1 (R2.out.drew.tab HT.out)).mono ?_); rintro e W3 ⟨rfl, g1, g2, g3, g4, g5, g6⟩; have R3 : Hid (TwoR w W3 bp #[.pointer none, .string ⟨(105 :: Lib.itoa v).toArray⟩] #[.pointer (some ⟨A', O', none⟩), .string ⟨#[]⟩] 53) := Lib.hid (R2.out.drew.setP g1 g2 g3 g4 g5 g6); clear g1 g2 g3 g4 g5 g6 p0 p1 q0 q1)
  rw [rounds_succ]
  have p0 := R3.out.cp 0
  simp only [List.getElem?_toArray, List.getElem?_cons_zero] at p0
  have p1 := R3.out.cp 1
  simp only [List.getElem?_toArray, List.getElem?_cons_zero, List.getElem?_cons_succ] at p1
  have q0 := R3.out.cq 0
  simp only [List.getElem?_toArray, List.getElem?_cons_zero] at q0
  have q1 := R3.out.cq 1
  simp only [List.getElem?_toArray, List.getElem?_cons_zero, List.getElem?_cons_succ] at q1
  go_wp2_with fail
  go_quiet (fail)
  obtain ⟨n4, rfl⟩ : ∃ n4, n4 = nq := ⟨_, rfl⟩
  obtain ⟨W4, hW4⟩ : ∃ W4, W4 = W3.drewN n4 := ⟨_, rfl⟩
  have R4 : Hid (TwoR w W4 bp #[.pointer none, .string ⟨(105 :: Lib.itoa v).toArray⟩] #[.pointer (some ⟨A', O', none⟩), .string ⟨#[]⟩] 53) := by rw [hW4]; exact Lib.hid (R3.out.drewN _)
  rw [← hW4]
  clear hW4
  clear p0 p1 q0 q1
  have p0 := R4.out.cp 0
  simp only [List.getElem?_toArray, List.getElem?_cons_zero] at p0
  have p1 := R4.out.cp 1
  simp only [List.getElem?_toArray, List.getElem?_cons_zero, List.getElem?_cons_succ] at p1
  have q0 := R4.out.cq 0
  simp only [List.getElem?_toArray, List.getElem?_cons_zero] at q0
  have q1 := R4.out.cq 1
  simp only [List.getElem?_toArray, List.getElem?_cons_zero, List.getElem?_cons_succ] at q1
  go_wp2_with fail
  go_quiet (fail)
  obtain ⟨n5, rfl⟩ : ∃ n5, n5 = nq := ⟨_, rfl⟩
  obtain ⟨W5, hW5⟩ : ∃ W5, W5 = W4.drewN n5 := ⟨_, rfl⟩
  have R5 : Hid (TwoR w W5 bp #[.pointer none, .string ⟨(105 :: Lib.itoa v).toArray⟩] #[.pointer (some ⟨A', O', none⟩), .string ⟨#[]⟩] 53) := by rw [hW5]; exact Lib.hid (R4.out.drewN _)
  rw [← hW5]
  clear hW5
  clear p0 p1 q0 q1
  have p0 := R5.out.cp 0
  simp only [List.getElem?_toArray, List.getElem?_cons_zero] at p0
  have p1 := R5.out.cp 1
  simp only [List.getElem?_toArray, List.getElem?_cons_zero, List.getElem?_cons_succ] at p1
  have q0 := R5.out.cq 0
  simp only [List.getElem?_toArray, List.getElem?_cons_zero] at q0
  have q1 := R5.out.cq 1
  simp only [List.getElem?_toArray, List.getElem?_cons_zero, List.getElem?_cons_succ] at q1
  go_wp2_with fail
  refine wp_region_still_tail 9 (by kernel_rfl) (by kernel_rfl) ?_
  simp only [List.take_succ_cons, List.take_zero, List.drop_succ_cons, List.drop_zero]
  show wpStill _ _ W5.drew (fun a' => wpList _ _ _ _ a' W5.drew) _ _
  repeat still_step
  refine wpStill_nil ?_
  go_wp2_with (go_at_call 23; go_must (refine (open_num (bp + 1) A' O' _ _ C' 53 el' (0, 0) v' W5.drew R5.out.rq ((R5.out.bel.block A' hltA').trans HA'.out) hk' hv' h0' h1' (R5.out.drew.tab HT.out)).mono ?_); rintro e W6 ⟨rfl, g1, g2, g3, g4, g5, g6⟩; have R6 : Hid (TwoR w W6 bp #[.pointer none, .string ⟨(105 :: Lib.itoa v).toArray⟩] #[.pointer none, .string ⟨(Lib.itoa v').toArray⟩] 53) := Lib.hid (R5.out.drew.setQ g1 g2 g3 g4 g5 g6); clear g1 g2 g3 g4 g5 g6 p0 p1 q0 q1)
  rw [rounds_succ]
  have p0 := R6.out.cp 0
  simp only [List.getElem?_toArray, List.getElem?_cons_zero] at p0
  have p1 := R6.out.cp 1
  simp only [List.getElem?_toArray, List.getElem?_cons_zero, List.getElem?_cons_succ] at p1
  have q0 := R6.out.cq 0
  simp only [List.getElem?_toArray, List.getElem?_cons_zero] at q0
  have q1 := R6.out.cq 1
  simp only [List.getElem?_toArray, List.getElem?_cons_zero, List.getElem?_cons_succ] at q1
  go_wp2_with fail
  go_quiet (fail)
  obtain ⟨n7, rfl⟩ : ∃ n7, n7 = nq := ⟨_, rfl⟩
  obtain ⟨W7, hW7⟩ : ∃ W7, W7 = W6.drewN n7 := ⟨_, rfl⟩
  have R7 : Hid (TwoR w W7 bp #[.pointer none, .string ⟨(105 :: Lib.itoa v).toArray⟩] #[.pointer none, .string ⟨(Lib.itoa v').toArray⟩] 53) := by rw [hW7]; exact Lib.hid (R6.out.drewN _)
  rw [← hW7]
  clear hW7
  clear p0 p1 q0 q1
  have p0 := R7.out.cp 0
  simp only [List.getElem?_toArray, List.getElem?_cons_zero] at p0
  have p1 := R7.out.cp 1
  simp only [List.getElem?_toArray, List.getElem?_cons_zero, List.getElem?_cons_succ] at p1
  have q0 := R7.out.cq 0
  simp only [List.getElem?_toArray, List.getElem?_cons_zero] at q0
  have q1 := R7.out.cq 1
  simp only [List.getElem?_toArray, List.getElem?_cons_zero, List.getElem?_cons_succ] at q1
  go_wp2_with fail
  go_quiet (fail)
  obtain ⟨n8, rfl⟩ : ∃ n8, n8 = nq := ⟨_, rfl⟩
  obtain ⟨W8, hW8⟩ : ∃ W8, W8 = W7.drewN n8 := ⟨_, rfl⟩
  have R8 : Hid (TwoR w W8 bp #[.pointer none, .string ⟨(105 :: Lib.itoa v).toArray⟩] #[.pointer none, .string ⟨(Lib.itoa v').toArray⟩] 53) := by rw [hW8]; exact Lib.hid (R7.out.drewN _)
  rw [← hW8]
  clear hW8
  clear p0 p1 q0 q1
  have p0 := R8.out.cp 0
  simp only [List.getElem?_toArray, List.getElem?_cons_zero] at p0
  have p1 := R8.out.cp 1
  simp only [List.getElem?_toArray, List.getElem?_cons_zero, List.getElem?_cons_succ] at p1
  have q0 := R8.out.cq 0
  simp only [List.getElem?_toArray, List.getElem?_cons_zero] at q0
  have q1 := R8.out.cq 1
  simp only [List.getElem?_toArray, List.getElem?_cons_zero, List.getElem?_cons_succ] at q1
  go_wp2_with fail
  go_quiet (fail)
  go_wp2_with fail
  obtain ⟨n9, rfl⟩ : ∃ n9, n9 = nq := ⟨_, rfl⟩
  obtain ⟨W9, hW9⟩ : ∃ W9, W9 = W8.drewN n9 := ⟨_, rfl⟩
  have R9 : Hid (TwoR w W9 bp #[.pointer none, .string ⟨(105 :: Lib.itoa v).toArray⟩] #[.pointer none, .string ⟨(Lib.itoa v').toArray⟩] 53) := by rw [hW9]; exact Lib.hid (R8.out.drewN _)
  rw [← hW9]
  clear hW9
  clear p0 p1 q0 q1
  have p0 := R9.out.cp 0
  simp only [List.getElem?_toArray, List.getElem?_cons_zero] at p0
  have p1 := R9.out.cp 1
  simp only [List.getElem?_toArray, List.getElem?_cons_zero, List.getElem?_cons_succ] at p1
  have q0 := R9.out.cq 0
  simp only [List.getElem?_toArray, List.getElem?_cons_zero] at q0
  have q1 := R9.out.cq 1
  simp only [List.getElem?_toArray, List.getElem?_cons_zero, List.getElem?_cons_succ] at q1
  obtain ⟨c, r, hcr, hc⟩ := itoa_head v'
  obtain ⟨k, hk1, hk2, hk3, hmin⟩ : ∃ k : Nat, 1 ≤ k ∧ k ≤ (Lib.itoa v).length + 1 ∧ k ≤ (Lib.itoa v').length ∧ min (((Lib.itoa v).length : Int) + 1) ((Lib.itoa v').length : Int) = (k : Int) := ⟨min ((Lib.itoa v).length + 1) (Lib.itoa v').length, by rw [hcr]; simp, by omega, by omega, by omega⟩
  rw [hmin]
  have hx := ext_ne' (t := Lib.itoa v) hcr hk1 hc
  have hy := less_no (t := Lib.itoa v) hcr hc
  clear hmin hcr
  have z1 : (k : Int) ≤ ((Lib.itoa v).length : Int) + 1 := by omega
  have z2 : (k : Int) ≤ ((Lib.itoa v').length : Int) := by omega
  have z3 : (0 : Int) ≤ (k : Int) := by omega
  go_quiet (fail)
  go_wp2_with fail
  go_quiet (fail)
  go_wp2_with fail
  go_ret
  exact ⟨rfl, R9.out.bel.os, R9.out.bel.tape, R9.out.bel.output, R9.out.bel.size, R9.out.bel.block⟩
end Go.Proofs.YtphcmjojnfpkdaaDoor.ah
